/-
  The program's order of names: cmp.isNaN[string], cmp.Compare[string], the closure of List.
-/
import Derived.Test.YtldkpahaocjdpaaGreatR25
import Derived.Shelf.SlSortCmp.NoneTotal
import Derived.Deep.DeepAppendRoom
import Derived.ArgAppend
import Derived.Deep.Upon
import Derived.Laws.BytesArg
set_option maxHeartbeats 16000000
set_option maxRecDepth 1000000
namespace Go.Proofs.YtldkpahaocjdpaaGreat
section
open Go.RowKit Go.Maps Go.Sort
theorem ltOf_cmpB (x y:B8):ltOf cmpB x y=lessB x y:=by
 unfold ltOf cmpB
 cases lessB x y <;> cases x.toList==y.toList <;> simp
theorem isNaN_any (x:B8)(w:W8):Calls Tryz.prog 207 #[.string x] w λ e w'=>e=.returned (.bool false)/\w'=w:=by
 go_enter Tryz.func207,Tryz.ntmps207;go_wp2_with fail;go_ret;exact⟨by simp,rfl⟩
theorem compare_any (x y:B8)(w:W8):Calls Tryz.prog 162 #[.string x,.string y] w λ e w'=>e=.returned (.int .i64 (cmpB x y))/\w'=w:=by
 have hn:=isNaN_any;have hc:cmpB x y=if Op.bytesLess x.toList y.toList then -1 else if x.toList==y.toList then 0 else 1:=rfl;go_enter Tryz.func162,Tryz.ntmps162;go_wp2_with (go_at_call 207;refine (hn _ _).mono ?_;rintro e w' ⟨rfl,rfl⟩)
 ·rename_i h1;go_ret;refine⟨?_,rfl⟩;rw[show cmpB x y=-1 by rw[cmpB,lessB,h1];rfl];rfl
 ·rename_i h1 _ _ h2;go_ret;refine⟨?_,rfl⟩;rw[show cmpB x y=1 by rw[cmpB,lessB,h1];simp at h2 ⊢;exact h2];rfl
 ·rename_i h1 h2;go_ret;refine⟨?_,rfl⟩;rw[show cmpB x y=0 by rw[cmpB,lessB,h1];simp at h2 ⊢;exact h2];rfl
end
section
open Go.RowKit Go.Maps
theorem stV_some (ps:P9)(S:B8->Nat)(k:B8)(u:Value)(h:stV ps S k=some u):u=.agg #[.string k,.int .i64 (S k),.int .i64 ((numOf ps k).getD 0:Nat)]:=by
 unfold stV at h
 cases hn:numOf ps k with
 | none=>rw[hn] at h;cases h
 | some m=>rw[hn] at h;injection h with h;exact h.symm
end
section
open Go.RowKit Go.Maps
variable {n:Nat} {c:Int}
theorem pick_low (hc:c<0)(hn:0<n):∃ k:Nat,k<n/\-(c+1).tmod n=(k:Int):=by
 obtain⟨d,hd⟩:∃ d:Nat,c+1=-(d:Int):=⟨(-(c+1)).toNat,by omega⟩;refine⟨d%n,Nat.mod_lt _ hn,?_⟩;rw[hd,Int.neg_tmod,Int.neg_neg,Int.tmod_eq_emod_of_nonneg (by omega)];simp
theorem pick_high (hc:0<=c)(hn:0<n):∃ k:Nat,k<n/\c%n=(k:Int):=by
 obtain⟨d,rfl⟩:∃ d:Nat,c=(d:Int):=⟨c.toNat,by omega⟩;exact⟨d%n,Nat.mod_lt _ hn,by simp⟩
end
section
open Go.RowKit
def ag (c:Int)(n:Nat):Nat:=if c<0 then (-(c+1).tmod n).toNat else (c%n).toNat
theorem pickN_is (c:Int){n:Nat}(hn:0<n):ag c n<n/\(c<0->-(c+1).tmod n=(ag c n:Int))/\(¬ c<0->c%n=(ag c n:Int)):=by
 unfold ag
 by_cases h:c<0
 ·obtain⟨k,hk,e⟩:=pick_low h hn;rw[if_pos h,e];exact⟨by simpa using hk,λ _=>by simp,λ h'=>absurd h h'⟩
 ·obtain⟨k,hk,e⟩:=pick_high (Int.not_lt.1 h) hn;rw[if_neg h,e];exact⟨by simpa using hk,λ h'=>absurd h' h,λ _=>by simp⟩
theorem kpick (w:W8)(c:Int)(n:Nat)(hn:0<n)(hl:n<=1000000000000)(h1:-9223372036854775808<=c)(h2:c<=9223372036854775807):Calls Tryz.prog 25 #[.int .i64 c,.int .i64 n] w λ e w'=>e=.returned (.int .i64 (ag c n:Nat))/\w'=w:=by
 have AA:¬ ((n:Int)=0):=by omega
 have po:(0:Int)<n:=by omega
 obtain⟨_,e1,e2⟩:=pickN_is c hn;have tn:=hide e1;have vn:=hide e2;clear e1 e2;go_enter Tryz.func25,Tryz.ntmps25
 by_cases hc:c<0
 ·go_wp2_with fail;go_ret;exact⟨by rw[<-ad tn hc];rfl,rfl⟩
 ·go_wp2_with fail;go_ret;exact⟨by rw[<-ad vn hc];rfl,rfl⟩
def nmU (k:Nat):UInt8:=[97,98,99,100].getD k 97
def vrU (k:Nat):UInt8:=[88,89,90].getD k 88
def pdU (k:Nat):UInt8:=[101,102,103,104].getD k 101
def one8 (c:UInt8):B8:=⟨#[c]⟩
def nmObj:Obj:=.cells #[.string ⟨#[97]⟩,.string ⟨#[98]⟩,.string ⟨#[99]⟩,.string ⟨#[100]⟩] 9
def bl:Obj:=.cells #[.string ⟨#[88]⟩,.string ⟨#[89]⟩,.string ⟨#[90]⟩] 9
def cD:Obj:=.cells #[.string ⟨#[101]⟩,.string ⟨#[102]⟩,.string ⟨#[103]⟩,.string ⟨#[104]⟩] 9
theorem alloc_cell (w:W8)(cs:Array Value)(t:TypeId)(k:Nat):(w.alloc (.cells cs t)).cell? ⟨w.heap.size,k,none⟩=cs[k]?:=by rw[World.cell?_alloc_at _ _ _ _ rfl]
theorem kname (w:W8)(c:Int)(h1:-9223372036854775808<=c)(h2:c<=9223372036854775807):Calls Tryz.prog 21 #[.int .i64 c] w λ e w'=>e=.returned (.string (one8 (nmU (ag c 4))))/\w'=w.alloc nmObj:=by
 have hp:=(pickN_is c (n:=4) (by decide)).1;have HC:=hide (λ w=>kpick w c 4 (by decide) (by decide) h1 h2);have hc:(w.alloc (.cells #[.string ⟨#[97]⟩,.string ⟨#[98]⟩,.string ⟨#[99]⟩,.string ⟨#[100]⟩] 9)).cell? ⟨w.heap.size,ag c 4,none⟩=some (.string (one8 (nmU (ag c 4)))):=by
  rw[alloc_cell];generalize ag c 4=k at hp
  match k,hp with
  | 0,_=>rfl
  | 1,_=>rfl
  | 2,_=>rfl
  | 3,_=>rfl
 generalize ag c 4=k at *;have qm:(k:Int)<4:=by omega
 go_enter Tryz.func21,Tryz.ntmps21;go_wp2_with (go_at_call 25;refine (ad HC _).mono ?_;rintro e wp ⟨rfl,pJ⟩;have pJ:=pJ.symm;subst pJ);go_ret;exact⟨rfl,rfl⟩
theorem kvar (w:W8)(c:Int)(h1:-9223372036854775808<=c)(h2:c<=9223372036854775807):Calls Tryz.prog 40 #[.int .i64 c] w λ e w'=>e=.returned (.string (one8 (vrU (ag c 3))))/\w'=w.alloc bl:=by
 have hp:=(pickN_is c (n:=3) (by decide)).1;have HC:=hide (λ w=>kpick w c 3 (by decide) (by decide) h1 h2);have hc:(w.alloc (.cells #[.string ⟨#[88]⟩,.string ⟨#[89]⟩,.string ⟨#[90]⟩] 9)).cell? ⟨w.heap.size,ag c 3,none⟩=some (.string (one8 (vrU (ag c 3)))):=by
  rw[alloc_cell];generalize ag c 3=k at hp
  match k,hp with
  | 0,_=>rfl
  | 1,_=>rfl
  | 2,_=>rfl
 generalize ag c 3=k at *;have qm:(k:Int)<3:=by omega
 go_enter Tryz.func40,Tryz.ntmps40;go_wp2_with (go_at_call 25;refine (ad HC _).mono ?_;rintro e wp ⟨rfl,pJ⟩;have pJ:=pJ.symm;subst pJ);go_ret;exact⟨rfl,rfl⟩
theorem kpred (w:W8)(k:Nat)(hp:k<4):Calls Tryz.prog 27 #[.int .i64 (k:Nat)] w λ e w'=>e=.returned (.string (one8 (pdU k)))/\w'=w.alloc cD:=by
 have hc:(w.alloc (.cells #[.string ⟨#[101]⟩,.string ⟨#[102]⟩,.string ⟨#[103]⟩,.string ⟨#[104]⟩] 9)).cell? ⟨w.heap.size,k,none⟩=some (.string (one8 (pdU k))):=by
  rw[alloc_cell]
  match k,hp with
  | 0,_=>rfl
  | 1,_=>rfl
  | 2,_=>rfl
  | 3,_=>rfl
 have qm:(k:Int)<4:=by omega
 go_enter Tryz.func27,Tryz.ntmps27;go_wp2_with fail;go_ret;exact⟨rfl,rfl⟩
end
section
open Go.RowKit Go.Maps
variable {ps:P9}
theorem validN_of {rs:List RRule}{f:Nat->Nat}(h:Valid ps rs f):ValidN (rs.map pruleOf) (λ k=>f (ixOf ps k)):=by
 intro R hR l hl;obtain⟨Q,hQ,rfl⟩:=List.mem_map.1 hR;obtain⟨A,hA,rfl⟩:=List.mem_map.1 hl;exact h Q hQ A hA
def Once (ps:P9):Prop:=(ps.map (·.1)).Nodup
theorem ix_out {nm:B8}:∀ {l:P9} {k:Nat},ixFrom nm l k<0->∀ p∈l,p.1≠nm
 | [],_,_,p,hp=>by cases hp
 | x::r,k,h,p,hp=>by
  rw[ixFrom] at h
  split at h
  ·omega
  ·rename_i hx;rcases List.mem_cons.1 hp with rfl | hp
   ·exact λ e=>hx (aW.2 e)
   ·exact ix_out h p hp
theorem once_meet (h:Once ps)(nm:B8)(n:Nat):Once (meetP ps nm n):=by
 unfold meetP
 split
 ·rename_i hx;unfold Once;rw[List.map_append,List.nodup_append];refine⟨h,by simp,λ a ha b hb e=>?_⟩;obtain⟨p,hp,rfl⟩:=List.mem_map.1 ha;simp at hb;exact ix_out hx p hp (e.trans hb)
 ·exact h
theorem once_meetL:∀ (l ps:P9),Once ps->Once (meetL l ps)
 | [],_,h=>h
 | x::r,_,h=>once_meetL r _ (once_meet h x.1 x.2)
end
section
open Go.RowKit Go.Maps
theorem meetAll_ok:∀ (l:List RAtom) (ps:P9),(meetAll l ps).1<0->AgreeL (l.map λ A=>(A.pred,A.aS.length)) ps/\(meetAll l ps).2=meetL (l.map λ A=>(A.pred,A.aS.length)) ps
 | [],_,_=>⟨trivial,rfl⟩
 | A::r,ps,h=>by
  rw[meetAll] at h ⊢
  split at h
  ·rename_i hb;rw[if_pos hb];obtain⟨h1,h2⟩:=meetAll_ok r _ h;exact⟨⟨hb,h1⟩,h2⟩
  ·exfalso;simp only at h;omega
theorem patoms_of (R:RRule):aZ (pruleOf R)=R.atoms.map λ A=>(A.pred,A.aS.length):=by
 simp[aZ,pruleOf,RRule.atoms,cI]
theorem patoms_all (rs:List RRule):(rs.map pruleOf).flatMap aZ=(rs.flatMap RRule.atoms).map λ A=>(A.pred,A.aS.length):=by
 induction rs with
 | nil=>rfl
 | cons R r ih=>rw[List.map_cons,List.flatMap_cons,List.flatMap_cons,List.map_append,ih,patoms_of]
theorem meetP_len (ps:P9)(nm:B8)(n:Nat):(meetP ps nm n).length<=ps.length+1:=by
 unfold meetP;split <;> simp
theorem meetL_len:∀ (l ps:P9),(meetL l ps).length<=ps.length+l.length
 | [],_=>Nat.le_refl _
 | x::r,ps=>by
  have h1:=meetL_len r (meetP ps x.1 x.2);have h2:=meetP_len ps x.1 x.2;rw[meetL,List.length_cons];omega
theorem prules_len (s:B8)(f:Nat):∀ {p:Nat} {rs:List PRule} {ms:List PMen},rs.length<=30->(prulesS s f p rs ms).2.2.1.length<=30:=by
 induction f with
 | zero=>intro p rs ms h;exact h
 | succ f ih=>
  intro p rs ms h;rw[prulesS]
  split
  ·exact h
  ·split
   ·exact h
   ·split
    ·refine ih ?_;rw[List.length_append,List.length_singleton];omega
    ·exact h
theorem flat_len {α β:Type}(f:α->List β)(c:Nat):∀ (l:List α),(∀ x∈l,(f x).length<=c)->(l.flatMap f).length<=c*l.length
 | [],_=>Nat.zero_le _
 | x::r,h=>by
  have h1:=h x List.mem_cons_self;have h2:=flat_len f c r λ y hy=>h y (List.mem_cons_of_mem _ hy)
  rw[List.flatMap_cons,List.length_append,List.length_cons,Nat.mul_add,Nat.mul_one];omega
structure Good (s:B8)(rs:List PRule)(ps:P9):Prop where
 rules:rs=(parsed s).1.map pruleOf
 GG:ps=(aj s).2
 len:rs.length<=30
 body:∀ R∈rs,R.body.length<=3
 pd:∀ R∈rs,R.pd.size<=800
 vW:∀ R∈rs,∀ l∈R.body,l.pd.size<=800
 agree:AgreeL (rs.flatMap aZ) []
 met:meetL (rs.flatMap aZ) []=ps
 ft:ps.length<=120
 all:AllIn ps ((parsed s).1.flatMap RRule.atoms)
 once:Once ps
 some_:∃ f,ValidN rs f/\∀ k,f k<=1000
variable {s:B8}
theorem good_of (h:(refLoad s).1=true):Good s (pparsed s).2.2.1 (aj s).2:=by
 unfold refLoad at h
 by_cases c0:800<s.size
 ·rw[if_pos c0] at h;cases h
 rw[if_neg c0] at h
 by_cases c1:0<=(parsed s).2.2
 ·rw[if_pos c1] at h;cases h
 rw[if_neg c1] at h
 by_cases c2:0<=(aj s).1
 ·rw[if_pos c2] at h;cases h
 rw[if_neg c2] at h
 by_cases c3:0<=unsafeI (parsed s).1
 ·rw[if_pos c3] at h;cases h
 rw[if_neg c3] at h
 by_cases c4:0<=cycleI (aj s).2 (hangsM (aj s).2 (parsed s).1) (parsed s).1
 ·rw[if_pos c4] at h;cases h
 obtain⟨e1,e2⟩:=parsed_eq s;have hp:(pparsed s).1=true:=by
  cases hq:(pparsed s).1 with
  | true=>rfl
  | false=>exfalso;have:=e2 hq;omega
 obtain⟨_,er,_⟩:=e1 hp;obtain⟨o1,_⟩:=pparsed_ok s (by omega) hp;have hlen:(pparsed s).2.2.1.length<=30:=prules_len s 31 (by simp);have bh:AllIn (aj s).2 ((parsed s).1.flatMap RRule.atoms):=allIn_of_meet _ c2;obtain⟨m1,m2⟩:=meetAll_ok ((parsed s).1.flatMap RRule.atoms) [] (by unfold aj at c2;omega);have ze:(pparsed s).2.2.1.flatMap aZ=((parsed s).1.flatMap RRule.atoms).map λ A=>(A.pred,A.aS.length):=by rw[er,patoms_all]
 have uE:meetL ((pparsed s).2.2.1.flatMap aZ) []=(aj s).2:=by rw[ze];exact m2.symm
 have lE:=flat_len aZ 4 (pparsed s).2.2.1 (λ R hR=>by have:=(o1 R hR).2.1;simp[aZ];omega);have ed:=meetL_len ((pparsed s).2.2.1.flatMap aZ) [];rw[uE] at ed;have gE:(aj s).2.length<=120:=by rw[List.length_nil] at ed;omega
 obtain⟨f,hf,jd⟩:=valid_of_cycle _ _ bh c4;exact⟨er,rfl,hlen,λ R hR=>(o1 R hR).2.1,λ R hR=>(o1 R hR).1,λ R hR=>(o1 R hR).2.2,by rw[ze];exact m1,uE,gE,bh,by rw[<-uE];exact once_meetL _ [] List.nodup_nil,⟨λ k=>f (ixOf (aj s).2 k),by rw[er];exact validN_of hf,λ k=>Nat.le_trans (jd (ixOf (aj s).2 k)) (by omega)⟩⟩
theorem Good.named {rs:List PRule}{ps:P9}(h:Good s rs ps):∀ R∈rs,(∃ n,numOf ps R.pd=some n)/\∀ l∈R.body,∃ n,numOf ps l.pd=some n:=by
 intro R hR;rw[h.rules] at hR;obtain⟨Q,hQ,rfl⟩:=List.mem_map.1 hR;refine⟨⟨_,(num_ix _ ps 0).2 (h.all _ (List.mem_flatMap.2 ⟨Q,hQ,List.mem_cons_self⟩))⟩,λ l hl=>?_⟩;obtain⟨A,hA,rfl⟩:=List.mem_map.1 hl;exact⟨_,(num_ix _ ps 0).2 (h.all _ (List.mem_flatMap.2 ⟨Q,hQ,List.mem_cons_of_mem _ hA⟩))⟩
end
section
open Go.RowKit
theorem rtermsT_len:∀ (ts:List (Bool × B8)) (i:Nat),(∀ t∈ts,t.2.size<=1000)->(termsT ts i).length<=ts.length*1001
 | [],_,_=>by simp[termsT]
 | t::r,i,h=>by
  have h1:=rtermsT_len r (i+1) (λ x hx=>h x (List.mem_cons_of_mem _ hx));have h2:=h t List.mem_cons_self;rw[termsT,List.length_cons,List.length_append,List.length_cons,Nat.succ_mul];have:t.2.data.toList.length=t.2.size:=size_list _;omega
end
section
open Go.RowKit Go.Maps
structure CntIn (w:W8)(tb n:Nat)(ps:P9)(S:B8->Nat)(Lf:B8->Prop)(m dF:Nat)(wr:W8):Prop where
 rg:fV Tryz.prog 9 wr tb w.heap.size n (stV ps S) Lf dF
 lo:∀ k,(stV ps S k).isSome=true->¬ Lf k->S k+1<=m
 hi:m=0\/∃ k,(stV ps S k).isSome=true/\m=S k+1
 k:Below w.heap.size w wr
def IsCount (ps:P9)(S:B8->Nat)(m:Nat):Prop:=(∀ k,(numOf ps k).isSome=true->S k+1<=m)/\(m=0\/∃ k,(numOf ps k).isSome=true/\m=S k+1)
theorem iO (ps:P9)(S:B8->Nat)(k:B8):(stV ps S k).isSome=(numOf ps k).isSome:=by unfold stV;cases numOf ps k <;> rfl
theorem count_any (w:W8)(tb n:Nat)(ps:P9)(S:B8->Nat)(h:SMap Tryz.prog 9 w tb n (stV ps S))(hS:∀ k,(numOf ps k).isSome=true->S k<=1000000):
  Calls Tryz.prog 59 #[.map (some tb)] w λ en w'=>∃ m:Nat,en=.returned (.int .i64 (m:Nat))/\IsCount ps S m/\Below w.heap.size w w':=by
 have HS:=hide hS;have fZ:=h.lt;clear hS;go_enter Tryz.func59,Tryz.ntmps59;go_wp2_with (first | (at_range;refine wp_range _ rfl _ 73 rfl 9 185 Tryz.underlying9 Tryz.underlying73 tb n (stV ps S) rfl h ?_;intro w0 cnt0 hrg0 Av nB nI) | go_in)
 try go_frame
 have h0:CntIn w tb n ps S (λ k=>(stV ps S k).isSome=true) 0 cnt0 w0:=⟨hrg0,λ k h1 h2=>absurd h1 h2,.inl rfl,⟨nB.os,nB.tape,nB.output,by omega,λ j hj=>nB.block j hj (by simp)⟩⟩;have H0:=hide h0;clear hrg0 Av nB nI h h0
 go_loopg [3] cnt0 (λ gg c wr=>∃ (m:Nat) (Lf:B8->Prop),c=.int .i64 (m:Nat)/\CntIn w tb n ps S Lf m gg wr)
 exact⟨0,_,rfl,ad H0⟩
 case round=>
  clear H0;obtain⟨m,Lf,rfl,ak⟩:=hrel;have jf:=ak.rg;have bt:=hide ak;clear ak;go_wp2_with (first | (at_next;refine wp_next _ rfl _ rfl 9 Tryz.underlying9 tb w.heap.size n (stV ps S) _ gk (λ k=>.agg #[.string k,.int .i64 (S k),.int .i64 ((numOf ps k).getD 0:Nat)]) (stV_some ps S) rfl jf ?_ ?_) | go_in)
  ·intro cF;have HD:=hide cF;clear cF jf;go_wp2_with fail;go_ret;have ak:=ad bt;exact⟨m,rfl,⟨λ k hk=>ak.lo k (by rw[iO];exact hk) (ad HD k),ak.hi.imp id λ ⟨k,h1,h2⟩=>⟨k,by rw[<-iO ps S];exact h1,h2⟩⟩,ak.k⟩
  ·intro k w1 cnt1 uW hVk hrg1 bP eP js oj;have nJ:(stV ps S k).isSome=true:=(by rw[hVk];rfl);have qX:=ad HS k (by rw[<-iO ps S];exact nJ);have Ia:=hide hrg1;have Hb:=hide eP;have Ih:=hide nJ;have HV1:=hide uW;have ak:=ad bt;have bq:=ak.k.size;clear js jf hrg1 eP hVk nJ ak uW;have mG:m<=1000001:=by
    rcases (ad bt).hi with h | ⟨j,hj,h⟩
    ·omega
    ·have:=ad HS j (by rw[<-iO ps S];exact hj);omega
   go_wp2_with fail;go_roundg cnt1
   case measure=>omega
   case rel=>
    have ak:=ad bt;have g1:=ad Hb;have b1:Below w.heap.size w w1:=⟨g1.os.trans ak.k.os,g1.tape.trans ak.k.tape,g1.output.trans ak.k.output,Nat.le_trans ak.k.size g1.size,λ i hi=>(g1.block i (by omega) (by simp;omega)).trans (ak.k.block i hi)⟩;refine⟨max m (S k+1),_,by congr 1;omega,(ad Ia).alloc _,λ x hx hn=>?_,?_,b1.alloc b1.size _⟩
    ·by_cases e:x=k
     ·subst e;omega
     ·have:=ak.lo x hx (λ h=>hn ⟨h,e⟩);omega
    ·rcases Nat.le_total m (S k+1) with h | h
     ·right;exact⟨k,ad Ih,by omega⟩
     ·rw[Nat.max_eq_left h];exact ak.hi
end
section
open Go.RowKit Go.Maps
theorem plist_any (w:W8)(b:Nat)(v:Value)(a:O8)(n c:Nat)(hv:v=.slice a n c)(hb:w.cell? ⟨b,0,none⟩=some v):
  Calls Tryz.prog 36 #[.pointer (some ⟨b,0,none⟩)] w λ e w'=>e=.returned (.slice a n c)/\w'=w:=by
 subst hv;go_enter Tryz.func36,Tryz.ntmps36;go_wp2_with fail;go_ret;exact⟨rfl,rfl⟩
theorem pprint_any (w:W8)(base b:Nat)(rs:List PR)(h:ProgIn w base b rs)(hlen:(printT (rs.map (·.R))).length<=1000000000):
  Calls Tryz.prog 28 #[.pointer (some ⟨b,0,none⟩)] w λ e w'=>e=.returned (.string ⟨(printT (rs.map (·.R))).toArray⟩)/\Below w.heap.size w w':=by
 obtain⟨a,c,hb,_,hr⟩:=h;obtain⟨x0,_⟩:=block_cells hb 0;go_enter Tryz.func28,Tryz.ntmps28;go_wp2_with fail;refine (plist_any w b _ a rs.length c rfl x0).mono ?_;rintro e w1 ⟨rfl,rfl⟩;go_wp2_with fail;refine (write_any _ base a c rs hr hlen).mono ?_;rintro e w1 ⟨rfl,aT⟩;go_wp2_with fail;go_ret;exact⟨rfl,aT⟩
end
section
open Go.RowKit
def groundB (A:RAtom):Bool:=A.aS.all λ t=>!t.isVar
end
section
open Go.RowKit
def u8c (x:Nat):Value:=.int .u8 ((x:Int)%256)
end
section
open Go.RowKit
def setB (B:Nat->Bool)(i:Nat)(v:Bool):Nat->Bool:=λ j=>if j=i then v else B j
def markFrom (B:Nat->Bool)(fr:List Nat):Nat->Bool:=fr.foldl (λ B x=>setB B x true) B
theorem markFrom_take {B:Nat->Bool}{fr:List Nat}{j:Nat}(h:j<fr.length):markFrom B (fr.take (j+1))=setB (markFrom B (fr.take j)) fr[j] true:=by
 unfold markFrom;rw[List.take_succ_eq_append_getElem h,List.foldl_append];rfl
end
section
open Go.RowKit
def OkT (s:B8)(ts:List (Bool × B8)):Prop:=ts.length<=4/\∀ t∈ts,t.2.size<=s.size
theorem pterms_small (s:B8)(f:Nat):∀ {p:Nat} {l:List (Bool × B8)} {pl:Nat->Nat},(∀ t∈l,t.2.size<=s.size)->∀ t∈(ptermsS s f p l pl).2.2.1,t.2.size<=s.size:=by
 induction f with
 | zero=>intro p l pl h;simpa[ptermsS] using h
 | succ f ih=>
  intro p l pl h;have h':∀ t∈l++[(decide ((ae s p).1=3),rword s p)],t.2.size<=s.size:=λ t ht=>by
   rcases List.mem_append.1 ht with ht | ht
   ·exact h t ht
   ·rw[List.mem_singleton.1 ht];exact ga s p
  rw[ptermsS]
  split
  ·split
   ·exact ih h'
   ·exact h'
  ·exact h
variable {ts:List (Bool × B8)} {pd s:B8}
theorem patom_small {p q:Nat}{pl:Nat->Nat}(h:patomS s p=.yes q pd ts pl):OkT s ts:=by
 refine⟨(patom_ok h).2,?_⟩;unfold patomS at h
 by_cases c1:(ae s p).1=2
 ·rw[if_pos c1] at h
  by_cases c2:(ae s (ae s p).2.2).1=5
  ·rw[if_pos c2] at h
   by_cases c3:(ptermsS s 4 (ae s (ae s p).2.2).2.2 [] (λ _=>0)).1=true
   ·rw[if_pos c3] at h;injection h with h1 h2 h3 h4
    subst h3;exact pterms_small s 4 (by simp)
   ·rw[if_neg c3] at h;cases h
  ·rw[if_neg c2] at h;injection h with h1 h2 h3 h4
   subst h3;simp
 ·rw[if_neg c1] at h;cases h
theorem pbody_small (s:B8)(num f:Nat):∀ {p:Nat} {l:List PLit} {ms:List PMen},(∀ x∈l,OkT s x.ts)->∀ x∈(pbodyS s num f p l ms).2.2.1,OkT s x.ts:=by
 induction f with
 | zero=>intro p l ms hl;exact hl
 | succ f ih=>
  intro p l ms hl;rw[pbodyS]
  cases hr:patomS s (rtake s p 4) with
  | no q=>exact hl
  | yes q pd ts pl=>
   have o1:=patom_small hr;have mE:∀ x∈l++[cJ s p pd ts],OkT s x.ts:=λ x hx=>by
    rcases List.mem_append.1 hx with hx | hx
    ·exact hl x hx
    ·simp at hx;subst hx;exact o1
   simp only
   split
   ·exact ih mE
   ·exact mE
theorem prule_small (s:B8)(num p:Nat){ms:List PMen}:OkT s (pruleS s num p ms).2.2.1.ts/\∀ x∈(pruleS s num p ms).2.2.1.body,OkT s x.ts:=by
 unfold pruleS
 cases hr:patomS s p with
 | no q=>exact⟨⟨by simp,by simp⟩,by simp⟩
 | yes q pd ts pl=>
  have o1:=patom_small hr;simp only
  split
  ·exact⟨o1,by simp⟩
  ·split
   ·exact⟨o1,pbody_small s num 3 (by simp)⟩
   ·exact⟨o1,by simp⟩
theorem prules_small (s:B8)(f:Nat):∀ {p:Nat} {rs:List PRule} {ms:List PMen},(∀ R∈rs,OkT s R.ts/\∀ x∈R.body,OkT s x.ts)->∀ R∈(prulesS s f p rs ms).2.2.1,OkT s R.ts/\∀ x∈R.body,OkT s x.ts:=by
 induction f with
 | zero=>intro p rs ms hr;exact hr
 | succ f ih=>
  intro p rs ms hr;rw[prulesS]
  split
  ·exact hr
  ·split
   ·exact hr
   ·split
    ·refine ih (λ R hR=>?_);rcases List.mem_append.1 hR with hR | hR
     ·exact hr R hR
     ·simp at hR;subst hR;exact prule_small s _ _
    ·exact hr
theorem small_all (s:B8):∀ R∈(pparsed s).2.2.1,OkT s R.ts/\∀ x∈R.body,OkT s x.ts:=prules_small s 31 (by simp)
theorem termsT_len {c:Nat}:∀ (ts:List (Bool × B8)) (i:Nat),(∀ t∈ts,t.2.size<=c)->(termsT ts i).length<=(c+1)*ts.length
 | [],_,_=>Nat.zero_le _
 | t::r,i,h=>by
  have h1:=termsT_len r (i+1) λ y hy=>h y (List.mem_cons_of_mem _ hy)
  have h2:t.2.data.toList.length<=c:=by have:=h t List.mem_cons_self;simpa using this
  rw[termsT,List.length_cons,List.length_append,List.length_cons,Nat.mul_add,Nat.mul_one];omega
theorem atomT_len (h1:pd.size<=800)(h2:ts.length<=4)(h3:∀ t∈ts,t.2.size<=800):(atomT pd ts).length<=4005:=by
 have:=termsT_len ts 0 h3;have hp:pd.data.toList.length<=800:=by simpa using h1
 rw[atomT,List.length_append,List.length_append];have h4:(801:Nat)*ts.length<=3204:=by omega
 split <;> simp_all <;> omega
theorem litsT_len:∀ (ls:List PLit) (i:Nat),(∀ l∈ls,l.pd.size<=800/\l.ts.length<=4/\∀ t∈l.ts,t.2.size<=800)->(litsT ls i).length<=4013*ls.length
 | [],_,_=>Nat.zero_le _
 | L::r,i,h=>by
  have h1:=litsT_len r (i+1) λ y hy=>h y (List.mem_cons_of_mem _ hy)
  obtain⟨a,b,c⟩:=h L List.mem_cons_self;have h2:=atomT_len a b c;have h3:(litT L).length<=4009:=by rw[litT,List.length_append];split <;> simp <;> omega
  have h4:(if i=0 then [32,58,45,32] else [44,32]:List UInt8).length<=4:=by split <;> simp
  rw[litsT,List.length_append,List.length_append,List.length_cons];omega
theorem print_len (h:(refLoad s).1=true):(printT (pparsed s).2.2.1).length<=1000000000:=by
 have hg:=good_of h;have hs:s.size<=800:=by
  unfold refLoad at h
  by_cases c0:800<s.size
  ·rw[if_pos c0] at h;cases h
  ·omega
 have dQ:=small_all s
 have:=flat_len ruleT 20000 (pparsed s).2.2.1 (λ R hR=>by
  obtain⟨⟨a,b⟩,c⟩:=dQ R hR;have h1:=atomT_len (hg.pd R hR) a (λ t ht=>Nat.le_trans (b t ht) hs);have h2:=litsT_len R.body 0 (λ l hl=>⟨hg.vW R hR l hl,(c l hl).1,λ t ht=>Nat.le_trans ((c l hl).2 t ht) hs⟩);have h3:=hg.body R hR;have h4:4013*R.body.length<=12039:=by omega
  rw[ruleT,List.length_append,List.length_append]
  simp;omega)
 have h5:=hg.len;unfold printT;omega
end
section
open Go.RowKit Go.Maps
theorem conv_row {w:W8}{base:Nat}{a:O8}{m c:Nat}{bs:List Nat}(h:w.ownsRow base 5 1 (.slice a m c) m (bs.map u8c))(hm:m=bs.length):(convert 47 9 (.slice a m c)).run Tryz.prog w=.ok (.string (strOfNums (bs.map λ (x:Nat)=>(x:Int)%256))) w:=by
 cases bs with
 | nil=>
  subst hm
  cases a with
  | none=>exact run_convert_bytes_nil _ 47 5 Tryz.underlying47 Tryz.underlying5 _ _ _ Tryz.underlying9
  | some p=>
   obtain⟨g,o,t⟩:=p;rcases h.2 with⟨h0,_⟩ | ⟨g',cap,cur,h0,_⟩
   ·cases h0
   ·injection h0 with e1 e2 e3
    injection e1 with e1
    injection e1 with e1 e4 e5
    subst e1 e4 e5;exact run_convert_bytes_arg _ 47 5 Tryz.underlying47 Tryz.underlying5 _ 0 _ _ [] rfl (λ i hi=>by simp at hi) _ Tryz.underlying9
 | cons x r=>
  obtain⟨g,cap,hv,_,_⟩:=h.form (by rw[hm];simp);injection hv with e1 e2 e3
  subst e1 e3;refine run_convert_bytes_arg _ 47 5 Tryz.underlying47 Tryz.underlying5 _ 0 _ _ _ (by rw[List.length_map];exact hm.symm) (λ i hi=>?_) _ Tryz.underlying9;have Jr:i<(x::r).length:=by omega
  have:=World.ownsRow.cellAt h i (by omega);rw[Nat.zero_add,this,List.getD_eq_getElem?_getD,List.getElem?_map,List.getElem?_map,List.getElem?_eq_getElem Jr];rfl
end
end Go.Proofs.YtldkpahaocjdpaaGreat
