/-
  The program's order of names: cmp.isNaN[string], cmp.Compare[string], the closure of List.
-/
import Derived.Test.YtldkpahaocjdpaaGreatR22
import Derived.Shelf.SlSortCmp.NoneTotal
import Derived.Deep.DeepAppendRoom
import Derived.ArgAppend
import Derived.Test.YtldkpahaocjdpaaGreatR17
import Derived.Test.YtldkpahaocjdpaaGreatR24
set_option maxHeartbeats 16000000
set_option maxRecDepth 1000000
namespace Go.Proofs.YtldkpahaocjdpaaGreat
section
open Go.RowKit Go.Maps Go.Sort
theorem z3o (x y:B8):ltOf zw7 x y=ze8 x y:=by
 unfold ltOf zw7
 cases ze8 x y <;> cases x.toList==y.toList <;> simp
theorem z21 (x:B8)(w:W8):Calls Tryz.prog 207 #[.string x] w λ e w'=>e=.returned (.bool false)/\w'=w:=by
 go_enter Tryz.func207,Tryz.ntmps207;go_wp2_with fail;go_ret;exact⟨by simp,rfl⟩
theorem zu3 (x y:B8)(w:W8):Calls Tryz.prog 162 #[.string x,.string y] w λ e w'=>e=.returned (.int .i64 (zw7 x y))/\w'=w:=by
 have hn:=z21;have hc:zw7 x y=if Op.bytesLess x.toList y.toList then -1 else if x.toList==y.toList then 0 else 1:=rfl;go_enter Tryz.func162,Tryz.ntmps162;go_wp2_with (go_at_call 207;refine (hn _ _).mono ?_;rintro e w' ⟨rfl,rfl⟩)
 ·rename_i h1;go_ret;refine⟨?_,rfl⟩;rw[show zw7 x y=-1 by rw[zw7,ze8,h1];rfl];rfl
 ·rename_i h1 _ _ h2;go_ret;refine⟨?_,rfl⟩;rw[show zw7 x y=1 by rw[zw7,ze8,h1];simp at h2 ⊢;exact h2];rfl
 ·rename_i h1 h2;go_ret;refine⟨?_,rfl⟩;rw[show zw7 x y=0 by rw[zw7,ze8,h1];simp at h2 ⊢;exact h2];rfl
end
section
open Go.RowKit Go.Maps
theorem z86 (ps:P9)(S:B8->Nat)(k:B8)(u:Value)(h:stV ps S k=some u):u=.agg #[.string k,.int .i64 (S k),.int .i64 ((zV ps k).getD 0:Nat)]:=by
 unfold stV at h
 cases hn:zV ps k with
 | none=>rw[hn] at h;cases h
 | some m=>rw[hn] at h;injection h with h;exact h.symm
end
section
open Go.RowKit Go.Maps
variable {n:Nat} {c:Int}
theorem z8l (hc:c<0)(hn:0<n):∃ k:Nat,k<n/\-(c+1).tmod n=(k:Int):=by
 obtain⟨d,hd⟩:∃ d:Nat,c+1=-(d:Int):=⟨(-(c+1)).toNat,by omega⟩;refine⟨d%n,Nat.mod_lt _ hn,?_⟩;rw[hd,Int.neg_tmod,Int.neg_neg,Int.tmod_eq_emod_of_nonneg (by omega)];simp
theorem z4i (hc:0<=c)(hn:0<n):∃ k:Nat,k<n/\c%n=(k:Int):=by
 obtain⟨d,rfl⟩:∃ d:Nat,c=(d:Int):=⟨c.toNat,by omega⟩;exact⟨d%n,Nat.mod_lt _ hn,by simp⟩
end
section
open Go.RowKit
def zH (c:Int)(n:Nat):Nat:=if c<0 then (-(c+1).tmod n).toNat else (c%n).toNat
theorem yI (c:Int){n:Nat}(hn:0<n):zH c n<n/\(c<0->-(c+1).tmod n=(zH c n:Int))/\(¬ c<0->c%n=(zH c n:Int)):=by
 unfold zH
 by_cases h:c<0
 ·obtain⟨k,hk,e⟩:=z8l h hn;rw[if_pos h,e];exact⟨by simpa using hk,λ _=>by simp,λ h'=>absurd h h'⟩
 ·obtain⟨k,hk,e⟩:=z4i (Int.not_lt.1 h) hn;rw[if_neg h,e];exact⟨by simpa using hk,λ h'=>absurd h' h,λ _=>by simp⟩
theorem zc9 (w:W8)(c:Int)(n:Nat)(hn:0<n)(hl:n<=1000000000000)(h1:-9223372036854775808<=c)(h2:c<=9223372036854775807):Calls Tryz.prog 25 #[.int .i64 c,.int .i64 n] w λ e w'=>e=.returned (.int .i64 (zH c n:Nat))/\w'=w:=by
 have AA:¬ ((n:Int)=0):=by omega
 have po:(0:Int)<n:=by omega
 obtain⟨_,e1,e2⟩:=yI c hn;have tn:=zC e1;have vn:=zC e2;clear e1 e2;go_enter Tryz.func25,Tryz.ntmps25
 by_cases hc:c<0
 ·go_wp2_with fail;go_ret;exact⟨by rw[<-zA tn hc];rfl,rfl⟩
 ·go_wp2_with fail;go_ret;exact⟨by rw[<-zA vn hc];rfl,rfl⟩
def nmU (k:Nat):UInt8:=[97,98,99,100].getD k 97
def vrU (k:Nat):UInt8:=[88,89,90].getD k 88
def pdU (k:Nat):UInt8:=[101,102,103,104].getD k 101
def yJ (c:UInt8):B8:=⟨#[c]⟩
def dc:Obj:=.cells #[.string ⟨#[97]⟩,.string ⟨#[98]⟩,.string ⟨#[99]⟩,.string ⟨#[100]⟩] 9
def jP:Obj:=.cells #[.string ⟨#[88]⟩,.string ⟨#[89]⟩,.string ⟨#[90]⟩] 9
def aP:Obj:=.cells #[.string ⟨#[101]⟩,.string ⟨#[102]⟩,.string ⟨#[103]⟩,.string ⟨#[104]⟩] 9
theorem zbq (w:W8)(cs:Array Value)(t:TypeId)(k:Nat):(w.alloc (.cells cs t)).cell? ⟨w.heap.size,k,none⟩=cs[k]?:=by rw[World.cell?_alloc_at _ _ _ _ rfl]
theorem zso (w:W8)(c:Int)(h1:-9223372036854775808<=c)(h2:c<=9223372036854775807):Calls Tryz.prog 21 #[.int .i64 c] w λ e w'=>e=.returned (.string (yJ (nmU (zH c 4))))/\w'=w.alloc dc:=by
 have hp:=(yI c (n:=4) (by decide)).1;have HC:=zC (λ w=>zc9 w c 4 (by decide) (by decide) h1 h2);have hc:(w.alloc (.cells #[.string ⟨#[97]⟩,.string ⟨#[98]⟩,.string ⟨#[99]⟩,.string ⟨#[100]⟩] 9)).cell? ⟨w.heap.size,zH c 4,none⟩=some (.string (yJ (nmU (zH c 4)))):=by
  rw[zbq];generalize zH c 4=k at hp
  match k,hp with
  | 0,_=>rfl
  | 1,_=>rfl
  | 2,_=>rfl
  | 3,_=>rfl
 generalize zH c 4=k at *;have qm:(k:Int)<4:=by omega
 go_enter Tryz.func21,Tryz.ntmps21;go_wp2_with (go_at_call 25;refine (zA HC _).mono ?_;rintro e wp ⟨rfl,pJ⟩;have pJ:=pJ.symm;subst pJ);go_ret;exact⟨rfl,rfl⟩
theorem z7t (w:W8)(c:Int)(h1:-9223372036854775808<=c)(h2:c<=9223372036854775807):Calls Tryz.prog 40 #[.int .i64 c] w λ e w'=>e=.returned (.string (yJ (vrU (zH c 3))))/\w'=w.alloc jP:=by
 have hp:=(yI c (n:=3) (by decide)).1;have HC:=zC (λ w=>zc9 w c 3 (by decide) (by decide) h1 h2);have hc:(w.alloc (.cells #[.string ⟨#[88]⟩,.string ⟨#[89]⟩,.string ⟨#[90]⟩] 9)).cell? ⟨w.heap.size,zH c 3,none⟩=some (.string (yJ (vrU (zH c 3)))):=by
  rw[zbq];generalize zH c 3=k at hp
  match k,hp with
  | 0,_=>rfl
  | 1,_=>rfl
  | 2,_=>rfl
 generalize zH c 3=k at *;have qm:(k:Int)<3:=by omega
 go_enter Tryz.func40,Tryz.ntmps40;go_wp2_with (go_at_call 25;refine (zA HC _).mono ?_;rintro e wp ⟨rfl,pJ⟩;have pJ:=pJ.symm;subst pJ);go_ret;exact⟨rfl,rfl⟩
theorem zg6 (w:W8)(k:Nat)(hp:k<4):Calls Tryz.prog 27 #[.int .i64 (k:Nat)] w λ e w'=>e=.returned (.string (yJ (pdU k)))/\w'=w.alloc aP:=by
 have hc:(w.alloc (.cells #[.string ⟨#[101]⟩,.string ⟨#[102]⟩,.string ⟨#[103]⟩,.string ⟨#[104]⟩] 9)).cell? ⟨w.heap.size,k,none⟩=some (.string (yJ (pdU k))):=by
  rw[zbq]
  match k,hp with
  | 0,_=>rfl
  | 1,_=>rfl
  | 2,_=>rfl
  | 3,_=>rfl
 have qm:(k:Int)<4:=by omega
 go_enter Tryz.func27,Tryz.ntmps27;go_wp2_with fail;go_ret;exact⟨rfl,rfl⟩
end
section
open Go.RowKit Go.Maps
variable {ps:P9}
theorem z6a {rs:List yT}{f:Nat->Nat}(h:ydx ps rs f):qH (rs.map yU) (λ k=>f (zcw ps k)):=by
 intro R hR l hl;obtain⟨Q,hQ,rfl⟩:=List.mem_map.1 hR;obtain⟨A,hA,rfl⟩:=List.mem_map.1 hl;exact h Q hQ A hA
def ydh (ps:P9):Prop:=(ps.map (·.1)).Nodup
theorem yag {nm:B8}:∀ {l:P9} {k:Nat},xW nm l k<0->∀ p∈l,p.1≠nm
 | [],_,_,p,hp=>by cases hp
 | x::r,k,h,p,hp=>by
  rw[xW] at h
  split at h
  ·omega
  ·rename_i hx;rcases List.mem_cons.1 hp with rfl | hp
   ·exact λ e=>hx (yB.2 e)
   ·exact yag h p hp
theorem z32 (h:ydh ps)(nm:B8)(n:Nat):ydh (zan ps nm n):=by
 unfold zan
 split
 ·rename_i hx;unfold ydh;rw[List.map_append,List.nodup_append];refine⟨h,by simp,λ a ha b hb e=>?_⟩;obtain⟨p,hp,rfl⟩:=List.mem_map.1 ha;simp at hb;exact yag hx p hp (e.trans hb)
 ·exact h
theorem zo5:∀ (l ps:P9),ydh ps->ydh (j7 l ps)
 | [],_,h=>h
 | x::r,_,h=>zo5 r _ (z32 h x.1 x.2)
end
section
open Go.RowKit Go.Maps
theorem zo2:∀ (l:List yX) (ps:P9),(zaw l ps).1<0->qS (l.map λ A=>(A.pred,A.aS.length)) ps/\(zaw l ps).2=j7 (l.map λ A=>(A.pred,A.aS.length)) ps
 | [],_,_=>⟨trivial,rfl⟩
 | A::r,ps,h=>by
  rw[zaw] at h ⊢
  split at h
  ·rename_i hb;rw[if_pos hb];obtain⟨h1,h2⟩:=zo2 r _ h;exact⟨⟨hb,h1⟩,h2⟩
  ·exfalso;simp only at h;omega
theorem z4d (R:yT):xS (yU R)=R.atoms.map λ A=>(A.pred,A.aS.length):=by
 simp[xS,yU,yT.atoms,bl]
theorem zz5 (rs:List yT):(rs.map yU).flatMap xS=(rs.flatMap yT.atoms).map λ A=>(A.pred,A.aS.length):=by
 induction rs with
 | nil=>rfl
 | cons R r ih=>rw[List.map_cons,List.flatMap_cons,List.flatMap_cons,List.map_append,ih,z4d]
theorem z3r (ps:P9)(nm:B8)(n:Nat):(zan ps nm n).length<=ps.length+1:=by
 unfold zan;split <;> simp
theorem zs0:∀ (l ps:P9),(j7 l ps).length<=ps.length+l.length
 | [],_=>Nat.le_refl _
 | x::r,ps=>by
  have h1:=zs0 r (zan ps x.1 x.2);have h2:=z3r ps x.1 x.2;rw[j7,List.length_cons];omega
theorem z0h (s:B8)(f:Nat):∀ {p:Nat} {rs:List yH} {ms:List yS},rs.length<=30->(xJ s f p rs ms).2.2.1.length<=30:=by
 induction f with
 | zero=>intro p rs ms h;exact h
 | succ f ih=>
  intro p rs ms h;rw[xJ]
  split
  ·exact h
  ·split
   ·exact h
   ·split
    ·refine ih ?_;rw[List.length_append,List.length_singleton];omega
    ·exact h
theorem zqd {α β:Type}(f:α->List β)(c:Nat):∀ (l:List α),(∀ x∈l,(f x).length<=c)->(l.flatMap f).length<=c*l.length
 | [],_=>Nat.zero_le _
 | x::r,h=>by
  have h1:=h x List.mem_cons_self;have h2:=zqd f c r λ y hy=>h y (List.mem_cons_of_mem _ hy)
  rw[List.flatMap_cons,List.length_append,List.length_cons,Nat.mul_add,Nat.mul_one];omega
structure NC (s:B8)(rs:List yH)(ps:P9):Prop where
 rules:rs=(vD s).1.map yU
 GG:ps=(zF s).2
 len:rs.length<=30
 body:∀ R∈rs,R.body.length<=3
 pd:∀ R∈rs,R.pd.size<=800
 C9:∀ R∈rs,∀ l∈R.body,l.pd.size<=800
 agree:qS (rs.flatMap xS) []
 met:j7 (rs.flatMap xS) []=ps
 ft:ps.length<=120
 all:zus ps ((vD s).1.flatMap yT.atoms)
 once:ydh ps
 some_:∃ f,qH rs f/\∀ k,f k<=1000
variable {s:B8}
theorem qR (h:(z7 s).1=true):NC s (zJ s).2.2.1 (zF s).2:=by
 unfold z7 at h
 by_cases c0:800<s.size
 ·rw[if_pos c0] at h;cases h
 rw[if_neg c0] at h
 by_cases c1:0<=(vD s).2.2
 ·rw[if_pos c1] at h;cases h
 rw[if_neg c1] at h
 by_cases c2:0<=(zF s).1
 ·rw[if_pos c2] at h;cases h
 rw[if_neg c2] at h
 by_cases c3:0<=zbh (vD s).1
 ·rw[if_pos c3] at h;cases h
 rw[if_neg c3] at h
 by_cases c4:0<=zek (zF s).2 (qX (zF s).2 (vD s).1) (vD s).1
 ·rw[if_pos c4] at h;cases h
 obtain⟨e1,e2⟩:=zh6 s;have hp:(zJ s).1=true:=by
  cases hq:(zJ s).1 with
  | true=>rfl
  | false=>exfalso;have:=e2 hq;omega
 obtain⟨_,er,_⟩:=e1 hp;obtain⟨o1,_⟩:=zpa s (by omega) hp;have hlen:(zJ s).2.2.1.length<=30:=z0h s 31 (by simp);have bh:zus (zF s).2 ((vD s).1.flatMap yT.atoms):=zhj _ c2;obtain⟨m1,m2⟩:=zo2 ((vD s).1.flatMap yT.atoms) [] (by unfold zF at c2;omega);have ze:(zJ s).2.2.1.flatMap xS=((vD s).1.flatMap yT.atoms).map λ A=>(A.pred,A.aS.length):=by rw[er,zz5]
 have uE:j7 ((zJ s).2.2.1.flatMap xS) []=(zF s).2:=by rw[ze];exact m2.symm
 have lE:=zqd xS 4 (zJ s).2.2.1 (λ R hR=>by have:=(o1 R hR).2.1;simp[xS];omega);have ed:=zs0 ((zJ s).2.2.1.flatMap xS) [];rw[uE] at ed;have gE:(zF s).2.length<=120:=by rw[List.length_nil] at ed;omega
 obtain⟨f,hf,jd⟩:=zog _ _ bh c4;exact⟨er,rfl,hlen,λ R hR=>(o1 R hR).2.1,λ R hR=>(o1 R hR).1,λ R hR=>(o1 R hR).2.2,by rw[ze];exact m1,uE,gE,bh,by rw[<-uE];exact zo5 _ [] List.nodup_nil,⟨λ k=>f (zcw (zF s).2 k),by rw[er];exact z6a hf,λ k=>Nat.le_trans (jd (zcw (zF s).2 k)) (by omega)⟩⟩
theorem NC.named {rs:List yH}{ps:P9}(h:NC s rs ps):∀ R∈rs,(∃ n,zV ps R.pd=some n)/\∀ l∈R.body,∃ n,zV ps l.pd=some n:=by
 intro R hR;rw[h.rules] at hR;obtain⟨Q,hQ,rfl⟩:=List.mem_map.1 hR;refine⟨⟨_,(zs7 _ ps 0).2 (h.all _ (List.mem_flatMap.2 ⟨Q,hQ,List.mem_cons_self⟩))⟩,λ l hl=>?_⟩;obtain⟨A,hA,rfl⟩:=List.mem_map.1 hl;exact⟨_,(zs7 _ ps 0).2 (h.all _ (List.mem_flatMap.2 ⟨Q,hQ,List.mem_cons_of_mem _ hA⟩))⟩
end
section
open Go.RowKit
theorem zmk:∀ (ts:List (Bool × B8)) (i:Nat),(∀ t∈ts,t.2.size<=1000)->(xP ts i).length<=ts.length*1001
 | [],_,_=>by simp[xP]
 | t::r,i,h=>by
  have h1:=zmk r (i+1) (λ x hx=>h x (List.mem_cons_of_mem _ hx));have h2:=h t List.mem_cons_self;rw[xP,List.length_cons,List.length_append,List.length_cons,Nat.succ_mul];have:t.2.data.toList.length=t.2.size:=zfn _;omega
end
section
open Go.RowKit Go.Maps
structure ydo (w:W8)(tb n:Nat)(ps:P9)(S:B8->Nat)(Lf:B8->Prop)(m dF:Nat)(wr:W8):Prop where
 rg:Fh Tryz.prog 9 wr tb w.heap.size n (stV ps S) Lf dF
 lo:∀ k,(stV ps S k).isSome=true->¬ Lf k->S k+1<=m
 hi:m=0\/∃ k,(stV ps S k).isSome=true/\m=S k+1
 k:Below w.heap.size w wr
def vY (ps:P9)(S:B8->Nat)(m:Nat):Prop:=(∀ k,(zV ps k).isSome=true->S k+1<=m)/\(m=0\/∃ k,(zV ps k).isSome=true/\m=S k+1)
theorem Ni (ps:P9)(S:B8->Nat)(k:B8):(stV ps S k).isSome=(zV ps k).isSome:=by unfold stV;cases zV ps k <;> rfl
theorem zse (w:W8)(tb n:Nat)(ps:P9)(S:B8->Nat)(h:qQ Tryz.prog 9 w tb n (stV ps S))(hS:∀ k,(zV ps k).isSome=true->S k<=1000000):
  Calls Tryz.prog 59 #[.map (some tb)] w λ en w'=>∃ m:Nat,en=.returned (.int .i64 (m:Nat))/\vY ps S m/\Below w.heap.size w w':=by
 have HS:=zC hS;have fZ:=h.lt;clear hS;go_enter Tryz.func59,Tryz.ntmps59;go_wp2_with (first | (at_range;refine z9v _ rfl _ 73 rfl 9 185 Tryz.underlying9 Tryz.underlying73 tb n (stV ps S) rfl h ?_;intro w0 cnt0 hrg0 Av nB nI) | go_in)
 try go_frame
 have h0:ydo w tb n ps S (λ k=>(stV ps S k).isSome=true) 0 cnt0 w0:=⟨hrg0,λ k h1 h2=>absurd h1 h2,.inl rfl,⟨nB.os,nB.tape,nB.output,by omega,λ j hj=>nB.block j hj (by simp)⟩⟩;have H0:=zC h0;clear hrg0 Av nB nI h h0
 go_loopg [3] cnt0 (λ gg c wr=>∃ (m:Nat) (Lf:B8->Prop),c=.int .i64 (m:Nat)/\ydo w tb n ps S Lf m gg wr)
 exact⟨0,_,rfl,zA H0⟩
 case round=>
  clear H0;obtain⟨m,Lf,rfl,ak⟩:=hrel;have jf:=ak.rg;have bt:=zC ak;clear ak;go_wp2_with (first | (at_next;refine ydc _ rfl _ rfl 9 Tryz.underlying9 tb w.heap.size n (stV ps S) _ gk (λ k=>.agg #[.string k,.int .i64 (S k),.int .i64 ((zV ps k).getD 0:Nat)]) (z86 ps S) rfl jf ?_ ?_) | go_in)
  ·intro cF;have HD:=zC cF;clear cF jf;go_wp2_with fail;go_ret;have ak:=zA bt;exact⟨m,rfl,⟨λ k hk=>ak.lo k (by rw[Ni];exact hk) (zA HD k),ak.hi.imp id λ ⟨k,h1,h2⟩=>⟨k,by rw[<-Ni ps S];exact h1,h2⟩⟩,ak.k⟩
  ·intro k w1 cnt1 uW hVk hrg1 bP eP js oj;have nJ:(stV ps S k).isSome=true:=(by rw[hVk];rfl);have kO:=zA HS k (by rw[<-Ni ps S];exact nJ);have Ia:=zC hrg1;have Hb:=zC eP;have Ih:=zC nJ;have HV1:=zC uW;have ak:=zA bt;have bq:=ak.k.size;clear js jf hrg1 eP hVk nJ ak uW;have mG:m<=1000001:=by
    rcases (zA bt).hi with h | ⟨j,hj,h⟩
    ·omega
    ·have:=zA HS j (by rw[<-Ni ps S];exact hj);omega
   go_wp2_with fail;go_roundg cnt1
   case measure=>omega
   case rel=>
    have ak:=zA bt;have g1:=zA Hb;have b1:Below w.heap.size w w1:=⟨g1.os.trans ak.k.os,g1.tape.trans ak.k.tape,g1.output.trans ak.k.output,Nat.le_trans ak.k.size g1.size,λ i hi=>(g1.block i (by omega) (by simp;omega)).trans (ak.k.block i hi)⟩;refine⟨max m (S k+1),_,by congr 1;omega,(zA Ia).alloc _,λ x hx hn=>?_,?_,b1.alloc b1.size _⟩
    ·by_cases e:x=k
     ·subst e;omega
     ·have:=ak.lo x hx (λ h=>hn ⟨h,e⟩);omega
    ·rcases Nat.le_total m (S k+1) with h | h
     ·right;exact⟨k,zA Ih,by omega⟩
     ·rw[Nat.max_eq_left h];exact ak.hi
end
section
open Go.RowKit Go.Maps
theorem za6 (w:W8)(b:Nat)(v:Value)(a:O8)(n c:Nat)(hv:v=.slice a n c)(hb:w.cell? ⟨b,0,none⟩=some v):
  Calls Tryz.prog 36 #[.pointer (some ⟨b,0,none⟩)] w λ e w'=>e=.returned (.slice a n c)/\w'=w:=by
 subst hv;go_enter Tryz.func36,Tryz.ntmps36;go_wp2_with fail;go_ret;exact⟨rfl,rfl⟩
theorem z0a (w:W8)(base b:Nat)(rs:List PR)(h:zky w base b rs)(hlen:(qZ (rs.map (·.R))).length<=1000000000):
  Calls Tryz.prog 28 #[.pointer (some ⟨b,0,none⟩)] w λ e w'=>e=.returned (.string ⟨(qZ (rs.map (·.R))).toArray⟩)/\Below w.heap.size w w':=by
 obtain⟨a,c,hb,_,hr⟩:=h;obtain⟨x0,_⟩:=zB hb 0;go_enter Tryz.func28,Tryz.ntmps28;go_wp2_with fail;refine (za6 w b _ a rs.length c rfl x0).mono ?_;rintro e w1 ⟨rfl,rfl⟩;go_wp2_with fail;refine (z6g _ base a c rs hr hlen).mono ?_;rintro e w1 ⟨rfl,aT⟩;go_wp2_with fail;go_ret;exact⟨rfl,aT⟩
end
section
open Go.RowKit
def OkT (s:B8)(ts:List (Bool × B8)):Prop:=ts.length<=4/\∀ t∈ts,t.2.size<=s.size
theorem ztp (s:B8)(f:Nat):∀ {p:Nat} {l:List (Bool × B8)} {pl:Nat->Nat},(∀ t∈l,t.2.size<=s.size)->∀ t∈(zN s f p l pl).2.2.1,t.2.size<=s.size:=by
 induction f with
 | zero=>intro p l pl h;simpa[zN] using h
 | succ f ih=>
  intro p l pl h;have h':∀ t∈l++[(decide ((zD s p).1=3),yP s p)],t.2.size<=s.size:=λ t ht=>by
   rcases List.mem_append.1 ht with ht | ht
   ·exact h t ht
   ·rw[List.mem_singleton.1 ht];exact Nb s p
  rw[zN]
  split
  ·split
   ·exact ih h'
   ·exact h'
  ·exact h
variable {ts:List (Bool × B8)} {pd s:B8}
theorem zl7 {p q:Nat}{pl:Nat->Nat}(h:yK s p=.yes q pd ts pl):OkT s ts:=by
 refine⟨(zh7 h).2,?_⟩;unfold yK at h
 by_cases c1:(zD s p).1=2
 ·rw[if_pos c1] at h
  by_cases c2:(zD s (zD s p).2.2).1=5
  ·rw[if_pos c2] at h
   by_cases c3:(zN s 4 (zD s (zD s p).2.2).2.2 [] (λ _=>0)).1=true
   ·rw[if_pos c3] at h;injection h with h1 h2 h3 h4
    subst h3;exact ztp s 4 (by simp)
   ·rw[if_neg c3] at h;cases h
  ·rw[if_neg c2] at h;injection h with h1 h2 h3 h4
   subst h3;simp
 ·rw[if_neg c1] at h;cases h
theorem zvu (s:B8)(num f:Nat):∀ {p:Nat} {l:List yR} {ms:List yS},(∀ x∈l,OkT s x.ts)->∀ x∈(xK s num f p l ms).2.2.1,OkT s x.ts:=by
 induction f with
 | zero=>intro p l ms hl;exact hl
 | succ f ih=>
  intro p l ms hl;rw[xK]
  cases hr:yK s (z6 s p 4) with
  | no q=>exact hl
  | yes q pd ts pl=>
   have o1:=zl7 hr;have mE:∀ x∈l++[cY s p pd ts],OkT s x.ts:=λ x hx=>by
    rcases List.mem_append.1 hx with hx | hx
    ·exact hl x hx
    ·simp at hx;subst hx;exact o1
   simp only
   split
   ·exact ih mE
   ·exact mE
theorem zvw (s:B8)(num p:Nat){ms:List yS}:OkT s (yQ s num p ms).2.2.1.ts/\∀ x∈(yQ s num p ms).2.2.1.body,OkT s x.ts:=by
 unfold yQ
 cases hr:yK s p with
 | no q=>exact⟨⟨by simp,by simp⟩,by simp⟩
 | yes q pd ts pl=>
  have o1:=zl7 hr;simp only
  split
  ·exact⟨o1,by simp⟩
  ·split
   ·exact⟨o1,zvu s num 3 (by simp)⟩
   ·exact⟨o1,by simp⟩
theorem zto (s:B8)(f:Nat):∀ {p:Nat} {rs:List yH} {ms:List yS},(∀ R∈rs,OkT s R.ts/\∀ x∈R.body,OkT s x.ts)->∀ R∈(xJ s f p rs ms).2.2.1,OkT s R.ts/\∀ x∈R.body,OkT s x.ts:=by
 induction f with
 | zero=>intro p rs ms hr;exact hr
 | succ f ih=>
  intro p rs ms hr;rw[xJ]
  split
  ·exact hr
  ·split
   ·exact hr
   ·split
    ·refine ih (λ R hR=>?_);rcases List.mem_append.1 hR with hR | hR
     ·exact hr R hR
     ·simp at hR;subst hR;exact zvw s _ _
    ·exact hr
theorem z5j (s:B8):∀ R∈(zJ s).2.2.1,OkT s R.ts/\∀ x∈R.body,OkT s x.ts:=zto s 31 (by simp)
theorem zpm {c:Nat}:∀ (ts:List (Bool × B8)) (i:Nat),(∀ t∈ts,t.2.size<=c)->(xP ts i).length<=(c+1)*ts.length
 | [],_,_=>Nat.zero_le _
 | t::r,i,h=>by
  have h1:=zpm r (i+1) λ y hy=>h y (List.mem_cons_of_mem _ hy)
  have h2:t.2.data.toList.length<=c:=by have:=h t List.mem_cons_self;simpa using this
  rw[xP,List.length_cons,List.length_append,List.length_cons,Nat.mul_add,Nat.mul_one];omega
theorem zr3 (h1:pd.size<=800)(h2:ts.length<=4)(h3:∀ t∈ts,t.2.size<=800):(j2 pd ts).length<=4005:=by
 have:=zpm ts 0 h3;have hp:pd.data.toList.length<=800:=by simpa using h1
 rw[j2,List.length_append,List.length_append];have h4:(801:Nat)*ts.length<=3204:=by omega
 split <;> simp_all <;> omega
theorem zst:∀ (ls:List yR) (i:Nat),(∀ l∈ls,l.pd.size<=800/\l.ts.length<=4/\∀ t∈l.ts,t.2.size<=800)->(zge ls i).length<=4013*ls.length
 | [],_,_=>Nat.zero_le _
 | L::r,i,h=>by
  have h1:=zst r (i+1) λ y hy=>h y (List.mem_cons_of_mem _ hy)
  obtain⟨a,b,c⟩:=h L List.mem_cons_self;have h2:=zr3 a b c;have h3:(zxv L).length<=4009:=by rw[zxv,List.length_append];split <;> simp <;> omega
  have h4:(if i=0 then [32,58,45,32] else [44,32]:List UInt8).length<=4:=by split <;> simp
  rw[zge,List.length_append,List.length_append,List.length_cons];omega
theorem ztn (h:(z7 s).1=true):(qZ (zJ s).2.2.1).length<=1000000000:=by
 have hg:=qR h;have hs:s.size<=800:=by
  unfold z7 at h
  by_cases c0:800<s.size
  ·rw[if_pos c0] at h;cases h
  ·omega
 have dQ:=z5j s
 have:=zqd zif 20000 (zJ s).2.2.1 (λ R hR=>by
  obtain⟨⟨a,b⟩,c⟩:=dQ R hR;have h1:=zr3 (hg.pd R hR) a (λ t ht=>Nat.le_trans (b t ht) hs);have h2:=zst R.body 0 (λ l hl=>⟨hg.C9 R hR l hl,(c l hl).1,λ t ht=>Nat.le_trans ((c l hl).2 t ht) hs⟩);have h3:=hg.body R hR;have h4:4013*R.body.length<=12039:=by omega
  rw[zif,List.length_append,List.length_append]
  simp;omega)
 have h5:=hg.len;unfold qZ;omega
end
end Go.Proofs.YtldkpahaocjdpaaGreat
