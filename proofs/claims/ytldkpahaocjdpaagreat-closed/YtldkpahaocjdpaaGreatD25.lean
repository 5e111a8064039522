/-
  The program's order of names: cmp.isNaN[string], cmp.Compare[string], the closure of List.
-/
import Derived.Test.YtldkpahaocjdpaaGreatD17
import Derived.Shelf.SlSortCmp.NoneTotal
import Derived.Deep.DeepAppendRoom
import Derived.ArgAppend
import Derived.Test.YtldkpahaocjdpaaGreatD16
import Derived.Test.YtldkpahaocjdpaaGreatD24
import Derived.Test.YtldkpahaocjdpaaGreatRows
import Derived.ProofKit
import Derived.SizedLaws
import Derived.ChangeSlices
import Derived.Deep.Slices
import Derived.Deep.Strs
import Derived.Deep.CondSized
import Derived.JoinedCond
set_option maxHeartbeats 16000000
set_option maxRecDepth 1000000
namespace Go.Proofs.YtldkpahaocjdpaaGreat
section
open Go.RowKit Go.Maps Go.Sort
theorem z10 (x y:B8):ltOf zvl x y=ze1 x y:=by
 unfold ltOf zvl
 cases ze1 x y <;> cases x.toList==y.toList <;> simp
theorem z1h (x:B8)(w:W8):Calls Tryz.prog 207 #[.string x] w λ e w'=>e=.returned (.bool false)/\w'=w:=by
 go_enter Tryz.func207,Tryz.ntmps207;go_wp2_with fail;go_ret;exact⟨by simp,rfl⟩
theorem ztn (x y:B8)(w:W8):Calls Tryz.prog 162 #[.string x,.string y] w λ e w'=>e=.returned (.int .i64 (zvl x y))/\w'=w:=by
 have hn:=z1h;have hc:zvl x y=if Op.bytesLess x.toList y.toList then -1 else if x.toList==y.toList then 0 else 1:=rfl;go_enter Tryz.func162,Tryz.ntmps162;go_wp2_with (go_at_call 207;refine (hn _ _).mono ?_;rintro e w' ⟨rfl,rfl⟩)
 ·rename_i h1;go_ret;refine⟨?_,rfl⟩;rw[show zvl x y=-1 by rw[zvl,ze1,h1];rfl];rfl
 ·rename_i h1 _ _ h2;go_ret;refine⟨?_,rfl⟩;rw[show zvl x y=1 by rw[zvl,ze1,h1];simp at h2 ⊢;exact h2];rfl
 ·rename_i h1 h2;go_ret;refine⟨?_,rfl⟩;rw[show zvl x y=0 by rw[zvl,ze1,h1];simp at h2 ⊢;exact h2];rfl
end
section
open Go.RowKit Go.Maps
theorem z7v (ps:P9)(S:B8->Nat)(k:B8)(u:Value)(h:stV ps S k=some u):u=.agg #[.string k,.int .i64 (S k),.int .i64 ((zZ ps k).getD 0:Nat)]:=by
 unfold stV at h
 cases hn:zZ ps k with
 | none=>rw[hn] at h;cases h
 | some m=>rw[hn] at h;injection h with h;exact h.symm
end
section
open Go.RowKit Go.Maps
variable {n:Nat} {c:Int}
theorem z69 (hc:c<0)(hn:0<n):∃ k:Nat,k<n/\-(c+1).tmod n=(k:Int):=by
 obtain⟨d,hd⟩:∃ d:Nat,c+1=-(d:Int):=⟨(-(c+1)).toNat,by omega⟩;refine⟨d%n,Nat.mod_lt _ hn,?_⟩;rw[hd,Int.neg_tmod,Int.neg_neg,Int.tmod_eq_emod_of_nonneg (by omega)];simp
theorem z2s (hc:0<=c)(hn:0<n):∃ k:Nat,k<n/\c%n=(k:Int):=by
 obtain⟨d,rfl⟩:∃ d:Nat,c=(d:Int):=⟨c.toNat,by omega⟩;exact⟨d%n,Nat.mod_lt _ hn,by simp⟩
end
section
open Go.RowKit
def zF (c:Int)(n:Nat):Nat:=if c<0 then (-(c+1).tmod n).toNat else (c%n).toNat
theorem yM (c:Int){n:Nat}(hn:0<n):zF c n<n/\(c<0->-(c+1).tmod n=(zF c n:Int))/\(¬ c<0->c%n=(zF c n:Int)):=by
 unfold zF
 by_cases h:c<0
 ·obtain⟨k,hk,e⟩:=z69 h hn;rw[if_pos h,e];exact⟨by simpa using hk,λ _=>by simp,λ h'=>absurd h h'⟩
 ·obtain⟨k,hk,e⟩:=z2s (Int.not_lt.1 h) hn;rw[if_neg h,e];exact⟨by simpa using hk,λ h'=>absurd h' h,λ _=>by simp⟩
theorem zdt (w:W8)(c:Int)(n:Nat)(hn:0<n)(hl:n<=1000000000000)(h1:-9223372036854775808<=c)(h2:c<=9223372036854775807):Calls Tryz.prog 25 #[.int .i64 c,.int .i64 n] w λ e w'=>e=.returned (.int .i64 (zF c n:Nat))/\w'=w:=by
 have AA:¬ ((n:Int)=0):=by omega
 have po:(0:Int)<n:=by omega
 obtain⟨_,e1,e2⟩:=yM c hn;have tn:=zC e1;have vn:=zC e2;clear e1 e2;go_enter Tryz.func25,Tryz.ntmps25
 by_cases hc:c<0
 ·go_wp2_with fail;go_ret;exact⟨by rw[<-zA tn hc];rfl,rfl⟩
 ·go_wp2_with fail;go_ret;exact⟨by rw[<-zA vn hc];rfl,rfl⟩
def ae (k:Nat):UInt8:=[97,98,99,100].getD k 97
def vrU (k:Nat):UInt8:=[88,89,90].getD k 88
def pdU (k:Nat):UInt8:=[101,102,103,104].getD k 101
def yA (c:UInt8):B8:=⟨#[c]⟩
def vQ:Obj:=.cells #[.string ⟨#[97]⟩,.string ⟨#[98]⟩,.string ⟨#[99]⟩,.string ⟨#[100]⟩] 9
def jP:Obj:=.cells #[.string ⟨#[88]⟩,.string ⟨#[89]⟩,.string ⟨#[90]⟩] 9
def aW:Obj:=.cells #[.string ⟨#[101]⟩,.string ⟨#[102]⟩,.string ⟨#[103]⟩,.string ⟨#[104]⟩] 9
theorem zbo (w:W8)(cs:Array Value)(t:TypeId)(k:Nat):(w.alloc (.cells cs t)).cell? ⟨w.heap.size,k,none⟩=cs[k]?:=by rw[World.cell?_alloc_at _ _ _ _ rfl]
theorem zpi (w:W8)(c:Int)(h1:-9223372036854775808<=c)(h2:c<=9223372036854775807):Calls Tryz.prog 21 #[.int .i64 c] w λ e w'=>e=.returned (.string (yA (ae (zF c 4))))/\w'=w.alloc vQ:=by
 have hp:=(yM c (n:=4) (by decide)).1;have HC:=zC (λ w=>zdt w c 4 (by decide) (by decide) h1 h2);have hc:(w.alloc (.cells #[.string ⟨#[97]⟩,.string ⟨#[98]⟩,.string ⟨#[99]⟩,.string ⟨#[100]⟩] 9)).cell? ⟨w.heap.size,zF c 4,none⟩=some (.string (yA (ae (zF c 4)))):=by
  rw[zbo];generalize zF c 4=k at hp
  match k,hp with
  | 0,_=>rfl
  | 1,_=>rfl
  | 2,_=>rfl
  | 3,_=>rfl
 generalize zF c 4=k at *;have qm:(k:Int)<4:=by omega
 go_enter Tryz.func21,Tryz.ntmps21;go_wp2_with (go_at_call 25;refine (zA HC _).mono ?_;rintro e wp ⟨rfl,pJ⟩;have pJ:=pJ.symm;subst pJ);go_ret;exact⟨rfl,rfl⟩
theorem z6j (w:W8)(c:Int)(h1:-9223372036854775808<=c)(h2:c<=9223372036854775807):Calls Tryz.prog 40 #[.int .i64 c] w λ e w'=>e=.returned (.string (yA (vrU (zF c 3))))/\w'=w.alloc jP:=by
 have hp:=(yM c (n:=3) (by decide)).1;have HC:=zC (λ w=>zdt w c 3 (by decide) (by decide) h1 h2);have hc:(w.alloc (.cells #[.string ⟨#[88]⟩,.string ⟨#[89]⟩,.string ⟨#[90]⟩] 9)).cell? ⟨w.heap.size,zF c 3,none⟩=some (.string (yA (vrU (zF c 3)))):=by
  rw[zbo];generalize zF c 3=k at hp
  match k,hp with
  | 0,_=>rfl
  | 1,_=>rfl
  | 2,_=>rfl
 generalize zF c 3=k at *;have qm:(k:Int)<3:=by omega
 go_enter Tryz.func40,Tryz.ntmps40;go_wp2_with (go_at_call 25;refine (zA HC _).mono ?_;rintro e wp ⟨rfl,pJ⟩;have pJ:=pJ.symm;subst pJ);go_ret;exact⟨rfl,rfl⟩
theorem zil (w:W8)(k:Nat)(hp:k<4):Calls Tryz.prog 27 #[.int .i64 (k:Nat)] w λ e w'=>e=.returned (.string (yA (pdU k)))/\w'=w.alloc aW:=by
 have hc:(w.alloc (.cells #[.string ⟨#[101]⟩,.string ⟨#[102]⟩,.string ⟨#[103]⟩,.string ⟨#[104]⟩] 9)).cell? ⟨w.heap.size,k,none⟩=some (.string (yA (pdU k))):=by
  rw[zbo]
  match k,hp with
  | 0,_=>rfl
  | 1,_=>rfl
  | 2,_=>rfl
  | 3,_=>rfl
 have qm:(k:Int)<4:=by omega
 go_enter Tryz.func27,Tryz.ntmps27;go_wp2_with fail;go_ret;exact⟨rfl,rfl⟩
end
section
open Go.RowKit Go.Maps
variable {ps:P9}
theorem z4k {rs:List yN}{f:Nat->Nat}(h:ycl ps rs f):qH (rs.map yO) (λ k=>f (zcs ps k)):=by
 intro R hR l hl;obtain⟨Q,hQ,rfl⟩:=List.mem_map.1 hR;obtain⟨A,hA,rfl⟩:=List.mem_map.1 hl;exact h Q hQ A hA
def yb6 (ps:P9):Prop:=(ps.map (·.1)).Nodup
theorem z88 {nm:B8}:∀ {l:P9} {k:Nat},xT nm l k<0->∀ p∈l,p.1≠nm
 | [],_,_,p,hp=>by cases hp
 | x::r,k,h,p,hp=>by
  rw[xT] at h
  split at h
  ·omega
  ·rename_i hx;rcases List.mem_cons.1 hp with rfl | hp
   ·exact λ e=>hx (zU.2 e)
   ·exact z88 h p hp
theorem z2g (h:yb6 ps)(nm:B8)(n:Nat):yb6 (zao ps nm n):=by
 unfold zao
 split
 ·rename_i hx;unfold yb6;rw[List.map_append,List.nodup_append];refine⟨h,by simp,λ a ha b hb e=>?_⟩;obtain⟨p,hp,rfl⟩:=List.mem_map.1 ha;simp at hb;exact z88 hx p hp (e.trans hb)
 ·exact h
theorem znl:∀ (l ps:P9),yb6 ps->yb6 (j5 l ps)
 | [],_,h=>h
 | x::r,_,h=>znl r _ (z2g h x.1 x.2)
end
section
open Go.RowKit Go.Maps
theorem znj:∀ (l:List yR) (ps:P9),(zaw l ps).1<0->qT (l.map λ A=>(A.pred,A.aS.length)) ps/\(zaw l ps).2=j5 (l.map λ A=>(A.pred,A.aS.length)) ps
 | [],_,_=>⟨trivial,rfl⟩
 | A::r,ps,h=>by
  rw[zaw] at h ⊢
  split at h
  ·rename_i hb;rw[if_pos hb];obtain⟨h1,h2⟩:=znj r _ h;exact⟨⟨hb,h1⟩,h2⟩
  ·exfalso;simp only at h;omega
theorem z2o (R:yN):xV (yO R)=R.atoms.map λ A=>(A.pred,A.aS.length):=by
 simp[xV,yO,yN.atoms,bl]
theorem zyi (rs:List yN):(rs.map yO).flatMap xV=(rs.flatMap yN.atoms).map λ A=>(A.pred,A.aS.length):=by
 induction rs with
 | nil=>rfl
 | cons R r ih=>rw[List.map_cons,List.flatMap_cons,List.flatMap_cons,List.map_append,ih,z2o]
theorem z13 (ps:P9)(nm:B8)(n:Nat):(zao ps nm n).length<=ps.length+1:=by
 unfold zao;split <;> simp
theorem zrr:∀ (l ps:P9),(j5 l ps).length<=ps.length+l.length
 | [],_=>Nat.le_refl _
 | x::r,ps=>by
  have h1:=zrr r (zao ps x.1 x.2);have h2:=z13 ps x.1 x.2;rw[j5,List.length_cons];omega
theorem zys (s:B8)(f:Nat):∀ {p:Nat} {rs:List yG} {ms:List yU},rs.length<=30->(vG s f p rs ms).2.2.1.length<=30:=by
 induction f with
 | zero=>intro p rs ms h;exact h
 | succ f ih=>
  intro p rs ms h;rw[vG]
  split
  ·exact h
  ·split
   ·exact h
   ·split
    ·refine ih ?_;rw[List.length_append,List.length_singleton];omega
    ·exact h
theorem zvx {α β:Type}(f:α->List β)(c:Nat):∀ (l:List α),(∀ x∈l,(f x).length<=c)->(l.flatMap f).length<=c*l.length
 | [],_=>Nat.zero_le _
 | x::r,h=>by
  have h1:=h x List.mem_cons_self;have h2:=zvx f c r λ y hy=>h y (List.mem_cons_of_mem _ hy)
  rw[List.flatMap_cons,List.length_append,List.length_cons,Nat.mul_add,Nat.mul_one];omega
structure M3 (s:B8)(rs:List yG)(ps:P9):Prop where
 rules:rs=(vA s).1.map yO
 GG:ps=(zH s).2
 len:rs.length<=30
 body:∀ R∈rs,R.body.length<=3
 pd:∀ R∈rs,R.pd.size<=800
 JY:∀ R∈rs,∀ l∈R.body,l.pd.size<=800
 agree:qT (rs.flatMap xV) []
 met:j5 (rs.flatMap xV) []=ps
 ft:ps.length<=120
 all:ztb ps ((vA s).1.flatMap yN.atoms)
 once:yb6 ps
 some_:∃ f,qH rs f/\∀ k,f k<=1000
variable {s:B8}
theorem zdo (h:(xJ s).1=true):M3 s (zO s).2.2.1 (zH s).2:=by
 unfold xJ at h
 by_cases c0:800<s.size
 ·rw[if_pos c0] at h;cases h
 rw[if_neg c0] at h
 by_cases c1:0<=(vA s).2.2
 ·rw[if_pos c1] at h;cases h
 rw[if_neg c1] at h
 by_cases c2:0<=(zH s).1
 ·rw[if_pos c2] at h;cases h
 rw[if_neg c2] at h
 by_cases c3:0<=zbf (vA s).1
 ·rw[if_pos c3] at h;cases h
 rw[if_neg c3] at h
 by_cases c4:0<=zed (zH s).2 (qW (zH s).2 (vA s).1) (vA s).1
 ·rw[if_pos c4] at h;cases h
 obtain⟨e1,e2⟩:=zhw s;have hp:(zO s).1=true:=by
  cases hq:(zO s).1 with
  | true=>rfl
  | false=>exfalso;have:=e2 hq;omega
 obtain⟨_,er,_⟩:=e1 hp;obtain⟨o1,_⟩:=znp s (by omega) hp;have hlen:(zO s).2.2.1.length<=30:=zys s 31 (by simp);have ad:ztb (zH s).2 ((vA s).1.flatMap yN.atoms):=zhb _ c2;obtain⟨m1,m2⟩:=znj ((vA s).1.flatMap yN.atoms) [] (by unfold zH at c2;omega);have ze:(zO s).2.2.1.flatMap xV=((vA s).1.flatMap yN.atoms).map λ A=>(A.pred,A.aS.length):=by rw[er,zyi]
 have uE:j5 ((zO s).2.2.1.flatMap xV) []=(zH s).2:=by rw[ze];exact m2.symm
 have lE:=zvx xV 4 (zO s).2.2.1 (λ R hR=>by have:=(o1 R hR).2.1;simp[xV];omega);have ed:=zrr ((zO s).2.2.1.flatMap xV) [];rw[uE] at ed;have gE:(zH s).2.length<=120:=by rw[List.length_nil] at ed;omega
 obtain⟨f,hf,jd⟩:=zm1 _ _ ad c4;exact⟨er,rfl,hlen,λ R hR=>(o1 R hR).2.1,λ R hR=>(o1 R hR).1,λ R hR=>(o1 R hR).2.2,by rw[ze];exact m1,uE,gE,ad,by rw[<-uE];exact znl _ [] List.nodup_nil,⟨λ k=>f (zcs (zH s).2 k),by rw[er];exact z4k hf,λ k=>Nat.le_trans (jd (zcs (zH s).2 k)) (by omega)⟩⟩
theorem M3.named {rs:List yG}{ps:P9}(h:M3 s rs ps):∀ R∈rs,(∃ n,zZ ps R.pd=some n)/\∀ l∈R.body,∃ n,zZ ps l.pd=some n:=by
 intro R hR;rw[h.rules] at hR;obtain⟨Q,hQ,rfl⟩:=List.mem_map.1 hR;refine⟨⟨_,(zry _ ps 0).2 (h.all _ (List.mem_flatMap.2 ⟨Q,hQ,List.mem_cons_self⟩))⟩,λ l hl=>?_⟩;obtain⟨A,hA,rfl⟩:=List.mem_map.1 hl;exact⟨_,(zry _ ps 0).2 (h.all _ (List.mem_flatMap.2 ⟨Q,hQ,List.mem_cons_of_mem _ hA⟩))⟩
end
section
open Go.RowKit
theorem zl2:∀ (ts:List (Bool × B8)) (i:Nat),(∀ t∈ts,t.2.size<=1000)->(vT ts i).length<=ts.length*1001
 | [],_,_=>by simp[vT]
 | t::r,i,h=>by
  have h1:=zl2 r (i+1) (λ x hx=>h x (List.mem_cons_of_mem _ hx));have h2:=h t List.mem_cons_self;rw[vT,List.length_cons,List.length_append,List.length_cons,Nat.succ_mul];have:t.2.data.toList.length=t.2.size:=zfg _;omega
end
section
open Go.RowKit Go.Maps
def qK (S:B8->Nat)(s:Nat)(r:PR):Bool:=S r.R.pd==s
structure nq (w:W8)(base:Nat)(rv:Value)(rs:List PR)(tb n:Nat)(ps:P9)(S:B8->Nat)(l:List PR)(v:Value)(wr:W8):Prop where
 row:wr.ownsRow w.heap.size 123 3 v l.length (l.flatMap PR.cells)
 below:Below w.heap.size w wr
variable {wr w:W8} {v rv:Value} {l rs:List PR} {S:B8->Nat} {ps:P9} {tb n base:Nat}
theorem nq.alloc (h:nq w base rv rs tb n ps S l v wr)(o:Obj):nq w base rv rs tb n ps S l v (wr.alloc o):=⟨h.row.alloc o,h.below.alloc h.below.size _⟩
theorem nq.append {v':Value}{w5:W8}(h:nq w base rv rs tb n ps S l v wr){r:PR}(aI:w5.ownsRow w.heap.size 123 3 v' (l.length+1) (l.flatMap PR.cells++r.cells))(hg:wr.grownBy w5 v.ownBlock):nq w base rv rs tb n ps S (l++[r]) v' w5:=by
 have hs:=h.below.size;have hb:∀ g,g<w.heap.size->w5.heap[g]?=wr.heap[g]?:=λ g jo=>hg.block g (by omega) (λ e=>by have:=(h.row.lt g e.symm).1;omega)
 refine⟨?_,h.below.trans ⟨hg.os,hg.tape,hg.output,hg.size,hb⟩⟩;simpa using aI
def ycg (w:W8)(base:Nat)(rs:List PR)(S:B8->Nat)(s:Nat)(en:Ending)(w':W8):Prop:=
 ∃ a c,en=.returned (.slice a (rs.filter (qK S s)).length c)/\Below w.heap.size w w'/\aD w' base (.slice a (rs.filter (qK S s)).length c) (rs.filter (qK S s))
theorem z2f (w:W8)(base:Nat)(ar:O8)(cr:Nat)(rs:List PR)(tb n:Nat)(ps:P9)(S:B8->Nat)(s:Nat)(h:aD w base (.slice ar rs.length cr) rs)(hb:base<=w.heap.size)(ht:qS Tryz.prog 9 w tb n (stV ps S))(hl:rs.length<=1000)(eN:∀ r∈rs,r.R.pd.size<=800/\(zZ ps r.R.pd).isSome=true):
  Calls Tryz.prog 61 #[.slice ar rs.length cr,.map (some tb),.int .i64 (s:Nat)] w (ycg w base rs S s):=by
 obtain⟨i0,hi,dK,cB,bZ⟩:=info_parts zrc;have H:=zC h;have HT:=zC ht;have ie:=zC eN;have h0:nq w base (.slice ar rs.length cr) rs tb n ps S [] (.slice none 0 0) w:=⟨World.ownsRow_nil _ _ _ _,Below.refl _ _⟩;have H0:=zC h0;have fZ:=ht.lt;clear h ht eN h0;have uk:=zhk;go_enter Tryz.func61,Tryz.ntmps61;go_wp2_with fail
 go_loopg [7,12] rs.length (λ gg v i wr=>∃ k:Nat,k<=rs.length/\gg=rs.length-k/\i=.int .i64 k/\nq w base (.slice ar rs.length cr) rs tb n ps S ((rs.take k).filter (qK S s)) v wr)
 exact⟨0,Nat.zero_le _,rfl,rfl,zA H0⟩
 case round=>
  clear H0;obtain⟨k,hk,fM,rfl,hinv⟩:=hrel;obtain⟨a1,kN,rfl⟩:=zE hinv.row
  by_cases aN:k<rs.length
  ·obtain⟨r,eI⟩:∃ r,r=rs[k]:=⟨_,rfl⟩;have bC:r∈rs:=(by rw[eI];exact List.getElem_mem aN);have ak:=(zA H).each r bC;obtain⟨ah,ch,fs⟩:=zE ak.hd;obtain⟨ab,cb,fi⟩:=zE ak.bo.row;obtain⟨g,cap,hv,iC,dp,dG,dx,hc⟩:=vL zpy (zA H).row k aN;injection hv with h1 h2 h3
   subst h1 h3;have ei:=hinv.below;have e0:wr.cell? ⟨g,k*3,none⟩=some (.string r.R.pd):=(by rw[eI];exact (ei.cell (p:=⟨g,k*3,none⟩) dp).trans (hc 0 (by omega)));have e1:wr.cell? ⟨g,k*3+1,none⟩=some (.slice ah r.R.ts.length ch):=(by rw[<-fs,eI];exact (ei.cell (p:=⟨g,k*3+1,none⟩) dp).trans (hc 1 (by omega)));have e2:wr.cell? ⟨g,k*3+2,none⟩=some (.slice ab r.bs.length cb):=(by rw[<-fi,eI];exact (ei.cell (p:=⟨g,k*3+2,none⟩) dp).trans (hc 2 (by omega)));have gW:(k:Int)<rs.length:=(by omega);have hI:=hinv.alloc (.cells #[.string r.R.pd,.slice ah r.R.ts.length ch,.slice ab r.bs.length cb] 123);have nE:qS Tryz.prog 9 (wr.alloc (.cells #[.string r.R.pd,.slice ah r.R.ts.length ch,.slice ab r.bs.length cb] 123)) tb n (stV ps S):=(zA HT).block (hI.below.block tb fZ);obtain⟨mJ,gj⟩:=zA ie r bC;have du:r.R.pd.size<=maxLen:=(by unfold maxLen;omega);obtain⟨m,hm⟩:=Option.isSome_iff_exists.1 gj;have hu:(stV ps S r.R.pd).getD (.agg #[.string { data:=#[] },.int .i64 0,.int .i64 0])=.agg #[.string r.R.pd,.int .i64 (S r.R.pd),.int .i64 m]:=(by unfold stV;rw[hm];rfl);have lE:((rs.take k).filter (qK S s)).length<=1000:=Nat.le_trans (List.length_filter_le _ _) (by simp;omega);have ru:r=⟨r.R,.slice ah r.R.ts.length ch,r.bs,.slice ab r.bs.length cb⟩:=(by rw[<-fs,<-fi]);have Iz:=zC ru;have fU:=zC (zg5 (f:=qK S s) aN);have lR:=zC eI;have sU:=hinv.below.size;clear hc hinv ak eI bC ei h2 gj hm fs fi ru
   cases hq:qK S s r with
   | true=>
    have AE:(S r.R.pd:Int)=s:=(by have:S r.R.pd=s:=(by simpa[qK] using hq);omega);have HQ:=zC hq;have bH:=(hI.alloc (.cells #[.string r.R.pd,.slice ah r.R.ts.length ch,.slice ab r.bs.length cb] 123)).row;have HI:=zC (hI.alloc (.cells #[.string r.R.pd,.slice ah r.R.ts.length ch,.slice ab r.bs.length cb] 123));clear hI hq
    go_wp2_with (first
     | (at_lookup;refine zcr _ rfl _ _ 73 rfl 9 185 Tryz.underlying9 Tryz.underlying73 (Tryz.zeroValue185 _) tb n (stV ps S) rfl nE r.R.pd rfl du _ hu ?_)
     | (at_builtin;refine wpList_append_own _ rfl _ _ 75 rfl w.heap.size 123 i0 _ 3 64 Tryz.underlying75 hi dK cB bZ rfl (by decide) _ _ _ rfl bH ⟨wr.heap.size+1,0,none⟩ 1 1 (PR.mk r.R (.slice ah r.R.ts.length ch) r.bs (.slice ab r.bs.length cb)).cells rfl rfl (z2x wr _ (PR.mk r.R (.slice ah r.R.ts.length ch) r.bs (.slice ab r.bs.length cb))) (z9e _ _ _ _ _ _ _ _) (by unfold maxLen;omega) (by omega) (by simp;omega) ?_;intro v5 w5 hown5 dz hne5;clear hne5;obtain⟨a5,gz,rfl⟩:=zE hown5;have mj:=zC ((zA HI).append hown5 dz);clear hown5 dz))
    go_roundg (rs.length-(k+1))
    case measure=>omega
    case rel=>
     refine⟨k+1,by omega,rfl,by go_num,?_⟩;rw[zA fU,<-zA lR,zA HQ,if_pos rfl,zA Iz];exact zA mj
   | false=>
    have AE:¬ ((S r.R.pd:Int)=s):=(by have:S r.R.pd≠s:=(by simpa[qK] using hq);omega);have HQ:=zC hq;have HI:=zC hI;clear hI hq;go_wp2_with (at_lookup;refine zcr _ rfl _ _ 73 rfl 9 185 Tryz.underlying9 Tryz.underlying73 (Tryz.zeroValue185 _) tb n (stV ps S) rfl nE r.R.pd rfl du _ hu ?_);go_roundg (rs.length-(k+1))
    case measure=>omega
    case rel=>
     refine⟨k+1,by omega,rfl,by go_num,?_⟩;rw[zA fU,<-zA lR,zA HQ,if_neg (by decide),List.append_nil];exact zA HI
  ·have e:(rs.take k).filter (qK S s)=rs.filter (qK S s):=(by rw[List.take_of_length_le (by omega)]);rw[e] at hinv ⊢;have HI:=zC hinv;clear hinv;go_wp2_with fail;go_ret;have hI:=zA HI
   exact⟨_,_,rfl,hI.below,⟨zI hI.row hb,λ r hr=>by
    have ak:=(zA H).each r (List.mem_filter.1 hr).1
    exact⟨zG ak.hd hI.below (λ g e=>(ak.hd.lt g e).2),ak.bo.below hI.below,ak.eq⟩⟩⟩
end
section
open Go.RowKit Go.Maps
structure ycc (w:W8)(tb n:Nat)(ps:P9)(S:B8->Nat)(Lf:B8->Prop)(m dF:Nat)(wr:W8):Prop where
 rg:AQ Tryz.prog 9 wr tb w.heap.size n (stV ps S) Lf dF
 lo:∀ k,(stV ps S k).isSome=true->¬ Lf k->S k+1<=m
 hi:m=0\/∃ k,(stV ps S k).isSome=true/\m=S k+1
 k:Below w.heap.size w wr
def jS (ps:P9)(S:B8->Nat)(m:Nat):Prop:=(∀ k,(zZ ps k).isSome=true->S k+1<=m)/\(m=0\/∃ k,(zZ ps k).isSome=true/\m=S k+1)
theorem MO (ps:P9)(S:B8->Nat)(k:B8):(stV ps S k).isSome=(zZ ps k).isSome:=by unfold stV;cases zZ ps k <;> rfl
theorem zq6 (w:W8)(tb n:Nat)(ps:P9)(S:B8->Nat)(h:qS Tryz.prog 9 w tb n (stV ps S))(hS:∀ k,(zZ ps k).isSome=true->S k<=1000000):
  Calls Tryz.prog 59 #[.map (some tb)] w λ en w'=>∃ m:Nat,en=.returned (.int .i64 (m:Nat))/\jS ps S m/\Below w.heap.size w w':=by
 have HS:=zC hS;have fZ:=h.lt;clear hS;go_enter Tryz.func59,Tryz.ntmps59;go_wp2_with (first | (at_range;refine z8o _ rfl _ 73 rfl 9 185 Tryz.underlying9 Tryz.underlying73 tb n (stV ps S) rfl h ?_;intro w0 cnt0 hrg0 Av nB nI) | go_in)
 try go_frame
 have h0:ycc w tb n ps S (λ k=>(stV ps S k).isSome=true) 0 cnt0 w0:=⟨hrg0,λ k h1 h2=>absurd h1 h2,.inl rfl,⟨nB.os,nB.tape,nB.output,by omega,λ j hj=>nB.block j hj (by simp)⟩⟩;have H0:=zC h0;clear hrg0 Av nB nI h h0
 go_loopg [3] cnt0 (λ gg c wr=>∃ (m:Nat) (Lf:B8->Prop),c=.int .i64 (m:Nat)/\ycc w tb n ps S Lf m gg wr)
 exact⟨0,_,rfl,zA H0⟩
 case round=>
  clear H0;obtain⟨m,Lf,rfl,ak⟩:=hrel;have jf:=ak.rg;have bt:=zC ak;clear ak;go_wp2_with (first | (at_next;refine yb1 _ rfl _ rfl 9 Tryz.underlying9 tb w.heap.size n (stV ps S) _ gk (λ k=>.agg #[.string k,.int .i64 (S k),.int .i64 ((zZ ps k).getD 0:Nat)]) (z7v ps S) rfl jf ?_ ?_) | go_in)
  ·intro cF;have HD:=zC cF;clear cF jf;go_wp2_with fail;go_ret;have ak:=zA bt;exact⟨m,rfl,⟨λ k hk=>ak.lo k (by rw[MO];exact hk) (zA HD k),ak.hi.imp id λ ⟨k,h1,h2⟩=>⟨k,by rw[<-MO ps S];exact h1,h2⟩⟩,ak.k⟩
  ·intro k w1 cnt1 uW hVk hrg1 bP eP js oj;have nJ:(stV ps S k).isSome=true:=(by rw[hVk];rfl);have kH:=zA HS k (by rw[<-MO ps S];exact nJ);have Ia:=zC hrg1;have Hb:=zC eP;have Ih:=zC nJ;have HV1:=zC uW;have ak:=zA bt;have bq:=ak.k.size;clear js jf hrg1 eP hVk nJ ak uW;have mG:m<=1000001:=by
    rcases (zA bt).hi with h | ⟨j,hj,h⟩
    ·omega
    ·have:=zA HS j (by rw[<-MO ps S];exact hj);omega
   go_wp2_with fail;go_roundg cnt1
   case measure=>omega
   case rel=>
    have ak:=zA bt;have g1:=zA Hb;have b1:Below w.heap.size w w1:=⟨g1.os.trans ak.k.os,g1.tape.trans ak.k.tape,g1.output.trans ak.k.output,Nat.le_trans ak.k.size g1.size,λ i hi=>(g1.block i (by omega) (by simp;omega)).trans (ak.k.block i hi)⟩;refine⟨max m (S k+1),_,by congr 1;omega,(zA Ia).alloc _,λ x hx hn=>?_,?_,b1.alloc b1.size _⟩
    ·by_cases e:x=k
     ·subst e;omega
     ·have:=ak.lo x hx (λ h=>hn ⟨h,e⟩);omega
    ·rcases Nat.le_total m (S k+1) with h | h
     ·right;exact⟨k,zA Ih,by omega⟩
     ·rw[Nat.max_eq_left h];exact ak.hi
end
section
open Go.RowKit Go.Maps
theorem zb4 (w:W8)(b:Nat)(v:Value)(a:O8)(n c:Nat)(hv:v=.slice a n c)(hb:w.cell? ⟨b,0,none⟩=some v):
  Calls Tryz.prog 36 #[.pointer (some ⟨b,0,none⟩)] w λ e w'=>e=.returned (.slice a n c)/\w'=w:=by
 subst hv;go_enter Tryz.func36,Tryz.ntmps36;go_wp2_with fail;go_ret;exact⟨rfl,rfl⟩
end
section
open Go.RowKit
def vW:B8:={ data:=#[101,100,103,101,40,97,44,98,41,46,32,101,100,103,101,40,98,44,99,41,46,32,112,97,116,104,40,88,44,89,41,32,58,45,32,101,100,103,101,40,88,44,89,41,46,32,112,97,116,104,40,88,44,90,41,32,58,45,32,101,100,103,101,40,88,44,89,41,44,32,112,97,116,104,40,89,44,90,41,46,32,102,97,114,40,88,41,32,58,45,32,112,97,116,104,40,97,44,88,41,44,32,110,111,116,32,101,100,103,101,40,97,44,88,41,46] }
theorem zo8:vW.size<=maxLen:=by decide +kernel
end
section
open Go.ChangeShapes Go.WideShapes Go.ChangeAt Go.RowKit Go.Deep
theorem yez:ownKnob Tryz.prog.godebug=none:=by kernel_rfl
theorem yea:laidOutB Tryz.prog=true:=by kernel_rfl
theorem zqv:Tryz.prog.cellsOf 3=1:=by kernel_rfl
theorem Mm {n:Int}(h:(Lit.int .i64 n).wf=true):-9223372036854775808<=n/\n<=9223372036854775807:=by
 simpa[Lit.wf,IntKind.min,IntKind.max,IntKind.signed,IntKind.bits] using h
end
end Go.Proofs.YtldkpahaocjdpaaGreat
