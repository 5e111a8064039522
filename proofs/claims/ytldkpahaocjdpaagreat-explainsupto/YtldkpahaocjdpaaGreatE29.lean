/-
  The program's order of names: cmp.isNaN[string], cmp.Compare[string], the closure of List.
-/
import Derived.Test.YtldkpahaocjdpaaGreatE26
import Derived.Shelf.SlSortCmp.NoneTotal
import Derived.Test.YtldkpahaocjdpaaGreatE25
import Derived.Shelf.Lay
import Derived.Shelf.LaySoft
import Derived.Test.YtldkpahaocjdpaaGreatE28
set_option maxHeartbeats 16000000
set_option maxRecDepth 1000000
namespace Go.Proofs.YtldkpahaocjdpaaGreat
section
open Go.RowKit Go.Maps Go.Sort
theorem zl1:∀ x:List UInt8,Op.bytesLess x x=false
 | []=>rfl
 | a::r=>by simp[Op.bytesLess,zl1 r]
theorem Vt:∀ x y z:List UInt8,Op.bytesLess x y=true->Op.bytesLess y z=true->Op.bytesLess x z=true
 | _,[],_,h,_=>by simp[Op.bytesLess] at h
 | _,_::_,[],_,h=>by simp[Op.bytesLess] at h
 | [],_::_,_::_,_,_=>rfl
 | a::x,b::y,c::z,h1,h2=>by
  simp only[Op.bytesLess,Bool.or_eq_true,Bool.and_eq_true,decide_eq_true_eq,beq_iff_eq] at h1 h2 ⊢;rcases h1 with h1 | ⟨rfl,h1⟩
  ·rcases h2 with h2 | ⟨rfl,_⟩
   ·exact .inl (UInt8.lt_trans h1 h2)
   ·exact .inl h1
  ·rcases h2 with h2 | ⟨rfl,h2⟩
   ·exact .inl h2
   ·exact .inr ⟨rfl,Vt x y z h1 h2⟩
theorem zwc:∀ x y:List UInt8,Op.bytesLess x y=false->Op.bytesLess y x=false->x=y
 | [],[],_,_=>rfl
 | [],_::_,h,_=>by simp[Op.bytesLess] at h
 | _::_,[],_,h=>by simp[Op.bytesLess] at h
 | a::x,b::y,h1,h2=>by
  simp only[Op.bytesLess,Bool.or_eq_false_iff,Bool.and_eq_false_iff,decide_eq_false_iff_not,beq_eq_false_iff_ne,ne_eq] at h1 h2;have CP:a=b:=UInt8.le_antisymm (UInt8.not_lt.1 h2.1) (UInt8.not_lt.1 h1.1);subst CP;rw[zwc x y (h1.2.resolve_left (λ h=>h rfl)) (h2.2.resolve_left (λ h=>h rfl))]
def zaf (x y:B8):Bool:=Op.bytesLess x.toList y.toList
theorem zfi (x:B8):zaf x x=false:=zl1 _
variable {x y:B8}
theorem NS {z:B8}(h1:zaf x y=true)(h2:zaf y z=true):zaf x z=true:=Vt _ _ _ h1 h2
theorem Vw (h1:zaf x y=false)(h2:zaf y x=false):x=y:=xO.1 (by rw[beq_iff_eq];exact zwc _ _ h1 h2)
def ztx (x y:B8):Int:=if zaf x y then -1 else if x.toList==y.toList then 0 else 1
theorem zcs (x y:B8):ltOf ztx x y=zaf x y:=by
 unfold ltOf ztx
 cases zaf x y <;> cases x.toList==y.toList <;> simp
theorem yev:SWO (ltOf ztx) where
 irrefl x:=by rw[zcs];exact zfi x
 trans x y z h1 h2:=by rw[zcs] at *;exact NS h1 h2
 ntrans x y z h1 h2:=by
  rw[zcs] at *
  cases h:zaf x z with
  | false=>rfl
  | true=>
   cases h3:zaf z y with
   | true=>rw[NS h h3] at h1;cases h1
   | false=>rw[Vw h2 h3] at h1;rw[h1] at h;cases h
theorem z2r (x:B8)(w:W8):Calls Tryz.prog 207 #[.string x] w λ e w'=>e=.returned (.bool false)/\w'=w:=by
 go_enter Tryz.func207,Tryz.ntmps207;go_wp2_with fail;go_ret;exact⟨by simp,rfl⟩
theorem zty (x y:B8)(w:W8):Calls Tryz.prog 162 #[.string x,.string y] w λ e w'=>e=.returned (.int .i64 (ztx x y))/\w'=w:=by
 have hn:=z2r;have hc:ztx x y=if Op.bytesLess x.toList y.toList then -1 else if x.toList==y.toList then 0 else 1:=rfl;go_enter Tryz.func162,Tryz.ntmps162;go_wp2_with (go_at_call 207;refine (hn _ _).mono ?_;rintro e w' ⟨rfl,rfl⟩)
 ·rename_i h1;go_ret;refine⟨?_,rfl⟩;rw[show ztx x y=-1 by rw[ztx,zaf,h1];rfl];rfl
 ·rename_i h1 _ _ h2;go_ret;refine⟨?_,rfl⟩;rw[show ztx x y=1 by rw[ztx,zaf,h1];simp at h2 ⊢;exact h2];rfl
 ·rename_i h1 h2;go_ret;refine⟨?_,rfl⟩;rw[show ztx x y=0 by rw[ztx,zaf,h1];simp at h2 ⊢;exact h2];rfl
end
section
open Go.RowKit
def zj5 (mk:Nat):V8:=[.string { data:=#[] },.int .i64 (-1000-(mk:Int)),.int .i64 0]
variable {xs:V8} {size n g cap base:Nat} {e:TypeId} {w:W8}
theorem vW (h:w.ownsRow base e size (.slice (some ⟨g,0,none⟩) n cap) n xs)(j:Nat)(u:Value):(w.setCell ⟨g,j,none⟩ u).ownsRow base e size (.slice (some ⟨g,0,none⟩) n cap) n (xs.set j u):=by
 obtain⟨h0,h1⟩:=h;refine⟨by simpa using h0,?_⟩;rcases h1 with⟨h1,_⟩ | ⟨g',dn,cur,hv,hb,hg,hn,hc,hs,ht⟩
 ·cases h1
 ·injection hv with h1 h2 h3
  injection h1 with h1
  injection h1 with h1
  subst h1 h3;refine .inr ⟨g,cap,_,rfl,hb,heap_setCell_same _ _ _ _ _ _ hg,hn,hc,by simpa using hs,?_⟩;rw[Array.toList_setIfInBounds,List.take_set,ht]
theorem zif {m:Nat}(h:w.ownsRow base e size (.slice (some ⟨g,0,none⟩) n cap) m xs):∀ j,w.frozen? ⟨g,j,none⟩=false:=by
 intro j;rcases h.2 with⟨h1,_⟩ | ⟨g',dn,cur,hv,hb,hg,_⟩
 ·cases h1
 ·injection hv with h1 h2 h3
  injection h1 with h1
  injection h1 with h1
  subst h1;simp[World.frozen?,hg]
theorem z8f (h:w.ownsRow base e size (.slice (some ⟨g,0,none⟩) n cap) n xs):n<=cap/\cap<=maxLen:=by
 rcases h.2 with⟨h1,_⟩ | ⟨g',dn,cur,hv,hb,hg,hn,hc,_⟩
 ·cases h1
 ·injection hv with h1 h2 h3
  subst h3;exact⟨hn,hc⟩
theorem zy0 (h:w.ownsRow base e size (.slice (some ⟨g,0,none⟩) n cap) n xs):∀ j,j<n*size->∃ u,w.cell? ⟨g,j,none⟩=some u:=by
 intro j hj;rcases h.2 with⟨h1,_⟩ | ⟨g',dn,cur,hv,hb,hg,hn,_,hs,_⟩
 ·cases h1
 ·injection hv with h1 h2 h3
  injection h1 with h1
  injection h1 with h1
  subst h1 h3;have:j<cur.size:=by rw[hs];exact Nat.lt_of_lt_of_le hj (Nat.mul_le_mul_right _ hn)
  exact⟨cur[j],by rw[cell_of_row w g j cur e (0,0) hg];simp[this]⟩
end
section
open Go.RowKit Go.Maps
variable {x y:B8}
theorem zrp {z:B8}(h1:zaf x y=false)(h2:zaf y z=false):zaf x z=false:=by
 have:=yev.ntrans x y z (by rw[zcs];exact h1) (by rw[zcs];exact h2)
 rwa [zcs] at this
theorem zyq (h:zaf x y=true):zaf y x=false:=by
 cases h2:zaf y x with
 | false=>rfl
 | true=>have:=NS h h2;rw[zfi] at this;cases this
end
section
open Go.RowKit Go.Maps
theorem z8q (ps:P9)(S:B8->Nat)(k:B8)(u:Value)(h:stV ps S k=some u):u=.agg #[.string k,.int .i64 (S k),.int .i64 ((yX ps k).getD 0:Nat)]:=by
 unfold stV at h
 cases hn:yX ps k with
 | none=>rw[hn] at h;cases h
 | some m=>rw[hn] at h;injection h with h;exact h.symm
end
section
open Go.RowKit Go.Maps
def zyv (mk n:Nat):V8:=(List.replicate n ()).flatMap λ _=>zj5 mk
theorem ybh {w:W8}{base mk:Nat}{v:Value}{n:Nat}(h:w.ownsRow base 185 3 v n (zyv mk n))(k:Nat)(hk:k<n):∃ g cap,v=.slice (some ⟨g,0,none⟩) n cap/\g<w.heap.size/\n<=cap/\cap<=maxLen/\w.cell? ⟨g,k*3,none⟩=some (.string { data:=#[] })/\w.cell? ⟨g,k*3+1,none⟩=some (.int .i64 (-1000-(mk:Int)))/\w.cell? ⟨g,k*3+2,none⟩=some (.int .i64 0):=by
 have h':w.ownsRow base 185 3 v (List.replicate n ()).length ((List.replicate n ()).flatMap λ _=>zj5 mk):=by rw[List.length_replicate];exact h
 obtain⟨g,cap,hv,-,aZ,bO,bQ,hc⟩:=vX (f:=λ _:Unit=>zj5 mk) (λ _=>rfl) h' k (by simpa using hk);rw[List.length_replicate] at hv bO;refine⟨g,cap,hv,aZ,bO,bQ,?_,?_,?_⟩
 ·have:=hc 0 (by simp[zj5]);simpa[zj5] using this
 ·have:=hc 1 (by simp[zj5]);simpa[zj5] using this
 ·have:=hc 2 (by simp[zj5]);simpa[zj5] using this
theorem zb9 (w:W8)(base mk:Nat)(a:O8)(n c:Nat)(h:w.ownsRow base 185 3 (.slice a n c) n (zyv mk n))(hn:n<=100000)(ji:mk<=1000000000000):
  Calls Tryz.prog 96 #[.slice a n c,.int .i64 mk] w λ e w'=>e=.returned (.bool true)/\w'=w:=by
 have HA:=zC h;clear h;go_enter Tryz.func96,Tryz.ntmps96;go_wp2_with fail
 go_loopg [5] n (λ gg i wr=>∃ k:Nat,k<=n/\gg=n-k/\i=.int .i64 k/\wr=w)
 exact⟨0,Nat.zero_le _,rfl,rfl,rfl⟩
 case round=>
  obtain⟨k,hk,eD,rfl,rfl⟩:=hrel
  by_cases aF:k<n
  ·obtain⟨g,cap,hv,aZ,bO,bQ,p0,p1,p2⟩:=ybh (zA HA) k aF;injection hv with h1 h2 h3
   subst h1 h3;go_wp2_with fail;go_roundg (n-(k+1));exact⟨k+1,by omega,rfl,by go_num,rfl⟩;omega
  ·go_wp2_with fail;go_ret;exact⟨rfl,rfl⟩
end
section
open Go.RowKit Go.Maps
variable {rs:List zS} {ps:P9}
theorem ztc {f:Nat->Nat}(h:zef ps rs f):zd0 (rs.map yO) (λ k=>f (qJ ps k)):=by
 intro R hR l hl;obtain⟨Q,hQ,rfl⟩:=List.mem_map.1 hR;obtain⟨A,hA,rfl⟩:=List.mem_map.1 hl;exact h Q hQ A hA
theorem zxl {g:B8->Nat}(h:zd0 (rs.map yO) g)(aS:zgi ps (rs.flatMap zS.atoms)):zef ps rs (λ i=>g (ycu ps i)):=by
 intro R hR A hA;have h1:=h (yO R) (List.mem_map_of_mem hR) (lP A) (List.mem_map_of_mem hA);have a1:0<=zM ps R.head.pred:=aS _ (List.mem_flatMap.2 ⟨R,hR,List.mem_cons_self⟩);have a2:0<=zM ps A.pred:=aS _ (List.mem_flatMap.2 ⟨R,hR,List.mem_cons_of_mem _ hA⟩);unfold ziv;simp only[zps a1,zps a2];exact h1
theorem zs0 {Sn:B8->Nat}{Si:Nat->Nat}(aS:zgi ps (rs.flatMap zS.atoms))(hv:zef ps rs Si)(hl:Low ps rs Si)(Dt:zd0 (rs.map yO) Sn)(nG:z52 (rs.map yO) Sn)(k:B8)(hk:0<=zM ps k):Sn k=Si (qJ ps k):=by
 refine Nat.le_antisymm (nG _ (ztc hv) k) ?_;have:=hl _ (zxl Dt aS) (qJ ps k);simp only[zps hk] at this;exact this
def z6e (ps:P9):Prop:=(ps.map (·.1)).Nodup
theorem z9u {nm:B8}:∀ {l:P9} {k:Nat},xR nm l k<0->∀ p∈l,p.1≠nm
 | [],_,_,p,hp=>by cases hp
 | x::r,k,h,p,hp=>by
  rw[xR] at h
  split at h
  ·omega
  ·rename_i hx;rcases List.mem_cons.1 hp with rfl | hp
   ·exact λ e=>hx (xO.2 e)
   ·exact z9u h p hp
theorem z3y (h:z6e ps)(nm:B8)(n:Nat):z6e (qW ps nm n):=by
 unfold qW
 split
 ·rename_i hx;unfold z6e;rw[List.map_append,List.nodup_append];refine⟨h,by simp,λ a ha b hb e=>?_⟩;obtain⟨p,hp,rfl⟩:=List.mem_map.1 ha;simp at hb;exact z9u hx p hp (e.trans hb)
 ·exact h
theorem zoe:∀ (l ps:P9),z6e ps->z6e (iK l ps)
 | [],_,h=>h
 | x::r,_,h=>zoe r _ (z3y h x.1 x.2)
theorem z3x:∀ {ps:P9},z6e ps->∀ (i k:Nat) (hi:i<ps.length),xR ps[i].1 ps k=(k+i:Nat)
 | [],_,i,_,hi=>by simp at hi
 | x::r,h,i,k,hi=>by
  have hn:=List.nodup_cons.1 h;rw[xR]
  cases i with
  | zero=>rw[if_pos (by rw[List.getElem_cons_zero];exact xO.2 rfl)];simp
  | succ i=>
   have ve:i<r.length:=by simpa using hi
   have:¬ (x.1.toList==((x::r)[i+1]).1.toList)=true:=λ e=>hn.1 (List.mem_map.2 ⟨r[i],List.getElem_mem ve,by
    have:=xO.1 e;rw[List.getElem_cons_succ] at this
    exact this.symm⟩)
   rw[if_neg this,List.getElem_cons_succ,z3x hn.2 i (k+1) ve];omega
end
section
open Go.RowKit Go.Maps
theorem zob:∀ (l:List zL) (ps:P9),(yN l ps).1<0->zbh (l.map λ A=>(A.pred,A.ae.length)) ps/\(yN l ps).2=iK (l.map λ A=>(A.pred,A.ae.length)) ps
 | [],_,_=>⟨trivial,rfl⟩
 | A::r,ps,h=>by
  rw[yN] at h ⊢
  split at h
  ·rename_i hb;rw[if_pos hb];obtain⟨h1,h2⟩:=zob r _ h;exact⟨⟨hb,h1⟩,h2⟩
  ·exfalso;simp only at h;omega
theorem z38 (R:zS):jN (yO R)=R.atoms.map λ A=>(A.pred,A.ae.length):=by
 simp[jN,yO,zS.atoms,lP]
theorem zy3 (rs:List zS):(rs.map yO).flatMap jN=(rs.flatMap zS.atoms).map λ A=>(A.pred,A.ae.length):=by
 induction rs with
 | nil=>rfl
 | cons R r ih=>rw[List.map_cons,List.flatMap_cons,List.flatMap_cons,List.map_append,ih,z38]
theorem z3m (ps:P9)(nm:B8)(n:Nat):(qW ps nm n).length<=ps.length+1:=by
 unfold qW;split <;> simp
theorem zr0:∀ (l ps:P9),(iK l ps).length<=ps.length+l.length
 | [],_=>Nat.le_refl _
 | x::r,ps=>by
  have h1:=zr0 r (qW ps x.1 x.2);have h2:=z3m ps x.1 x.2;rw[iK,List.length_cons];omega
theorem zy9 (s:B8)(f:Nat):∀ {p:Nat} {rs:List vY} {ms:List xU},rs.length<=30->(jW s f p rs ms).2.2.1.length<=30:=by
 induction f with
 | zero=>intro p rs ms h;exact h
 | succ f ih=>
  intro p rs ms h;rw[jW]
  split
  ·exact h
  ·split
   ·exact h
   ·split
    ·refine ih ?_;rw[List.length_append,List.length_singleton];omega
    ·exact h
theorem zv9 {α β:Type}(f:α->List β)(c:Nat):∀ (l:List α),(∀ x∈l,(f x).length<=c)->(l.flatMap f).length<=c*l.length
 | [],_=>Nat.zero_le _
 | x::r,h=>by
  have h1:=h x List.mem_cons_self;have h2:=zv9 f c r λ y hy=>h y (List.mem_cons_of_mem _ hy)
  rw[List.flatMap_cons,List.length_append,List.length_cons,Nat.mul_add,Nat.mul_one];omega
structure RI (s:B8)(rs:List vY)(ps:P9):Prop where
 rules:rs=(yG s).1.map yO
 fH:ps=(zT s).2
 len:rs.length<=30
 body:∀ R∈rs,R.body.length<=3
 pd:∀ R∈rs,R.pd.size<=800
 UT:∀ R∈rs,∀ l∈R.body,l.pd.size<=800
 agree:zbh (rs.flatMap jN) []
 met:iK (rs.flatMap jN) []=ps
 eJ:ps.length<=120
 all:zgi ps ((yG s).1.flatMap zS.atoms)
 once:z6e ps
 some_:∃ f,zd0 rs f/\∀ k,f k<=1000
variable {s:B8}
theorem zha (h:(yY s).1=true):RI s (yL s).2.2.1 (zT s).2:=by
 unfold yY at h
 by_cases c0:800<s.size
 ·rw[if_pos c0] at h;cases h
 rw[if_neg c0] at h
 by_cases c1:0<=(yG s).2.2
 ·rw[if_pos c1] at h;cases h
 rw[if_neg c1] at h
 by_cases c2:0<=(zT s).1
 ·rw[if_pos c2] at h;cases h
 rw[if_neg c2] at h
 by_cases c3:0<=yT (yG s).1
 ·rw[if_pos c3] at h;cases h
 rw[if_neg c3] at h
 by_cases c4:0<=vN (zT s).2 (vI (zT s).2 (yG s).1) (yG s).1
 ·rw[if_pos c4] at h;cases h
 obtain⟨e1,e2⟩:=zig s;have hp:(yL s).1=true:=by
  cases hq:(yL s).1 with
  | true=>rfl
  | false=>exfalso;have:=e2 hq;omega
 obtain⟨_,er,_⟩:=e1 hp;obtain⟨o1,_⟩:=zog s (by omega) hp;have hlen:(yL s).2.2.1.length<=30:=zy9 s 31 (by simp);have aS:zgi (zT s).2 ((yG s).1.flatMap zS.atoms):=zeh _ c2;obtain⟨m1,m2⟩:=zob ((yG s).1.flatMap zS.atoms) [] (by unfold zT at c2;omega);have Lj:(yL s).2.2.1.flatMap jN=((yG s).1.flatMap zS.atoms).map λ A=>(A.pred,A.ae.length):=by rw[er,zy3]
 have Gk:iK ((yL s).2.2.1.flatMap jN) []=(zT s).2:=by rw[Lj];exact m2.symm
 have ko:=zv9 jN 4 (yL s).2.2.1 (λ R hR=>by have:=(o1 R hR).2.1;simp[jN];omega);have bh:=zr0 ((yL s).2.2.1.flatMap jN) [];rw[Gk] at bh;have kN:(zT s).2.length<=120:=by rw[List.length_nil] at bh;omega
 obtain⟨f,hf,me⟩:=zgz _ _ aS c4;exact⟨er,rfl,hlen,λ R hR=>(o1 R hR).2.1,λ R hR=>(o1 R hR).1,λ R hR=>(o1 R hR).2.2,by rw[Lj];exact m1,Gk,kN,aS,by rw[<-Gk];exact zoe _ [] List.nodup_nil,⟨λ k=>f (qJ (zT s).2 k),by rw[er];exact ztc hf,λ k=>Nat.le_trans (me (qJ (zT s).2 k)) (by omega)⟩⟩
theorem RI.named {rs:List vY}{ps:P9}(h:RI s rs ps):∀ R∈rs,(∃ n,yX ps R.pd=some n)/\∀ l∈R.body,∃ n,yX ps l.pd=some n:=by
 intro R hR;rw[h.rules] at hR;obtain⟨Q,hQ,rfl⟩:=List.mem_map.1 hR;refine⟨⟨_,(zod _ ps 0).2 (h.all _ (List.mem_flatMap.2 ⟨Q,hQ,List.mem_cons_self⟩))⟩,λ l hl=>?_⟩;obtain⟨A,hA,rfl⟩:=List.mem_map.1 hl;exact⟨_,(zod _ ps 0).2 (h.all _ (List.mem_flatMap.2 ⟨Q,hQ,List.mem_cons_of_mem _ hA⟩))⟩
end
section
open Go.RowKit Go.Maps
theorem zmi (w:W8)(b:Nat)(v:Value)(a:O8)(n c:Nat)(hv:v=.slice a n c)(hb:w.cell? ⟨b,0,none⟩=some v):
  Calls Tryz.prog 36 #[.pointer (some ⟨b,0,none⟩)] w λ e w'=>e=.returned (.slice a n c)/\w'=w:=by
 subst hv;go_enter Tryz.func36,Tryz.ntmps36;go_wp2_with fail;go_ret;exact⟨rfl,rfl⟩
end
section
open Go.RowKit Go.Maps
variable {n:Nat} {c:Int}
theorem z74 (hc:c<0)(hn:0<n):∃ k:Nat,k<n/\-(c+1).tmod n=(k:Int):=by
 obtain⟨d,hd⟩:∃ d:Nat,c+1=-(d:Int):=⟨(-(c+1)).toNat,by omega⟩;refine⟨d%n,Nat.mod_lt _ hn,?_⟩;rw[hd,Int.neg_tmod,Int.neg_neg,Int.tmod_eq_emod_of_nonneg (by omega)];simp
theorem z4b (hc:0<=c)(hn:0<n):∃ k:Nat,k<n/\c%n=(k:Int):=by
 obtain⟨d,rfl⟩:∃ d:Nat,c=(d:Int):=⟨c.toNat,by omega⟩;exact⟨d%n,Nat.mod_lt _ hn,by simp⟩
end
section
open Go.RowKit Go.Maps
theorem zzt (w:W8)(base mk:Nat)(a1 a2 a3 a4:O8)(n1 n2 n3 n4 c1 c2 c3 c4:Nat)(h1:w.ownsRow base 185 3 (.slice a1 n1 c1) n1 (zyv mk n1))(h2:w.ownsRow base 185 3 (.slice a2 n2 c2) n2 (zyv mk n2))(h3:w.ownsRow base 185 3 (.slice a3 n3 c3) n3 (zyv mk n3))(h4:w.ownsRow base 185 3 (.slice a4 n4 c4) n4 (zyv mk n4))(ia:n1<=100000)(oI:n2<=100000)(Ay:n3<=100000)(vl:n4<=100000)(ji:mk<=1000000000000):
  Calls Tryz.prog 54 #[.agg #[.slice a1 n1 c1,.slice a2 n2 c2,.slice a3 n3 c3,.slice a4 n4 c4,.int .i64 mk]] w λ e w'=>e=.returned (.bool true)/\Below w.heap.size w w':=by
 have bA:=(Below.refl w.heap.size w).alloc L9 (.cells #[.slice a1 n1 c1,.slice a2 n2 c2,.slice a3 n3 c3,.slice a4 n4 c4,.int .i64 mk] 120);have H1:=zC h1;have H2:=zC h2;have H3:=zC h3;have H4:=zC h4;clear h1 h2 h3 h4;go_enter Tryz.func54,Tryz.ntmps54;go_wp2_with fail;refine (zb9 _ base mk a1 n1 c1 ((zA H1).alloc _) ia ji).mono ?_;rintro e w' ⟨rfl,rfl⟩;go_wp2_with fail;refine (zb9 _ base mk a2 n2 c2 ((zA H2).alloc _) oI ji).mono ?_;rintro e w' ⟨rfl,rfl⟩;go_wp2_with fail;refine (zb9 _ base mk a3 n3 c3 ((zA H3).alloc _) Ay ji).mono ?_;rintro e w' ⟨rfl,rfl⟩;go_wp2_with fail;refine (zb9 _ base mk a4 n4 c4 ((zA H4).alloc _) vl ji).mono ?_;rintro e w' ⟨rfl,rfl⟩;go_wp2_with fail;go_ret;exact⟨rfl,bA⟩
end
section
theorem z8o (p:Int->Bool)(s:B8)(i:Nat):∀ j,i<=j->j<skip p s i->∃ h:j<s.size,p s[j].toNat=true:=by
 fun_induction skip p s i with
 | case1 i h hp ih=>
  intro j hj aH;rcases Nat.eq_or_lt_of_le hj with rfl | hj
  ·exact⟨h,hp⟩
  ·exact ih j hj aH
 | case2 i h hp=>intro j hj aH;omega
 | case3 i h=>intro j hj aH;omega
structure lO (x:B8):Prop where
 ne:0<x.size
 le:x.size<=8
 no:∀ c∈x.data.toList,c≠40/\c≠41/\c≠44
variable {s:B8}
theorem zpc {a b:Nat}(hb:b<=s.size){c:UInt8}(h:c∈(s.extract a b).data.toList):∃ (j:Nat) (hj:j<s.size),a<=j/\j<b/\s[j]=c:=by
 rw[Array.mem_toList_iff,Array.mem_iff_getElem] at h;obtain⟨i,hi,rfl⟩:=h;have bj:(s.extract a b).size=b-a:=by rw[ByteArray.size_extract];omega
 have ve:i<(s.extract a b).size:=hi;refine⟨a+i,by omega,by omega,by omega,?_⟩;have:=ByteArray.getElem_extract ve;rw[<-this];rfl
theorem z5z {p:Int->Bool}{k:Nat}(hp:∀ c:UInt8,p c.toNat=true->c≠40/\c≠41/\c≠44)(hk:k<=s.size)(h:k<skip p s k)(h8:skip p s k-k<=8):lO (s.extract k (skip p s k)):=by
 have hle:=zcz p s k hk;refine⟨?_,?_,λ c hc=>?_⟩
 ·rw[ByteArray.size_extract];omega
 ·rw[ByteArray.size_extract];omega
 ·obtain⟨j,hj,h1,h2,rfl⟩:=zpc hle hc;obtain⟨_,h3⟩:=z8o p s k j h1 h2;exact hp _ h3
theorem ydj (c:UInt8)(h:xL c.toNat=true):c≠40/\c≠41/\c≠44:=by
 refine⟨?_,?_,?_⟩ <;> (rintro rfl;revert h;decide)
theorem ya8 (c:UInt8)(h:yF c.toNat=true):c≠40/\c≠41/\c≠44:=by
 refine⟨?_,?_,?_⟩ <;> (rintro rfl;revert h;decide)
variable {p:Nat}
theorem z83 (h:(tok s p).kind=110\/(tok s p).kind=118):lO (tok s p).text:=by
 revert h
 unfold tok;generalize skip zO s p=k;unfold zhq;intro h
 by_cases c0:s.size<=k
 ·rw[if_pos c0] at h;rcases h with h | h <;> cases h
 rw[if_neg c0] at h ⊢
 by_cases c1:k<skip xL s k
 ·rw[if_pos c1] at h ⊢
  by_cases c2:(s.extract k (skip xL s k)).toList=[110,111,116]
  ·rw[if_pos c2] at h;rcases h with h | h <;> cases h
  rw[if_neg c2] at h ⊢
  by_cases c3:skip xL s k-k<=8
  ·rw[if_pos c3];exact z5z ydj (by omega) c1 c3
  ·rw[if_neg c3] at h;rcases h with h | h <;> cases h
 rw[if_neg c1] at h ⊢
 by_cases c4:k<skip yF s k
 ·rw[if_pos c4] at h ⊢
  by_cases c3:skip yF s k-k<=8
  ·rw[if_pos c3];exact z5z ya8 (by omega) c4 c3
  ·rw[if_neg c3] at h;rcases h with h | h <;> cases h
 rw[if_neg c4] at h ⊢
 by_cases c5:xA s k=0
 ·rw[if_pos c5] at h;rcases h with h | h <;> cases h
 rw[if_neg c5] at h
 by_cases c6:xA s k=2
 ·rw[if_pos c6] at h;rcases h with h | h <;> cases h
 ·rw[if_neg c6] at h;rcases h with h | h <;> cases h
theorem zjf (h:(zF s p).1=2\/(zF s p).1=3):lO (xQ s p):=by
 by_cases hp:p<=s.size
 ·have K:=zfh s p hp;rw[K.k2,K.k3] at h;rw[K.word h];exact z83 h
 ·exfalso
  have e:skip zO s p=p:=jJ _ _ _ (by omega);have z:(s.extract p s.size).size=0:=by rw[ByteArray.size_extract];omega
  have:(zF s p).1=0:=by unfold zF;rw[e];simp only;unfold oi;rw[dif_neg (by omega)]
  omega
structure zkq (pd:B8)(ts:List (Bool × B8)):Prop where
 pd:lO pd
 eJ:ts.length<=4
 ts:∀ t∈ts,lO t.2
theorem zux (s:B8)(f:Nat):∀ {p:Nat} {l:List (Bool × B8)} {pl:Nat->Nat},(∀ t∈l,lO t.2)->∀ t∈(yB s f p l pl).2.2.1,lO t.2:=by
 induction f with
 | zero=>intro p l pl h;exact h
 | succ f ih=>
  intro p l pl h;rw[yB]
  split
  ·rename_i hk;have h':∀ t∈l++[((zF s p).1==3,xQ s p)],lO t.2:=λ t ht=>by
    rcases List.mem_append.1 ht with ht | ht
    ·exact h t ht
    ·rw[List.mem_singleton.1 ht];exact zjf hk
   split
   ·exact ih h'
   ·exact h'
  ·exact h
theorem Mk {q:Nat}{pd:B8}{ts:List (Bool × B8)}{pl:Nat->Nat}(h:vD s p=.yes q pd ts pl):zkq pd ts:=by
 have h4:=(zkm h).2;unfold vD at h
 by_cases c1:(zF s p).1=2
 ·rw[if_pos c1] at h
  by_cases c2:(zF s (zF s p).2.2).1=5
  ·rw[if_pos c2] at h
   by_cases c3:(yB s 4 (zF s (zF s p).2.2).2.2 [] (λ _=>0)).1=true
   ·rw[if_pos c3] at h;injection h with h1 h2 h3 h4
    subst h2 h3;exact⟨zjf (.inl c1),h4,zux s 4 (by simp)⟩
   ·rw[if_neg c3] at h;cases h
  ·rw[if_neg c2] at h;injection h with h1 h2 h3 h4
   subst h2 h3;exact⟨zjf (.inl c1),h4,by simp⟩
 ·rw[if_neg c1] at h;cases h
def z6h (R:vY):Prop:=zkq R.pd R.ts/\∀ l∈R.body,zkq l.pd l.ts
theorem zy5 (s:B8)(num f:Nat):∀ {p:Nat} {l:List vK} {ms:List xU},(∀ x∈l,zkq x.pd x.ts)->∀ x∈(jG s num f p l ms).2.2.1,zkq x.pd x.ts:=by
 induction f with
 | zero=>intro p l ms hl;exact hl
 | succ f ih=>
  intro p l ms hl;rw[jG]
  cases hr:vD s (yM s p 4) with
  | no q=>exact hl
  | yes q pd ts pl=>
   have nU:∀ x∈l++[uH s p pd ts],zkq x.pd x.ts:=λ x hx=>by
    rcases List.mem_append.1 hx with hx | hx
    ·exact hl x hx
    ·simp at hx;subst hx;exact Mk hr
   simp only
   split
   ·exact ih (p:=(zF s q).2.2) nU
   ·exact nU
theorem zy7 (s:B8)(num p:Nat)(ms:List xU)(h:(vG s num p ms).1=true):z6h (vG s num p ms).2.2.1:=by
 unfold vG at h ⊢
 cases hr:vD s p with
 | no q=>rw[hr] at h;cases h
 | yes q pd ts pl=>
  rw[hr] at h;simp only at h ⊢
  split
  ·exact⟨Mk hr,by simp⟩
  ·split
   ·exact⟨Mk hr,zy5 s num 3 (p:=(zF s q).2.2) (l:=[]) (by simp)⟩
   ·exact⟨Mk hr,by simp⟩
theorem zuv (s:B8)(f:Nat):∀ {p:Nat} {rs:List vY} {ms:List xU},(∀ R∈rs,z6h R)->∀ R∈(jW s f p rs ms).2.2.1,z6h R:=by
 induction f with
 | zero=>intro p rs ms hr;exact hr
 | succ f ih=>
  intro p rs ms hr;rw[jW]
  split
  ·exact hr
  ·split
   ·exact hr
   ·split
    ·rename_i hy;refine ih (λ R hR=>?_);rcases List.mem_append.1 hR with hR | hR
     ·exact hr R hR
     ·simp at hR;subst hR;exact zy7 s _ _ _ hy
    ·exact hr
theorem zjv (s:B8):∀ R∈(yL s).2.2.1,z6h R:=zuv s 31 (by simp)
end
section
open Go.RowKit Go.Maps
def zc2 (S:B8->Nat)(s:Nat)(r:PR):Bool:=S r.R.pd==s
structure EV (w:W8)(base:Nat)(rv:Value)(rs:List PR)(tb n:Nat)(ps:P9)(S:B8->Nat)(l:List PR)(v:Value)(wr:W8):Prop where
 row:wr.ownsRow w.heap.size 123 3 v l.length (l.flatMap PR.cells)
 below:Below w.heap.size w wr
variable {wr w:W8} {v rv:Value} {l rs:List PR} {S:B8->Nat} {ps:P9} {tb n base:Nat}
theorem EV.alloc (h:EV w base rv rs tb n ps S l v wr)(o:Obj):EV w base rv rs tb n ps S l v (wr.alloc o):=⟨h.row.alloc o,h.below.alloc h.below.size _⟩
theorem EV.append {v':Value}{w5:W8}(h:EV w base rv rs tb n ps S l v wr){r:PR}(ay:w5.ownsRow w.heap.size 123 3 v' (l.length+1) (l.flatMap PR.cells++r.cells))(hg:wr.grownBy w5 v.ownBlock):EV w base rv rs tb n ps S (l++[r]) v' w5:=by
 have hs:=h.below.size;have hb:∀ g,g<w.heap.size->w5.heap[g]?=wr.heap[g]?:=λ g nE=>hg.block g (by omega) (λ e=>by have:=(h.row.lt g e.symm).1;omega)
 refine⟨?_,h.below.trans ⟨hg.os,hg.tape,hg.output,hg.size,hb⟩⟩;simpa using ay
def ycz (w:W8)(base:Nat)(rs:List PR)(S:B8->Nat)(s:Nat)(en:Ending)(w':W8):Prop:=
 ∃ a c,en=.returned (.slice a (rs.filter (zc2 S s)).length c)/\Below w.heap.size w w'/\iq w' base (.slice a (rs.filter (zc2 S s)).length c) (rs.filter (zc2 S s))
theorem z3w (w:W8)(base:Nat)(ar:O8)(cr:Nat)(rs:List PR)(tb n:Nat)(ps:P9)(S:B8->Nat)(s:Nat)(h:iq w base (.slice ar rs.length cr) rs)(hb:base<=w.heap.size)(ht:dE Tryz.prog 9 w tb n (stV ps S))(hl:rs.length<=1000)(jk:∀ r∈rs,r.R.pd.size<=800/\(yX ps r.R.pd).isSome=true):
  Calls Tryz.prog 61 #[.slice ar rs.length cr,.map (some tb),.int .i64 (s:Nat)] w (ycz w base rs S s):=by
 obtain⟨i0,hi,bL,aY,bg⟩:=info_parts zrl;have H:=zC h;have HT:=zC ht;have Jn:=zC jk;have h0:EV w base (.slice ar rs.length cr) rs tb n ps S [] (.slice none 0 0) w:=⟨World.ownsRow_nil _ _ _ _,Below.refl _ _⟩;have H0:=zC h0;have rk:=ht.lt;clear h ht jk h0;have KI:=zpd;go_enter Tryz.func61,Tryz.ntmps61;go_wp2_with fail
 go_loopg [7,12] rs.length (λ gg v i wr=>∃ k:Nat,k<=rs.length/\gg=rs.length-k/\i=.int .i64 k/\EV w base (.slice ar rs.length cr) rs tb n ps S ((rs.take k).filter (zc2 S s)) v wr)
 exact⟨0,Nat.zero_le _,rfl,rfl,zA H0⟩
 case round=>
  clear H0;obtain⟨k,hk,eD,rfl,hinv⟩:=hrel;obtain⟨a1,ei,rfl⟩:=zD hinv.row
  by_cases aF:k<rs.length
  ·obtain⟨r,ny⟩:∃ r,r=rs[k]:=⟨_,rfl⟩;have cg:r∈rs:=(by rw[ny];exact List.getElem_mem aF);have ax:=(zA H).each r cg;obtain⟨ah,ch,sJ⟩:=zD ax.hd;obtain⟨ab,cb,sI⟩:=zD ax.bo.row;obtain⟨g,cap,hv,iF,aZ,bO,bQ,hc⟩:=vX zut (zA H).row k aF;injection hv with h1 h2 h3
   subst h1 h3;have eo:=hinv.below;have e0:wr.cell? ⟨g,k*3,none⟩=some (.string r.R.pd):=(by rw[ny];exact (eo.cell (p:=⟨g,k*3,none⟩) aZ).trans (hc 0 (by omega)));have e1:wr.cell? ⟨g,k*3+1,none⟩=some (.slice ah r.R.ts.length ch):=(by rw[<-sJ,ny];exact (eo.cell (p:=⟨g,k*3+1,none⟩) aZ).trans (hc 1 (by omega)));have e2:wr.cell? ⟨g,k*3+2,none⟩=some (.slice ab r.bs.length cb):=(by rw[<-sI,ny];exact (eo.cell (p:=⟨g,k*3+2,none⟩) aZ).trans (hc 2 (by omega)));have nu:(k:Int)<rs.length:=(by omega);have hI:=hinv.alloc (.cells #[.string r.R.pd,.slice ah r.R.ts.length ch,.slice ab r.bs.length cb] 123);have Ce:dE Tryz.prog 9 (wr.alloc (.cells #[.string r.R.pd,.slice ah r.R.ts.length ch,.slice ab r.bs.length cb] 123)) tb n (stV ps S):=(zA HT).block (hI.below.block tb rk);obtain⟨ft,pF⟩:=zA Jn r cg;have dF:r.R.pd.size<=maxLen:=(by unfold maxLen;omega);obtain⟨m,hm⟩:=Option.isSome_iff_exists.1 pF;have hu:(stV ps S r.R.pd).getD (.agg #[.string { data:=#[] },.int .i64 0,.int .i64 0])=.agg #[.string r.R.pd,.int .i64 (S r.R.pd),.int .i64 m]:=(by unfold stV;rw[hm];rfl);have ko:((rs.take k).filter (zc2 S s)).length<=1000:=Nat.le_trans (List.length_filter_le _ _) (by simp;omega);have Nv:r=⟨r.R,.slice ah r.R.ts.length ch,r.bs,.slice ab r.bs.length cb⟩:=(by rw[<-sJ,<-sI]);have W0:=zC Nv;have oy:=zC (zhp (f:=zc2 S s) aF);have wZ:=zC ny;have AV:=hinv.below.size;clear hc hinv ax ny cg eo h2 pF hm sJ sI Nv
   cases hq:zc2 S s r with
   | true=>
    have QO:(S r.R.pd:Int)=s:=(by have:S r.R.pd=s:=(by simpa[zc2] using hq);omega);have HQ:=zC hq;have bH:=(hI.alloc (.cells #[.string r.R.pd,.slice ah r.R.ts.length ch,.slice ab r.bs.length cb] 123)).row;have HI:=zC (hI.alloc (.cells #[.string r.R.pd,.slice ah r.R.ts.length ch,.slice ab r.bs.length cb] 123));clear hI hq
    go_wp2_with (first
     | (at_lookup;refine zfw _ rfl _ _ 73 rfl 9 185 Tryz.underlying9 Tryz.underlying73 (Tryz.zeroValue185 _) tb n (stV ps S) rfl Ce r.R.pd rfl dF _ hu ?_)
     | (at_builtin;refine wpList_append_own _ rfl _ _ 75 rfl w.heap.size 123 i0 _ 3 64 Tryz.underlying75 hi bL aY bg rfl (by decide) _ _ _ rfl bH ⟨wr.heap.size+1,0,none⟩ 1 1 (PR.mk r.R (.slice ah r.R.ts.length ch) r.bs (.slice ab r.bs.length cb)).cells rfl rfl (z4j wr _ (PR.mk r.R (.slice ah r.R.ts.length ch) r.bs (.slice ab r.bs.length cb))) (z9z _ _ _ _ _ _ _ _) (by unfold maxLen;omega) (by omega) (by simp;omega) ?_;intro v5 w5 aq aU hne5;clear hne5;obtain⟨a5,eH,rfl⟩:=zD aq;have ym:=zC ((zA HI).append aq aU);clear aq aU))
    go_roundg (rs.length-(k+1))
    case measure=>omega
    case rel=>
     refine⟨k+1,by omega,rfl,by go_num,?_⟩;rw[zA oy,<-zA wZ,zA HQ,if_pos rfl,zA W0];exact zA ym
   | false=>
    have QO:¬ ((S r.R.pd:Int)=s):=(by have:S r.R.pd≠s:=(by simpa[zc2] using hq);omega);have HQ:=zC hq;have HI:=zC hI;clear hI hq;go_wp2_with (at_lookup;refine zfw _ rfl _ _ 73 rfl 9 185 Tryz.underlying9 Tryz.underlying73 (Tryz.zeroValue185 _) tb n (stV ps S) rfl Ce r.R.pd rfl dF _ hu ?_);go_roundg (rs.length-(k+1))
    case measure=>omega
    case rel=>
     refine⟨k+1,by omega,rfl,by go_num,?_⟩;rw[zA oy,<-zA wZ,zA HQ,if_neg (by decide),List.append_nil];exact zA HI
  ·have e:(rs.take k).filter (zc2 S s)=rs.filter (zc2 S s):=(by rw[List.take_of_length_le (by omega)]);rw[e] at hinv ⊢;have HI:=zC hinv;clear hinv;go_wp2_with fail;go_ret;have hI:=zA HI
   exact⟨_,_,rfl,hI.below,⟨zG hI.row hb,λ r hr=>by
    have ax:=(zA H).each r (List.mem_filter.1 hr).1
    exact⟨zJ ax.hd hI.below (λ g e=>(ax.hd.lt g e).2),ax.bo.below hI.below,ax.eq⟩⟩⟩
end
section
open Go.RowKit Go.Maps
structure ycx (w:W8)(tb n:Nat)(ps:P9)(S:B8->Nat)(Lf:B8->Prop)(m eC:Nat)(wr:W8):Prop where
 rg:Hm Tryz.prog 9 wr tb w.heap.size n (stV ps S) Lf eC
 lo:∀ k,(stV ps S k).isSome=true->¬ Lf k->S k+1<=m
 hi:m=0\/∃ k,(stV ps S k).isSome=true/\m=S k+1
 k:Below w.heap.size w wr
def ze6 (ps:P9)(S:B8->Nat)(m:Nat):Prop:=(∀ k,(yX ps k).isSome=true->S k+1<=m)/\(m=0\/∃ k,(yX ps k).isSome=true/\m=S k+1)
theorem N0 (ps:P9)(S:B8->Nat)(k:B8):(stV ps S k).isSome=(yX ps k).isSome:=by unfold stV;cases yX ps k <;> rfl
theorem z1v (w:W8)(tb n:Nat)(ps:P9)(S:B8->Nat)(h:dE Tryz.prog 9 w tb n (stV ps S))(hS:∀ k,(yX ps k).isSome=true->S k<=1000000):
  Calls Tryz.prog 59 #[.map (some tb)] w λ en w'=>∃ m:Nat,en=.returned (.int .i64 (m:Nat))/\ze6 ps S m/\Below w.heap.size w w':=by
 have HS:=zC hS;have rk:=h.lt;clear hS;go_enter Tryz.func59,Tryz.ntmps59;go_wp2_with (first | (at_range;refine z87 _ rfl _ 73 rfl 9 185 Tryz.underlying9 Tryz.underlying73 tb n (stV ps S) rfl h ?_;intro w0 cnt0 hrg0 M7 xi ri) | go_in)
 try go_frame
 have h0:ycx w tb n ps S (λ k=>(stV ps S k).isSome=true) 0 cnt0 w0:=⟨hrg0,λ k h1 h2=>absurd h1 h2,.inl rfl,⟨xi.os,xi.tape,xi.output,by omega,λ j hj=>xi.block j hj (by simp)⟩⟩;have H0:=zC h0;clear hrg0 M7 xi ri h h0
 go_loopg [3] cnt0 (λ gg c wr=>∃ (m:Nat) (Lf:B8->Prop),c=.int .i64 (m:Nat)/\ycx w tb n ps S Lf m gg wr)
 exact⟨0,_,rfl,zA H0⟩
 case round=>
  clear H0;obtain⟨m,Lf,rfl,ax⟩:=hrel;have oL:=ax.rg;have bT:=zC ax;clear ax;go_wp2_with (first | (at_next;refine yco _ rfl _ rfl 9 Tryz.underlying9 tb w.heap.size n (stV ps S) _ gk (λ k=>.agg #[.string k,.int .i64 (S k),.int .i64 ((yX ps k).getD 0:Nat)]) (z8q ps S) rfl oL ?_ ?_) | go_in)
  ·intro dj;have HD:=zC dj;clear dj oL;go_wp2_with fail;go_ret;have ax:=zA bT;exact⟨m,rfl,⟨λ k hk=>ax.lo k (by rw[N0];exact hk) (zA HD k),ax.hi.imp id λ ⟨k,h1,h2⟩=>⟨k,by rw[<-N0 ps S];exact h1,h2⟩⟩,ax.k⟩
  ·intro k w1 cnt1 im hVk hrg1 aH jg sg xh;have mi:(stV ps S k).isSome=true:=(by rw[hVk];rfl);have Da:=zA HS k (by rw[<-N0 ps S];exact mi);have wY:=zC hrg1;have VR:=zC jg;have WH:=zC mi;have HV1:=zC im;have ax:=zA bT;have dY:=ax.k.size;clear sg oL hrg1 jg hVk mi ax im;have gR:m<=1000001:=by
    rcases (zA bT).hi with h | ⟨j,hj,h⟩
    ·omega
    ·have:=zA HS j (by rw[<-N0 ps S];exact hj);omega
   go_wp2_with fail;go_roundg cnt1
   case measure=>omega
   case rel=>
    have ax:=zA bT;have g1:=zA VR;have b1:Below w.heap.size w w1:=⟨g1.os.trans ax.k.os,g1.tape.trans ax.k.tape,g1.output.trans ax.k.output,Nat.le_trans ax.k.size g1.size,λ i hi=>(g1.block i (by omega) (by simp;omega)).trans (ax.k.block i hi)⟩;refine⟨max m (S k+1),_,by congr 1;omega,(zA wY).alloc _,λ x hx hn=>?_,?_,b1.alloc b1.size _⟩
    ·by_cases e:x=k
     ·subst e;omega
     ·have:=ax.lo x hx (λ h=>hn ⟨h,e⟩);omega
    ·rcases Nat.le_total m (S k+1) with h | h
     ·right;exact⟨k,zA WH,by omega⟩
     ·rw[Nat.max_eq_left h];exact ax.hi
end
section
open Go.RowKit Go.Maps
inductive zdx (rs:List PR)(S:B8->Nat)(limit count:Nat):Nat->List (Th × Nat)->Option (List (Th × Nat))->Prop
 | ends {s:Nat} {K:List (Th × Nat)}:count<=s->zdx rs S limit count s K (some K)
 | gX {s:Nat} {K:List (Th × Nat)}:s<count->zgn (rs.filter (zc2 S s)) limit 1 K none->zdx rs S limit count s K none
 | next {s:Nat} {K K':List (Th × Nat)} {r:Option (List (Th × Nat))}:s<count->zgn (rs.filter (zc2 S s)) limit 1 K (some K')->zdx rs S limit count (s+1) K' r->zdx rs S limit count s K r
theorem DP.filter {rs:List PR}{TI:Th->Prop}(h:DP rs TI)(f:PR->Bool):DP (rs.filter f) TI:=λ K hK r hr=>h K hK r (List.mem_filter.1 hr).1
structure z9b (w:W8)(kb:Nat)(rs:List PR)(S:B8->Nat)(limit count:Nat)(TI:Th->Prop)(s:Nat)(K:List (Th × Nat))(wr:W8):Prop where
 m:qR wr kb K
 ti:∀ p∈K,TI p.1
 len:K.length<=limit
 k:Below w.heap.size w wr
 rel:∀ r,zdx rs S limit count s K r->zdx rs S limit count 0 [] r
def z6a (w:W8)(rs:List PR)(ps:P9)(S:B8->Nat)(limit:Nat)(TI:Th->Prop)(en:Ending)(w':W8):Prop:=
 ∃ m r,ze6 ps S m/\zdx rs S limit m 0 [] r/\Below w.heap.size w w'/\(r=none->en=.returned (.tuple #[.map none,.bool false])) /\
  ∀ K,r=some K->∃ kb,en=.returned (.tuple #[.map (some kb),.bool true])/\w.heap.size<=kb/\qR w' kb K/\K.length<=limit/\∀ p∈K,TI p.1
theorem z64 (w:W8)(base:Nat)(ar:O8)(cr:Nat)(rs:List PR)(tb n:Nat)(ps:P9)(S:B8->Nat)(limit:Nat)(TI:Th->Prop)(h:iq w base (.slice ar rs.length cr) rs)(hb:base<=w.heap.size)(ht:dE Tryz.prog 9 w tb n (stV ps S))(hS:∀ k,(yX ps k).isSome=true->S k<=1000000)(nH:rs.length<=1000)(jk:∀ r∈rs,r.R.pd.size<=800/\(yX ps r.R.pd).isSome=true)(nT:DP rs TI)(hl:limit<=50):
  Calls Tryz.prog 38 #[.slice ar rs.length cr,.map (some tb),.int .i64 (limit:Nat)] w (z6a w rs ps S limit TI):=by
 have H:=zC h;have HT:=zC ht;have Jn:=zC jk;have Hq:=zC nT;have rk:=ht.lt;have k0:Below w.heap.size w (w.alloc (.map #[] 0)):=B9.alloc L9 _;have HC:=zC (z1v (w.alloc (.map #[] 0)) tb n ps S (ht.block (k0.block tb rk)) hS);have dr:=zC k0;have nx:=@run_makeMap Tryz.prog;have Hw:=zC hS;clear h ht jk nT hS k0;go_enter Tryz.func38,Tryz.ntmps38;go_wp2_with (go_at_call 59;refine (zA HC).mono ?_;rintro en w1 ⟨m,rfl,lL,aL⟩;have pw:=zC lL;have fN:=zC aL;clear lL aL);have Kt:Below w.heap.size w w1:=(zA dr).trans ((zA fN).mono (by simp));have dH:qR w1 w.heap.size []:=(qR.made w).block ((zA fN).block _ (by simp));have H0:=zC (show z9b w w.heap.size rs S limit m TI 0 [] w1 from ⟨dH,by simp,by simp,Kt,λ _ h=>h⟩);have gR:m<=1000001:=by
  rcases (zA pw).2 with h | ⟨j,hj,h⟩
  ·omega
  ·have:=zA Hw j hj;omega
 clear Kt dH nx
 go_loopg [13] m (λ gg i wr=>∃ (s:Nat) (K:List (Th × Nat)),s<=m/\gg=m-s/\i=.int .i64 (s:Nat)/\z9b w w.heap.size rs S limit m TI s K wr)
 exact⟨0,[],Nat.zero_le _,rfl,rfl,zA H0⟩
 case round=>
  clear H0;obtain⟨s,K,hs,eD,rfl,ax⟩:=hrel;have bT:=zC ax;clear ax
  by_cases aF:s<m
  ·have ax:=zA bT;have Ur:(s:Int)<m:=(by omega);have aB:iq wr base (.slice ar rs.length cr) rs:=⟨zJ (zA H).row ax.k (λ g e=>((zA H).row.lt g e).2),λ r hr=>⟨zJ ((zA H).each r hr).hd ax.k (λ g e=>(((zA H).each r hr).hd.lt g e).2),((zA H).each r hr).bo.below ax.k,((zA H).each r hr).eq⟩⟩;have HO:=zC (z3w wr base ar cr rs tb n ps S s aB (Nat.le_trans hb ax.k.size) ((zA HT).block (ax.k.block tb rk)) nH (zA Jn));have HM:=zC ax.m;have I6:=zC (λ (w2:W8) (a:O8) (c:Nat) (aK:Below wr.heap.size wr w2) (ik:iq w2 base (.slice a (rs.filter (zc2 S s)).length c) (rs.filter (zc2 S s)))=>z1q w2 w.heap.size base a c (rs.filter (zc2 S s)) limit TI K ((zA bT).m.block (aK.block _ (zA bT).m.lt)) ik ((zA Hq).filter _) (zA bT).ti (zA bT).len hl);clear ax aB;go_wp2_with fail;refine (zA HO).mono ?_;rintro en w2 ⟨a2,c2,rfl,aK,ik⟩;have Mr:=zC (zA I6 w2 a2 c2 aK ik);have ir:=zC aK;clear aK ik I6;go_wp2_with fail;refine (zA Mr).mono ?_;rintro en w3 ⟨r,QJ,rfl,eE,Td⟩;have Je:=zC eE;have MF:=zC QJ;have VV:=zC Td;have cI:Below w.heap.size w w3:=by
    have ax:=zA bT;have aK:=zA ir;have h2:Below w.heap.size w w2:=ax.k.trans (aK.mono ax.k.size);exact⟨eE.os.trans h2.os,eE.tape.trans h2.tape,eE.output.trans h2.output,Nat.le_trans h2.size eE.size,λ i hi=>(eE.block i (by have:=h2.size;omega) (by simp;omega)).trans (h2.block i hi)⟩
   have yg:=zC cI;clear eE QJ Td cI
   cases hr:r with
   | none=>
    rw[hr] at MF;go_wp2_with fail
    go_ret2
    exact⟨m,none,zA pw,(zA bT).rel _ (.gX aF (zA MF)),zA yg,λ _=>rfl,λ K e=>by cases e⟩
   | some K'=>
    obtain⟨fq,vq,mf⟩:=zA VV K' hr;rw[hr] at MF;have yn:=zC fq;have Jt:=zC vq;clear fq vq;go_wp2_with fail;go_roundg (m-(s+1));exact⟨s+1,K',by omega,rfl,by go_num,zA yn,zA Jt,mf,zA yg,λ r h=>(zA bT).rel r (.next aF (zA MF) h)⟩;omega
  ·go_wp2_with fail
   go_ret2
   have ax:=zA bT;exact⟨m,some K,zA pw,ax.rel _ (.ends (by omega)),ax.k,(λ e=>by cases e),λ K2 e=>by cases e;exact⟨_,rfl,Nat.le_refl _,ax.m,ax.len,ax.ti⟩⟩
end
section
open Go.RowKit Go.Maps
def zil (ps:P9)(A:jZ):Bool:=match yX ps A.p with
 | some n=>decide (n=A.ts.length)
 | none=>true
theorem z45 (w:W8)(tb n:Nat)(ps:P9)(S:B8->Nat)(A:jZ)(a:O8)(c:Nat)(h:dE Tryz.prog 9 w tb n (stV ps S))(hp:A.p.size<=maxLen):
  Calls Tryz.prog 58 #[.map (some tb),.agg #[.string A.p,.slice a A.ts.length c]] w λ en w'=>en=.returned (.bool (zil ps A))/\Below w.heap.size w w':=by
 have k0:Below w.heap.size w (w.alloc (.cells #[.string A.p,.slice a A.ts.length c] 79)):=B9.alloc L9 _;have hm:=h.block (k0.block tb h.lt);have HK:=zC k0;clear h
 cases hn:yX ps A.p with
 | none=>
  have HS:=zC (show zil ps A=true by unfold zil;rw[hn]);have hu:(stV ps S A.p).getD (.agg #[.string { data:=#[] },.int .i64 0,.int .i64 0])=.agg #[.string { data:=#[] },.int .i64 0,.int .i64 0]:=by unfold stV;rw[hn];rfl
  have hc:(stV ps S A.p).isSome=false:=by unfold stV;rw[hn];rfl
  clear k0;go_enter Tryz.func58,Tryz.ntmps58;go_wp2_with (at_lookup;refine qC _ rfl _ _ 73 rfl 9 185 Tryz.underlying9 Tryz.underlying73 (Tryz.zeroValue185 _) tb n (stV ps S) rfl hm A.p rfl hp _ hu _ hc ?_);go_ret;exact⟨by rw[zA HS];rfl,(zA HK).alloc (zA HK).size _⟩
 | some m=>
  have hu:(stV ps S A.p).getD (.agg #[.string { data:=#[] },.int .i64 0,.int .i64 0])=.agg #[.string A.p,.int .i64 (S A.p),.int .i64 m]:=by unfold stV;rw[hn];rfl
  have hc:(stV ps S A.p).isSome=true:=by unfold stV;rw[hn];rfl
  have HS:=zC (show zil ps A=((m:Int)==(A.ts.length:Int)) by
   unfold zil;rw[hn]
   by_cases e:m=A.ts.length
   ·subst e;simp
   ·have:¬ ((m:Int)=A.ts.length):=by omega
    simp[e,this])
  clear k0;go_enter Tryz.func58,Tryz.ntmps58;go_wp2_with (at_lookup;refine qC _ rfl _ _ 73 rfl 9 185 Tryz.underlying9 Tryz.underlying73 (Tryz.zeroValue185 _) tb n (stV ps S) rfl hm A.p rfl hp _ hu _ hc ?_);go_ret;exact⟨by rw[zA HS];rfl,(zA HK).alloc (zA HK).size _⟩
def uG (l:Int):Bool:=decide (1<=l)&&decide (l<=50)
theorem z3l (w:W8)(l:Int):Calls Tryz.prog 34 #[.int .i64 l] w λ en w'=>en=.returned (.bool (uG l))/\w'=w:=by
 by_cases h1:1<=l
 ·go_enter Tryz.func34,Tryz.ntmps34;go_wp2_with fail;go_ret;exact⟨by unfold uG;simp[h1],rfl⟩
 ·go_enter Tryz.func34,Tryz.ntmps34;go_wp2_with fail;go_ret;exact⟨by (unfold uG;simp;omega),rfl⟩
end
end Go.Proofs.YtldkpahaocjdpaaGreat
