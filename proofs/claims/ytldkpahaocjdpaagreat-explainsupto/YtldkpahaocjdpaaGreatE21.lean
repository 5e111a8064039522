/-
  The law's load: one Load of the program and one of the document's answer, side by side: always true; the list of programs grows by one where the text is taken.
-/
import Derived.Test.YtldkpahaocjdpaaGreatE20
import Derived.Lib.Builder
import Derived.Lib.AppendStr
import Derived.Lib.UnsafeStr
import Derived.Laws.Externs
import Derived.OwnWalk
import Derived.Lib.Hide
set_option maxHeartbeats 16000000
set_option maxRecDepth 1000000
namespace Go.Proofs.YtldkpahaocjdpaaGreat
section
open Go.RowKit
theorem z7a:(Tryz.prog.info? 112).map (λ i=>(i.zero,i.size,i.bytes))=some (some (.agg #[.pointer none,.pointer none,.string { data:=#[] }]),3,32):=by kernel_rfl
end
section
open Go.RowKit Go.Maps
variable {rs:List zS} {ps:P9}
theorem ztc {f:Nat->Nat}(h:zef ps rs f):zd0 (rs.map yO) (λ k=>f (qJ ps k)):=by
 intro R hR l hl;obtain⟨Q,hQ,rfl⟩:=List.mem_map.1 hR;obtain⟨A,hA,rfl⟩:=List.mem_map.1 hl;exact h Q hQ A hA
theorem zxl {g:B8->Nat}(h:zd0 (rs.map yO) g)(aS:zgi ps (rs.flatMap zS.atoms)):zef ps rs (λ i=>g (ycu ps i)):=by
 intro R hR A hA;have h1:=h (yO R) (List.mem_map_of_mem hR) (lP A) (List.mem_map_of_mem hA);have a1:0<=zM ps R.head.pred:=aS _ (List.mem_flatMap.2 ⟨R,hR,List.mem_cons_self⟩);have a2:0<=zM ps A.pred:=aS _ (List.mem_flatMap.2 ⟨R,hR,List.mem_cons_of_mem _ hA⟩);unfold ziv;simp only[zps a1,zps a2];exact h1
theorem zs0 {Sn:B8->Nat}{Si:Nat->Nat}(aS:zgi ps (rs.flatMap zS.atoms))(hv:zef ps rs Si)(hl:Low ps rs Si)(Dt:zd0 (rs.map yO) Sn)(nG:z52 (rs.map yO) Sn)(k:B8)(hk:0<=zM ps k):Sn k=Si (qJ ps k):=by
 refine Nat.le_antisymm (nG _ (ztc hv) k) ?_;have:=hl _ (zxl Dt aS) (qJ ps k);simp only[zps hk] at this;exact this
def z6e (ps:P9):Prop:=(ps.map (·.1)).Nodup
theorem z9u {nm:B8}:∀ {l:P9} {k:Nat},xR nm l k<0->∀ p∈l,p.1≠nm
 | [],_,_,p,hp=>by cases hp
 | x::r,k,h,p,hp=>by
  rw[xR] at h
  split at h
  ·omega
  ·rename_i hx;rcases List.mem_cons.1 hp with rfl | hp
   ·exact λ e=>hx (xO.2 e)
   ·exact z9u h p hp
theorem z3y (h:z6e ps)(nm:B8)(n:Nat):z6e (qW ps nm n):=by
 unfold qW
 split
 ·rename_i hx;unfold z6e;rw[List.map_append,List.nodup_append];refine⟨h,by simp,λ a ha b hb e=>?_⟩;obtain⟨p,hp,rfl⟩:=List.mem_map.1 ha;simp at hb;exact z9u hx p hp (e.trans hb)
 ·exact h
theorem zoe:∀ (l ps:P9),z6e ps->z6e (iK l ps)
 | [],_,h=>h
 | x::r,_,h=>zoe r _ (z3y h x.1 x.2)
theorem z3x:∀ {ps:P9},z6e ps->∀ (i k:Nat) (hi:i<ps.length),xR ps[i].1 ps k=(k+i:Nat)
 | [],_,i,_,hi=>by simp at hi
 | x::r,h,i,k,hi=>by
  have hn:=List.nodup_cons.1 h;rw[xR]
  cases i with
  | zero=>rw[if_pos (by rw[List.getElem_cons_zero];exact xO.2 rfl)];simp
  | succ i=>
   have ve:i<r.length:=by simpa using hi
   have:¬ (x.1.toList==((x::r)[i+1]).1.toList)=true:=λ e=>hn.1 (List.mem_map.2 ⟨r[i],List.getElem_mem ve,by
    have:=xO.1 e;rw[List.getElem_cons_succ] at this
    exact this.symm⟩)
   rw[if_neg this,List.getElem_cons_succ,z3x hn.2 i (k+1) ve];omega
end
section
open Go.RowKit Go.Maps
theorem zob:∀ (l:List zL) (ps:P9),(yN l ps).1<0->zbh (l.map λ A=>(A.pred,A.ae.length)) ps/\(yN l ps).2=iK (l.map λ A=>(A.pred,A.ae.length)) ps
 | [],_,_=>⟨trivial,rfl⟩
 | A::r,ps,h=>by
  rw[yN] at h ⊢
  split at h
  ·rename_i hb;rw[if_pos hb];obtain⟨h1,h2⟩:=zob r _ h;exact⟨⟨hb,h1⟩,h2⟩
  ·exfalso;simp only at h;omega
theorem z38 (R:zS):jN (yO R)=R.atoms.map λ A=>(A.pred,A.ae.length):=by
 simp[jN,yO,zS.atoms,lP]
theorem zy3 (rs:List zS):(rs.map yO).flatMap jN=(rs.flatMap zS.atoms).map λ A=>(A.pred,A.ae.length):=by
 induction rs with
 | nil=>rfl
 | cons R r ih=>rw[List.map_cons,List.flatMap_cons,List.flatMap_cons,List.map_append,ih,z38]
theorem z3m (ps:P9)(nm:B8)(n:Nat):(qW ps nm n).length<=ps.length+1:=by
 unfold qW;split <;> simp
theorem zr0:∀ (l ps:P9),(iK l ps).length<=ps.length+l.length
 | [],_=>Nat.le_refl _
 | x::r,ps=>by
  have h1:=zr0 r (qW ps x.1 x.2);have h2:=z3m ps x.1 x.2;rw[iK,List.length_cons];omega
theorem zy9 (s:B8)(f:Nat):∀ {p:Nat} {rs:List vY} {ms:List xU},rs.length<=30->(jW s f p rs ms).2.2.1.length<=30:=by
 induction f with
 | zero=>intro p rs ms h;exact h
 | succ f ih=>
  intro p rs ms h;rw[jW]
  split
  ·exact h
  ·split
   ·exact h
   ·split
    ·refine ih ?_;rw[List.length_append,List.length_singleton];omega
    ·exact h
theorem zv9 {α β:Type}(f:α->List β)(c:Nat):∀ (l:List α),(∀ x∈l,(f x).length<=c)->(l.flatMap f).length<=c*l.length
 | [],_=>Nat.zero_le _
 | x::r,h=>by
  have h1:=h x List.mem_cons_self;have h2:=zv9 f c r λ y hy=>h y (List.mem_cons_of_mem _ hy)
  rw[List.flatMap_cons,List.length_append,List.length_cons,Nat.mul_add,Nat.mul_one];omega
structure RI (s:B8)(rs:List vY)(ps:P9):Prop where
 rules:rs=(yG s).1.map yO
 fH:ps=(zT s).2
 len:rs.length<=30
 body:∀ R∈rs,R.body.length<=3
 pd:∀ R∈rs,R.pd.size<=800
 UT:∀ R∈rs,∀ l∈R.body,l.pd.size<=800
 agree:zbh (rs.flatMap jN) []
 met:iK (rs.flatMap jN) []=ps
 eJ:ps.length<=120
 all:zgi ps ((yG s).1.flatMap zS.atoms)
 once:z6e ps
 some_:∃ f,zd0 rs f/\∀ k,f k<=1000
variable {s:B8}
theorem zha (h:(yY s).1=true):RI s (yL s).2.2.1 (zT s).2:=by
 unfold yY at h
 by_cases c0:800<s.size
 ·rw[if_pos c0] at h;cases h
 rw[if_neg c0] at h
 by_cases c1:0<=(yG s).2.2
 ·rw[if_pos c1] at h;cases h
 rw[if_neg c1] at h
 by_cases c2:0<=(zT s).1
 ·rw[if_pos c2] at h;cases h
 rw[if_neg c2] at h
 by_cases c3:0<=yT (yG s).1
 ·rw[if_pos c3] at h;cases h
 rw[if_neg c3] at h
 by_cases c4:0<=vN (zT s).2 (vI (zT s).2 (yG s).1) (yG s).1
 ·rw[if_pos c4] at h;cases h
 obtain⟨e1,e2⟩:=zig s;have hp:(yL s).1=true:=by
  cases hq:(yL s).1 with
  | true=>rfl
  | false=>exfalso;have:=e2 hq;omega
 obtain⟨_,er,_⟩:=e1 hp;obtain⟨o1,_⟩:=zog s (by omega) hp;have hlen:(yL s).2.2.1.length<=30:=zy9 s 31 (by simp);have aS:zgi (zT s).2 ((yG s).1.flatMap zS.atoms):=zeh _ c2;obtain⟨m1,m2⟩:=zob ((yG s).1.flatMap zS.atoms) [] (by unfold zT at c2;omega);have Lj:(yL s).2.2.1.flatMap jN=((yG s).1.flatMap zS.atoms).map λ A=>(A.pred,A.ae.length):=by rw[er,zy3]
 have Gk:iK ((yL s).2.2.1.flatMap jN) []=(zT s).2:=by rw[Lj];exact m2.symm
 have ko:=zv9 jN 4 (yL s).2.2.1 (λ R hR=>by have:=(o1 R hR).2.1;simp[jN];omega);have bh:=zr0 ((yL s).2.2.1.flatMap jN) [];rw[Gk] at bh;have kN:(zT s).2.length<=120:=by rw[List.length_nil] at bh;omega
 obtain⟨f,hf,me⟩:=zgz _ _ aS c4;exact⟨er,rfl,hlen,λ R hR=>(o1 R hR).2.1,λ R hR=>(o1 R hR).1,λ R hR=>(o1 R hR).2.2,by rw[Lj];exact m1,Gk,kN,aS,by rw[<-Gk];exact zoe _ [] List.nodup_nil,⟨λ k=>f (qJ (zT s).2 k),by rw[er];exact ztc hf,λ k=>Nat.le_trans (me (qJ (zT s).2 k)) (by omega)⟩⟩
theorem RI.named {rs:List vY}{ps:P9}(h:RI s rs ps):∀ R∈rs,(∃ n,yX ps R.pd=some n)/\∀ l∈R.body,∃ n,yX ps l.pd=some n:=by
 intro R hR;rw[h.rules] at hR;obtain⟨Q,hQ,rfl⟩:=List.mem_map.1 hR;refine⟨⟨_,(zod _ ps 0).2 (h.all _ (List.mem_flatMap.2 ⟨Q,hQ,List.mem_cons_self⟩))⟩,λ l hl=>?_⟩;obtain⟨A,hA,rfl⟩:=List.mem_map.1 hl;exact⟨_,(zod _ ps 0).2 (h.all _ (List.mem_flatMap.2 ⟨Q,hQ,List.mem_cons_of_mem _ hA⟩))⟩
end
section
open Go.RowKit
def Hn (C:List Nat)(w:W8)(F:W8->Nat->Prop):Prop:=∃ w0 lo,zK (List.range lo) w0 w/\(∀ c∈C,c<lo\/w0.heap.size<=c)/\F w0 lo
theorem Hn.step {C C' D:List Nat}{w w':W8}{F:W8->Nat->Prop}(h:Hn C w F)(k:zK D w w')(hD:∀ d∈D,d∈C\/w.heap.size<=d)(hC:∀ c∈C',c∈C\/w.heap.size<=c):Hn C' w' F:=by
 obtain⟨w0,lo,k0,h0,hF⟩:=h;have hs:=k0.size;refine⟨w0,lo,k0.step k (λ x hx=>?_),λ c hc=>?_,hF⟩
 ·rcases hD x hx with h | h
  ·rcases h0 x h with h | h
   ·exact .inl (List.mem_range.2 h)
   ·exact .inr h
  ·exact .inr (by omega)
 ·rcases hC c hc with h | h
  ·exact h0 c h
  ·exact .inr (by omega)
structure pt (s:B8)(xb yb:Nat)(w:W8)(lo:Nat):Prop where
 ok:(yY s).1=true
 x:∃ rs:List PR,wK w lo xb rs/\rs.map (·.R)=(yL s).2.2.1
 y:∃ (rs:List RR) (ps:P9) (rv pv tv:Value) (gs:Nat) (S:Nat->Nat),lo<=yb/\yb<gs/\znv w yb rs ps rv pv tv (.slice (some ⟨gs,0,none⟩) ps.length ps.length)/\ng w gs ps.length S/\zef ps (rs.map (·.R)) S/\Low ps (rs.map (·.R)) S/\rs.map (·.R)=(yG s).1/\ps=(zT s).2/\zgi ps ((yG s).1.flatMap zS.atoms)
variable {b:Nat} {w w':W8}
theorem wK.LY {lo:Nat}{rs:List PR}(h:wK w lo b rs)(k:zK (List.range lo) w w'):wK w' lo b rs:=by
 obtain⟨a,c,hb,Aq,hr⟩:=h;exact⟨a,c,yK hb k (λ x hx=>.inl (by have:=List.mem_range.1 hx;omega)),Aq,hr.bu k (λ x hx=>.inl (List.mem_range.1 hx))⟩
theorem ng.od {B:List Nat}{gs n:Nat}{S:Nat->Nat}(h:ng w gs n S)(k:zK B w w')(hB:gs∉B):ng w' gs n S:=
 ⟨Nat.lt_of_lt_of_le h.sz k.size,λ i hi=>(k.cell (p:=⟨gs,i,none⟩) h.sz hB).trans (h.cell i hi),λ j=>(k.frozen (p:=⟨gs,j,none⟩) h.sz hB).trans (h.fz j)⟩
theorem pt.kept {s:B8}{xb yb:Nat}{w w':W8}{lo:Nat}(h:pt s xb yb w lo)(k:zK (List.range lo) w w'):pt s xb yb w' lo:=by
 obtain⟨rs,hp,hr⟩:=h.x;obtain⟨Rt,ps,rv,pv,tv,gs,S,h1,h2,h3,h4,h5⟩:=h.y;exact⟨h.ok,⟨rs,hp.LY k,hr⟩,Rt,ps,rv,pv,tv,gs,S,h1,h2,mB.kept h3 k (λ x hx=>by have:=List.mem_range.1 hx;omega),h4.od k (λ hm=>by have:=List.mem_range.1 hm;omega),h5⟩
theorem Hn.Ia {C:List Nat}{s:B8}{xb yb:Nat}(h:Hn C w (pt s xb yb)):∃ lo,pt s xb yb w lo:=by
 obtain⟨w0,lo,k0,_,hF⟩:=h;exact⟨lo,hF.kept k0⟩
structure PE where
 x:Nat
 y:Nat
 s:B8
def PE.cells (p:PE):V8:=[.pointer (some ⟨p.x,0,none⟩),.pointer (some ⟨p.y,0,none⟩),.string p.s]
def iI (n:Nat):V8:=[.int .u8 (n%251:Nat)]
def mkT (n:Nat):V8:=[.string { data:=#[35,UInt8.ofNat n,UInt8.ofNat (n/256)] }]
structure LW (w:W8)(b:Nat)(bz bv tv sv:Value)(es:List PE)(mb mt ms:List MB):Prop where
 bp:w.heap[b]?=some (.cells #[bz,bv,tv,sv] 69 (0,0))
 row:w.ownsRow (b+1) 112 3 bz es.length (es.flatMap PE.cells)
 Ia:∀ p∈es,Hn (b::(bz.ownBlock.toList++bv.ownBlock.toList++tv.ownBlock.toList++sv.ownBlock.toList)) w (pt p.s p.x p.y)
 bs:jS w (b+1) 115 5 iI bv mb
 ts:jS w (b+1) 117 9 mkT tv mt
 ss:jS w (b+1) 120 185 zj5 sv ms
abbrev chg (b:Nat)(bz bv tv sv:Value):List Nat:=b::(bz.ownBlock.toList++bv.ownBlock.toList++tv.ownBlock.toList++sv.ownBlock.toList)
variable {mb mt ms:List MB} {es:List PE} {bz bv tv sv:Value}
theorem LW.lt (h:LW w b bz bv tv sv es mb mt ms):b<w.heap.size:=(Array.getElem?_eq_some_iff.1 h.bp).1
theorem LW.sH (h:LW w b bz bv tv sv es mb mt ms):∀ x∈chg b bz bv tv sv,b<=x/\x<w.heap.size:=by
 intro x hx;rcases List.mem_cons.1 hx with rfl | hx
 ·exact⟨Nat.le_refl _,h.lt⟩
 ·simp only[List.mem_append] at hx;rcases hx with ((hx | hx) | hx) | hx
  ·have:=h.row.lt x (by simpa using hx);omega
  ·have:=h.bs.row.lt x (by simpa using hx);omega
  ·have:=h.ts.row.lt x (by simpa using hx);omega
  ·have:=h.ss.row.lt x (by simpa using hx);omega
theorem LW.below {w w':W8}{b:Nat}{bz bv tv sv:Value}{es:List PE}{mb mt ms:List MB}(h:LW w b bz bv tv sv es mb mt ms)(k:Below w.heap.size w w'):LW w' b bz bv tv sv es mb mt ms:=
 have k':zK [] w w':=(zK.refl [] w).ak k
 ⟨(k.block b h.lt).trans h.bp,xF h.row k' (by simp),λ p hp=>(h.Ia p hp).step k' (by simp) (λ c hc=>.inl hc),h.bs.below k,h.ts.below k,h.ss.below k⟩
theorem LW.start (w:W8)(b:Nat)(h:w.heap[b]?=some (.cells #[.slice none 0 0,.slice none 0 0,.slice none 0 0,.slice none 0 0] 69 (0,0))):LW w b (.slice none 0 0) (.slice none 0 0) (.slice none 0 0) (.slice none 0 0) [] [] [] []:=
 ⟨h,World.ownsRow_nil _ _ _ _,by simp,jS.nil _ _ _ _ _,jS.nil _ _ _ _ _,jS.nil _ _ _ _ _⟩
theorem LW.O6 {w2 W w5:W8}(h:LW w b bz bv tv sv es mb mt ms)(hb:Below w.heap.size w w2){p:PE}(hp:pt p.s p.x p.y w2 w.heap.size)
  (hW:zK [] w2 W) (hg:W.grownBy w5 bz.ownBlock) {a':O8} {c':Nat} (ay:w5.ownsRow (b+1) 112 3 (.slice a' (es.length+1) c') (es.length+1) (es.flatMap PE.cells++p.cells)) (du:(Value.slice a' (es.length+1) c').ownBlock=bz.ownBlock\/∀ g,(Value.slice a' (es.length+1) c').ownBlock=some g->W.heap.size<=g):
  LW (w5.setCell ⟨b,0,none⟩ (.slice a' (es.length+1) c')) b (.slice a' (es.length+1) c') bv tv sv (es++[p]) mb mt ms/\zK (chg b bz bv tv sv) w (w5.setCell ⟨b,0,none⟩ (.slice a' (es.length+1) c'))/\w5.heap[b]?=some (.cells #[bz,bv,tv,sv] 69 (0,0)):=by
 have h2:=h.below hb;have k2:zK (b::bz.ownBlock.toList) w2 (w5.setCell ⟨b,0,none⟩ (.slice a' (es.length+1) c')):=by
  refine zK.setCell (p:=⟨b,0,none⟩) ?_ (.inl List.mem_cons_self) _;exact ((hW.mono (by simp)).trans ((zK.aR hg).mono λ k hk=>.inl (List.mem_cons_of_mem _ hk)))
 have k5:zK bz.ownBlock.toList w2 w5:=(hW.mono (by simp)).trans (zK.aR hg);have dC:w5.heap[b]?=some (.cells #[bz,bv,tv,sv] 69 (0,0)):=
  yK h2.bp k5 (λ x hx=>.inr (yH h2.row (by decide) x hx))
 have bj:=hW.size;have Lx:=hb.size;have sub:∀ x∈b::bz.ownBlock.toList,x∈chg b bz bv tv sv:=λ x hx=>by
  rcases List.mem_cons.1 hx with rfl | hx
  ·exact List.mem_cons_self
  ·exact List.mem_cons_of_mem _ (by simp only[List.mem_append];exact .inl (.inl (.inl hx)))
 have nt:∀ (e:TypeId),69≠e->112≠e->∀ x∈b::bz.ownBlock.toList,dW w2 e x:=λ e e0 e1 x hx=>by
  rcases List.mem_cons.1 hx with rfl | hx
  ·exact zds h2.bp e0
  ·exact yH h2.row e1 x hx
 have DA:∀ c∈chg b (.slice a' (es.length+1) c') bv tv sv,c∈chg b bz bv tv sv\/w2.heap.size<=c:=λ c hc=>by
  rcases List.mem_cons.1 hc with rfl | hc
  ·exact .inl List.mem_cons_self
  ·simp only[List.mem_append] at hc;have rest:c∈bv.ownBlock.toList\/c∈tv.ownBlock.toList\/c∈sv.ownBlock.toList->c∈chg b bz bv tv sv:=λ hr=>List.mem_cons_of_mem _ (by simp only[List.mem_append];rcases hr with hr | hr | hr <;> simp[hr])
   rcases hc with ((hc | hc) | hc) | hc
   ·rcases du with e1 | e1
    ·rw[e1] at hc;exact .inl (sub c (List.mem_cons_of_mem _ hc))
    ·exact .inr (Nat.le_trans bj (e1 c (by simpa using hc)))
   ·exact .inl (rest (.inl hc))
   ·exact .inl (rest (.inr (.inl hc)))
   ·exact .inl (rest (.inr (.inr hc)))
 refine⟨⟨?_,?_,λ q hq=>?_,h2.bs.kept k2 (λ x hx=>.inr (nt _ (by decide) (by decide) x hx)) (λ x hx=>.inl (nt _ (by decide) (by decide) x hx)),h2.ts.kept k2 (λ x hx=>.inr (nt _ (by decide) (by decide) x hx)) (λ x hx=>.inl (nt _ (by decide) (by decide) x hx)),h2.ss.kept k2 (λ x hx=>.inr (nt _ (by decide) (by decide) x hx)) (λ x hx=>.inl (nt _ (by decide) (by decide) x hx))⟩,?_,dC⟩
 ·unfold World.setCell;simp only[Array.getElem?_modify,if_true,dC];rfl
 ·rw[List.length_append,List.flatMap_append];have:=ownsRow_setCell_below (a:=⟨b,0,none⟩) ay (by simp) (.slice a' (es.length+1) c');simpa using this
 ·rcases List.mem_append.1 hq with hq | hq
  ·exact (h2.Ia q hq).step k2 (λ d hd=>.inl (sub d hd)) DA
  ·rw[List.mem_singleton.1 hq];have h0:Hn (chg b bz bv tv sv) w2 (pt p.s p.x p.y):=⟨w2,w.heap.size,zK.refl _ _,λ c hc=>.inl (h.sH c hc).2,hp⟩;exact h0.step k2 (λ d hd=>.inl (sub d hd)) DA
 ·exact ((zK.refl _ w).ak hb).step k2 (λ x hx=>.inl (sub x hx))
end
section
open Go.RowKit
theorem z40:(Tryz.prog.info? 155).map (·.size)=some 2:=by kernel_rfl
theorem ybd:liesAt Tryz.prog Tryz.prog.depth 155 (2/Tryz.prog.cellsOf 155) 0 155 1=true:=by kernel_rfl
theorem zeo:(Tryz.prog.info? 5).map (λ i=>(i.zero,i.size,i.bytes))=some (some (.int .u8 0),1,1):=by kernel_rfl
theorem z1t (b:Nat)(w:W8)(h0:w.cell? ⟨b,0,none⟩=some (.pointer (some ⟨b,0,none⟩))):
  Calls Tryz.prog 169 #[.pointer (some ⟨b,0,none⟩)] w λ e w'=>e=.returned (.tuple #[])/\w'=w:=by
 obtain⟨j,hj,_⟩:=Option.map_eq_some_iff.1 z40;go_enter Tryz.func169,Tryz.ntmps169
 go_wp2
 rw[Lib.run_neq_ptr_same w _ Tryz.underlying153 hj]
 go_wp2
 go_end0;exact⟨rfl,rfl⟩
theorem zx1 (b:Nat)(w:W8)(h0:w.cell? ⟨b,0,none⟩=some (.pointer none))(Uq:w.shape? b=some (155,2))(Im:w.frozen? ⟨b,0,none⟩=false):
  Calls Tryz.prog 169 #[.pointer (some ⟨b,0,none⟩)] w λ e w'=>e=.returned (.tuple #[])/\w'=w.setCell ⟨b,0,none⟩ (.pointer (some ⟨b,0,none⟩)):=by
 obtain⟨j,hj,Yi⟩:=Option.map_eq_some_iff.1 z40;go_enter Tryz.func169,Tryz.ntmps169
 go_wp2
 rw[Lib.run_to_unsafe w ⟨b,0,none⟩ Tryz.underlying153 Tryz.underlying349 hj (by rw[Yi];decide) Uq (Nat.zero_lt_succ 1)];simp only[Result.andThen];rw[Oper.upon_value]
 go_wp2
 rw[run_callFunc_extern Tryz.func219 (by kernel_rfl) (by kernel_rfl) (by kernel_rfl) (e:=Extern.AbiNoEscape.same) (by kernel_rfl)];rw[Lib.run_noEscape];simp only[Result.andThen];rw[Oper.upon_value]
 go_wp2
 rw[Lib.run_from_unsafe w ⟨b,0,none⟩ Tryz.underlying349 Tryz.underlying153 hj Uq ybd];simp only[Result.andThen];rw[Oper.upon_value]
 go_wp2
 go_end0;exact⟨rfl,rfl⟩
def lI (w w':W8):Prop:=∀ (x:Nat) (c:Array Value) (e:TypeId) (fr:Nat × Nat),w.heap[x]?=some (.cells c e fr)->e≠155->e≠5->w'.heap[x]?=some (.cells c e fr)
theorem lI.refl (w:W8):lI w w:=λ _ _ _ _ h _ _=>h
variable {a:W8}
theorem lI.trans {b c:W8}(h:lI a b)(k:lI b c):lI a c:=λ x cc e fr hx h1 h2=>k x cc e fr (h x cc e fr hx h1 h2) h1 h2
variable {w:W8}
theorem lI.alloc (h:lI a w)(o:Obj):lI a (w.alloc o):=λ x c e fr hx h1 h2=>by
 have h3:=h x c e fr hx h1 h2;rw[Below.heap_alloc _ _ _ (Array.getElem?_eq_some_iff.1 h3).1];exact h3
theorem lI.setCell {b:Nat}{cs:Array Value}{fr:Nat × Nat}(hb:w.heap[b]?=some (.cells cs 155 fr))(o:Nat)(v:Value):lI w (w.setCell ⟨b,o,none⟩ v):=λ x c e fr' hx h1 _=>by
 rw[Below.heap_setCell _ _ _ _ (by
  intro h;simp at h;subst h;rw[hb] at hx;injection hx with hx
  injection hx with _ hx _
  exact h1 hx.symm)]
 exact hx
variable {xs:V8} {v:Value} {n:Nat}
theorem lI.grown {w1:W8}{B:Nat}(ay:w.ownsRow B 5 1 v n xs)(hg:w.grownBy w1 v.ownBlock):lI w w1:=λ x c e fr hx _ h2=>by
 rw[hg.block x (Array.getElem?_eq_some_iff.1 hx).1 (λ h=>?_)]
 ·exact hx
 ·rcases ay.2 with⟨rfl,_⟩ | ⟨g,cap,cur,rfl,_,bS,_⟩
  ·cases h
  ·injection h with h
   simp only at h;subst h;rw[hx] at bS;injection bS with bS
   injection bS with _ bS _
   exact h2 bS
theorem lI.own {w':W8}{base:Nat}{e:TypeId}{size:Nat}(k:lI w w')(h:w.ownsRow base e size v n xs)(h1:e≠155)(h2:e≠5):w'.ownsRow base e size v n xs:=by
 refine⟨h.1,?_⟩;rcases h.2 with hn | ⟨g,cap,cur,rfl,hb,bS,rest⟩
 ·exact .inl hn
 ·exact .inr ⟨g,cap,cur,rfl,hb,k g _ _ _ bS h1 h2,rest⟩
theorem zh2 (B b:Nat)(bs:V8)(w:W8)(h:Lib.IsBuilder 155 5 B b bs w):
  Calls Tryz.prog 169 #[.pointer (some ⟨b,0,none⟩)] w λ e w'=>e=.returned (.tuple #[])/\Lib.BuilderAt 155 5 B b (.pointer (some ⟨b,0,none⟩)) bs w'/\Below B w w'/\lI w w':=by
 rcases h with h | h
 ·refine (zx1 b w h.cell0 h.shape h.frozen0).mono ?_;rintro e w' ⟨rfl,rfl⟩;obtain⟨_,v,hb,_⟩:=id h;exact⟨rfl,h.used _,(Below.refl B w).setCell (p:=⟨b,0,none⟩) h.1 _,lI.setCell hb 0 _⟩
 ·refine (z1t b w h.cell0).mono ?_;rintro e w' ⟨rfl,rfl⟩;exact⟨rfl,h,Below.refl B _,lI.refl _⟩
theorem zo6 (w1:W8)(x:Value)(ty:TypeId)(j:Nat)(u:Value)(h:([x]:V8)[j]?=some u):(w1.alloc (Obj.cells #[x] ty)).cell? ((⟨w1.heap.size,0,none⟩:Addr).add j)=some u:=cell_one_new w1 x ty j u h
theorem z7s (c:Int):∀ u∈([Value.int .u8 c]:V8),u.oneCell'=true:=by
 intro u hu;simp at hu;subst hu;rfl
def j3 (l:List UInt8):V8:=l.map λ b=>Value.int .u8 b.toNat
theorem zq9 (l:List UInt8)(s:B8):j3 l++Lib.strCells s=j3 (l++s.data.toList):=by simp[j3,Lib.strCells]
theorem zq8 (l:List UInt8)(c:UInt8):j3 l++[Value.int .u8 c.toNat]=j3 (l++[c]):=by simp[j3]
theorem zjm (l:List UInt8):(j3 l).length=l.length:=by simp[j3]
def yd (B b:Nat)(l:List UInt8)(w:W8):Prop:=Lib.IsBuilder 155 5 B b (j3 l) w
theorem zqk (B b:Nat)(l:List UInt8)(s:B8)(w:W8)(h:yd B b l w)(hlen:l.length+s.size<=140737488355328)(hBw:B<=w.heap.size):
  Calls Tryz.prog 111 #[.pointer (some ⟨b,0,none⟩),.string s] w λ e w'=>e=.returned (.tuple #[.int .i64 s.size,.nilIface])/\yd B b (l++s.data.toList) w'/\Below B w w'/\lI w w':=by
 obtain⟨i0,hi,bL,aY,bg⟩:=info_parts zeo;have hZ:=zjm l;go_enter Tryz.func111,Tryz.ntmps111;go_wp2_with fail;refine (zh2 B b (j3 l) _ h).mono ?_;rintro e w1 ⟨rfl,h1,aL,aW⟩;obtain⟨hB,v,nj,ay,bF⟩:=h1;have c0:w1.cell? ⟨b,0,none⟩=some (.pointer (some ⟨b,0,none⟩)):=by rw[Lib.cell_of_heap nj];rfl
 have c1:w1.cell? ⟨b,1,none⟩=some v:=by rw[Lib.cell_of_heap nj];rfl
 have hz:=aL.size;go_wp2_with (at_builtin;refine Lib.wpList_append_own_string _ rfl _ _ 47 9 rfl B 5 i0 Tryz.underlying47 Tryz.underlying9 hi bL aY bg _ _ _ rfl ay s rfl (by unfold maxLen;omega) (by omega) (by omega) ?_);intro v' w2 iH hgrow _;have aH:b<w1.heap.size:=(Array.getElem?_eq_some_iff.1 nj).1;have aK:w2.heap[b]?=some (.cells #[.pointer (some ⟨b,0,none⟩),v] 155 (0,0)):=by
  rw[hgrow.block b aH (λ e=>bF e.symm)];exact nj
 have d0:w2.cell? ⟨b,0,none⟩=some (.pointer (some ⟨b,0,none⟩)):=by rw[Lib.cell_of_heap aK];rfl
 have d1:w2.cell? ⟨b,1,none⟩=some v:=by rw[Lib.cell_of_heap aK];rfl
 have f1:w2.frozen? ⟨b,1,none⟩=false:=Lib.frozen_of_heap aK 1;obtain⟨ao,n',cap,rfl⟩:∃ ao n' cap,v'=.slice ao n' cap:=by
  rcases iH.2 with⟨hv,_⟩ | ⟨g,cap,cur,hv,_⟩
  ·exact⟨_,_,_,hv⟩
  ·exact⟨_,_,_,hv⟩
 have jl:=Lib.BuilderAt.put (T:=155) (e:=5) hB aK (v':=.slice ao n' cap) (bs':=j3 l++Lib.strCells s) (by rw[List.length_append,Lib.strCells_length,hZ];exact iH) (by decide);rw[zq9] at jl;have HP:=zC jl;have HK:=zC ((aW.trans (lI.grown ay hgrow)).trans (lI.setCell aK 1 (.slice ao n' cap)));have HB:=zC ((aL.grown hgrow (by omega) (λ k hk=>(ay.lt k hk).1)).setCell (p:=⟨b,1,none⟩) hB (.slice ao n' cap));clear jl iH hgrow aL ay nj aK c0 c1 aW;go_wp2_with fail
 go_ret2
 exact⟨rfl,.inr (zA HP),zA HB,zA HK⟩
theorem zna (B b:Nat)(l:List UInt8)(c:UInt8)(w:W8)(h:yd B b l w)(hlen:l.length+1<=140737488355328)(hBw:B<=w.heap.size):
  Calls Tryz.prog 167 #[.pointer (some ⟨b,0,none⟩),.int .u8 c.toNat] w λ e w'=>e=.returned .nilIface/\yd B b (l++[c]) w'/\Below B w w'/\lI w w':=by
 obtain⟨i0,hi,bL,aY,bg⟩:=info_parts zeo;have hZ:=zjm l;go_enter Tryz.func167,Tryz.ntmps167;go_wp2_with fail;refine (zh2 B b (j3 l) _ h).mono ?_;rintro e w1 ⟨rfl,h1,aL,aW⟩;obtain⟨hB,v,nj,ay,bF⟩:=h1;have c0:w1.cell? ⟨b,0,none⟩=some (.pointer (some ⟨b,0,none⟩)):=by rw[Lib.cell_of_heap nj];rfl
 have c1:w1.cell? ⟨b,1,none⟩=some v:=by rw[Lib.cell_of_heap nj];rfl
 have hz:=aL.size;go_wp2_with (at_builtin;refine wpList_append_own _ rfl _ _ 47 rfl B 5 i0 (.int .u8 0) 1 1 Tryz.underlying47 hi bL aY bg rfl (by decide) _ _ _ rfl (ay.alloc _) ⟨w1.heap.size,0,none⟩ 1 1 [.int .u8 c.toNat] rfl rfl (zo6 w1 _ _) (z7s _) (by unfold maxLen;omega) (by omega) (by simp;omega) ?_);intro v' w2 iH hgrow _;have aH:b<w1.heap.size:=(Array.getElem?_eq_some_iff.1 nj).1;have aK:w2.heap[b]?=some (.cells #[.pointer (some ⟨b,0,none⟩),v] 155 (0,0)):=by
  rw[hgrow.block b (by simp;omega) (λ e=>bF e.symm),Below.heap_alloc _ _ _ aH];exact nj
 have d0:w2.cell? ⟨b,0,none⟩=some (.pointer (some ⟨b,0,none⟩)):=by rw[Lib.cell_of_heap aK];rfl
 have d1:w2.cell? ⟨b,1,none⟩=some v:=by rw[Lib.cell_of_heap aK];rfl
 have f1:w2.frozen? ⟨b,1,none⟩=false:=Lib.frozen_of_heap aK 1;obtain⟨ao,n',cap,rfl⟩:∃ ao n' cap,v'=.slice ao n' cap:=by
  rcases iH.2 with⟨hv,_⟩ | ⟨g,cap,cur,hv,_⟩
  ·exact⟨_,_,_,hv⟩
  ·exact⟨_,_,_,hv⟩
 have jl:=Lib.BuilderAt.put (T:=155) (e:=5) hB aK (v':=.slice ao n' cap) (bs':=j3 l++[.int .u8 c.toNat]) (by rw[List.length_append,hZ];exact iH) (by decide);rw[zq8] at jl;have HP:=zC jl;have HK:=zC (((aW.alloc _).trans (lI.grown (ay.alloc _) hgrow)).trans (lI.setCell aK 1 (.slice ao n' cap)));have HB:=zC (((aL.alloc (by omega) _).grown hgrow (by simp;omega) (λ k hk=>(ay.lt k hk).1)).setCell (p:=⟨b,1,none⟩) hB (.slice ao n' cap));clear jl iH hgrow aL ay nj aK c0 c1 aW;go_wp2_with fail;go_ret;exact⟨rfl,.inr (zA HP),zA HB,zA HK⟩
end
section
open Go.RowKit
def xJ:List (Bool × B8)->Nat->List UInt8
 | [],_=>[]
 | t::r,i=>(if i=0 then 40 else 44)::(t.2.data.toList++xJ r (i+1))
def zau (pd:B8)(ts:List (Bool × B8)):List UInt8:=pd.data.toList++(xJ ts 0++if ts.length=0 then [] else [41])
theorem zva {ts:List (Bool × B8)}{k:Nat}(h:k<ts.length):xJ (ts.drop k) k=(if k=0 then 40 else 44)::(ts[k].2.data.toList++xJ (ts.drop (k+1)) (k+1)):=by
 rw[List.drop_eq_getElem_cons h,xJ]
theorem jI (s:B8):s.data.toList.length=s.size:=by rw[Array.length_toList];rfl
theorem zo3 (W:W8)(v:Value):(Instr.typeAssert (.iface 130 v) 191 193 true).run Tryz.prog W=.ok (.tuple #[.string { data:=#[] },.bool false]) W:=by kernel_rfl
def yc7 (B b:Nat)(w:W8)(l:List UInt8)(e:Ending)(w':W8):Prop:=e=.returned (.tuple #[])/\yd B b l w'/\Below B w w'/\lI w w'/\B<=w'.heap.size
theorem ztg (B b:Nat)(l:List UInt8)(A5:Bool)(s:B8)(w:W8)(h:yd B b l w)(hlen:l.length+s.size<=140737488355328)(hBw:B<=w.heap.size):
  Calls Tryz.prog 168 #[.pointer (some ⟨b,0,none⟩),zec A5 s] w (yc7 B b w (l++s.data.toList)):=by
 have TC:=zei;have Kh:=zo3;have Dg:=zdl;unfold zec
 cases A5 with
 | true=>
  rw[if_pos rfl];go_enter Tryz.func168,Tryz.ntmps168;go_wp2_with fail;refine (zqk B b l s _ h hlen hBw).mono ?_;rintro e w1 ⟨rfl,h1,aL,aW⟩;go_wp2_with fail;go_end0;exact⟨rfl,h1,aL,aW,Nat.le_trans hBw aL.size⟩
 | false=>
  rw[if_neg (by decide)];go_enter Tryz.func168,Tryz.ntmps168;go_wp2_with fail;refine (zqk B b l s _ h hlen hBw).mono ?_;rintro e w1 ⟨rfl,h1,aL,aW⟩;go_wp2_with fail;go_end0;exact⟨rfl,h1,aL,aW,Nat.le_trans hBw aL.size⟩
theorem yd.alloc {B b:Nat}{l:List UInt8}{w:W8}(h:yd B b l w)(o:Obj):yd B b l (w.alloc o):=by
 have key:∀ p,Lib.BuilderAt 155 5 B b p (j3 l) w->Lib.BuilderAt 155 5 B b p (j3 l) (w.alloc o):=by
  rintro p ⟨hB,v,hb,ay,bF⟩;exact⟨hB,v,by rw[Below.heap_alloc _ _ _ (Array.getElem?_eq_some_iff.1 hb).1];exact hb,ay.alloc o,bF⟩
 rcases h with h | h
 ·exact .inl (key _ h)
 ·exact .inr (key _ h)
theorem z5q (B b:Nat)(l:List UInt8)(pd:B8)(a:O8)(c base:Nat)(ts:List (Bool × B8))(w:W8)(h:yd B b l w)(ay:w.ownsRow base 191 1 (.slice a ts.length c) ts.length (xH ts))(hlen:l.length+(zau pd ts).length<=1000000000)(hBw:B<=w.heap.size):
  Calls Tryz.prog 110 #[.pointer (some ⟨b,0,none⟩),.agg #[.string pd,.slice a ts.length c]] w (yc7 B b w (l++zau pd ts)):=by
 have lN:=yU ay;unfold maxLen at lN;have bt:=jI pd;have e0:(zau pd ts).length=pd.size+((xJ ts 0).length+(if ts.length=0 then ([]:List UInt8) else [41]).length):=by simp only[zau,List.length_append,bt]
 have dq:(w.alloc (.cells #[.string pd,.slice a ts.length c] 79)).heap[w.heap.size]?=_:=heap_alloc_new w _;have bA:=(Below.refl w.heap.size w).alloc L9 (.cells #[.string pd,.slice a ts.length c] 79);have kA:=(lI.refl w).alloc (.cells #[.string pd,.slice a ts.length c] 79);have HE:=zC (show l++zau pd ts=l++pd.data.toList++(xJ ts 0++if ts.length=0 then [] else [41]) by simp[zau]);go_enter Tryz.func110,Tryz.ntmps110;go_wp2_with fail;refine (zqk B b l pd _ (h.alloc _) (by omega) (by simp;omega)).mono ?_;rintro e w1 ⟨rfl,h1,aL,aW⟩;have gz:=(bA.mono hBw).trans aL;have qj:=kA.trans aW;have dP:=aW _ _ _ _ dq (by decide) (by decide);have aN:=qj.own ay (by decide) (by decide);have aY:=aL.size;rw[World.size_alloc] at aY;obtain⟨x0,uE⟩:=zB dP 0;obtain⟨x1,mZ⟩:=zB dP 1;have CF:=zC ay;clear dq aL aW bA kA ay h
 by_cases hn:ts.length=0
 ·have Cf:((ts.length:Int)==0)=true:=by simp[hn]
  have pH:ts=[]:=List.length_eq_zero_iff.1 hn;have Cu:=zC (show l++zau pd ts=l++pd.data.toList by rw[zA HE,pH];simp[xJ]);clear HE hn pH;go_wp2_with fail;go_end0;exact⟨rfl,by rw[zA Cu];exact h1,gz,qj,by omega⟩
 ·have Cf:((ts.length:Int)==0)=false:=by simp;exact λ e=>hn (by rw[e];rfl)
  have SZ:(if ts.length=0 then ([]:List UInt8) else [41])=[41]:=if_neg hn;rw[SZ] at e0 HE;have KR:([41]:List UInt8).length=1:=rfl;rw[KR] at e0;clear SZ hn;go_wp2_with fail
  go_loopg [17] ts.length (λ gg i wr=>∃ (k:Nat) (m:List UInt8),k<=ts.length/\gg=ts.length-k/\i=.int .i64 k/\yd B b m wr/\Below B w wr/\lI w wr/\w.heap.size<wr.heap.size/\wr.heap[w.heap.size]?=some (.cells #[.string pd,.slice a ts.length c] 79 (0,0))/\m++xJ (ts.drop k) k=l++pd.data.toList++xJ ts 0)
  exact⟨0,_,Nat.zero_le _,rfl,rfl,h1,gz,qj,by omega,dP,rfl⟩
  case round=>
   clear h1 gz qj dP aN x0 x1 uE mZ;obtain⟨k,m,hk,eD,rfl,h1,gz,qj,bj,dP,hm⟩:=hrel;have bh:=congrArg List.length hm;simp only[List.length_append,bt] at bh
   by_cases aF:k<ts.length
   ·have dJ:=zva aF;have HM:=zC (dJ ▸ hm);rw[dJ] at bh;simp only[List.length_cons,List.length_append,jI] at bh;clear hm dJ;have aN:=qj.own (zA CF) (by decide) (by decide);obtain⟨g,cap,hv,iF,aZ,bO,bQ,hc⟩:=zmd aN k aF;injection hv with i1 i2 i3
    subst i1 i3;obtain⟨A5,tx,het⟩:∃ A5 tx,ts[k]=(A5,tx):=⟨_,_,rfl⟩;have e1:ts[k].1=A5:=(by rw[het]);have e2:ts[k].2=tx:=(by rw[het]);rw[e1,e2] at hc;rw[e2] at HM bh;obtain⟨x1,mZ⟩:=zB dP 1;clear het e1 e2 aN;have sO:zec A5 tx=.iface (if A5 then 130 else 193) (.string tx):=rfl;rw[sO] at hc;have R7:=zC sO;clear sO;generalize hty:(if A5 then 130 else 193)=ty at hc;have Sz:=zC hty;clear hty
    cases k with
    | zero=>
     go_wp2_with fail;refine (zna B b m 40 _ h1 (by omega) (by omega)).mono ?_;rintro e w2 ⟨rfl,h2,aK,bn⟩;have bg:=aK.size;have mM:=bn _ _ _ _ dP (by decide) (by decide);have lu:=gz.trans aK;have ur:=qj.trans bn;clear aK bn dP h1 gz qj x1 mZ;go_wp2_with fail;rw[<-zA Sz,<-zA R7];refine (ztg B b _ A5 tx _ h2 (by simp;omega) (by omega)).mono ?_;rintro e w3 ⟨rfl,h3,cI,eE,A4⟩;have zr:=eE _ _ _ _ mM (by decide) (by decide);have Re:=cI.size;have HR:=zC (And.intro h3 (And.intro (lu.trans cI) (And.intro (ur.trans eE) zr)));clear mM zr h2 h3 cI eE lu ur;go_wp2_with fail;go_roundg (ts.length-(0+1));exact⟨0+1,_,by omega,rfl,by go_num,(zA HR).1,(zA HR).2.1,(zA HR).2.2.1,by omega,(zA HR).2.2.2,by have:=zA HM;simpa using this⟩;omega
    | succ k=>
     have iA:(((k+1:Nat):Int)==0)=false:=(by simp;omega);go_wp2_with fail;refine (zna B b m 44 _ h1 (by omega) (by omega)).mono ?_;rintro e w2 ⟨rfl,h2,aK,bn⟩;have bg:=aK.size;have mM:=bn _ _ _ _ dP (by decide) (by decide);have lu:=gz.trans aK;have ur:=qj.trans bn;clear aK bn dP h1 gz qj x1 mZ;go_wp2_with fail;rw[<-zA Sz,<-zA R7];refine (ztg B b _ A5 tx _ h2 (by simp;omega) (by omega)).mono ?_;rintro e w3 ⟨rfl,h3,cI,eE,A4⟩;have zr:=eE _ _ _ _ mM (by decide) (by decide);have Re:=cI.size;have HR:=zC (And.intro h3 (And.intro (lu.trans cI) (And.intro (ur.trans eE) zr)));clear mM zr h2 h3 cI eE lu ur;go_wp2_with fail;go_roundg (ts.length-(k+1+1));exact⟨k+1+1,_,by omega,rfl,by go_num,(zA HR).1,(zA HR).2.1,(zA HR).2.2.1,by omega,(zA HR).2.2.2,by have:=zA HM;simpa using this⟩;omega
   ·have hd:ts.drop k=[]:=List.drop_of_length_le (by omega);rw[hd] at hm bh;simp only[xJ,List.append_nil,List.length_nil] at hm bh;have HM:=zC hm;clear hm hd;go_wp2_with fail;refine (zna B b m 41 _ h1 (by omega) (by omega)).mono ?_;rintro e w2 ⟨rfl,h2,aK,bn⟩;have bg:=aK.size;have HR:=zC (And.intro h2 (And.intro (gz.trans aK) (qj.trans bn)));clear h1 gz qj h2 aK bn dP;go_wp2_with fail;go_end0;refine⟨rfl,?_,(zA HR).2.1,(zA HR).2.2,by omega⟩;rw[zA HE,<-List.append_assoc,<-zA HM];exact (zA HR).1
end
end Go.Proofs.YtldkpahaocjdpaaGreat
