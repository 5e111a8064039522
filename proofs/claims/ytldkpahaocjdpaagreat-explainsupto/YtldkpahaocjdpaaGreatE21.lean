/-
  The law's load: one Load of the program and one of the document's answer, side by side: always true; the list of programs grows by one where the text is taken.
-/
import Derived.Test.YtldkpahaocjdpaaGreatE20
import Derived.Lib.Builder
import Derived.Lib.AppendStr
import Derived.Lib.UnsafeStr
import Derived.Laws.Externs
import Derived.OwnWalk
import Derived.Lib.Hide
set_option maxHeartbeats 16000000
set_option maxRecDepth 1000000
namespace Go.Proofs.YtldkpahaocjdpaaGreat
section
open Go.RowKit
theorem z6p:(Tryz.prog.info? 112).map (λ i=>(i.zero,i.size,i.bytes))=some (some (.agg #[.pointer none,.pointer none,.string { data:=#[] }]),3,32):=by kernel_rfl
end
section
open Go.RowKit Go.Maps
variable {rs:List zS} {ps:P9}
theorem zsm {f:Nat->Nat}(h:zez ps rs f):zd1 (rs.map yN) (λ k=>f (qJ ps k)):=by
 intro R hR l hl;obtain⟨Q,hQ,rfl⟩:=List.mem_map.1 hR;obtain⟨A,hA,rfl⟩:=List.mem_map.1 hl;exact h Q hQ A hA
theorem zwu {g:B8->Nat}(h:zd1 (rs.map yN) g)(aS:zgl ps (rs.flatMap zS.atoms)):zez ps rs (λ i=>g (yct ps i)):=by
 intro R hR A hA;have h1:=h (yN R) (List.mem_map_of_mem hR) (lK A) (List.mem_map_of_mem hA);have a1:0<=zM ps R.head.pred:=aS _ (List.mem_flatMap.2 ⟨R,hR,List.mem_cons_self⟩);have a2:0<=zM ps A.pred:=aS _ (List.mem_flatMap.2 ⟨R,hR,List.mem_cons_of_mem _ hA⟩);unfold zjc;simp only[zpb a1,zpb a2];exact h1
theorem zr2 {Sn:B8->Nat}{Si:Nat->Nat}(aS:zgl ps (rs.flatMap zS.atoms))(hv:zez ps rs Si)(hl:Low ps rs Si)(CM:zd1 (rs.map yN) Sn)(nD:z56 (rs.map yN) Sn)(k:B8)(hk:0<=zM ps k):Sn k=Si (qJ ps k):=by
 refine Nat.le_antisymm (nD _ (zsm hv) k) ?_;have:=hl _ (zwu CM aS) (qJ ps k);simp only[zpb hk] at this;exact this
def z8a (ps:P9):Prop:=(ps.map (·.1)).Nodup
theorem z9v {nm:B8}:∀ {l:P9} {k:Nat},xR nm l k<0->∀ p∈l,p.1≠nm
 | [],_,_,p,hp=>by cases hp
 | x::r,k,h,p,hp=>by
  rw[xR] at h
  split at h
  ·omega
  ·rename_i hx;rcases List.mem_cons.1 hp with rfl | hp
   ·exact λ e=>hx (xO.2 e)
   ·exact z9v h p hp
theorem z4i (h:z8a ps)(nm:B8)(n:Nat):z8a (qW ps nm n):=by
 unfold qW
 split
 ·rename_i hx;unfold z8a;rw[List.map_append,List.nodup_append];refine⟨h,by simp,λ a ha b hb e=>?_⟩;obtain⟨p,hp,rfl⟩:=List.mem_map.1 ha;simp at hb;exact z9v hx p hp (e.trans hb)
 ·exact h
theorem zn8:∀ (l ps:P9),z8a ps->z8a (iE l ps)
 | [],_,h=>h
 | x::r,_,h=>zn8 r _ (z4i h x.1 x.2)
theorem z1l:∀ {ps:P9},z8a ps->∀ (i k:Nat) (hi:i<ps.length),xR ps[i].1 ps k=(k+i:Nat)
 | [],_,i,_,hi=>by simp at hi
 | x::r,h,i,k,hi=>by
  have hn:=List.nodup_cons.1 h;rw[xR]
  cases i with
  | zero=>rw[if_pos (by rw[List.getElem_cons_zero];exact xO.2 rfl)];simp
  | succ i=>
   have wD:i<r.length:=by simpa using hi
   have:¬ (x.1.toList==((x::r)[i+1]).1.toList)=true:=λ e=>hn.1 (List.mem_map.2 ⟨r[i],List.getElem_mem wD,by
    have:=xO.1 e;rw[List.getElem_cons_succ] at this
    exact this.symm⟩)
   rw[if_neg this,List.getElem_cons_succ,z1l hn.2 i (k+1) wD];omega
end
section
open Go.RowKit Go.Maps
theorem zny:∀ (l:List zL) (ps:P9),(yO l ps).1<0->zbh (l.map λ A=>(A.pred,A.ae.length)) ps/\(yO l ps).2=iE (l.map λ A=>(A.pred,A.ae.length)) ps
 | [],_,_=>⟨trivial,rfl⟩
 | A::r,ps,h=>by
  rw[yO] at h ⊢
  split at h
  ·rename_i hb;rw[if_pos hb];obtain⟨h1,h2⟩:=zny r _ h;exact⟨⟨hb,h1⟩,h2⟩
  ·exfalso;simp only at h;omega
theorem z4p (R:zS):jO (yN R)=R.atoms.map λ A=>(A.pred,A.ae.length):=by
 simp[jO,yN,zS.atoms,lK]
theorem zyc (rs:List zS):(rs.map yN).flatMap jO=(rs.flatMap zS.atoms).map λ A=>(A.pred,A.ae.length):=by
 induction rs with
 | nil=>rfl
 | cons R r ih=>rw[List.map_cons,List.flatMap_cons,List.flatMap_cons,List.map_append,ih,z4p]
theorem z3j (ps:P9)(nm:B8)(n:Nat):(qW ps nm n).length<=ps.length+1:=by
 unfold qW;split <;> simp
theorem zr6:∀ (l ps:P9),(iE l ps).length<=ps.length+l.length
 | [],_=>Nat.le_refl _
 | x::r,ps=>by
  have h1:=zr6 r (qW ps x.1 x.2);have h2:=z3j ps x.1 x.2;rw[iE,List.length_cons];omega
theorem zyg (s:B8)(f:Nat):∀ {p:Nat} {rs:List vY} {ms:List xU},rs.length<=30->(jS s f p rs ms).2.2.1.length<=30:=by
 induction f with
 | zero=>intro p rs ms h;exact h
 | succ f ih=>
  intro p rs ms h;rw[jS]
  split
  ·exact h
  ·split
   ·exact h
   ·split
    ·refine ih ?_;rw[List.length_append,List.length_singleton];omega
    ·exact h
theorem zv2 {α β:Type}(f:α->List β)(c:Nat):∀ (l:List α),(∀ x∈l,(f x).length<=c)->(l.flatMap f).length<=c*l.length
 | [],_=>Nat.zero_le _
 | x::r,h=>by
  have h1:=h x List.mem_cons_self;have h2:=zv2 f c r λ y hy=>h y (List.mem_cons_of_mem _ hy)
  rw[List.flatMap_cons,List.length_append,List.length_cons,Nat.mul_add,Nat.mul_one];omega
structure PW (s:B8)(rs:List vY)(ps:P9):Prop where
 rules:rs=(yG s).1.map yN
 fD:ps=(zT s).2
 len:rs.length<=30
 body:∀ R∈rs,R.body.length<=3
 pd:∀ R∈rs,R.pd.size<=800
 R3:∀ R∈rs,∀ l∈R.body,l.pd.size<=800
 agree:zbh (rs.flatMap jO) []
 met:iE (rs.flatMap jO) []=ps
 eJ:ps.length<=120
 all:zgl ps ((yG s).1.flatMap zS.atoms)
 once:z8a ps
 some_:∃ f,zd1 rs f/\∀ k,f k<=1000
variable {s:B8}
theorem zhk (h:(yW s).1=true):PW s (yM s).2.2.1 (zT s).2:=by
 unfold yW at h
 by_cases c0:800<s.size
 ·rw[if_pos c0] at h;cases h
 rw[if_neg c0] at h
 by_cases c1:0<=(yG s).2.2
 ·rw[if_pos c1] at h;cases h
 rw[if_neg c1] at h
 by_cases c2:0<=(zT s).1
 ·rw[if_pos c2] at h;cases h
 rw[if_neg c2] at h
 by_cases c3:0<=yT (yG s).1
 ·rw[if_pos c3] at h;cases h
 rw[if_neg c3] at h
 by_cases c4:0<=vO (zT s).2 (vI (zT s).2 (yG s).1) (yG s).1
 ·rw[if_pos c4] at h;cases h
 obtain⟨e1,e2⟩:=zik s;have hp:(yM s).1=true:=by
  cases hq:(yM s).1 with
  | true=>rfl
  | false=>exfalso;have:=e2 hq;omega
 obtain⟨_,er,_⟩:=e1 hp;obtain⟨o1,_⟩:=znt s (by omega) hp;have hlen:(yM s).2.2.1.length<=30:=zyg s 31 (by simp);have aS:zgl (zT s).2 ((yG s).1.flatMap zS.atoms):=zel _ c2;obtain⟨m1,m2⟩:=zny ((yG s).1.flatMap zS.atoms) [] (by unfold zT at c2;omega);have Kz:(yM s).2.2.1.flatMap jO=((yG s).1.flatMap zS.atoms).map λ A=>(A.pred,A.ae.length):=by rw[er,zyc]
 have FO:iE ((yM s).2.2.1.flatMap jO) []=(zT s).2:=by rw[Kz];exact m2.symm
 have kn:=zv2 jO 4 (yM s).2.2.1 (λ R hR=>by have:=(o1 R hR).2.1;simp[jO];omega);have bh:=zr6 ((yM s).2.2.1.flatMap jO) [];rw[FO] at bh;have kV:(zT s).2.length<=120:=by rw[List.length_nil] at bh;omega
 obtain⟨f,hf,lR⟩:=zgv _ _ aS c4;exact⟨er,rfl,hlen,λ R hR=>(o1 R hR).2.1,λ R hR=>(o1 R hR).1,λ R hR=>(o1 R hR).2.2,by rw[Kz];exact m1,FO,kV,aS,by rw[<-FO];exact zn8 _ [] List.nodup_nil,⟨λ k=>f (qJ (zT s).2 k),by rw[er];exact zsm hf,λ k=>Nat.le_trans (lR (qJ (zT s).2 k)) (by omega)⟩⟩
theorem PW.named {rs:List vY}{ps:P9}(h:PW s rs ps):∀ R∈rs,(∃ n,yY ps R.pd=some n)/\∀ l∈R.body,∃ n,yY ps l.pd=some n:=by
 intro R hR;rw[h.rules] at hR;obtain⟨Q,hQ,rfl⟩:=List.mem_map.1 hR;refine⟨⟨_,(zoa _ ps 0).2 (h.all _ (List.mem_flatMap.2 ⟨Q,hQ,List.mem_cons_self⟩))⟩,λ l hl=>?_⟩;obtain⟨A,hA,rfl⟩:=List.mem_map.1 hl;exact⟨_,(zoa _ ps 0).2 (h.all _ (List.mem_flatMap.2 ⟨Q,hQ,List.mem_cons_of_mem _ hA⟩))⟩
end
section
open Go.RowKit
def Hb (C:List Nat)(w:W8)(F:W8->Nat->Prop):Prop:=∃ w0 lo,zK (List.range lo) w0 w/\(∀ c∈C,c<lo\/w0.heap.size<=c)/\F w0 lo
theorem Hb.step {C C' D:List Nat}{w w':W8}{F:W8->Nat->Prop}(h:Hb C w F)(k:zK D w w')(hD:∀ d∈D,d∈C\/w.heap.size<=d)(hC:∀ c∈C',c∈C\/w.heap.size<=c):Hb C' w' F:=by
 obtain⟨w0,lo,k0,h0,hF⟩:=h;have hs:=k0.size;refine⟨w0,lo,k0.step k (λ x hx=>?_),λ c hc=>?_,hF⟩
 ·rcases hD x hx with h | h
  ·rcases h0 x h with h | h
   ·exact .inl (List.mem_range.2 h)
   ·exact .inr h
  ·exact .inr (by omega)
 ·rcases hC c hc with h | h
  ·exact h0 c h
  ·exact .inr (by omega)
structure pt (s:B8)(xb yb:Nat)(w:W8)(lo:Nat):Prop where
 ok:(yW s).1=true
 x:∃ rs:List PR,wh w lo xb rs/\rs.map (·.R)=(yM s).2.2.1
 y:∃ (rs:List RR) (ps:P9) (rv pv tv:Value) (gs:Nat) (S:Nat->Nat),lo<=yb/\yb<gs/\zok w yb rs ps rv pv tv (.slice (some ⟨gs,0,none⟩) ps.length ps.length)/\mR w gs ps.length S/\zez ps (rs.map (·.R)) S/\Low ps (rs.map (·.R)) S/\rs.map (·.R)=(yG s).1/\ps=(zT s).2/\zgl ps ((yG s).1.flatMap zS.atoms)
variable {b:Nat} {w w':W8}
theorem wh.Jj {lo:Nat}{rs:List PR}(h:wh w lo b rs)(k:zK (List.range lo) w w'):wh w' lo b rs:=by
 obtain⟨a,c,hb,zg,hr⟩:=h;exact⟨a,c,yL hb k (λ x hx=>.inl (by have:=List.mem_range.1 hx;omega)),zg,hr.bu k (λ x hx=>.inl (List.mem_range.1 hx))⟩
theorem mR.od {B:List Nat}{gs n:Nat}{S:Nat->Nat}(h:mR w gs n S)(k:zK B w w')(hB:gs∉B):mR w' gs n S:=
 ⟨Nat.lt_of_lt_of_le h.sz k.size,λ i hi=>(k.cell (p:=⟨gs,i,none⟩) h.sz hB).trans (h.cell i hi),λ j=>(k.frozen (p:=⟨gs,j,none⟩) h.sz hB).trans (h.fz j)⟩
theorem pt.kept {s:B8}{xb yb:Nat}{w w':W8}{lo:Nat}(h:pt s xb yb w lo)(k:zK (List.range lo) w w'):pt s xb yb w' lo:=by
 obtain⟨rs,hp,hr⟩:=h.x;obtain⟨Rg,ps,rv,pv,tv,gs,S,h1,h2,h3,h4,h5⟩:=h.y;exact⟨h.ok,⟨rs,hp.Jj k,hr⟩,Rg,ps,rv,pv,tv,gs,S,h1,h2,mu.kept h3 k (λ x hx=>by have:=List.mem_range.1 hx;omega),h4.od k (λ hm=>by have:=List.mem_range.1 hm;omega),h5⟩
theorem Hb.It {C:List Nat}{s:B8}{xb yb:Nat}(h:Hb C w (pt s xb yb)):∃ lo,pt s xb yb w lo:=by
 obtain⟨w0,lo,k0,_,hF⟩:=h;exact⟨lo,hF.kept k0⟩
structure PE where
 x:Nat
 y:Nat
 s:B8
def PE.cells (p:PE):V8:=[.pointer (some ⟨p.x,0,none⟩),.pointer (some ⟨p.y,0,none⟩),.string p.s]
def iF (n:Nat):V8:=[.int .u8 (n%251:Nat)]
def mkT (n:Nat):V8:=[.string { data:=#[35,UInt8.ofNat n,UInt8.ofNat (n/256)] }]
structure LW (w:W8)(b:Nat)(bz bv tv sv:Value)(es:List PE)(mb mt ms:List MB):Prop where
 bq:w.heap[b]?=some (.cells #[bz,bv,tv,sv] 69 (0,0))
 row:w.ownsRow (b+1) 112 3 bz es.length (es.flatMap PE.cells)
 It:∀ p∈es,Hb (b::(bz.ownBlock.toList++bv.ownBlock.toList++tv.ownBlock.toList++sv.ownBlock.toList)) w (pt p.s p.x p.y)
 bs:jW w (b+1) 115 5 iF bv mb
 ts:jW w (b+1) 117 9 mkT tv mt
 ss:jW w (b+1) 120 185 zj3 sv ms
abbrev chg (b:Nat)(bz bv tv sv:Value):List Nat:=b::(bz.ownBlock.toList++bv.ownBlock.toList++tv.ownBlock.toList++sv.ownBlock.toList)
variable {mb mt ms:List MB} {es:List PE} {bz bv tv sv:Value}
theorem LW.lt (h:LW w b bz bv tv sv es mb mt ms):b<w.heap.size:=(Array.getElem?_eq_some_iff.1 h.bq).1
theorem LW.sG (h:LW w b bz bv tv sv es mb mt ms):∀ x∈chg b bz bv tv sv,b<=x/\x<w.heap.size:=by
 intro x hx;rcases List.mem_cons.1 hx with rfl | hx
 ·exact⟨Nat.le_refl _,h.lt⟩
 ·simp only[List.mem_append] at hx;rcases hx with ((hx | hx) | hx) | hx
  ·have:=h.row.lt x (by simpa using hx);omega
  ·have:=h.bs.row.lt x (by simpa using hx);omega
  ·have:=h.ts.row.lt x (by simpa using hx);omega
  ·have:=h.ss.row.lt x (by simpa using hx);omega
theorem LW.below {w w':W8}{b:Nat}{bz bv tv sv:Value}{es:List PE}{mb mt ms:List MB}(h:LW w b bz bv tv sv es mb mt ms)(k:Below w.heap.size w w'):LW w' b bz bv tv sv es mb mt ms:=
 have k':zK [] w w':=(zK.refl [] w).ak k
 ⟨(k.block b h.lt).trans h.bq,xD h.row k' (by simp),λ p hp=>(h.It p hp).step k' (by simp) (λ c hc=>.inl hc),h.bs.below k,h.ts.below k,h.ss.below k⟩
theorem LW.start (w:W8)(b:Nat)(h:w.heap[b]?=some (.cells #[.slice none 0 0,.slice none 0 0,.slice none 0 0,.slice none 0 0] 69 (0,0))):LW w b (.slice none 0 0) (.slice none 0 0) (.slice none 0 0) (.slice none 0 0) [] [] [] []:=
 ⟨h,World.ownsRow_nil _ _ _ _,by simp,jW.nil _ _ _ _ _,jW.nil _ _ _ _ _,jW.nil _ _ _ _ _⟩
theorem LW.QL {w2 W w5:W8}(h:LW w b bz bv tv sv es mb mt ms)(hb:Below w.heap.size w w2){p:PE}(hp:pt p.s p.x p.y w2 w.heap.size)
  (hW:zK [] w2 W) (hg:W.grownBy w5 bz.ownBlock) {a':O8} {c':Nat} (ay:w5.ownsRow (b+1) 112 3 (.slice a' (es.length+1) c') (es.length+1) (es.flatMap PE.cells++p.cells)) (dv:(Value.slice a' (es.length+1) c').ownBlock=bz.ownBlock\/∀ g,(Value.slice a' (es.length+1) c').ownBlock=some g->W.heap.size<=g):
  LW (w5.setCell ⟨b,0,none⟩ (.slice a' (es.length+1) c')) b (.slice a' (es.length+1) c') bv tv sv (es++[p]) mb mt ms/\zK (chg b bz bv tv sv) w (w5.setCell ⟨b,0,none⟩ (.slice a' (es.length+1) c'))/\w5.heap[b]?=some (.cells #[bz,bv,tv,sv] 69 (0,0)):=by
 have h2:=h.below hb;have k2:zK (b::bz.ownBlock.toList) w2 (w5.setCell ⟨b,0,none⟩ (.slice a' (es.length+1) c')):=by
  refine zK.setCell (p:=⟨b,0,none⟩) ?_ (.inl List.mem_cons_self) _;exact ((hW.mono (by simp)).trans ((zK.aR hg).mono λ k hk=>.inl (List.mem_cons_of_mem _ hk)))
 have k5:zK bz.ownBlock.toList w2 w5:=(hW.mono (by simp)).trans (zK.aR hg);have dB:w5.heap[b]?=some (.cells #[bz,bv,tv,sv] 69 (0,0)):=
  yL h2.bq k5 (λ x hx=>.inr (yH h2.row (by decide) x hx))
 have bj:=hW.size;have Mn:=hb.size;have sub:∀ x∈b::bz.ownBlock.toList,x∈chg b bz bv tv sv:=λ x hx=>by
  rcases List.mem_cons.1 hx with rfl | hx
  ·exact List.mem_cons_self
  ·exact List.mem_cons_of_mem _ (by simp only[List.mem_append];exact .inl (.inl (.inl hx)))
 have nt:∀ (e:TypeId),69≠e->112≠e->∀ x∈b::bz.ownBlock.toList,dW w2 e x:=λ e e0 e1 x hx=>by
  rcases List.mem_cons.1 hx with rfl | hx
  ·exact zdj h2.bq e0
  ·exact yH h2.row e1 x hx
 have DM:∀ c∈chg b (.slice a' (es.length+1) c') bv tv sv,c∈chg b bz bv tv sv\/w2.heap.size<=c:=λ c hc=>by
  rcases List.mem_cons.1 hc with rfl | hc
  ·exact .inl List.mem_cons_self
  ·simp only[List.mem_append] at hc;have rest:c∈bv.ownBlock.toList\/c∈tv.ownBlock.toList\/c∈sv.ownBlock.toList->c∈chg b bz bv tv sv:=λ hr=>List.mem_cons_of_mem _ (by simp only[List.mem_append];rcases hr with hr | hr | hr <;> simp[hr])
   rcases hc with ((hc | hc) | hc) | hc
   ·rcases dv with e1 | e1
    ·rw[e1] at hc;exact .inl (sub c (List.mem_cons_of_mem _ hc))
    ·exact .inr (Nat.le_trans bj (e1 c (by simpa using hc)))
   ·exact .inl (rest (.inl hc))
   ·exact .inl (rest (.inr (.inl hc)))
   ·exact .inl (rest (.inr (.inr hc)))
 refine⟨⟨?_,?_,λ q hq=>?_,h2.bs.kept k2 (λ x hx=>.inr (nt _ (by decide) (by decide) x hx)) (λ x hx=>.inl (nt _ (by decide) (by decide) x hx)),h2.ts.kept k2 (λ x hx=>.inr (nt _ (by decide) (by decide) x hx)) (λ x hx=>.inl (nt _ (by decide) (by decide) x hx)),h2.ss.kept k2 (λ x hx=>.inr (nt _ (by decide) (by decide) x hx)) (λ x hx=>.inl (nt _ (by decide) (by decide) x hx))⟩,?_,dB⟩
 ·unfold World.setCell;simp only[Array.getElem?_modify,if_true,dB];rfl
 ·rw[List.length_append,List.flatMap_append];have:=ownsRow_setCell_below (a:=⟨b,0,none⟩) ay (by simp) (.slice a' (es.length+1) c');simpa using this
 ·rcases List.mem_append.1 hq with hq | hq
  ·exact (h2.It q hq).step k2 (λ d hd=>.inl (sub d hd)) DM
  ·rw[List.mem_singleton.1 hq];have h0:Hb (chg b bz bv tv sv) w2 (pt p.s p.x p.y):=⟨w2,w.heap.size,zK.refl _ _,λ c hc=>.inl (h.sG c hc).2,hp⟩;exact h0.step k2 (λ d hd=>.inl (sub d hd)) DM
 ·exact ((zK.refl _ w).ak hb).step k2 (λ x hx=>.inl (sub x hx))
end
section
open Go.RowKit
theorem z0c:(Tryz.prog.info? 155).map (·.size)=some 2:=by kernel_rfl
theorem ycn:liesAt Tryz.prog Tryz.prog.depth 155 (2/Tryz.prog.cellsOf 155) 0 155 1=true:=by kernel_rfl
theorem zen:(Tryz.prog.info? 5).map (λ i=>(i.zero,i.size,i.bytes))=some (some (.int .u8 0),1,1):=by kernel_rfl
theorem z3w (b:Nat)(w:W8)(h0:w.cell? ⟨b,0,none⟩=some (.pointer (some ⟨b,0,none⟩))):
  Calls Tryz.prog 169 #[.pointer (some ⟨b,0,none⟩)] w λ e w'=>e=.returned (.tuple #[])/\w'=w:=by
 obtain⟨j,hj,_⟩:=Option.map_eq_some_iff.1 z0c;go_enter Tryz.func169,Tryz.ntmps169
 go_wp2
 rw[Lib.run_neq_ptr_same w _ Tryz.underlying153 hj]
 go_wp2
 go_end0;exact⟨rfl,rfl⟩
theorem zz5 (b:Nat)(w:W8)(h0:w.cell? ⟨b,0,none⟩=some (.pointer none))(SZ:w.shape? b=some (155,2))(Ih:w.frozen? ⟨b,0,none⟩=false):
  Calls Tryz.prog 169 #[.pointer (some ⟨b,0,none⟩)] w λ e w'=>e=.returned (.tuple #[])/\w'=w.setCell ⟨b,0,none⟩ (.pointer (some ⟨b,0,none⟩)):=by
 obtain⟨j,hj,V8⟩:=Option.map_eq_some_iff.1 z0c;go_enter Tryz.func169,Tryz.ntmps169
 go_wp2
 rw[Lib.run_to_unsafe w ⟨b,0,none⟩ Tryz.underlying153 Tryz.underlying349 hj (by rw[V8];decide) SZ (Nat.zero_lt_succ 1)];simp only[Result.andThen];rw[Oper.upon_value]
 go_wp2
 rw[run_callFunc_extern Tryz.func219 (by kernel_rfl) (by kernel_rfl) (by kernel_rfl) (e:=Extern.AbiNoEscape.same) (by kernel_rfl)];rw[Lib.run_noEscape];simp only[Result.andThen];rw[Oper.upon_value]
 go_wp2
 rw[Lib.run_from_unsafe w ⟨b,0,none⟩ Tryz.underlying349 Tryz.underlying153 hj SZ ycn];simp only[Result.andThen];rw[Oper.upon_value]
 go_wp2
 go_end0;exact⟨rfl,rfl⟩
def ll (w w':W8):Prop:=∀ (x:Nat) (c:Array Value) (e:TypeId) (fr:Nat × Nat),w.heap[x]?=some (.cells c e fr)->e≠155->e≠5->w'.heap[x]?=some (.cells c e fr)
theorem ll.refl (w:W8):ll w w:=λ _ _ _ _ h _ _=>h
variable {a:W8}
theorem ll.trans {b c:W8}(h:ll a b)(k:ll b c):ll a c:=λ x cc e fr hx h1 h2=>k x cc e fr (h x cc e fr hx h1 h2) h1 h2
variable {w:W8}
theorem ll.alloc (h:ll a w)(o:Obj):ll a (w.alloc o):=λ x c e fr hx h1 h2=>by
 have h3:=h x c e fr hx h1 h2;rw[Below.heap_alloc _ _ _ (Array.getElem?_eq_some_iff.1 h3).1];exact h3
theorem ll.setCell {b:Nat}{cs:Array Value}{fr:Nat × Nat}(hb:w.heap[b]?=some (.cells cs 155 fr))(o:Nat)(v:Value):ll w (w.setCell ⟨b,o,none⟩ v):=λ x c e fr' hx h1 _=>by
 rw[Below.heap_setCell _ _ _ _ (by
  intro h;simp at h;subst h;rw[hb] at hx;injection hx with hx
  injection hx with _ hx _
  exact h1 hx.symm)]
 exact hx
variable {xs:V8} {v:Value} {n:Nat}
theorem ll.grown {w1:W8}{B:Nat}(ay:w.ownsRow B 5 1 v n xs)(hg:w.grownBy w1 v.ownBlock):ll w w1:=λ x c e fr hx _ h2=>by
 rw[hg.block x (Array.getElem?_eq_some_iff.1 hx).1 (λ h=>?_)]
 ·exact hx
 ·rcases ay.2 with⟨rfl,_⟩ | ⟨g,cap,cur,rfl,_,bS,_⟩
  ·cases h
  ·injection h with h
   simp only at h;subst h;rw[hx] at bS;injection bS with bS
   injection bS with _ bS _
   exact h2 bS
theorem ll.own {w':W8}{base:Nat}{e:TypeId}{size:Nat}(k:ll w w')(h:w.ownsRow base e size v n xs)(h1:e≠155)(h2:e≠5):w'.ownsRow base e size v n xs:=by
 refine⟨h.1,?_⟩;rcases h.2 with hn | ⟨g,cap,cur,rfl,hb,bS,rest⟩
 ·exact .inl hn
 ·exact .inr ⟨g,cap,cur,rfl,hb,k g _ _ _ bS h1 h2,rest⟩
theorem zhz (B b:Nat)(bs:V8)(w:W8)(h:Lib.IsBuilder 155 5 B b bs w):
  Calls Tryz.prog 169 #[.pointer (some ⟨b,0,none⟩)] w λ e w'=>e=.returned (.tuple #[])/\Lib.BuilderAt 155 5 B b (.pointer (some ⟨b,0,none⟩)) bs w'/\Below B w w'/\ll w w':=by
 rcases h with h | h
 ·refine (zz5 b w h.cell0 h.shape h.frozen0).mono ?_;rintro e w' ⟨rfl,rfl⟩;obtain⟨_,v,hb,_⟩:=id h;exact⟨rfl,h.used _,(Below.refl B w).setCell (p:=⟨b,0,none⟩) h.1 _,ll.setCell hb 0 _⟩
 ·refine (z3w b w h.cell0).mono ?_;rintro e w' ⟨rfl,rfl⟩;exact⟨rfl,h,Below.refl B _,ll.refl _⟩
theorem zqh (w1:W8)(x:Value)(ty:TypeId)(j:Nat)(u:Value)(h:([x]:V8)[j]?=some u):(w1.alloc (Obj.cells #[x] ty)).cell? ((⟨w1.heap.size,0,none⟩:Addr).add j)=some u:=cell_one_new w1 x ty j u h
theorem z6q (c:Int):∀ u∈([Value.int .u8 c]:V8),u.oneCell'=true:=by
 intro u hu;simp at hu;subst hu;rfl
def j6 (l:List UInt8):V8:=l.map λ b=>Value.int .u8 b.toNat
theorem ztc (l:List UInt8)(s:B8):j6 l++Lib.strCells s=j6 (l++s.data.toList):=by simp[j6,Lib.strCells]
theorem zry (l:List UInt8)(c:UInt8):j6 l++[Value.int .u8 c.toNat]=j6 (l++[c]):=by simp[j6]
theorem zjy (l:List UInt8):(j6 l).length=l.length:=by simp[j6]
def xc (B b:Nat)(l:List UInt8)(w:W8):Prop:=Lib.IsBuilder 155 5 B b (j6 l) w
theorem zo4 (B b:Nat)(l:List UInt8)(s:B8)(w:W8)(h:xc B b l w)(hlen:l.length+s.size<=140737488355328)(hBw:B<=w.heap.size):
  Calls Tryz.prog 111 #[.pointer (some ⟨b,0,none⟩),.string s] w λ e w'=>e=.returned (.tuple #[.int .i64 s.size,.nilIface])/\xc B b (l++s.data.toList) w'/\Below B w w'/\ll w w':=by
 obtain⟨i0,hi,bL,aY,bf⟩:=info_parts zen;have gY:=zjy l;go_enter Tryz.func111,Tryz.ntmps111;go_wp2_with fail;refine (zhz B b (j6 l) _ h).mono ?_;rintro e w1 ⟨rfl,h1,aL,aX⟩;obtain⟨hB,v,ny,ay,bF⟩:=h1;have c0:w1.cell? ⟨b,0,none⟩=some (.pointer (some ⟨b,0,none⟩)):=by rw[Lib.cell_of_heap ny];rfl
 have c1:w1.cell? ⟨b,1,none⟩=some v:=by rw[Lib.cell_of_heap ny];rfl
 have hz:=aL.size;go_wp2_with (at_builtin;refine Lib.wpList_append_own_string _ rfl _ _ 47 9 rfl B 5 i0 Tryz.underlying47 Tryz.underlying9 hi bL aY bf _ _ _ rfl ay s rfl (by unfold maxLen;omega) (by omega) (by omega) ?_);intro v' w2 iI hgrow _;have aH:b<w1.heap.size:=(Array.getElem?_eq_some_iff.1 ny).1;have aK:w2.heap[b]?=some (.cells #[.pointer (some ⟨b,0,none⟩),v] 155 (0,0)):=by
  rw[hgrow.block b aH (λ e=>bF e.symm)];exact ny
 have d0:w2.cell? ⟨b,0,none⟩=some (.pointer (some ⟨b,0,none⟩)):=by rw[Lib.cell_of_heap aK];rfl
 have d1:w2.cell? ⟨b,1,none⟩=some v:=by rw[Lib.cell_of_heap aK];rfl
 have f1:w2.frozen? ⟨b,1,none⟩=false:=Lib.frozen_of_heap aK 1;obtain⟨ao,n',cap,rfl⟩:∃ ao n' cap,v'=.slice ao n' cap:=by
  rcases iI.2 with⟨hv,_⟩ | ⟨g,cap,cur,hv,_⟩
  ·exact⟨_,_,_,hv⟩
  ·exact⟨_,_,_,hv⟩
 have iR:=Lib.BuilderAt.put (T:=155) (e:=5) hB aK (v':=.slice ao n' cap) (bs':=j6 l++Lib.strCells s) (by rw[List.length_append,Lib.strCells_length,gY];exact iI) (by decide);rw[ztc] at iR;have HP:=zC iR;have HK:=zC ((aX.trans (ll.grown ay hgrow)).trans (ll.setCell aK 1 (.slice ao n' cap)));have HB:=zC ((aL.grown hgrow (by omega) (λ k hk=>(ay.lt k hk).1)).setCell (p:=⟨b,1,none⟩) hB (.slice ao n' cap));clear iR iI hgrow aL ay ny aK c0 c1 aX;go_wp2_with fail
 go_ret2
 exact⟨rfl,.inr (zA HP),zA HB,zA HK⟩
theorem zk8 (B b:Nat)(l:List UInt8)(c:UInt8)(w:W8)(h:xc B b l w)(hlen:l.length+1<=140737488355328)(hBw:B<=w.heap.size):
  Calls Tryz.prog 167 #[.pointer (some ⟨b,0,none⟩),.int .u8 c.toNat] w λ e w'=>e=.returned .nilIface/\xc B b (l++[c]) w'/\Below B w w'/\ll w w':=by
 obtain⟨i0,hi,bL,aY,bf⟩:=info_parts zen;have gY:=zjy l;go_enter Tryz.func167,Tryz.ntmps167;go_wp2_with fail;refine (zhz B b (j6 l) _ h).mono ?_;rintro e w1 ⟨rfl,h1,aL,aX⟩;obtain⟨hB,v,ny,ay,bF⟩:=h1;have c0:w1.cell? ⟨b,0,none⟩=some (.pointer (some ⟨b,0,none⟩)):=by rw[Lib.cell_of_heap ny];rfl
 have c1:w1.cell? ⟨b,1,none⟩=some v:=by rw[Lib.cell_of_heap ny];rfl
 have hz:=aL.size;go_wp2_with (at_builtin;refine wpList_append_own _ rfl _ _ 47 rfl B 5 i0 (.int .u8 0) 1 1 Tryz.underlying47 hi bL aY bf rfl (by decide) _ _ _ rfl (ay.alloc _) ⟨w1.heap.size,0,none⟩ 1 1 [.int .u8 c.toNat] rfl rfl (zqh w1 _ _) (z6q _) (by unfold maxLen;omega) (by omega) (by simp;omega) ?_);intro v' w2 iI hgrow _;have aH:b<w1.heap.size:=(Array.getElem?_eq_some_iff.1 ny).1;have aK:w2.heap[b]?=some (.cells #[.pointer (some ⟨b,0,none⟩),v] 155 (0,0)):=by
  rw[hgrow.block b (by simp;omega) (λ e=>bF e.symm),Below.heap_alloc _ _ _ aH];exact ny
 have d0:w2.cell? ⟨b,0,none⟩=some (.pointer (some ⟨b,0,none⟩)):=by rw[Lib.cell_of_heap aK];rfl
 have d1:w2.cell? ⟨b,1,none⟩=some v:=by rw[Lib.cell_of_heap aK];rfl
 have f1:w2.frozen? ⟨b,1,none⟩=false:=Lib.frozen_of_heap aK 1;obtain⟨ao,n',cap,rfl⟩:∃ ao n' cap,v'=.slice ao n' cap:=by
  rcases iI.2 with⟨hv,_⟩ | ⟨g,cap,cur,hv,_⟩
  ·exact⟨_,_,_,hv⟩
  ·exact⟨_,_,_,hv⟩
 have iR:=Lib.BuilderAt.put (T:=155) (e:=5) hB aK (v':=.slice ao n' cap) (bs':=j6 l++[.int .u8 c.toNat]) (by rw[List.length_append,gY];exact iI) (by decide);rw[zry] at iR;have HP:=zC iR;have HK:=zC (((aX.alloc _).trans (ll.grown (ay.alloc _) hgrow)).trans (ll.setCell aK 1 (.slice ao n' cap)));have HB:=zC (((aL.alloc (by omega) _).grown hgrow (by simp;omega) (λ k hk=>(ay.lt k hk).1)).setCell (p:=⟨b,1,none⟩) hB (.slice ao n' cap));clear iR iI hgrow aL ay ny aK c0 c1 aX;go_wp2_with fail;go_ret;exact⟨rfl,.inr (zA HP),zA HB,zA HK⟩
end
section
open Go.RowKit
def xK:List (Bool × B8)->Nat->List UInt8
 | [],_=>[]
 | t::r,i=>(if i=0 then 40 else 44)::(t.2.data.toList++xK r (i+1))
def zaw (pd:B8)(ts:List (Bool × B8)):List UInt8:=pd.data.toList++(xK ts 0++if ts.length=0 then [] else [41])
theorem zud {ts:List (Bool × B8)}{k:Nat}(h:k<ts.length):xK (ts.drop k) k=(if k=0 then 40 else 44)::(ts[k].2.data.toList++xK (ts.drop (k+1)) (k+1)):=by
 rw[List.drop_eq_getElem_cons h,xK]
theorem jH (s:B8):s.data.toList.length=s.size:=by rw[Array.length_toList];rfl
theorem zpr (W:W8)(v:Value):(Instr.typeAssert (.iface 130 v) 191 193 true).run Tryz.prog W=.ok (.tuple #[.string { data:=#[] },.bool false]) W:=by kernel_rfl
def ydo (B b:Nat)(w:W8)(l:List UInt8)(e:Ending)(w':W8):Prop:=e=.returned (.tuple #[])/\xc B b l w'/\Below B w w'/\ll w w'/\B<=w'.heap.size
theorem zrl (B b:Nat)(l:List UInt8)(AU:Bool)(s:B8)(w:W8)(h:xc B b l w)(hlen:l.length+s.size<=140737488355328)(hBw:B<=w.heap.size):
  Calls Tryz.prog 168 #[.pointer (some ⟨b,0,none⟩),zeb AU s] w (ydo B b w (l++s.data.toList)):=by
 have Tv:=zes;have Kd:=zpr;have CH:=zdl;unfold zeb
 cases AU with
 | true=>
  rw[if_pos rfl];go_enter Tryz.func168,Tryz.ntmps168;go_wp2_with fail;refine (zo4 B b l s _ h hlen hBw).mono ?_;rintro e w1 ⟨rfl,h1,aL,aX⟩;go_wp2_with fail;go_end0;exact⟨rfl,h1,aL,aX,Nat.le_trans hBw aL.size⟩
 | false=>
  rw[if_neg (by decide)];go_enter Tryz.func168,Tryz.ntmps168;go_wp2_with fail;refine (zo4 B b l s _ h hlen hBw).mono ?_;rintro e w1 ⟨rfl,h1,aL,aX⟩;go_wp2_with fail;go_end0;exact⟨rfl,h1,aL,aX,Nat.le_trans hBw aL.size⟩
theorem xc.alloc {B b:Nat}{l:List UInt8}{w:W8}(h:xc B b l w)(o:Obj):xc B b l (w.alloc o):=by
 have key:∀ p,Lib.BuilderAt 155 5 B b p (j6 l) w->Lib.BuilderAt 155 5 B b p (j6 l) (w.alloc o):=by
  rintro p ⟨hB,v,hb,ay,bF⟩;exact⟨hB,v,by rw[Below.heap_alloc _ _ _ (Array.getElem?_eq_some_iff.1 hb).1];exact hb,ay.alloc o,bF⟩
 rcases h with h | h
 ·exact .inl (key _ h)
 ·exact .inr (key _ h)
theorem z2r (B b:Nat)(l:List UInt8)(pd:B8)(a:O8)(c base:Nat)(ts:List (Bool × B8))(w:W8)(h:xc B b l w)(ay:w.ownsRow base 191 1 (.slice a ts.length c) ts.length (xI ts))(hlen:l.length+(zaw pd ts).length<=1000000000)(hBw:B<=w.heap.size):
  Calls Tryz.prog 110 #[.pointer (some ⟨b,0,none⟩),.agg #[.string pd,.slice a ts.length c]] w (ydo B b w (l++zaw pd ts)):=by
 have lN:=yU ay;unfold maxLen at lN;have bt:=jH pd;have e0:(zaw pd ts).length=pd.size+((xK ts 0).length+(if ts.length=0 then ([]:List UInt8) else [41]).length):=by simp only[zaw,List.length_append,bt]
 have dn:(w.alloc (.cells #[.string pd,.slice a ts.length c] 79)).heap[w.heap.size]?=_:=heap_alloc_new w _;have bA:=(Below.refl w.heap.size w).alloc L9 (.cells #[.string pd,.slice a ts.length c] 79);have kA:=(ll.refl w).alloc (.cells #[.string pd,.slice a ts.length c] 79);have HE:=zC (show l++zaw pd ts=l++pd.data.toList++(xK ts 0++if ts.length=0 then [] else [41]) by simp[zaw]);go_enter Tryz.func110,Tryz.ntmps110;go_wp2_with fail;refine (zo4 B b l pd _ (h.alloc _) (by omega) (by simp;omega)).mono ?_;rintro e w1 ⟨rfl,h1,aL,aX⟩;have gA:=(bA.mono hBw).trans aL;have pZ:=kA.trans aX;have dO:=aX _ _ _ _ dn (by decide) (by decide);have aN:=pZ.own ay (by decide) (by decide);have aY:=aL.size;rw[World.size_alloc] at aY;obtain⟨x0,uu⟩:=zB dO 0;obtain⟨x1,mL⟩:=zB dO 1;have CI:=zC ay;clear dn aL aX bA kA ay h
 by_cases hn:ts.length=0
 ·have BZ:((ts.length:Int)==0)=true:=by simp[hn]
  have pG:ts=[]:=List.length_eq_zero_iff.1 hn;have CK:=zC (show l++zaw pd ts=l++pd.data.toList by rw[zA HE,pG];simp[xK]);clear HE hn pG;go_wp2_with fail;go_end0;exact⟨rfl,by rw[zA CK];exact h1,gA,pZ,by omega⟩
 ·have BZ:((ts.length:Int)==0)=false:=by simp;exact λ e=>hn (by rw[e];rfl)
  have TG:(if ts.length=0 then ([]:List UInt8) else [41])=[41]:=if_neg hn;rw[TG] at e0 HE;have Kc:([41]:List UInt8).length=1:=rfl;rw[Kc] at e0;clear TG hn;go_wp2_with fail
  go_loopg [17] ts.length (λ gg i wr=>∃ (k:Nat) (m:List UInt8),k<=ts.length/\gg=ts.length-k/\i=.int .i64 k/\xc B b m wr/\Below B w wr/\ll w wr/\w.heap.size<wr.heap.size/\wr.heap[w.heap.size]?=some (.cells #[.string pd,.slice a ts.length c] 79 (0,0))/\m++xK (ts.drop k) k=l++pd.data.toList++xK ts 0)
  exact⟨0,_,Nat.zero_le _,rfl,rfl,h1,gA,pZ,by omega,dO,rfl⟩
  case round=>
   clear h1 gA pZ dO aN x0 x1 uu mL;obtain⟨k,m,hk,eA,rfl,h1,gA,pZ,bj,dO,hm⟩:=hrel;have bh:=congrArg List.length hm;simp only[List.length_append,bt] at bh
   by_cases aF:k<ts.length
   ·have dG:=zud aF;have HM:=zC (dG ▸ hm);rw[dG] at bh;simp only[List.length_cons,List.length_append,jH] at bh;clear hm dG;have aN:=pZ.own (zA CI) (by decide) (by decide);obtain⟨g,cap,hv,iG,aZ,bO,bP,hc⟩:=zmk aN k aF;injection hv with i1 i2 i3
    subst i1 i3;obtain⟨AU,tx,het⟩:∃ AU tx,ts[k]=(AU,tx):=⟨_,_,rfl⟩;have e1:ts[k].1=AU:=(by rw[het]);have e2:ts[k].2=tx:=(by rw[het]);rw[e1,e2] at hc;rw[e2] at HM bh;obtain⟨x1,mL⟩:=zB dO 1;clear het e1 e2 aN;have tz:zeb AU tx=.iface (if AU then 130 else 193) (.string tx):=rfl;rw[tz] at hc;have SD:=zC tz;clear tz;generalize hty:(if AU then 130 else 193)=ty at hc;have Vv:=zC hty;clear hty
    cases k with
    | zero=>
     go_wp2_with fail;refine (zk8 B b m 40 _ h1 (by omega) (by omega)).mono ?_;rintro e w2 ⟨rfl,h2,aK,bn⟩;have bf:=aK.size;have mH:=bn _ _ _ _ dO (by decide) (by decide);have lu:=gA.trans aK;have uE:=pZ.trans bn;clear aK bn dO h1 gA pZ x1 mL;go_wp2_with fail;rw[<-zA Vv,<-zA SD];refine (zrl B b _ AU tx _ h2 (by simp;omega) (by omega)).mono ?_;rintro e w3 ⟨rfl,h3,cI,eE,ze⟩;have zk:=eE _ _ _ _ mH (by decide) (by decide);have Ql:=cI.size;have HR:=zC (And.intro h3 (And.intro (lu.trans cI) (And.intro (uE.trans eE) zk)));clear mH zk h2 h3 cI eE lu uE;go_wp2_with fail;go_roundg (ts.length-(0+1));exact⟨0+1,_,by omega,rfl,by go_num,(zA HR).1,(zA HR).2.1,(zA HR).2.2.1,by omega,(zA HR).2.2.2,by have:=zA HM;simpa using this⟩;omega
    | succ k=>
     have iz:(((k+1:Nat):Int)==0)=false:=(by simp;omega);go_wp2_with fail;refine (zk8 B b m 44 _ h1 (by omega) (by omega)).mono ?_;rintro e w2 ⟨rfl,h2,aK,bn⟩;have bf:=aK.size;have mH:=bn _ _ _ _ dO (by decide) (by decide);have lu:=gA.trans aK;have uE:=pZ.trans bn;clear aK bn dO h1 gA pZ x1 mL;go_wp2_with fail;rw[<-zA Vv,<-zA SD];refine (zrl B b _ AU tx _ h2 (by simp;omega) (by omega)).mono ?_;rintro e w3 ⟨rfl,h3,cI,eE,ze⟩;have zk:=eE _ _ _ _ mH (by decide) (by decide);have Ql:=cI.size;have HR:=zC (And.intro h3 (And.intro (lu.trans cI) (And.intro (uE.trans eE) zk)));clear mH zk h2 h3 cI eE lu uE;go_wp2_with fail;go_roundg (ts.length-(k+1+1));exact⟨k+1+1,_,by omega,rfl,by go_num,(zA HR).1,(zA HR).2.1,(zA HR).2.2.1,by omega,(zA HR).2.2.2,by have:=zA HM;simpa using this⟩;omega
   ·have hd:ts.drop k=[]:=List.drop_of_length_le (by omega);rw[hd] at hm bh;simp only[xK,List.append_nil,List.length_nil] at hm bh;have HM:=zC hm;clear hm hd;go_wp2_with fail;refine (zk8 B b m 41 _ h1 (by omega) (by omega)).mono ?_;rintro e w2 ⟨rfl,h2,aK,bn⟩;have bf:=aK.size;have HR:=zC (And.intro h2 (And.intro (gA.trans aK) (pZ.trans bn)));clear h1 gA pZ h2 aK bn dO;go_wp2_with fail;go_end0;refine⟨rfl,?_,(zA HR).2.1,(zA HR).2.2,by omega⟩;rw[zA HE,<-List.append_assoc,<-zA HM];exact (zA HR).1
end
end Go.Proofs.YtldkpahaocjdpaaGreat
