/-
  The law's book.stratum: one entry more.
-/
import Derived.Test.YtldkpahaocjdpaaGreatA09
set_option maxHeartbeats 16000000
set_option maxRecDepth 1000000
namespace Go.Proofs.YtldkpahaocjdpaaGreat
open Go.Value renaming slice->U,int->I,pointer->Vp,agg->Va,tuple->Vt
open Go.IntKind renaming i64->J
open Go.Ending renaming returned->Vr
open Go.Obj renaming cells->Vc
open _root_.Option renaming none->G,some->P
open _root_.Bool renaming true->Bt
open Go.Addr renaming mk->C
open _root_.List renaming length->Z
open Go.World renaming heap->X,alloc->Al,setCell->Sc,ownsRow->Ow
open _root_.Array renaming size->F
open Go.Proofs.Tryz
set_option linter.defProp false
open Go.RowKit
def ahm:(prog.info? 120).map (λi=>(i.zero,i.size,i.bytes))=P (P (Va #[U G 0 0,U G 0 0,U G 0 0,U G 0 0,I J 0]),5,104):=oK
def MT{w k W d b j A A' o e r v a m a' c'}(f:k.heap[b]?=P (Vc A 69))(s:jH k (b+1) o e r v a)(p:vh w e (r m.mark) m k)(t:ak [] k W)(K:W.grownBy d v.ownBlock)(n:Ow d (b+1) o 5 (U a' (Z a+1) c') (Z a+1) (a.flatMap MB.cells++m.cells))(q:v.ownBlock=(U a' (Z a+1) c').ownBlock\/∀g,(U a' (Z a+1) c').ownBlock=P g->F (X W)<=g)(z:69≠o)(B:69≠e)(D:o≠e)(E:A.setIfInBounds j (U a' (Z a+1) c')=A'):jH (Sc d (C b j G) (U a' (Z a+1) c')) (b+1) o e r (U a' (Z a+1) c') (a++[m])/\(Sc d (C b j G) (U a' (Z a+1) c')).heap[b]?=P (Vc A' 69)/\ak (b::(v.ownBlock.toList++m.l.ownBlock.toList)) w (Sc d (C b j G) (U a' (Z a+1) c'))/\(∀g∈(U a' (Z a+1) c').ownBlock.toList,g∈v.ownBlock.toList\/F (X w)<=g)/\d.heap[b]?=P (Vc A 69):=by
 have y:ak v.ownBlock.toList k d:=(t.mono oS).trans (ak.jF K);have l:d.heap[b]?=P (Vc A 69):=lC f y (λx c=>.inr (gl s.row (Ne.symm z) x c));have u:ak (b::v.ownBlock.toList) k (Sc d (C b j G) (U a' (Z a+1) c')):=ak.setCell (p:=(C b j G)) (y.mono λx c=>.inl (bG _ c)) (.inl bz) _;have L:=p.kept.size;have M:=t.size;refine⟨s.add p.mark u (fh (a:=(C b j G)) n oS _) (rX f B) D,?_,?_,λg i=>?_,l⟩
 .rw[j9 _ _ _ _ _ _ l,E]
 .refine(p.kept.mono λx c=>.inl (bG _ (List.mem_append_right _ c))).step u λx c=>.inl ?_
  rcases bS.1 c with rfl|c
  .exact bz
  exact bG _ (List.mem_append_left _ c)
 rcases q with h|h
 .rw[<-h]at i;exact .inl i
 exact .inr (oF (h g (oU i)))
def F5(w A B):Below (F (X w)) w (Al (Al w A) B)/\(Al (Al w A) B).heap[F (X w)+1]?=P B/\(Al (Al w A) B).heap[F (X w)]?=P A/\(F (X w))+2=(Al (Al w A) B).heap.size:=by have h:=aG (Al w A) B;rw[bL]at h;exact⟨((aZ (F (X w)) w).alloc L9 A).alloc oS B,h,(aW _ _ _ oS).trans (aG w A),oS⟩
def Pm(w)(a:V8)(t j u)(h:a[j]?=P u):((Al (Al w (Vc a.toArray t)) (Vc a.toArray t)).drew).cell? (((C (F (X w)+1) 0 G):Addr).add j)=P u:=by have:=aG (Al w (Vc a.toArray t)) (Vc a.toArray t);rw[bL]at this;exact World.news_of_block (w:=(Al (Al w _) _).drew) this j u (oU h)
structure Ho(w:W8)(b:Nat)(A':V9->Array V9)(tB e:TypeId)(mk:Nat->V8)(v:V9)(ms:List MB)(lv v':V9)(m:MB)(w':W8):Prop where
 blk:w'.heap[b]?=P (Vc (A' v') 69)
 zX:jH w' (b+1) tB e mk v' (ms++[m])
 kept:ak (b::(v.ownBlock.toList++lv.ownBlock.toList)) w w'
 rI:∀g∈m.kT,g∈lv.ownBlock.toList\/F (X w)<=g
 row:∀g∈v'.ownBlock.toList,g∈v.ownBlock.toList\/F (X w)<=g
def Ms(w:W8)(b:Nat)(A':V9->Array V9)(tB e0:TypeId)(mk:Nat->V8)(v:V9)(ms:List MB)(lv:V9):Ending->W8->Prop:=λe w'=>e=Vr (Vt #[])/\∃v' m,Ho w b A' tB e0 mk v ms lv v' m w'
def aaC(w b f r s M d a n c xs)(e:w.heap[b]?=P (Vc #[f,r,s,M] 69))(p:jH w (b+1) 120 185 iN M d)(h:Ow w 0 185 3 (U a n c) n xs)(hn:n<=1000)(x:∀m∈d,∀g∈(U a n c).ownBlock.toList,g∉m.kT)(hlen:Z d<=100000000):Calls prog 87 #[Vp (P (C b 1 G)),U a n c] w (Ms w b (λE=>#[f,r,s,E]) 120 185 iN M d (U a n c)):=by
 obtain⟨i0,hi,E,K,L⟩:=info_parts ahm;obtain⟨T,V,rfl⟩:=aF p.row;obtain⟨x3,N⟩:=aj e 3;have k:=H e;have S:=H p;have Q:=H x;have q:=H h;clear p x h e;go_in;go_wp2_with fail;refine(ajC w a n c (Z d) xs q hn O).mono ?_;rintro e t⟨v,y,z,A,B,D,rfl,p⟩;have h:t.heap[b]?=P (Vc #[f,r,s,U T (Z d) V] 69):=lC k p.kept (λx j=>.inr (gl q oD x j));have i:=S.kept p.kept (λx j=>.inr (gl q oD x j)) (λx j=>.inr (λm W=>Q m W x j));have m:=i.row;obtain⟨_,_⟩:=aj h 3;have W:=(aM.1 h).1;have j:=H h;have o:=H i;have R:=H p;have x:=H m;have s3:Hid (∀u∈([U a n c,U v (n+1) A,U y (n+2) B,U z (n+64) D,I J (Z d:Nat)]:V8),u.oneCell'=Bt):=by
  show ∀u∈_,_
  intro u l;simp at l;rcases l with rfl|rfl|rfl|rfl|rfl<;>rfl
 have l:=H p.rI;clear p i m h k S Q q x3 N;go_wp2
 go_region_law(refine step_append_lies _ rfl (.tmp 16) (.tmp 18) 65 rfl (b+1) 120 i0 (Va #[U G 0 0,U G 0 0,U G 0 0,U G 0 0,I J 0]) 5 104 underlying65 hi E K L rfl oD (U T (Z d) V) (Z d) (d.flatMap MB.cells) (by simp[Act.eval]) ((x.alloc _).alloc _) (C (F (X t)+1) 0 G) 1 1 [U a n c,U v (n+1) A,U y (n+2) B,U z (n+64) D,I J (Z d:Nat)] (by simp[Act.eval]) rfl (Pm t _ _) s3 oD oM O oT _ rfl ?_;intro g m w5 h i k rP;obtain⟨N,q,Q,S,p⟩:=MT (j:=3) (a':=P (C g 0 G)) (c':=m) (m:=⟨U a n c,U v (n+1) A,U y (n+2) B,U z (n+64) D,Z d⟩) (A':=#[f,r,s,U (P (C g 0 G)) (Z d+1) m]) j o R (((ak.refl [] t).alloc _).alloc _).drew i h (k.imp id (λe g' e'=>by rw[<-e];exact wR (by simpa[Value.ownBlock]using e'))) oD oD oD oS;obtain⟨_,_⟩:=aj p 3)
 all_goals
  have E1:=H N;have E2:=H q;have E3:=H Q;have E4:=H S;clear s3 j o R x N q Q S p h i;go_wp2;go_end0;exact⟨rfl,_,_,E2,E1,E3,l,E4⟩
end Go.Proofs.YtldkpahaocjdpaaGreat
