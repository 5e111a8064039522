/-
  Bytes: a witness is written.
-/
import Derived.Test.YtldkpahaocjdpaaGreatD41
set_option maxHeartbeats 16000000
set_option maxRecDepth 1000000
namespace Go.Proofs.YtldkpahaocjdpaaGreat
section
open Go.RowKit Go.Maps
def ry (x:Nat × List Nat):List Nat:=x.1::x.2
def zgq (k:Nat)(ns:List (Nat × List Nat)):List Nat:=k::ns.length::ns.flatMap ry
structure tZ (w:W8)(out:List Nat)(v:Value)(wr:W8):Prop where
 k:Below w.heap.size w wr
 row:wr.ownsRow (w.heap.size+1) 5 1 v out.length (out.map u8c)
theorem tZ.add {w:W8}{out:List Nat}{v v':Value}{wr W w5:W8}{x:Nat}(h:tZ w out v wr)(hW:Below wr.heap.size wr W)(hg:W.grownBy w5 v.ownBlock)(aI:w5.ownsRow (w.heap.size+1) 5 1 v' (out.length+1) (out.map u8c++[u8c x])):tZ w (out++[x]) v' w5:=by
 have hs:=h.k.size;refine⟨⟨hg.os.trans (hW.os.trans h.k.os),hg.tape.trans (hW.tape.trans h.k.tape),hg.output.trans (hW.output.trans h.k.output),Nat.le_trans h.k.size (Nat.le_trans hW.size hg.size),λ i hi=>?_⟩,?_⟩
 ·have:=hW.size;rw[hg.block i (by omega) (λ e=>by have:=(h.row.lt i e.symm).1;omega),hW.block i (by omega)];exact h.k.block i hi
 ·rw[List.length_append,List.length_singleton,List.map_append];exact aI
def zzk (w:W8)(L:List Nat)(e:Ending)(w':W8):Prop:=
 ∃ (a:O8) (c:Nat),e=.returned (.slice a L.length c)/\w'.ownsRow w.heap.size 5 1 (.slice a L.length c) L.length (L.map u8c)/\Below w.heap.size w w'
theorem z0l (w:W8)(base k:Nat)(an:O8)(cn:Nat)(aJ:List ND)(h:jT w base (.slice an aJ.length cn) aJ)(hl:aJ.length<=50)(hf:∀ x∈aJ,x.fr.length<=3):
  Calls Tryz.prog 43 #[.agg #[.int .i64 (k:Nat),.slice an aJ.length cn]] w (zzk w (zgq k (aJ.map dX))):=by
 obtain⟨i0,hi,dK,cB,bZ⟩:=info_parts zj8;have H:=zC h;have HF:=zC hf;have HL:=zC hl;clear h hf hl;go_enter Tryz.func43,Tryz.ntmps43;go_upto_region 2 with fail;generalize hw0:World.alloc (World.alloc w _) _=w0;have k0:Below w.heap.size w w0:=by
  rw[<-hw0];exact ((Below.refl w.heap.size w).alloc L9 _).alloc (by simp) _
 have r0:w0.ownsRow (w.heap.size+1) 5 1 (.slice (some ⟨w.heap.size+1,0,none⟩) 2 2) 2 ([k,aJ.length].map u8c):=by
  rw[<-hw0];have:=World.ownsRow_lit (base:=w.heap.size+1) (size:=1) (e:=5) (w.alloc (.cells #[.int .i64 (k:Nat),.slice an aJ.length cn] 93)) #[.int .u8 ((k:Int)%256),.int .u8 ((aJ.length:Int)%256)] 2 (by simp) (by unfold maxLen;omega) rfl;rw[World.size_alloc] at this;exact this
 have b1:w0.cell? ⟨w.heap.size,1,none⟩=some (.slice an aJ.length cn):=by
  have x0:w0.heap[w.heap.size]?=some (.cells #[.int .i64 (k:Nat),.slice an aJ.length cn] 93 (0,0)):=by
   rw[<-hw0,Below.heap_alloc _ _ _ (by simp)];exact heap_alloc_new w _
  exact (zB x0 1).1
 have H0:=zC (show tZ w (k::aJ.length::((aJ.take 0).map dX).flatMap ry) (.slice (some ⟨w.heap.size+1,0,none⟩) 2 2) w0 from ⟨k0,r0⟩);clear hw0 k0 r0;go_upto_region 3 with fail;clear b1
 go_loopg [3,19] aJ.length (λ gg v i wr=>∃ kk:Nat,kk<=aJ.length/\gg=aJ.length-kk/\i=.int .i64 kk/\(k::aJ.length::((aJ.take kk).map dX).flatMap ry).length<=2+4*kk/\tZ w (k::aJ.length::((aJ.take kk).map dX).flatMap ry) v wr)
 exact⟨0,Nat.zero_le _,rfl,rfl,by simp,zA H0⟩
 case round=>
  clear H0;obtain⟨kk,kg,fM,rfl,AB,ak⟩:=hrel;obtain⟨out,l6⟩:∃ out,out=k::aJ.length::((aJ.take kk).map dX).flatMap ry:=⟨_,rfl⟩;rw[<-l6] at AB ak;obtain⟨ao,co,rfl⟩:=zE ak.row
  by_cases aN:kk<aJ.length
  ·obtain⟨x,pL⟩:∃ x,x=aJ[kk]:=⟨_,rfl⟩;have bC:x∈aJ:=(by rw[pL];exact List.getElem_mem aN);obtain⟨g,cap,hv,iC,dp,dG,dx,hc⟩:=vL zdw (zA H).row kk aN;injection hv with h1 h2 h3
   subst h1 h3;have u3:=(zA H).each x bC;obtain⟨av,cv,u4⟩:=zE u3;have e0:wr.cell? ⟨g,kk*2,none⟩=some (.int .i64 (x.r:Nat)):=(by rw[pL];exact (ak.k.cell (p:=⟨g,kk*2,none⟩) dp).trans (hc 0 (by omega)));have e1:wr.cell? ⟨g,kk*2+1,none⟩=some (.slice av x.fr.length cv):=(by rw[<-u4,pL];exact (ak.k.cell (p:=⟨g,kk*2+1,none⟩) dp).trans (hc 1 (by omega)));have gW:(kk:Int)<aJ.length:=(by omega);have Fs:=zA HF x bC;have JD:=zA HL;have Df:out.length<=300:=by omega
   have Ff:=zC (show k::aJ.length::((aJ.take (kk+1)).map dX).flatMap ry=out++x.r::x.fr by
    rw[List.take_succ_eq_append_getElem aN,List.map_append,List.flatMap_append,l6,<-pL]
    simp[ry,dX])
   have Hy:=zC (show (out++x.r::x.fr).length<=2+4*(kk+1) by simp;omega);have bH:=(ak.row.alloc (.cells #[.int .i64 (x.r:Nat),.slice av x.fr.length cv] 150)).alloc (.cells #[.int .u8 ((x.r:Int)%256)] 5);have gF:=zC (World.news_of_block (heap_alloc_new (wr.alloc (.cells #[.int .i64 (x.r:Nat),.slice av x.fr.length cv] 150)) (.cells #[.int .u8 ((x.r:Int)%256)] 5)));rw[World.size_alloc] at gF;have bt:=zC ak;have xw:=zC u3;have BM:=zC u4;have lK:=ak.k.size;clear hc ak pL bC h2 u3 u4 l6 AB;go_upto_region 6 with (at_builtin;refine wpList_append_own _ rfl _ _ 47 rfl (w.heap.size+1) 5 i0 _ 1 1 Tryz.underlying47 hi dK cB bZ rfl (by decide) _ _ _ rfl bH ⟨wr.heap.size+1,0,none⟩ 1 1 [u8c x.r] rfl rfl (zA gF) (by intro u hu;rw[List.mem_singleton.1 hu];rfl) (by unfold maxLen;omega) (by omega) (by simp;omega) ?_;intro v5 w5 hown5 dz hne5;clear hne5;obtain⟨a5,c5,rfl⟩:=zE hown5;have mY:=zC hown5;have br:=zC dz;clear hown5 dz);have ak:=zA bt;have dz:((wr.alloc (.cells #[.int .i64 (x.r:Nat),.slice av x.fr.length cv] 150)).alloc (.cells #[.int .u8 ((x.r:Int)%256)] 5)).grownBy w5 (Value.slice ao out.length co).ownBlock:=zA br;have FH:Below wr.heap.size wr ((wr.alloc (.cells #[.int .i64 (x.r:Nat),.slice av x.fr.length cv] 150)).alloc (.cells #[.int .u8 ((x.r:Int)%256)] 5)):=((Below.refl wr.heap.size wr).alloc L9 _).alloc (by simp) _;have LG:=ak.add FH dz (zA mY);have EH:w5.heap[wr.heap.size]?=some (.cells #[.int .i64 (x.r:Nat),.slice av x.fr.length cv] 150 (0,0)):=by
    rw[dz.block wr.heap.size (by simp only[World.size_alloc];omega) (λ e=>by have:=(ak.row.lt _ e.symm).2;omega),Below.heap_alloc _ _ _ (by simp)];exact heap_alloc_new wr _
   have b1:=(zB EH 1).1;simp only[List.getElem?_toArray,List.getElem?_cons_zero,List.getElem?_cons_succ] at b1;have H5:=zC (show tZ w (out++x.r::x.fr.take 0) (.slice a5 (out.length+1) c5) w5 from by simpa using LG);clear ak dz FH LG EH bH gF e0 e1 br mY bt lK;generalize wr.heap.size=xb at *;go_upto_region 7 with fail;clear b1
   go_loopg [3,32] x.fr.length (λ gg2 v jj wi=>∃ j:Nat,j<=x.fr.length/\gg2=x.fr.length-j/\jj=.int .i64 j/\tZ w (out++x.r::x.fr.take j) v wi)
   exact⟨0,Nat.zero_le _,rfl,rfl,zA H5⟩
   case round=>
    clear H5;obtain⟨j,hj,uo,rfl,ak⟩:=hrel;have fN:(out++x.r::x.fr.take j).length<=310:=(by simp;omega);obtain⟨o2,uK⟩:∃ o2,o2=out++x.r::x.fr.take j:=⟨_,rfl⟩;rw[<-uK] at ak fN;obtain⟨ai,ci,rfl⟩:=zE ak.row
    by_cases hlj:j<x.fr.length
    ·have u5:=zG (zA xw) ak.k (λ g e=>((zA xw).lt g e).2);rw[zA BM] at u5;obtain⟨gv,rfl,Jp,Da,Cv,Cw⟩:=z2d u5 j hlj;have ER:(j:Int)<x.fr.length:=(by omega);have Bk:=zC (show out++x.r::x.fr.take (j+1)=o2++[x.fr[j]] by rw[uK,List.take_succ_eq_append_getElem hlj];simp);generalize x.fr[j]=y at *;have zc:=ak.row.alloc (.cells #[.int .u8 ((y:Int)%256)] 5);have LS:=zC (World.news_of_block (heap_alloc_new wr (.cells #[.int .u8 ((y:Int)%256)] 5)));have bt:=zC ak;have sV:=ak.k.size;clear ak uK u5;go_wp2_with (at_builtin;refine wpList_append_own _ rfl _ _ 47 rfl (w.heap.size+1) 5 i0 _ 1 1 Tryz.underlying47 hi dK cB bZ rfl (by decide) _ _ _ rfl zc ⟨wr.heap.size,0,none⟩ 1 1 [u8c y] rfl rfl (zA LS) (by intro u hu;rw[List.mem_singleton.1 hu];rfl) (by unfold maxLen;omega) (by omega) (by simp;omega) ?_;intro v6 w6 hown6 lF hne6;clear hne6;obtain⟨a6,c6,rfl⟩:=zE hown6;have A9:=zC ((zA bt).add (B9.alloc L9 _) lF hown6);clear hown6 lF);go_roundg (x.fr.length-(j+1))
     case measure=>omega
     case rel=>
      refine⟨j+1,by omega,rfl,by go_num,?_⟩;rw[zA Bk];exact zA A9
    ·have CH:j=x.fr.length:=(by omega);subst CH;have HE:=zC (show o2=out++x.r::x.fr by rw[uK,List.take_length]);have bt:=zC ak;clear ak uK;go_wp2_with fail;go_roundg (aJ.length-(kk+1))
     case measure=>omega
     case rel=>
      refine⟨kk+1,by omega,rfl,by go_num,?_,?_⟩
      ·rw[zA Ff];exact zA Hy
      ·rw[zA Ff,<-zA HE];exact zA bt
  ·have he:kk=aJ.length:=(by omega);subst he;have HE:=zC (show out=zgq k (aJ.map dX) by rw[l6,List.take_length];unfold zgq;simp);have bt:=zC ak;clear ak l6 AB;go_wp2_with fail;go_ret;rw[<-zA HE];exact⟨ao,co,rfl,zI (zA bt).row (by omega),(zA bt).k⟩
end
section
open Go.RowKit Go.Maps
theorem z3o {w1:W8}{n:Nat}{u0 u1 u2:Value}(h0:w1.cell? ⟨n,0,none⟩=some u0)(h1:w1.cell? ⟨n,1,none⟩=some u1)(h2:w1.cell? ⟨n,2,none⟩=some u2)(v0 v1 v2:Value):(((w1.setCell ⟨n,0,none⟩ v0).setCell ⟨n,1,none⟩ v1).setCell ⟨n,2,none⟩ v2).cell? ⟨n,0,none⟩=some v0/\(((w1.setCell ⟨n,0,none⟩ v0).setCell ⟨n,1,none⟩ v1).setCell ⟨n,2,none⟩ v2).cell? ⟨n,1,none⟩=some v1/\(((w1.setCell ⟨n,0,none⟩ v0).setCell ⟨n,1,none⟩ v1).setCell ⟨n,2,none⟩ v2).cell? ⟨n,2,none⟩=some v2:=
 ⟨by rw[zS (by omega),zS (by omega)];exact jX h0,by rw[zS (by omega)];exact jX (by rw[zS (by omega)];exact h1),jX (by rw[zS (by omega),zS (by omega)];exact h2)⟩
theorem zl0 (B:Nat->Bool):∀ (l:List (Nat × List Nat)) (i:Nat) (pl:Nat->Nat) (out:List (Nat × List Nat)),(zd3 B l i pl out).length<=out.length+l.length
 | [],_,_,_=>Nat.le_refl _
 | x::r,i,pl,out=>by
  rw[zd3]
  split
  ·have:=zl0 B r (i+1) (fI pl i out.length) (out++[(x.1,x.2.map (fI pl i out.length))]);simp at this ⊢;omega
  ·have:=zl0 B r (i+1) pl out;simp at this ⊢;omega
theorem zpz (B:Nat->Bool)(m:Nat):∀ (l:List (Nat × List Nat)) (i:Nat) (pl:Nat->Nat) (out:List (Nat × List Nat)),(∀ x∈l,x.2.length<=m)->(∀ x∈out,x.2.length<=m)->∀ x∈zd3 B l i pl out,x.2.length<=m
 | [],_,_,_,_,h=>h
 | y::r,i,pl,out,hl,h=>by
  rw[zd3]
  split
  ·refine zpz B m r _ _ _ (λ x hx=>hl x (List.mem_cons_of_mem _ hx)) (λ x hx=>?_);rcases List.mem_append.1 hx with hx | hx
   ·exact h x hx
   ·rw[List.mem_singleton.1 hx,List.length_map];exact hl y List.mem_cons_self
  ·exact zpz B m r _ _ _ (λ x hx=>hl x (List.mem_cons_of_mem _ hx)) h
def gB (ps:P9)(S:B8->Nat)(K:List (Th × Nat))(t:Th)(rea:Nat->Nat × List Nat)(O:List Pl):List (Nat × List Nat):=
 zd3 (zbc O (xP ps S K t) t rea (zan O.length 0)) (zgy O.length rea (zbc O (xP ps S K t) t rea (zan O.length 0))) 0 (λ _=>0) []
def zdi (ps:P9)(S:B8->Nat)(K:List (Th × Nat))(t:Th)(rea:Nat->Nat × List Nat)(O:List Pl):List Nat:=zgq (xP ps S K t) (gB ps S K t rea O)
theorem zvs (ps:P9)(S:B8->Nat)(K:List (Th × Nat))(t:Th)(rea:Nat->Nat × List Nat)(O:List Pl):(gB ps S K t rea O).length<=O.length:=by
 have:=zl0 (zbc O (xP ps S K t) t rea (zan O.length 0)) (zgy O.length rea (zbc O (xP ps S K t) t rea (zan O.length 0))) 0 (λ _=>0) [];unfold gB;simpa[zgy] using this
theorem yae {ps:P9}{S:B8->Nat}{K:List (Th × Nat)}{t:Th}{rea:Nat->Nat × List Nat}{O:List Pl}(h:∀ i,i<O.length->(rea i).2.length<=3):∀ x∈gB ps S K t rea O,x.2.length<=3:=by
 refine zpz _ 3 _ _ _ _ (λ x hx=>?_) (λ x hx=>by cases hx);obtain⟨i,hi,rfl⟩:=List.mem_map.1 hx
 split
 ·exact h i (List.mem_range.1 hi)
 ·simp
inductive zmr (w:W8)(rs:List PR)(ps:P9)(s:B8)(limit:Int)(rea:(B8->Nat)->List (Th × Nat)->List Pl->Nat->Nat × List Nat)(w':W8):Ending->Prop
 | arg:qX limit=false->zmr w rs ps s limit rea w' (.returned (.tuple #[.agg #[.int .i64 0,.int .i64 0,.slice none 0 0],.int .i64 8]))
 | ask:qX limit=true->vM ps s=none->zmr w rs ps s limit rea w' (.returned (.tuple #[.agg #[.int .i64 0,.int .i64 0,.slice none 0 0],.int .i64 6]))
 | fk {t:Th} {S:B8->Nat} {m:Nat}:qX limit=true->vM ps s=some t->qH (rs.map (·.R)) S->ztd (rs.map (·.R)) S->jS ps S m->qD rs S limit.toNat m 0 [] none->zmr w rs ps s limit rea w' (.returned (.tuple #[.agg #[.int .i64 0,.int .i64 0,.slice none 0 0],.int .i64 7]))
 | yes {t:Th} {S:B8->Nat} {m:Nat} {K:List (Th × Nat)} {O:List Pl} {a:O8} {c:Nat}:qX limit=true->vM ps s=some t->qH (rs.map (·.R)) S->ztd (rs.map (·.R)) S->jS ps S m->qD rs S limit.toNat m 0 [] (some K)->(K.map (·.1)).Nodup->O.Perm (K.map (zh9 S))->(O.Pairwise λ p q=>vK p q=true)->w'.ownsRow w.heap.size 5 1 (.slice a (zdi ps S K t (rea S K O) O).length c) (zdi ps S K t (rea S K O) O).length ((zdi ps S K t (rea S K O) O).map u8c) ->
   zmr w rs ps s limit rea w' (.returned (.tuple #[.agg #[.int .i64 (if (z7 K t).isSome then 1 else 2),.int .i64 (((z7 K t).getD 0:Nat):Int),.slice a (zdi ps S K t (rea S K O) O).length c],.int .i64 0]))
end
section
theorem zhq {j:Nat}:∀ (fr:List Nat) (B:Nat->Bool),B j=true->j9 B fr j=true
 | [],_,h=>h
 | x::r,B,h=>zhq r (zf5 B x true) (by unfold zf5;split <;> simp[h])
theorem z11 {j:Nat}:∀ (fr:List Nat) (B:Nat->Bool),j∈fr->j9 B fr j=true
 | x::r,B,h=>by
  rcases List.mem_cons.1 h with rfl | h
  ·exact zhq r _ (by unfold zf5;simp)
  ·exact z11 r _ h
theorem zro {j:Nat}:∀ (fr:List Nat) (B:Nat->Bool),j9 B fr j=true->B j=true\/j∈fr
 | [],_,h=>.inl h
 | x::r,B,h=>by
  rcases zro r (zf5 B x true) h with h | h
  ·unfold zf5 at h
   split at h
   ·rename_i e;exact .inr (by rw[e];exact List.mem_cons_self)
   ·exact .inl h
  ·exact .inr (List.mem_cons_of_mem _ h)
section
variable {O:List Pl} {k:Nat} {t:Th} {rea:Nat->Nat × List Nat}
theorem zdx (B:Nat->Bool)(i:Nat):qA O k t rea B i=if zb2 O k t B i i then j9 (zb2 O k t B i) (rea i).2 else zb2 O k t B i:=rfl
theorem znk {B:Nat->Bool}{i j:Nat}(h:B j=true):zb2 O k t B i j=true:=by
 unfold zb2
 split
 ·unfold zf5;split <;> simp[h]
 ·exact h
theorem zru {B:Nat->Bool}{i:Nat}(h:z6z O k t i=true):zb2 O k t B i i=true:=by
 unfold zb2;rw[if_pos h];unfold zf5;simp
theorem ziq {B:Nat->Bool}{i j:Nat}(h:zb2 O k t B i j=true):B j=true\/(j=i/\z6z O k t i=true):=by
 unfold zb2 at h
 split at h
 ·rename_i ho;unfold zf5 at h
  split at h
  ·rename_i e;exact .inr ⟨e,ho⟩
  ·exact .inl h
 ·exact .inl h
theorem zhs {B:Nat->Bool}{i j:Nat}(h:B j=true):qA O k t rea B i j=true:=by
 rw[zdx]
 split
 ·exact zhq _ _ (znk h)
 ·exact znk h
theorem zht {B:Nat->Bool}{i j:Nat}(h:qA O k t rea B i j=true):B j=true\/(j=i/\z6z O k t i=true)\/(zb2 O k t B i i=true/\j∈(rea i).2):=by
 rw[zdx] at h
 split at h
 ·rename_i h1;rcases zro _ _ h with h | h
  ·rcases ziq h with h | h
   ·exact .inl h
   ·exact .inr (.inl h)
  ·exact .inr (.inr ⟨h1,h⟩)
 ·rcases ziq h with h | h
  ·exact .inl h
  ·exact .inr (.inl h)
def bu (O:List Pl)(k:Nat)(t:Th)(rea:Nat->Nat × List Nat)(m:Nat):Nat->Bool:=zbc O k t rea (zan O.length m)
theorem zc2 {m:Nat}(h:m<O.length):bu O k t rea m=qA O k t rea (bu O k t rea (m+1)) m:=by
 unfold bu;rw[zif h,zis]
theorem z2b:bu O k t rea O.length=λ _=>false:=by unfold bu;rw[Nb];rfl
theorem zir {j:Nat}:∀ (d m:Nat),m+d<=O.length->bu O k t rea (m+d) j=true->bu O k t rea m j=true
 | 0,m,_,h=>h
 | d+1,m,hm,h=>by
  have h1:=zir d (m+1) (by omega) (by rw[show m+1+d=m+(d+1) by omega];exact h);rw[zc2 (by omega)];exact zhs h1
theorem zlj (aX:∀ i,i<O.length->∀ x∈(rea i).2,x<i){j:Nat}:∀ (d m:Nat),m+d<=O.length->m+d<=j->bu O k t rea m j=bu O k t rea (m+d) j
 | 0,m,_,_=>rfl
 | d+1,m,hm,hj=>by
  rw[zc2 (by omega)];have h1:=zlj aX (j:=j) d (m+1) (by omega) (by omega);rw[show m+1+d=m+(d+1) by omega] at h1;rw[<-h1]
  cases hB:bu O k t rea (m+1) j with
  | true=>exact zhs hB
  | false=>
   cases hs:qA O k t rea (bu O k t rea (m+1)) m j with
   | false=>rfl
   | true=>
    rcases zht hs with h | ⟨h,_⟩ | ⟨_,h⟩
    ·rw[hB] at h;cases h
    ·omega
    ·have:=aX m (by omega) j h;omega
theorem z6u {i:Nat}(hi:i<O.length)(h:z6z O k t i=true):bu O k t rea 0 i=true:=by
 refine zir i 0 (by omega) ?_;rw[Nat.zero_add,zc2 hi,zdx,if_pos (zru h)];exact zhq _ _ (zru h)
theorem NC (aX:∀ i,i<O.length->∀ x∈(rea i).2,x<i){i:Nat}(hi:i<O.length)(h:bu O k t rea 0 i=true):∀ x∈(rea i).2,bu O k t rea 0 x=true:=λ x hx=>by
 have h1:bu O k t rea i i=true:=by have:=zlj (k:=k) (t:=t) aX (j:=i) i 0 (by omega) (by omega);rw[Nat.zero_add] at this;rw[<-this];exact h
 refine zir i 0 (by omega) ?_;rw[Nat.zero_add];rw[zc2 hi] at h1 ⊢;rw[zdx] at h1 ⊢
 split at h1
 ·rename_i h2;rw[if_pos h2];exact z11 _ _ hx
 ·rename_i h2;exact absurd h1 h2
theorem zv9 (aX:∀ i,i<O.length->∀ x∈(rea i).2,x<i){Q:Nat->Prop}(h0:∀ i,i<O.length->z6z O k t i=true->Q i)(h1:∀ i,i<O.length->Q i->∀ x∈(rea i).2,Q x):∀ (d m:Nat),m+d=O.length->∀ j,bu O k t rea m j=true->Q j/\j<O.length
 | 0,m,hm,j,h=>by
  rw[Nat.add_zero] at hm;subst hm;rw[z2b] at h;cases h
 | d+1,m,hm,j,h=>by
  have ih:=zv9 aX h0 h1 d (m+1) (by omega);have bE:m<O.length:=by omega
  rw[zc2 bE] at h;rcases zht h with h | ⟨rfl,h⟩ | ⟨h,hx⟩
  ·exact ih j h
  ·exact⟨h0 _ bE h,bE⟩
  ·have hq:Q m:=by
    rcases ziq h with h | ⟨_,h⟩
    ·exact (ih m h).1
    ·exact h0 m bE h
   exact⟨h1 m bE hq j hx,by have:=aX m bE j hx;omega⟩
end
def zfa (B:Nat->Bool)(i:Nat):Nat:=((List.range i).filter B).length
theorem zsg (B:Nat->Bool)(i:Nat):zfa B (i+1)=zfa B i+(if B i then 1 else 0):=by
 unfold zfa;rw[List.range_succ,List.filter_append,List.length_append]
 cases h:B i <;> simp[List.filter,h]
theorem ya9 (B:Nat->Bool){n j:Nat}(hj:j<n)(h:B j=true):((List.range n).filter B)[zfa B j]?=some j:=by
 obtain⟨d,rfl⟩:∃ d,n=j+(1+d):=⟨n-(j+1),by omega⟩;have e:List.range (j+(1+d))=List.range j++j::(List.range' (j+1) d):=by
  have h1:List.range (j+(1+d))=List.range' 0 (j+(1+d)):=List.range_eq_range' ..;have h2:List.range j=List.range' 0 j:=List.range_eq_range' ..;rw[h1,h2,<-List.range'_append_1,Nat.zero_add,<-List.range'_append_1];rfl
 rw[e,List.filter_append,List.filter_cons,if_pos h];unfold zfa;rw[List.getElem?_append_right L9,Nat.sub_self];rfl
theorem ziz (B:Nat->Bool)(f:Nat->Nat × List Nat):∀ (d i:Nat) (pl:Nat->Nat) (out:List (Nat × List Nat)),(∀ x,x<i->B x=true->pl x=zfa B x)->out.length=zfa B i->(∀ j,i<=j->j<i+d->B j=true->∀ x∈(f j).2,x<j/\B x=true)->zd3 B ((List.range' i d).map f) i pl out=out++((List.range' i d).filter B).map λ j=>((f j).1,(f j).2.map (zfa B))
 | 0,i,pl,out,_,_,_=>by simp[zd3]
 | d+1,i,pl,out,h1,h2,h3=>by
  rw[List.range'_succ,List.map_cons,zd3,List.filter_cons]
  cases hB:B i with
  | true=>
   have hm:(f i).2.map (fI pl i out.length)=(f i).2.map (zfa B):=List.map_congr_left λ x hx=>by
    obtain⟨mg,mh⟩:=h3 i L9 (by omega) hB x hx;unfold fI;rw[if_neg (by omega)];exact h1 x mg mh
   rw[if_pos rfl,if_pos rfl,ziz B f d (i+1),hm,List.map_cons,List.append_assoc]
   ·rfl
   ·intro x hx hb;unfold fI
    split
    ·rename_i e;rw[e];exact h2
    ·exact h1 x (by omega) hb
   ·rw[List.length_append,h2,zsg,hB];rfl
   ·exact λ j hj hjd=>h3 j (by omega) (by omega)
  | false=>
   rw[if_neg (by simp),if_neg (by simp)];refine ziz B f d (i+1) pl out (λ x hx hb=>?_) ?_ (λ j hj hjd=>h3 j (by omega) (by omega))
   ·by_cases e:x=i
    ·subst e;rw[hB] at hb;cases hb
    ·exact h1 x (by omega) hb
   ·rw[h2,zsg,hB];rfl
theorem z00 {ps:P9}{S:B8->Nat}{K:List (Th × Nat)}{t:Th}{rea:Nat->Nat × List Nat}{O:List Pl}(aX:∀ i,i<O.length->∀ x∈(rea i).2,x<i):gB ps S K t rea O=((List.range O.length).filter (bu O (xP ps S K t) t rea 0)).map λ j=>((rea j).1,(rea j).2.map (zfa (bu O (xP ps S K t) t rea 0))):=by
 unfold gB zgy
 show zd3 (bu O (xP ps S K t) t rea 0) _ 0 _ []=_
 rw[List.range_eq_range',ziz _ _ O.length 0 _ [] (λ x hx=>by omega) rfl,List.nil_append]
 ·refine List.map_congr_left λ j hj=>?_
  have hb:bu O (xP ps S K t) t rea 0 j=true:=(List.mem_filter.1 hj).2;have e:zbc O (xP ps S K t) t rea (zan O.length 0) j=true:=hb;rw[if_pos e]
 ·intro j _ hj hb x hx;have e:zbc O (xP ps S K t) t rea (zan O.length 0) j=true:=hb;rw[if_pos e] at hx;exact⟨aX j (by omega) x hx,NC aX (by omega) hb x hx⟩
end
end Go.Proofs.YtldkpahaocjdpaaGreat
