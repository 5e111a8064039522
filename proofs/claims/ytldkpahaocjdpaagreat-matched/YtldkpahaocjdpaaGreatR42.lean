/-
  Bytes: a witness is written.
-/
import Derived.Test.YtldkpahaocjdpaaGreatR41
set_option maxHeartbeats 16000000
set_option maxRecDepth 1000000
namespace Go.Proofs.YtldkpahaocjdpaaGreat
section
open Go.RowKit Go.Maps
def lP (x:Nat × List Nat):List Nat:=x.1::x.2
def zgz (k:Nat)(ns:List (Nat × List Nat)):List Nat:=k::ns.length::ns.flatMap lP
structure Ep (w:W8)(out:List Nat)(v:Value)(wr:W8):Prop where
 k:Below w.heap.size w wr
 row:wr.ownsRow (w.heap.size+1) 5 1 v out.length (out.map u8c)
theorem Ep.add {w:W8}{out:List Nat}{v v':Value}{wr W w5:W8}{x:Nat}(h:Ep w out v wr)(hW:Below wr.heap.size wr W)(hg:W.grownBy w5 v.ownBlock)(aI:w5.ownsRow (w.heap.size+1) 5 1 v' (out.length+1) (out.map u8c++[u8c x])):Ep w (out++[x]) v' w5:=by
 have hs:=h.k.size;refine⟨⟨hg.os.trans (hW.os.trans h.k.os),hg.tape.trans (hW.tape.trans h.k.tape),hg.output.trans (hW.output.trans h.k.output),Nat.le_trans h.k.size (Nat.le_trans hW.size hg.size),λ i hi=>?_⟩,?_⟩
 ·have:=hW.size;rw[hg.block i (by omega) (λ e=>by have:=(h.row.lt i e.symm).1;omega),hW.block i (by omega)];exact h.k.block i hi
 ·rw[List.length_append,List.length_singleton,List.map_append];exact aI
def z1e (w:W8)(L:List Nat)(e:Ending)(w':W8):Prop:=
 ∃ (a:O8) (c:Nat),e=.returned (.slice a L.length c)/\w'.ownsRow w.heap.size 5 1 (.slice a L.length c) L.length (L.map u8c)/\Below w.heap.size w w'
theorem z18 (w:W8)(base k:Nat)(an:O8)(cn:Nat)(aJ:List ND)(h:jS w base (.slice an aJ.length cn) aJ)(hl:aJ.length<=50)(hf:∀ x∈aJ,x.fr.length<=3):
  Calls Tryz.prog 43 #[.agg #[.int .i64 (k:Nat),.slice an aJ.length cn]] w (z1e w (zgz k (aJ.map dX))):=by
 obtain⟨i0,hi,dK,aj,bZ⟩:=info_parts zkl;have H:=zC h;have HF:=zC hf;have HL:=zC hl;clear h hf hl;go_enter Tryz.func43,Tryz.ntmps43;go_upto_region 2 with fail;generalize hw0:World.alloc (World.alloc w _) _=w0;have k0:Below w.heap.size w w0:=by
  rw[<-hw0];exact ((Below.refl w.heap.size w).alloc L9 _).alloc (by simp) _
 have r0:w0.ownsRow (w.heap.size+1) 5 1 (.slice (some ⟨w.heap.size+1,0,none⟩) 2 2) 2 ([k,aJ.length].map u8c):=by
  rw[<-hw0];have:=World.ownsRow_lit (base:=w.heap.size+1) (size:=1) (e:=5) (w.alloc (.cells #[.int .i64 (k:Nat),.slice an aJ.length cn] 93)) #[.int .u8 ((k:Int)%256),.int .u8 ((aJ.length:Int)%256)] 2 (by simp) (by unfold maxLen;omega) rfl;rw[World.size_alloc] at this;exact this
 have b1:w0.cell? ⟨w.heap.size,1,none⟩=some (.slice an aJ.length cn):=by
  have x0:w0.heap[w.heap.size]?=some (.cells #[.int .i64 (k:Nat),.slice an aJ.length cn] 93 (0,0)):=by
   rw[<-hw0,Below.heap_alloc _ _ _ (by simp)];exact heap_alloc_new w _
  exact (zB x0 1).1
 have H0:=zC (show Ep w (k::aJ.length::((aJ.take 0).map dX).flatMap lP) (.slice (some ⟨w.heap.size+1,0,none⟩) 2 2) w0 from ⟨k0,r0⟩);clear hw0 k0 r0;go_upto_region 3 with fail;clear b1
 go_loopg [3,19] aJ.length (λ gg v i wr=>∃ kk:Nat,kk<=aJ.length/\gg=aJ.length-kk/\i=.int .i64 kk/\(k::aJ.length::((aJ.take kk).map dX).flatMap lP).length<=2+4*kk/\Ep w (k::aJ.length::((aJ.take kk).map dX).flatMap lP) v wr)
 exact⟨0,Nat.zero_le _,rfl,rfl,by simp,zA H0⟩
 case round=>
  clear H0;obtain⟨kk,kg,fM,rfl,AB,ak⟩:=hrel;obtain⟨out,l6⟩:∃ out,out=k::aJ.length::((aJ.take kk).map dX).flatMap lP:=⟨_,rfl⟩;rw[<-l6] at AB ak;obtain⟨ao,co,rfl⟩:=zE ak.row
  by_cases aN:kk<aJ.length
  ·obtain⟨x,pL⟩:∃ x,x=aJ[kk]:=⟨_,rfl⟩;have bC:x∈aJ:=(by rw[pL];exact List.getElem_mem aN);obtain⟨g,cap,hv,iC,dp,dG,dx,hc⟩:=vE zd3 (zA H).row kk aN;injection hv with h1 h2 h3
   subst h1 h3;have BO:=(zA H).each x bC;obtain⟨av,cv,u4⟩:=zE BO;have e0:wr.cell? ⟨g,kk*2,none⟩=some (.int .i64 (x.r:Nat)):=(by rw[pL];exact (ak.k.cell (p:=⟨g,kk*2,none⟩) dp).trans (hc 0 (by omega)));have e1:wr.cell? ⟨g,kk*2+1,none⟩=some (.slice av x.fr.length cv):=(by rw[<-u4,pL];exact (ak.k.cell (p:=⟨g,kk*2+1,none⟩) dp).trans (hc 1 (by omega)));have gW:(kk:Int)<aJ.length:=(by omega);have Fs:=zA HF x bC;have JD:=zA HL;have Df:out.length<=300:=by omega
   have Ff:=zC (show k::aJ.length::((aJ.take (kk+1)).map dX).flatMap lP=out++x.r::x.fr by
    rw[List.take_succ_eq_append_getElem aN,List.map_append,List.flatMap_append,l6,<-pL]
    simp[lP,dX])
   have Hy:=zC (show (out++x.r::x.fr).length<=2+4*(kk+1) by simp;omega);have bH:=(ak.row.alloc (.cells #[.int .i64 (x.r:Nat),.slice av x.fr.length cv] 150)).alloc (.cells #[.int .u8 ((x.r:Int)%256)] 5);have gF:=zC (World.news_of_block (heap_alloc_new (wr.alloc (.cells #[.int .i64 (x.r:Nat),.slice av x.fr.length cv] 150)) (.cells #[.int .u8 ((x.r:Int)%256)] 5)));rw[World.size_alloc] at gF;have bt:=zC ak;have xw:=zC BO;have BM:=zC u4;have lK:=ak.k.size;clear hc ak pL bC h2 BO u4 l6 AB;go_upto_region 6 with (at_builtin;refine wpList_append_own _ rfl _ _ 47 rfl (w.heap.size+1) 5 i0 _ 1 1 Tryz.underlying47 hi dK aj bZ rfl (by decide) _ _ _ rfl bH ⟨wr.heap.size+1,0,none⟩ 1 1 [u8c x.r] rfl rfl (zA gF) (by intro u hu;rw[List.mem_singleton.1 hu];rfl) (by unfold maxLen;omega) (by omega) (by simp;omega) ?_;intro v5 w5 ad dz aw;clear aw;obtain⟨a5,c5,rfl⟩:=zE ad;have mY:=zC ad;have bp:=zC dz;clear ad dz);have ak:=zA bt;have dz:((wr.alloc (.cells #[.int .i64 (x.r:Nat),.slice av x.fr.length cv] 150)).alloc (.cells #[.int .u8 ((x.r:Int)%256)] 5)).grownBy w5 (Value.slice ao out.length co).ownBlock:=zA bp;have FH:Below wr.heap.size wr ((wr.alloc (.cells #[.int .i64 (x.r:Nat),.slice av x.fr.length cv] 150)).alloc (.cells #[.int .u8 ((x.r:Int)%256)] 5)):=((Below.refl wr.heap.size wr).alloc L9 _).alloc (by simp) _;have L5:=ak.add FH dz (zA mY);have EH:w5.heap[wr.heap.size]?=some (.cells #[.int .i64 (x.r:Nat),.slice av x.fr.length cv] 150 (0,0)):=by
    rw[dz.block wr.heap.size (by simp only[World.size_alloc];omega) (λ e=>by have:=(ak.row.lt _ e.symm).2;omega),Below.heap_alloc _ _ _ (by simp)];exact heap_alloc_new wr _
   have b1:=(zB EH 1).1;simp only[List.getElem?_toArray,List.getElem?_cons_zero,List.getElem?_cons_succ] at b1;have H5:=zC (show Ep w (out++x.r::x.fr.take 0) (.slice a5 (out.length+1) c5) w5 from by simpa using L5);clear ak dz FH L5 EH bH gF e0 e1 bp mY bt lK;generalize wr.heap.size=xb at *;go_upto_region 7 with fail;clear b1
   go_loopg [3,32] x.fr.length (λ gg2 v jj wi=>∃ j:Nat,j<=x.fr.length/\gg2=x.fr.length-j/\jj=.int .i64 j/\Ep w (out++x.r::x.fr.take j) v wi)
   exact⟨0,Nat.zero_le _,rfl,rfl,zA H5⟩
   case round=>
    clear H5;obtain⟨j,hj,uo,rfl,ak⟩:=hrel;have fN:(out++x.r::x.fr.take j).length<=310:=(by simp;omega);obtain⟨o2,uK⟩:∃ o2,o2=out++x.r::x.fr.take j:=⟨_,rfl⟩;rw[<-uK] at ak fN;obtain⟨ai,ci,rfl⟩:=zE ak.row
    by_cases hlj:j<x.fr.length
    ·have u5:=zG (zA xw) ak.k (λ g e=>((zA xw).lt g e).2);rw[zA BM] at u5;obtain⟨gv,rfl,Jp,Da,Cv,Cw⟩:=z3y u5 j hlj;have KP:(j:Int)<x.fr.length:=(by omega);have Bk:=zC (show out++x.r::x.fr.take (j+1)=o2++[x.fr[j]] by rw[uK,List.take_succ_eq_append_getElem hlj];simp);generalize x.fr[j]=y at *;have zc:=ak.row.alloc (.cells #[.int .u8 ((y:Int)%256)] 5);have Ml:=zC (World.news_of_block (heap_alloc_new wr (.cells #[.int .u8 ((y:Int)%256)] 5)));have bt:=zC ak;have sV:=ak.k.size;clear ak uK u5;go_wp2_with (at_builtin;refine wpList_append_own _ rfl _ _ 47 rfl (w.heap.size+1) 5 i0 _ 1 1 Tryz.underlying47 hi dK aj bZ rfl (by decide) _ _ _ rfl zc ⟨wr.heap.size,0,none⟩ 1 1 [u8c y] rfl rfl (zA Ml) (by intro u hu;rw[List.mem_singleton.1 hu];rfl) (by unfold maxLen;omega) (by omega) (by simp;omega) ?_;intro v6 w6 hown6 lF hne6;clear hne6;obtain⟨a6,c6,rfl⟩:=zE hown6;have A9:=zC ((zA bt).add (B9.alloc L9 _) lF hown6);clear hown6 lF);go_roundg (x.fr.length-(j+1))
     case measure=>omega
     case rel=>
      refine⟨j+1,by omega,rfl,by go_num,?_⟩;rw[zA Bk];exact zA A9
    ·have CH:j=x.fr.length:=(by omega);subst CH;have HE:=zC (show o2=out++x.r::x.fr by rw[uK,List.take_length]);have bt:=zC ak;clear ak uK;go_wp2_with fail;go_roundg (aJ.length-(kk+1))
     case measure=>omega
     case rel=>
      refine⟨kk+1,by omega,rfl,by go_num,?_,?_⟩
      ·rw[zA Ff];exact zA Hy
      ·rw[zA Ff,<-zA HE];exact zA bt
  ·have he:kk=aJ.length:=(by omega);subst he;have HE:=zC (show out=zgz k (aJ.map dX) by rw[l6,List.take_length];unfold zgz;simp);have bt:=zC ak;clear ak l6 AB;go_wp2_with fail;go_ret;rw[<-zA HE];exact⟨ao,co,rfl,zI (zA bt).row (by omega),(zA bt).k⟩
end
section
open Go.RowKit Go.Maps
theorem z5e {w1:W8}{n:Nat}{u0 u1 u2:Value}(h0:w1.cell? ⟨n,0,none⟩=some u0)(h1:w1.cell? ⟨n,1,none⟩=some u1)(h2:w1.cell? ⟨n,2,none⟩=some u2)(v0 v1 v2:Value):(((w1.setCell ⟨n,0,none⟩ v0).setCell ⟨n,1,none⟩ v1).setCell ⟨n,2,none⟩ v2).cell? ⟨n,0,none⟩=some v0/\(((w1.setCell ⟨n,0,none⟩ v0).setCell ⟨n,1,none⟩ v1).setCell ⟨n,2,none⟩ v2).cell? ⟨n,1,none⟩=some v1/\(((w1.setCell ⟨n,0,none⟩ v0).setCell ⟨n,1,none⟩ v1).setCell ⟨n,2,none⟩ v2).cell? ⟨n,2,none⟩=some v2:=
 ⟨by rw[zS (by omega),zS (by omega)];exact jX h0,by rw[zS (by omega)];exact jX (by rw[zS (by omega)];exact h1),jX (by rw[zS (by omega),zS (by omega)];exact h2)⟩
theorem zmi (B:Nat->Bool):∀ (l:List (Nat × List Nat)) (i:Nat) (pl:Nat->Nat) (out:List (Nat × List Nat)),(zea B l i pl out).length<=out.length+l.length
 | [],_,_,_=>Nat.le_refl _
 | x::r,i,pl,out=>by
  rw[zea]
  split
  ·have:=zmi B r (i+1) (gq pl i out.length) (out++[(x.1,x.2.map (gq pl i out.length))]);simp at this ⊢;omega
  ·have:=zmi B r (i+1) pl out;simp at this ⊢;omega
theorem zrc (B:Nat->Bool)(m:Nat):∀ (l:List (Nat × List Nat)) (i:Nat) (pl:Nat->Nat) (out:List (Nat × List Nat)),(∀ x∈l,x.2.length<=m)->(∀ x∈out,x.2.length<=m)->∀ x∈zea B l i pl out,x.2.length<=m
 | [],_,_,_,_,h=>h
 | y::r,i,pl,out,hl,h=>by
  rw[zea]
  split
  ·refine zrc B m r _ _ _ (λ x hx=>hl x (List.mem_cons_of_mem _ hx)) (λ x hx=>?_);rcases List.mem_append.1 hx with hx | hx
   ·exact h x hx
   ·rw[List.mem_singleton.1 hx,List.length_map];exact hl y List.mem_cons_self
  ·exact zrc B m r _ _ _ (λ x hx=>hl x (List.mem_cons_of_mem _ hx)) h
def gP (ps:P9)(S:B8->Nat)(K:List (Th × Nat))(t:Th)(rea:Nat->Nat × List Nat)(O:List Pl):List (Nat × List Nat):=
 zea (zbd O (xQ ps S K t) t rea (zam O.length 0)) (zg9 O.length rea (zbd O (xQ ps S K t) t rea (zam O.length 0))) 0 (λ _=>0) []
def zc5 (ps:P9)(S:B8->Nat)(K:List (Th × Nat))(t:Th)(rea:Nat->Nat × List Nat)(O:List Pl):List Nat:=zgz (xQ ps S K t) (gP ps S K t rea O)
theorem zxf (ps:P9)(S:B8->Nat)(K:List (Th × Nat))(t:Th)(rea:Nat->Nat × List Nat)(O:List Pl):(gP ps S K t rea O).length<=O.length:=by
 have:=zmi (zbd O (xQ ps S K t) t rea (zam O.length 0)) (zg9 O.length rea (zbd O (xQ ps S K t) t rea (zam O.length 0))) 0 (λ _=>0) [];unfold gP;simpa[zg9] using this
theorem ybs {ps:P9}{S:B8->Nat}{K:List (Th × Nat)}{t:Th}{rea:Nat->Nat × List Nat}{O:List Pl}(h:∀ i,i<O.length->(rea i).2.length<=3):∀ x∈gP ps S K t rea O,x.2.length<=3:=by
 refine zrc _ 3 _ _ _ _ (λ x hx=>?_) (λ x hx=>by cases hx);obtain⟨i,hi,rfl⟩:=List.mem_map.1 hx
 split
 ·exact h i (List.mem_range.1 hi)
 ·simp
inductive zkc (w:W8)(rs:List PR)(ps:P9)(s:B8)(limit:Int)(rea:(B8->Nat)->List (Th × Nat)->List Pl->Nat->Nat × List Nat)(w':W8):Ending->Prop
 | arg:qY limit=false->zkc w rs ps s limit rea w' (.returned (.tuple #[.agg #[.int .i64 0,.int .i64 0,.slice none 0 0],.int .i64 8]))
 | ask:qY limit=true->vF ps s=none->zkc w rs ps s limit rea w' (.returned (.tuple #[.agg #[.int .i64 0,.int .i64 0,.slice none 0 0],.int .i64 6]))
 | fk {t:Th} {S:B8->Nat} {m:Nat}:qY limit=true->vF ps s=some t->qH (rs.map (·.R)) S->zuu (rs.map (·.R)) S->vY ps S m->jL rs S limit.toNat m 0 [] none->zkc w rs ps s limit rea w' (.returned (.tuple #[.agg #[.int .i64 0,.int .i64 0,.slice none 0 0],.int .i64 7]))
 | yes {t:Th} {S:B8->Nat} {m:Nat} {K:List (Th × Nat)} {O:List Pl} {a:O8} {c:Nat}:qY limit=true->vF ps s=some t->qH (rs.map (·.R)) S->zuu (rs.map (·.R)) S->vY ps S m->jL rs S limit.toNat m 0 [] (some K)->(K.map (·.1)).Nodup->O.Perm (K.map (zir S))->(O.Pairwise λ p q=>xX p q=true)->w'.ownsRow w.heap.size 5 1 (.slice a (zc5 ps S K t (rea S K O) O).length c) (zc5 ps S K t (rea S K O) O).length ((zc5 ps S K t (rea S K O) O).map u8c) ->
   zkc w rs ps s limit rea w' (.returned (.tuple #[.agg #[.int .i64 (if (zU K t).isSome then 1 else 2),.int .i64 (((zU K t).getD 0:Nat):Int),.slice a (zc5 ps S K t (rea S K O) O).length c],.int .i64 0]))
end
section
theorem zh0 {j:Nat}:∀ (fr:List Nat) (B:Nat->Bool),B j=true->qC B fr j=true
 | [],_,h=>h
 | x::r,B,h=>zh0 r (zgf B x true) (by unfold zgf;split <;> simp[h])
theorem z3p {j:Nat}:∀ (fr:List Nat) (B:Nat->Bool),j∈fr->qC B fr j=true
 | x::r,B,h=>by
  rcases List.mem_cons.1 h with rfl | h
  ·exact zh0 r _ (by unfold zgf;simp)
  ·exact z3p r _ h
theorem zsx {j:Nat}:∀ (fr:List Nat) (B:Nat->Bool),qC B fr j=true->B j=true\/j∈fr
 | [],_,h=>.inl h
 | x::r,B,h=>by
  rcases zsx r (zgf B x true) h with h | h
  ·unfold zgf at h
   split at h
   ·rename_i e;exact .inr (by rw[e];exact List.mem_cons_self)
   ·exact .inl h
  ·exact .inr (List.mem_cons_of_mem _ h)
section
variable {O:List Pl} {k:Nat} {t:Th} {rea:Nat->Nat × List Nat}
theorem zd4 (B:Nat->Bool)(i:Nat):qD O k t rea B i=if zb4 O k t B i i then qC (zb4 O k t B i) (rea i).2 else zb4 O k t B i:=rfl
theorem zo3 {B:Nat->Bool}{i j:Nat}(h:B j=true):zb4 O k t B i j=true:=by
 unfold zb4
 split
 ·unfold zgf;split <;> simp[h]
 ·exact h
theorem zs3 {B:Nat->Bool}{i:Nat}(h:z8c O k t i=true):zb4 O k t B i i=true:=by
 unfold zb4;rw[if_pos h];unfold zgf;simp
theorem zi7 {B:Nat->Bool}{i j:Nat}(h:zb4 O k t B i j=true):B j=true\/(j=i/\z8c O k t i=true):=by
 unfold zb4 at h
 split at h
 ·rename_i ho;unfold zgf at h
  split at h
  ·rename_i e;exact .inr ⟨e,ho⟩
  ·exact .inl h
 ·exact .inl h
theorem zh2 {B:Nat->Bool}{i j:Nat}(h:B j=true):qD O k t rea B i j=true:=by
 rw[zd4]
 split
 ·exact zh0 _ _ (zo3 h)
 ·exact zo3 h
theorem zh3 {B:Nat->Bool}{i j:Nat}(h:qD O k t rea B i j=true):B j=true\/(j=i/\z8c O k t i=true)\/(zb4 O k t B i i=true/\j∈(rea i).2):=by
 rw[zd4] at h
 split at h
 ·rename_i h1;rcases zsx _ _ h with h | h
  ·rcases zi7 h with h | h
   ·exact .inl h
   ·exact .inr (.inl h)
  ·exact .inr (.inr ⟨h1,h⟩)
 ·rcases zi7 h with h | h
  ·exact .inl h
  ·exact .inr (.inl h)
def br (O:List Pl)(k:Nat)(t:Th)(rea:Nat->Nat × List Nat)(m:Nat):Nat->Bool:=zbd O k t rea (zam O.length m)
theorem zdc {m:Nat}(h:m<O.length):br O k t rea m=qD O k t rea (br O k t rea (m+1)) m:=by
 unfold br;rw[ziy h,zi9]
theorem z3w:br O k t rea O.length=λ _=>false:=by unfold br;rw[NL];rfl
theorem zi8 {j:Nat}:∀ (d m:Nat),m+d<=O.length->br O k t rea (m+d) j=true->br O k t rea m j=true
 | 0,m,_,h=>h
 | d+1,m,hm,h=>by
  have h1:=zi8 d (m+1) (by omega) (by rw[show m+1+d=m+(d+1) by omega];exact h);rw[zdc (by omega)];exact zh2 h1
theorem zlx (aX:∀ i,i<O.length->∀ x∈(rea i).2,x<i){j:Nat}:∀ (d m:Nat),m+d<=O.length->m+d<=j->br O k t rea m j=br O k t rea (m+d) j
 | 0,m,_,_=>rfl
 | d+1,m,hm,hj=>by
  rw[zdc (by omega)];have h1:=zlx aX (j:=j) d (m+1) (by omega) (by omega);rw[show m+1+d=m+(d+1) by omega] at h1;rw[<-h1]
  cases hB:br O k t rea (m+1) j with
  | true=>exact zh2 hB
  | false=>
   cases hs:qD O k t rea (br O k t rea (m+1)) m j with
   | false=>rfl
   | true=>
    rcases zh3 hs with h | ⟨h,_⟩ | ⟨_,h⟩
    ·rw[hB] at h;cases h
    ·omega
    ·have:=aX m (by omega) j h;omega
theorem z78 {i:Nat}(hi:i<O.length)(h:z8c O k t i=true):br O k t rea 0 i=true:=by
 refine zi8 i 0 (by omega) ?_;rw[Nat.zero_add,zdc hi,zd4,if_pos (zs3 h)];exact zh0 _ _ (zs3 h)
theorem Oa (aX:∀ i,i<O.length->∀ x∈(rea i).2,x<i){i:Nat}(hi:i<O.length)(h:br O k t rea 0 i=true):∀ x∈(rea i).2,br O k t rea 0 x=true:=λ x hx=>by
 have h1:br O k t rea i i=true:=by have:=zlx (k:=k) (t:=t) aX (j:=i) i 0 (by omega) (by omega);rw[Nat.zero_add] at this;rw[<-this];exact h
 refine zi8 i 0 (by omega) ?_;rw[Nat.zero_add];rw[zdc hi] at h1 ⊢;rw[zd4] at h1 ⊢
 split at h1
 ·rename_i h2;rw[if_pos h2];exact z3p _ _ hx
 ·rename_i h2;exact absurd h1 h2
theorem zx0 (aX:∀ i,i<O.length->∀ x∈(rea i).2,x<i){Q:Nat->Prop}(h0:∀ i,i<O.length->z8c O k t i=true->Q i)(h1:∀ i,i<O.length->Q i->∀ x∈(rea i).2,Q x):∀ (d m:Nat),m+d=O.length->∀ j,br O k t rea m j=true->Q j/\j<O.length
 | 0,m,hm,j,h=>by
  rw[Nat.add_zero] at hm;subst hm;rw[z3w] at h;cases h
 | d+1,m,hm,j,h=>by
  have ih:=zx0 aX h0 h1 d (m+1) (by omega);have bD:m<O.length:=by omega
  rw[zdc bD] at h;rcases zh3 h with h | ⟨rfl,h⟩ | ⟨h,hx⟩
  ·exact ih j h
  ·exact⟨h0 _ bD h,bD⟩
  ·have hq:Q m:=by
    rcases zi7 h with h | ⟨_,h⟩
    ·exact (ih m h).1
    ·exact h0 m bD h
   exact⟨h1 m bD hq j hx,by have:=aX m bD j hx;omega⟩
end
def zfg (B:Nat->Bool)(i:Nat):Nat:=((List.range i).filter B).length
theorem zts (B:Nat->Bool)(i:Nat):zfg B (i+1)=zfg B i+(if B i then 1 else 0):=by
 unfold zfg;rw[List.range_succ,List.filter_append,List.length_append]
 cases h:B i <;> simp[List.filter,h]
theorem ycn (B:Nat->Bool){n j:Nat}(hj:j<n)(h:B j=true):((List.range n).filter B)[zfg B j]?=some j:=by
 obtain⟨d,rfl⟩:∃ d,n=j+(1+d):=⟨n-(j+1),by omega⟩;have e:List.range (j+(1+d))=List.range j++j::(List.range' (j+1) d):=by
  have h1:List.range (j+(1+d))=List.range' 0 (j+(1+d)):=List.range_eq_range' ..;have h2:List.range j=List.range' 0 j:=List.range_eq_range' ..;rw[h1,h2,<-List.range'_append_1,Nat.zero_add,<-List.range'_append_1];rfl
 rw[e,List.filter_append,List.filter_cons,if_pos h];unfold zfg;rw[List.getElem?_append_right L9,Nat.sub_self];rfl
theorem zjf (B:Nat->Bool)(f:Nat->Nat × List Nat):∀ (d i:Nat) (pl:Nat->Nat) (out:List (Nat × List Nat)),(∀ x,x<i->B x=true->pl x=zfg B x)->out.length=zfg B i->(∀ j,i<=j->j<i+d->B j=true->∀ x∈(f j).2,x<j/\B x=true)->zea B ((List.range' i d).map f) i pl out=out++((List.range' i d).filter B).map λ j=>((f j).1,(f j).2.map (zfg B))
 | 0,i,pl,out,_,_,_=>by simp[zea]
 | d+1,i,pl,out,h1,h2,h3=>by
  rw[List.range'_succ,List.map_cons,zea,List.filter_cons]
  cases hB:B i with
  | true=>
   have hm:(f i).2.map (gq pl i out.length)=(f i).2.map (zfg B):=List.map_congr_left λ x hx=>by
    obtain⟨mg,mh⟩:=h3 i L9 (by omega) hB x hx;unfold gq;rw[if_neg (by omega)];exact h1 x mg mh
   rw[if_pos rfl,if_pos rfl,zjf B f d (i+1),hm,List.map_cons,List.append_assoc]
   ·rfl
   ·intro x hx hb;unfold gq
    split
    ·rename_i e;rw[e];exact h2
    ·exact h1 x (by omega) hb
   ·rw[List.length_append,h2,zts,hB];rfl
   ·exact λ j hj hjd=>h3 j (by omega) (by omega)
  | false=>
   rw[if_neg (by simp),if_neg (by simp)];refine zjf B f d (i+1) pl out (λ x hx hb=>?_) ?_ (λ j hj hjd=>h3 j (by omega) (by omega))
   ·by_cases e:x=i
    ·subst e;rw[hB] at hb;cases hb
    ·exact h1 x (by omega) hb
   ·rw[h2,zts,hB];rfl
theorem z2m {ps:P9}{S:B8->Nat}{K:List (Th × Nat)}{t:Th}{rea:Nat->Nat × List Nat}{O:List Pl}(aX:∀ i,i<O.length->∀ x∈(rea i).2,x<i):gP ps S K t rea O=((List.range O.length).filter (br O (xQ ps S K t) t rea 0)).map λ j=>((rea j).1,(rea j).2.map (zfg (br O (xQ ps S K t) t rea 0))):=by
 unfold gP zg9
 show zea (br O (xQ ps S K t) t rea 0) _ 0 _ []=_
 rw[List.range_eq_range',zjf _ _ O.length 0 _ [] (λ x hx=>by omega) rfl,List.nil_append]
 ·refine List.map_congr_left λ j hj=>?_
  have hb:br O (xQ ps S K t) t rea 0 j=true:=(List.mem_filter.1 hj).2;have e:zbd O (xQ ps S K t) t rea (zam O.length 0) j=true:=hb;rw[if_pos e]
 ·intro j _ hj hb x hx;have e:zbd O (xQ ps S K t) t rea (zam O.length 0) j=true:=hb;rw[if_pos e] at hx;exact⟨aX j (by omega) x hx,Oa aX (by omega) hb x hx⟩
end
end Go.Proofs.YtldkpahaocjdpaaGreat
