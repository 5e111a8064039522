/-
  Bytes: a witness is written.
-/
import Derived.Test.YtldkpahaocjdpaaGreatR42
set_option maxHeartbeats 16000000
set_option maxRecDepth 1000000
namespace Go.Proofs.YtldkpahaocjdpaaGreat
section
open Go.RowKit Go.Maps
def rL (x:Nat × List Nat):List Nat:=x.1::x.2
def bytesOf (k:Nat)(ns:List (Nat × List Nat)):List Nat:=k::ns.length::ns.flatMap rL
structure lM (w:W8)(out:List Nat)(v:Value)(wr:W8):Prop where
 k:Below w.heap.size w wr
 row:wr.ownsRow (w.heap.size+1) 5 1 v out.length (out.map u8c)
theorem lM.add {w:W8}{out:List Nat}{v v':Value}{wr W w5:W8}{x:Nat}(h:lM w out v wr)(hW:Below wr.heap.size wr W)(hg:W.grownBy w5 v.ownBlock)(aI:w5.ownsRow (w.heap.size+1) 5 1 v' (out.length+1) (out.map u8c++[u8c x])):lM w (out++[x]) v' w5:=by
 have hs:=h.k.size;refine⟨⟨hg.os.trans (hW.os.trans h.k.os),hg.tape.trans (hW.tape.trans h.k.tape),hg.output.trans (hW.output.trans h.k.output),Nat.le_trans h.k.size (Nat.le_trans hW.size hg.size),λ i hi=>?_⟩,?_⟩
 ·have:=hW.size;rw[hg.block i (by omega) (λ e=>by have:=(h.row.lt i e.symm).1;omega),hW.block i (by omega)];exact h.k.block i hi
 ·rw[List.length_append,List.length_singleton,List.map_append];exact aI
def BytesPost (w:W8)(L:List Nat)(e:Ending)(w':W8):Prop:=
 ∃ (a:O8) (c:Nat),e=.returned (.slice a L.length c)/\w'.ownsRow w.heap.size 5 1 (.slice a L.length c) L.length (L.map u8c)/\Below w.heap.size w w'
theorem bytes_any (w:W8)(base k:Nat)(an:O8)(cn:Nat)(aJ:List ND)(h:bN w base (.slice an aJ.length cn) aJ)(hl:aJ.length<=50)(hf:∀ x∈aJ,x.fr.length<=3):
  Calls Tryz.prog 43 #[.agg #[.int .i64 (k:Nat),.slice an aJ.length cn]] w (BytesPost w (bytesOf k (aJ.map dX))):=by
 obtain⟨i0,hi,dK,ir,bZ⟩:=info_parts infoByte;have H:=hide h;have HF:=hide hf;have HL:=hide hl;clear h hf hl;go_enter Tryz.func43,Tryz.ntmps43;go_upto_region 2 with fail;generalize hw0:World.alloc (World.alloc w _) _=w0;have k0:Below w.heap.size w w0:=by
  rw[<-hw0];exact ((Below.refl w.heap.size w).alloc L9 _).alloc (by simp) _
 have r0:w0.ownsRow (w.heap.size+1) 5 1 (.slice (some ⟨w.heap.size+1,0,none⟩) 2 2) 2 ([k,aJ.length].map u8c):=by
  rw[<-hw0];have:=World.ownsRow_lit (base:=w.heap.size+1) (size:=1) (e:=5) (w.alloc (.cells #[.int .i64 (k:Nat),.slice an aJ.length cn] 93)) #[.int .u8 ((k:Int)%256),.int .u8 ((aJ.length:Int)%256)] 2 (by simp) (by unfold maxLen;omega) rfl;rw[World.size_alloc] at this;exact this
 have b1:w0.cell? ⟨w.heap.size,1,none⟩=some (.slice an aJ.length cn):=by
  have x0:w0.heap[w.heap.size]?=some (.cells #[.int .i64 (k:Nat),.slice an aJ.length cn] 93 (0,0)):=by
   rw[<-hw0,Below.heap_alloc _ _ _ (by simp)];exact heap_alloc_new w _
  exact (block_cells x0 1).1
 have H0:=hide (show lM w (k::aJ.length::((aJ.take 0).map dX).flatMap rL) (.slice (some ⟨w.heap.size+1,0,none⟩) 2 2) w0 from ⟨k0,r0⟩);clear hw0 k0 r0;go_upto_region 3 with fail;clear b1
 go_loopg [3,19] aJ.length (λ gg v i wr=>∃ kk:Nat,kk<=aJ.length/\gg=aJ.length-kk/\i=.int .i64 kk/\(k::aJ.length::((aJ.take kk).map dX).flatMap rL).length<=2+4*kk/\lM w (k::aJ.length::((aJ.take kk).map dX).flatMap rL) v wr)
 exact⟨0,Nat.zero_le _,rfl,rfl,by simp,ad H0⟩
 case round=>
  clear H0;obtain⟨kk,kg,fM,rfl,AB,ak⟩:=hrel;obtain⟨out,l6⟩:∃ out,out=k::aJ.length::((aJ.take kk).map dX).flatMap rL:=⟨_,rfl⟩;rw[<-l6] at AB ak;obtain⟨ao,co,rfl⟩:=own_slice ak.row
  by_cases aN:kk<aJ.length
  ·obtain⟨x,pL⟩:∃ x,x=aJ[kk]:=⟨_,rfl⟩;have bC:x∈aJ:=(by rw[pL];exact List.getElem_mem aN);obtain⟨g,cap,hv,iC,dp,dG,dx,hc⟩:=row_at ndCells_len (ad H).row kk aN;injection hv with h1 h2 h3
   subst h1 h3;have xi:=(ad H).each x bC;obtain⟨av,cv,u4⟩:=own_slice xi;have e0:wr.cell? ⟨g,kk*2,none⟩=some (.int .i64 (x.r:Nat)):=(by rw[pL];exact (ak.k.cell (p:=⟨g,kk*2,none⟩) dp).trans (hc 0 (by omega)));have e1:wr.cell? ⟨g,kk*2+1,none⟩=some (.slice av x.fr.length cv):=(by rw[<-u4,pL];exact (ak.k.cell (p:=⟨g,kk*2+1,none⟩) dp).trans (hc 1 (by omega)));have gW:(kk:Int)<aJ.length:=(by omega);have Fs:=ad HF x bC;have JD:=ad HL;have Df:out.length<=300:=by omega
   have Ff:=hide (show k::aJ.length::((aJ.take (kk+1)).map dX).flatMap rL=out++x.r::x.fr by
    rw[List.take_succ_eq_append_getElem aN,List.map_append,List.flatMap_append,l6,<-pL]
    simp[rL,dX])
   have Hy:=hide (show (out++x.r::x.fr).length<=2+4*(kk+1) by simp;omega);have bH:=(ak.row.alloc (.cells #[.int .i64 (x.r:Nat),.slice av x.fr.length cv] 150)).alloc (.cells #[.int .u8 ((x.r:Int)%256)] 5);have gF:=hide (World.news_of_block (heap_alloc_new (wr.alloc (.cells #[.int .i64 (x.r:Nat),.slice av x.fr.length cv] 150)) (.cells #[.int .u8 ((x.r:Int)%256)] 5)));rw[World.size_alloc] at gF;have bt:=hide ak;have xw:=hide xi;have BM:=hide u4;have lK:=ak.k.size;clear hc ak pL bC h2 xi u4 l6 AB;go_upto_region 6 with (at_builtin;refine wpList_append_own _ rfl _ _ 47 rfl (w.heap.size+1) 5 i0 _ 1 1 Tryz.underlying47 hi dK ir bZ rfl (by decide) _ _ _ rfl bH ⟨wr.heap.size+1,0,none⟩ 1 1 [u8c x.r] rfl rfl (ad gF) (by intro u hu;rw[List.mem_singleton.1 hu];rfl) (by unfold maxLen;omega) (by omega) (by simp;omega) ?_;intro v5 w5 dm dz jv;clear jv;obtain⟨a5,c5,rfl⟩:=own_slice dm;have mY:=hide dm;have jG:=hide dz;clear dm dz);have ak:=ad bt;have dz:((wr.alloc (.cells #[.int .i64 (x.r:Nat),.slice av x.fr.length cv] 150)).alloc (.cells #[.int .u8 ((x.r:Int)%256)] 5)).grownBy w5 (Value.slice ao out.length co).ownBlock:=ad jG;have FH:Below wr.heap.size wr ((wr.alloc (.cells #[.int .i64 (x.r:Nat),.slice av x.fr.length cv] 150)).alloc (.cells #[.int .u8 ((x.r:Int)%256)] 5)):=((Below.refl wr.heap.size wr).alloc L9 _).alloc (by simp) _;have yI:=ak.add FH dz (ad mY);have EH:w5.heap[wr.heap.size]?=some (.cells #[.int .i64 (x.r:Nat),.slice av x.fr.length cv] 150 (0,0)):=by
    rw[dz.block wr.heap.size (by simp only[World.size_alloc];omega) (λ e=>by have:=(ak.row.lt _ e.symm).2;omega),Below.heap_alloc _ _ _ (by simp)];exact heap_alloc_new wr _
   have b1:=(block_cells EH 1).1;simp only[List.getElem?_toArray,List.getElem?_cons_zero,List.getElem?_cons_succ] at b1;have H5:=hide (show lM w (out++x.r::x.fr.take 0) (.slice a5 (out.length+1) c5) w5 from by simpa using yI);clear ak dz FH yI EH bH gF e0 e1 jG mY bt lK;generalize wr.heap.size=xb at *;go_upto_region 7 with fail;clear b1
   go_loopg [3,32] x.fr.length (λ gg2 v jj wi=>∃ j:Nat,j<=x.fr.length/\gg2=x.fr.length-j/\jj=.int .i64 j/\lM w (out++x.r::x.fr.take j) v wi)
   exact⟨0,Nat.zero_le _,rfl,rfl,ad H5⟩
   case round=>
    clear H5;obtain⟨j,hj,uo,rfl,ak⟩:=hrel;have fN:(out++x.r::x.fr.take j).length<=310:=(by simp;omega);obtain⟨o2,uK⟩:∃ o2,o2=out++x.r::x.fr.take j:=⟨_,rfl⟩;rw[<-uK] at ak fN;obtain⟨ai,ci,rfl⟩:=own_slice ak.row
    by_cases hlj:j<x.fr.length
    ·have u5:=own_below (ad xw) ak.k (λ g e=>((ad xw).lt g e).2);rw[ad BM] at u5;obtain⟨gv,rfl,Jp,Da,Cv,Cw⟩:=numAt u5 j hlj;have vJ:(j:Int)<x.fr.length:=(by omega);have Bk:=hide (show out++x.r::x.fr.take (j+1)=o2++[x.fr[j]] by rw[uK,List.take_succ_eq_append_getElem hlj];simp);generalize x.fr[j]=y at *;have zc:=ak.row.alloc (.cells #[.int .u8 ((y:Int)%256)] 5);have yW:=hide (World.news_of_block (heap_alloc_new wr (.cells #[.int .u8 ((y:Int)%256)] 5)));have bt:=hide ak;have sV:=ak.k.size;clear ak uK u5;go_wp2_with (at_builtin;refine wpList_append_own _ rfl _ _ 47 rfl (w.heap.size+1) 5 i0 _ 1 1 Tryz.underlying47 hi dK ir bZ rfl (by decide) _ _ _ rfl zc ⟨wr.heap.size,0,none⟩ 1 1 [u8c y] rfl rfl (ad yW) (by intro u hu;rw[List.mem_singleton.1 hu];rfl) (by unfold maxLen;omega) (by omega) (by simp;omega) ?_;intro v6 w6 hown6 lF hne6;clear hne6;obtain⟨a6,c6,rfl⟩:=own_slice hown6;have A9:=hide ((ad bt).add (B9.alloc L9 _) lF hown6);clear hown6 lF);go_roundg (x.fr.length-(j+1))
     case measure=>omega
     case rel=>
      refine⟨j+1,by omega,rfl,by go_num,?_⟩;rw[ad Bk];exact ad A9
    ·have CH:j=x.fr.length:=(by omega);subst CH;have HE:=hide (show o2=out++x.r::x.fr by rw[uK,List.take_length]);have bt:=hide ak;clear ak uK;go_wp2_with fail;go_roundg (aJ.length-(kk+1))
     case measure=>omega
     case rel=>
      refine⟨kk+1,by omega,rfl,by go_num,?_,?_⟩
      ·rw[ad Ff];exact ad Hy
      ·rw[ad Ff,<-ad HE];exact ad bt
  ·have he:kk=aJ.length:=(by omega);subst he;have HE:=hide (show out=bytesOf k (aJ.map dX) by rw[l6,List.take_length];unfold bytesOf;simp);have bt:=hide ak;clear ak l6 AB;go_wp2_with fail;go_ret;rw[<-ad HE];exact⟨ao,co,rfl,aw (ad bt).row (by omega),(ad bt).k⟩
end
section
open Go.RowKit Go.Maps
theorem set3' {w1:W8}{n:Nat}{u0 u1 u2:Value}(h0:w1.cell? ⟨n,0,none⟩=some u0)(h1:w1.cell? ⟨n,1,none⟩=some u1)(h2:w1.cell? ⟨n,2,none⟩=some u2)(v0 v1 v2:Value):(((w1.setCell ⟨n,0,none⟩ v0).setCell ⟨n,1,none⟩ v1).setCell ⟨n,2,none⟩ v2).cell? ⟨n,0,none⟩=some v0/\(((w1.setCell ⟨n,0,none⟩ v0).setCell ⟨n,1,none⟩ v1).setCell ⟨n,2,none⟩ v2).cell? ⟨n,1,none⟩=some v1/\(((w1.setCell ⟨n,0,none⟩ v0).setCell ⟨n,1,none⟩ v1).setCell ⟨n,2,none⟩ v2).cell? ⟨n,2,none⟩=some v2:=
 ⟨by rw[cs_other' (by omega),cs_other' (by omega)];exact bS h0,by rw[cs_other' (by omega)];exact bS (by rw[cs_other' (by omega)];exact h1),bS (by rw[cs_other' (by omega),cs_other' (by omega)];exact h2)⟩
theorem renum_len (B:Nat->Bool):∀ (l:List (Nat × List Nat)) (i:Nat) (pl:Nat->Nat) (out:List (Nat × List Nat)),(renum B l i pl out).length<=out.length+l.length
 | [],_,_,_=>Nat.le_refl _
 | x::r,i,pl,out=>by
  rw[renum]
  split
  ·have:=renum_len B r (i+1) (iH pl i out.length) (out++[(x.1,x.2.map (iH pl i out.length))]);simp at this ⊢;omega
  ·have:=renum_len B r (i+1) pl out;simp at this ⊢;omega
theorem renum_fr (B:Nat->Bool)(m:Nat):∀ (l:List (Nat × List Nat)) (i:Nat) (pl:Nat->Nat) (out:List (Nat × List Nat)),(∀ x∈l,x.2.length<=m)->(∀ x∈out,x.2.length<=m)->∀ x∈renum B l i pl out,x.2.length<=m
 | [],_,_,_,_,h=>h
 | y::r,i,pl,out,hl,h=>by
  rw[renum]
  split
  ·refine renum_fr B m r _ _ _ (λ x hx=>hl x (List.mem_cons_of_mem _ hx)) (λ x hx=>?_);rcases List.mem_append.1 hx with hx | hx
   ·exact h x hx
   ·rw[List.mem_singleton.1 hx,List.length_map];exact hl y List.mem_cons_self
  ·exact renum_fr B m r _ _ _ (λ x hx=>hl x (List.mem_cons_of_mem _ hx)) h
def jw (ps:P9)(S:B8->Nat)(K:List (Th × Nat))(t:Th)(rea:Nat->Nat × List Nat)(O:List Pl):List (Nat × List Nat):=
 renum (needs O (a8 ps S K t) t rea (backs O.length 0)) (nodesOf O.length rea (needs O (a8 ps S K t) t rea (backs O.length 0))) 0 (λ _=>0) []
def expL (ps:P9)(S:B8->Nat)(K:List (Th × Nat))(t:Th)(rea:Nat->Nat × List Nat)(O:List Pl):List Nat:=bytesOf (a8 ps S K t) (jw ps S K t rea O)
theorem expN_len (ps:P9)(S:B8->Nat)(K:List (Th × Nat))(t:Th)(rea:Nat->Nat × List Nat)(O:List Pl):(jw ps S K t rea O).length<=O.length:=by
 have:=renum_len (needs O (a8 ps S K t) t rea (backs O.length 0)) (nodesOf O.length rea (needs O (a8 ps S K t) t rea (backs O.length 0))) 0 (λ _=>0) [];unfold jw;simpa[nodesOf] using this
theorem expN_fr {ps:P9}{S:B8->Nat}{K:List (Th × Nat)}{t:Th}{rea:Nat->Nat × List Nat}{O:List Pl}(h:∀ i,i<O.length->(rea i).2.length<=3):∀ x∈jw ps S K t rea O,x.2.length<=3:=by
 refine renum_fr _ 3 _ _ _ _ (λ x hx=>?_) (λ x hx=>by cases hx);obtain⟨i,hi,rfl⟩:=List.mem_map.1 hx
 split
 ·exact h i (List.mem_range.1 hi)
 ·simp
inductive PEOut (w:W8)(rs:List PR)(ps:P9)(s:B8)(limit:Int)(rea:(B8->Nat)->List (Th × Nat)->List Pl->Nat->Nat × List Nat)(w':W8):Ending->Prop
 | arg:cC limit=false->PEOut w rs ps s limit rea w' (.returned (.tuple #[.agg #[.int .i64 0,.int .i64 0,.slice none 0 0],.int .i64 8]))
 | ask:cC limit=true->thingS ps s=none->PEOut w rs ps s limit rea w' (.returned (.tuple #[.agg #[.int .i64 0,.int .i64 0,.slice none 0 0],.int .i64 6]))
 | fk {t:Th} {S:B8->Nat} {m:Nat}:cC limit=true->thingS ps s=some t->ValidN (rs.map (·.R)) S->LowN (rs.map (·.R)) S->IsCount ps S m->PStrat rs S limit.toNat m 0 [] none->PEOut w rs ps s limit rea w' (.returned (.tuple #[.agg #[.int .i64 0,.int .i64 0,.slice none 0 0],.int .i64 7]))
 | yes {t:Th} {S:B8->Nat} {m:Nat} {K:List (Th × Nat)} {O:List Pl} {a:O8} {c:Nat}:cC limit=true->thingS ps s=some t->ValidN (rs.map (·.R)) S->LowN (rs.map (·.R)) S->IsCount ps S m->PStrat rs S limit.toNat m 0 [] (some K)->(K.map (·.1)).Nodup->O.Perm (K.map (plOf S))->(O.Pairwise λ p q=>lessPl p q=true)->w'.ownsRow w.heap.size 5 1 (.slice a (expL ps S K t (rea S K O) O).length c) (expL ps S K t (rea S K O) O).length ((expL ps S K t (rea S K O) O).map u8c) ->
   PEOut w rs ps s limit rea w' (.returned (.tuple #[.agg #[.int .i64 (if (ay K t).isSome then 1 else 2),.int .i64 (((ay K t).getD 0:Nat):Int),.slice a (expL ps S K t (rea S K O) O).length c],.int .i64 0]))
end
section
theorem mark_mono {j:Nat}:∀ (fr:List Nat) (B:Nat->Bool),B j=true->markFrom B fr j=true
 | [],_,h=>h
 | x::r,B,h=>mark_mono r (setB B x true) (by unfold setB;split <;> simp[h])
theorem mark_in {j:Nat}:∀ (fr:List Nat) (B:Nat->Bool),j∈fr->markFrom B fr j=true
 | x::r,B,h=>by
  rcases List.mem_cons.1 h with rfl | h
  ·exact mark_mono r _ (by unfold setB;simp)
  ·exact mark_in r _ h
theorem mark_only {j:Nat}:∀ (fr:List Nat) (B:Nat->Bool),markFrom B fr j=true->B j=true\/j∈fr
 | [],_,h=>.inl h
 | x::r,B,h=>by
  rcases mark_only r (setB B x true) h with h | h
  ·unfold setB at h
   split at h
   ·rename_i e;exact .inr (by rw[e];exact List.mem_cons_self)
   ·exact .inl h
  ·exact .inr (List.mem_cons_of_mem _ h)
section
variable {O:List Pl} {k:Nat} {t:Th} {rea:Nat->Nat × List Nat}
theorem needStep_is (B:Nat->Bool)(i:Nat):needStep O k t rea B i=if need1 O k t B i i then markFrom (need1 O k t B i) (rea i).2 else need1 O k t B i:=rfl
theorem need1_mono {B:Nat->Bool}{i j:Nat}(h:B j=true):need1 O k t B i j=true:=by
 unfold need1
 split
 ·unfold setB;split <;> simp[h]
 ·exact h
theorem need1_own {B:Nat->Bool}{i:Nat}(h:ownB O k t i=true):need1 O k t B i i=true:=by
 unfold need1;rw[if_pos h];unfold setB;simp
theorem need1_only {B:Nat->Bool}{i j:Nat}(h:need1 O k t B i j=true):B j=true\/(j=i/\ownB O k t i=true):=by
 unfold need1 at h
 split at h
 ·rename_i ho;unfold setB at h
  split at h
  ·rename_i e;exact .inr ⟨e,ho⟩
  ·exact .inl h
 ·exact .inl h
theorem needStep_mono {B:Nat->Bool}{i j:Nat}(h:B j=true):needStep O k t rea B i j=true:=by
 rw[needStep_is]
 split
 ·exact mark_mono _ _ (need1_mono h)
 ·exact need1_mono h
theorem needStep_only {B:Nat->Bool}{i j:Nat}(h:needStep O k t rea B i j=true):B j=true\/(j=i/\ownB O k t i=true)\/(need1 O k t B i i=true/\j∈(rea i).2):=by
 rw[needStep_is] at h
 split at h
 ·rename_i h1;rcases mark_only _ _ h with h | h
  ·rcases need1_only h with h | h
   ·exact .inl h
   ·exact .inr (.inl h)
  ·exact .inr (.inr ⟨h1,h⟩)
 ·rcases need1_only h with h | h
  ·exact .inl h
  ·exact .inr (.inl h)
def cQ (O:List Pl)(k:Nat)(t:Th)(rea:Nat->Nat × List Nat)(m:Nat):Nat->Bool:=needs O k t rea (backs O.length m)
theorem needM_step {m:Nat}(h:m<O.length):cQ O k t rea m=needStep O k t rea (cQ O k t rea (m+1)) m:=by
 unfold cQ;rw[backs_step h,needs_snoc]
theorem needM_end:cQ O k t rea O.length=λ _=>false:=by unfold cQ;rw[gQ];rfl
theorem needM_mono {j:Nat}:∀ (d m:Nat),m+d<=O.length->cQ O k t rea (m+d) j=true->cQ O k t rea m j=true
 | 0,m,_,h=>h
 | d+1,m,hm,h=>by
  have h1:=needM_mono d (m+1) (by omega) (by rw[show m+1+d=m+(d+1) by omega];exact h);rw[needM_step (by omega)];exact needStep_mono h1
theorem needM_above (aX:∀ i,i<O.length->∀ x∈(rea i).2,x<i){j:Nat}:∀ (d m:Nat),m+d<=O.length->m+d<=j->cQ O k t rea m j=cQ O k t rea (m+d) j
 | 0,m,_,_=>rfl
 | d+1,m,hm,hj=>by
  rw[needM_step (by omega)];have h1:=needM_above aX (j:=j) d (m+1) (by omega) (by omega);rw[show m+1+d=m+(d+1) by omega] at h1;rw[<-h1]
  cases hB:cQ O k t rea (m+1) j with
  | true=>exact needStep_mono hB
  | false=>
   cases hs:needStep O k t rea (cQ O k t rea (m+1)) m j with
   | false=>rfl
   | true=>
    rcases needStep_only hs with h | ⟨h,_⟩ | ⟨_,h⟩
    ·rw[hB] at h;cases h
    ·omega
    ·have:=aX m (by omega) j h;omega
theorem need_own {i:Nat}(hi:i<O.length)(h:ownB O k t i=true):cQ O k t rea 0 i=true:=by
 refine needM_mono i 0 (by omega) ?_;rw[Nat.zero_add,needM_step hi,needStep_is,if_pos (need1_own h)];exact mark_mono _ _ (need1_own h)
theorem jV (aX:∀ i,i<O.length->∀ x∈(rea i).2,x<i){i:Nat}(hi:i<O.length)(h:cQ O k t rea 0 i=true):∀ x∈(rea i).2,cQ O k t rea 0 x=true:=λ x hx=>by
 have h1:cQ O k t rea i i=true:=by have:=needM_above (k:=k) (t:=t) aX (j:=i) i 0 (by omega) (by omega);rw[Nat.zero_add] at this;rw[<-this];exact h
 refine needM_mono i 0 (by omega) ?_;rw[Nat.zero_add];rw[needM_step hi] at h1 ⊢;rw[needStep_is] at h1 ⊢
 split at h1
 ·rename_i h2;rw[if_pos h2];exact mark_in _ _ hx
 ·rename_i h2;exact absurd h1 h2
theorem need_inv (aX:∀ i,i<O.length->∀ x∈(rea i).2,x<i){Q:Nat->Prop}(h0:∀ i,i<O.length->ownB O k t i=true->Q i)(h1:∀ i,i<O.length->Q i->∀ x∈(rea i).2,Q x):∀ (d m:Nat),m+d=O.length->∀ j,cQ O k t rea m j=true->Q j/\j<O.length
 | 0,m,hm,j,h=>by
  rw[Nat.add_zero] at hm;subst hm;rw[needM_end] at h;cases h
 | d+1,m,hm,j,h=>by
  have ih:=need_inv aX h0 h1 d (m+1) (by omega);have jB:m<O.length:=by omega
  rw[needM_step jB] at h;rcases needStep_only h with h | ⟨rfl,h⟩ | ⟨h,hx⟩
  ·exact ih j h
  ·exact⟨h0 _ jB h,jB⟩
  ·have hq:Q m:=by
    rcases need1_only h with h | ⟨_,h⟩
    ·exact (ih m h).1
    ·exact h0 m jB h
   exact⟨h1 m jB hq j hx,by have:=aX m jB j hx;omega⟩
end
def rankB (B:Nat->Bool)(i:Nat):Nat:=((List.range i).filter B).length
theorem rank_step (B:Nat->Bool)(i:Nat):rankB B (i+1)=rankB B i+(if B i then 1 else 0):=by
 unfold rankB;rw[List.range_succ,List.filter_append,List.length_append]
 cases h:B i <;> simp[List.filter,h]
theorem rank_at (B:Nat->Bool){n j:Nat}(hj:j<n)(h:B j=true):((List.range n).filter B)[rankB B j]?=some j:=by
 obtain⟨d,rfl⟩:∃ d,n=j+(1+d):=⟨n-(j+1),by omega⟩;have e:List.range (j+(1+d))=List.range j++j::(List.range' (j+1) d):=by
  have h1:List.range (j+(1+d))=List.range' 0 (j+(1+d)):=List.range_eq_range' ..;have h2:List.range j=List.range' 0 j:=List.range_eq_range' ..;rw[h1,h2,<-List.range'_append_1,Nat.zero_add,<-List.range'_append_1];rfl
 rw[e,List.filter_append,List.filter_cons,if_pos h];unfold rankB;rw[List.getElem?_append_right L9,Nat.sub_self];rfl
theorem renum_spec (B:Nat->Bool)(f:Nat->Nat × List Nat):∀ (d i:Nat) (pl:Nat->Nat) (out:List (Nat × List Nat)),(∀ x,x<i->B x=true->pl x=rankB B x)->out.length=rankB B i->(∀ j,i<=j->j<i+d->B j=true->∀ x∈(f j).2,x<j/\B x=true)->renum B ((List.range' i d).map f) i pl out=out++((List.range' i d).filter B).map λ j=>((f j).1,(f j).2.map (rankB B))
 | 0,i,pl,out,_,_,_=>by simp[renum]
 | d+1,i,pl,out,h1,h2,h3=>by
  rw[List.range'_succ,List.map_cons,renum,List.filter_cons]
  cases hB:B i with
  | true=>
   have hm:(f i).2.map (iH pl i out.length)=(f i).2.map (rankB B):=List.map_congr_left λ x hx=>by
    obtain⟨mg,mh⟩:=h3 i L9 (by omega) hB x hx;unfold iH;rw[if_neg (by omega)];exact h1 x mg mh
   rw[if_pos rfl,if_pos rfl,renum_spec B f d (i+1),hm,List.map_cons,List.append_assoc]
   ·rfl
   ·intro x hx hb;unfold iH
    split
    ·rename_i e;rw[e];exact h2
    ·exact h1 x (by omega) hb
   ·rw[List.length_append,h2,rank_step,hB];rfl
   ·exact λ j hj hjd=>h3 j (by omega) (by omega)
  | false=>
   rw[if_neg (by simp),if_neg (by simp)];refine renum_spec B f d (i+1) pl out (λ x hx hb=>?_) ?_ (λ j hj hjd=>h3 j (by omega) (by omega))
   ·by_cases e:x=i
    ·subst e;rw[hB] at hb;cases hb
    ·exact h1 x (by omega) hb
   ·rw[h2,rank_step,hB];rfl
theorem expN_eq {ps:P9}{S:B8->Nat}{K:List (Th × Nat)}{t:Th}{rea:Nat->Nat × List Nat}{O:List Pl}(aX:∀ i,i<O.length->∀ x∈(rea i).2,x<i):jw ps S K t rea O=((List.range O.length).filter (cQ O (a8 ps S K t) t rea 0)).map λ j=>((rea j).1,(rea j).2.map (rankB (cQ O (a8 ps S K t) t rea 0))):=by
 unfold jw nodesOf
 show renum (cQ O (a8 ps S K t) t rea 0) _ 0 _ []=_
 rw[List.range_eq_range',renum_spec _ _ O.length 0 _ [] (λ x hx=>by omega) rfl,List.nil_append]
 ·refine List.map_congr_left λ j hj=>?_
  have hb:cQ O (a8 ps S K t) t rea 0 j=true:=(List.mem_filter.1 hj).2;have e:needs O (a8 ps S K t) t rea (backs O.length 0) j=true:=hb;rw[if_pos e]
 ·intro j _ hj hb x hx;have e:needs O (a8 ps S K t) t rea (backs O.length 0) j=true:=hb;rw[if_pos e] at hx;exact⟨aX j (by omega) x hx,jV aX (by omega) hb x hx⟩
end
end Go.Proofs.YtldkpahaocjdpaaGreat
