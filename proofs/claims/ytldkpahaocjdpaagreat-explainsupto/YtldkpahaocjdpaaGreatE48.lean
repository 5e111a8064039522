/-
  Bytes: a witness is written.
-/
import Derived.Test.YtldkpahaocjdpaaGreatE47
set_option maxHeartbeats 16000000
set_option maxRecDepth 1000000
namespace Go.Proofs.YtldkpahaocjdpaaGreat
section
open Go.RowKit Go.Maps
def uB (x:Nat × List Nat):List Nat:=x.1::x.2
def zfb (k:Nat)(ns:List (Nat × List Nat)):List Nat:=k::ns.length::ns.flatMap uB
structure Hi (w:W8)(out:List Nat)(v:Value)(wr:W8):Prop where
 k:Below w.heap.size w wr
 row:wr.ownsRow (w.heap.size+1) 5 1 v out.length (out.map u8c)
theorem Hi.add {w:W8}{out:List Nat}{v v':Value}{wr W w5:W8}{x:Nat}(h:Hi w out v wr)(hW:Below wr.heap.size wr W)(hg:W.grownBy w5 v.ownBlock)(ay:w5.ownsRow (w.heap.size+1) 5 1 v' (out.length+1) (out.map u8c++[u8c x])):Hi w (out++[x]) v' w5:=by
 have hs:=h.k.size;refine⟨⟨hg.os.trans (hW.os.trans h.k.os),hg.tape.trans (hW.tape.trans h.k.tape),hg.output.trans (hW.output.trans h.k.output),Nat.le_trans h.k.size (Nat.le_trans hW.size hg.size),λ i hi=>?_⟩,?_⟩
 ·have:=hW.size;rw[hg.block i (by omega) (λ e=>by have:=(h.row.lt i e.symm).1;omega),hW.block i (by omega)];exact h.k.block i hi
 ·rw[List.length_append,List.length_singleton,List.map_append];exact ay
def z0f (w:W8)(L:List Nat)(e:Ending)(w':W8):Prop:=
 ∃ (a:O8) (c:Nat),e=.returned (.slice a L.length c)/\w'.ownsRow w.heap.size 5 1 (.slice a L.length c) L.length (L.map u8c)/\Below w.heap.size w w'
theorem z1k (w:W8)(base k:Nat)(an:O8)(cn:Nat)(bG:List ND)(h:wI w base (.slice an bG.length cn) bG)(hl:bG.length<=50)(hf:∀ x∈bG,x.fr.length<=3):
  Calls Tryz.prog 43 #[.agg #[.int .i64 (k:Nat),.slice an bG.length cn]] w (z0f w (zfb k (bG.map lk))):=by
 obtain⟨i0,hi,bL,aY,bg⟩:=info_parts zeo;have H:=zC h;have HF:=zC hf;have HL:=zC hl;clear h hf hl;go_enter Tryz.func43,Tryz.ntmps43;go_upto_region 2 with fail;generalize bC:World.alloc (World.alloc w _) _=w0;have k0:Below w.heap.size w w0:=by
  rw[<-bC];exact ((Below.refl w.heap.size w).alloc L9 _).alloc (by simp) _
 have r0:w0.ownsRow (w.heap.size+1) 5 1 (.slice (some ⟨w.heap.size+1,0,none⟩) 2 2) 2 ([k,bG.length].map u8c):=by
  rw[<-bC];have:=World.ownsRow_lit (base:=w.heap.size+1) (size:=1) (e:=5) (w.alloc (.cells #[.int .i64 (k:Nat),.slice an bG.length cn] 93)) #[.int .u8 ((k:Int)%256),.int .u8 ((bG.length:Int)%256)] 2 (by simp) (by unfold maxLen;omega) rfl;rw[World.size_alloc] at this;exact this
 have b1:w0.cell? ⟨w.heap.size,1,none⟩=some (.slice an bG.length cn):=by
  have x0:w0.heap[w.heap.size]?=some (.cells #[.int .i64 (k:Nat),.slice an bG.length cn] 93 (0,0)):=by
   rw[<-bC,Below.heap_alloc _ _ _ (by simp)];exact heap_alloc_new w _
  exact (zB x0 1).1
 have H0:=zC (show Hi w (k::bG.length::((bG.take 0).map lk).flatMap uB) (.slice (some ⟨w.heap.size+1,0,none⟩) 2 2) w0 from ⟨k0,r0⟩);clear bC k0 r0;go_upto_region 3 with fail;clear b1
 go_loopg [3,19] bG.length (λ gg v i wr=>∃ kk:Nat,kk<=bG.length/\gg=bG.length-kk/\i=.int .i64 kk/\(k::bG.length::((bG.take kk).map lk).flatMap uB).length<=2+4*kk/\Hi w (k::bG.length::((bG.take kk).map lk).flatMap uB) v wr)
 exact⟨0,Nat.zero_le _,rfl,rfl,by simp,zA H0⟩
 case round=>
  clear H0;obtain⟨kk,lz,eD,rfl,rY,ax⟩:=hrel;obtain⟨out,AA⟩:∃ out,out=k::bG.length::((bG.take kk).map lk).flatMap uB:=⟨_,rfl⟩;rw[<-AA] at rY ax;obtain⟨ao,co,rfl⟩:=zD ax.row
  by_cases aF:kk<bG.length
  ·obtain⟨x,AX⟩:∃ x,x=bG[kk]:=⟨_,rfl⟩;have cg:x∈bG:=(by rw[AX];exact List.getElem_mem aF);obtain⟨g,cap,hv,iF,aZ,bO,bQ,hc⟩:=vX zhg (zA H).row kk aF;injection hv with h1 h2 h3
   subst h1 h3;have GF:=(zA H).each x cg;obtain⟨av,cv,GG⟩:=zD GF;have e0:wr.cell? ⟨g,kk*2,none⟩=some (.int .i64 (x.r:Nat)):=(by rw[AX];exact (ax.k.cell (p:=⟨g,kk*2,none⟩) aZ).trans (hc 0 (by omega)));have e1:wr.cell? ⟨g,kk*2+1,none⟩=some (.slice av x.fr.length cv):=(by rw[<-GG,AX];exact (ax.k.cell (p:=⟨g,kk*2+1,none⟩) aZ).trans (hc 1 (by omega)));have nu:(kk:Int)<bG.length:=(by omega);have XM:=zA HF x cg;have An:=zA HL;have Lh:out.length<=300:=by omega
   have Tz:=zC (show k::bG.length::((bG.take (kk+1)).map lk).flatMap uB=out++x.r::x.fr by
    rw[List.take_succ_eq_append_getElem aF,List.map_append,List.flatMap_append,AA,<-AX]
    simp[uB,lk])
   have Wo:=zC (show (out++x.r::x.fr).length<=2+4*(kk+1) by simp;omega);have bH:=(ax.row.alloc (.cells #[.int .i64 (x.r:Nat),.slice av x.fr.length cv] 150)).alloc (.cells #[.int .u8 ((x.r:Int)%256)] 5);have dt:=zC (World.news_of_block (heap_alloc_new (wr.alloc (.cells #[.int .i64 (x.r:Nat),.slice av x.fr.length cv] 150)) (.cells #[.int .u8 ((x.r:Int)%256)] 5)));rw[World.size_alloc] at dt;have bT:=zC ax;have JE:=zC GF;have O1:=zC GG;have xq:=ax.k.size;clear hc ax AX cg h2 GF GG AA rY;go_upto_region 6 with (at_builtin;refine wpList_append_own _ rfl _ _ 47 rfl (w.heap.size+1) 5 i0 _ 1 1 Tryz.underlying47 hi bL aY bg rfl (by decide) _ _ _ rfl bH ⟨wr.heap.size+1,0,none⟩ 1 1 [u8c x.r] rfl rfl (zA dt) (by intro u hu;rw[List.mem_singleton.1 hu];rfl) (by unfold maxLen;omega) (by omega) (by simp;omega) ?_;intro v5 w5 aq aU hne5;clear hne5;obtain⟨a5,c5,rfl⟩:=zD aq;have CD:=zC aq;have Fj:=zC aU;clear aq aU);have ax:=zA bT;have aU:((wr.alloc (.cells #[.int .i64 (x.r:Nat),.slice av x.fr.length cv] 150)).alloc (.cells #[.int .u8 ((x.r:Int)%256)] 5)).grownBy w5 (Value.slice ao out.length co).ownBlock:=zA Fj;have T2:Below wr.heap.size wr ((wr.alloc (.cells #[.int .i64 (x.r:Nat),.slice av x.fr.length cv] 150)).alloc (.cells #[.int .u8 ((x.r:Int)%256)] 5)):=((Below.refl wr.heap.size wr).alloc L9 _).alloc (by simp) _;have Ah:=ax.add T2 aU (zA CD);have SP:w5.heap[wr.heap.size]?=some (.cells #[.int .i64 (x.r:Nat),.slice av x.fr.length cv] 150 (0,0)):=by
    rw[aU.block wr.heap.size (by simp only[World.size_alloc];omega) (λ e=>by have:=(ax.row.lt _ e.symm).2;omega),Below.heap_alloc _ _ _ (by simp)];exact heap_alloc_new wr _
   have b1:=(zB SP 1).1;simp only[List.getElem?_toArray,List.getElem?_cons_zero,List.getElem?_cons_succ] at b1;have H5:=zC (show Hi w (out++x.r::x.fr.take 0) (.slice a5 (out.length+1) c5) w5 from by simpa using Ah);clear ax aU T2 Ah SP bH dt e0 e1 Fj CD bT xq;generalize wr.heap.size=xb at *;go_upto_region 7 with fail;clear b1
   go_loopg [3,32] x.fr.length (λ gg2 v jj wi=>∃ j:Nat,j<=x.fr.length/\gg2=x.fr.length-j/\jj=.int .i64 j/\Hi w (out++x.r::x.fr.take j) v wi)
   exact⟨0,Nat.zero_le _,rfl,rfl,zA H5⟩
   case round=>
    clear H5;obtain⟨j,hj,xj,rfl,ax⟩:=hrel;have Aq:(out++x.r::x.fr.take j).length<=310:=(by simp;omega);obtain⟨o2,Gq⟩:∃ o2,o2=out++x.r::x.fr.take j:=⟨_,rfl⟩;rw[<-Gq] at ax Aq;obtain⟨ai,ci,rfl⟩:=zD ax.row
    by_cases hlj:j<x.fr.length
    ·have Ci:=zJ (zA JE) ax.k (λ g e=>((zA JE).lt g e).2);rw[zA O1] at Ci;obtain⟨gv,rfl,Ya,QC,PQ,M8⟩:=z3v Ci j hlj;have Na:(j:Int)<x.fr.length:=(by omega);have Wm:=zC (show out++x.r::x.fr.take (j+1)=o2++[x.fr[j]] by rw[Gq,List.take_succ_eq_append_getElem hlj];simp);generalize x.fr[j]=y at *;have Li:=ax.row.alloc (.cells #[.int .u8 ((y:Int)%256)] 5);have K8:=zC (World.news_of_block (heap_alloc_new wr (.cells #[.int .u8 ((y:Int)%256)] 5)));have bT:=zC ax;have Ra:=ax.k.size;clear ax Gq Ci;go_wp2_with (at_builtin;refine wpList_append_own _ rfl _ _ 47 rfl (w.heap.size+1) 5 i0 _ 1 1 Tryz.underlying47 hi bL aY bg rfl (by decide) _ _ _ rfl Li ⟨wr.heap.size,0,none⟩ 1 1 [u8c y] rfl rfl (zA K8) (by intro u hu;rw[List.mem_singleton.1 hu];rfl) (by unfold maxLen;omega) (by omega) (by simp;omega) ?_;intro v6 w6 hown6 sN hne6;clear hne6;obtain⟨a6,c6,rfl⟩:=zD hown6;have VX:=zC ((zA bT).add (B9.alloc L9 _) sN hown6);clear hown6 sN);go_roundg (x.fr.length-(j+1))
     case measure=>omega
     case rel=>
      refine⟨j+1,by omega,rfl,by go_num,?_⟩;rw[zA Wm];exact zA VX
    ·have qv:j=x.fr.length:=(by omega);subst qv;have HE:=zC (show o2=out++x.r::x.fr by rw[Gq,List.take_length]);have bT:=zC ax;clear ax Gq;go_wp2_with fail;go_roundg (bG.length-(kk+1))
     case measure=>omega
     case rel=>
      refine⟨kk+1,by omega,rfl,by go_num,?_,?_⟩
      ·rw[zA Tz];exact zA Wo
      ·rw[zA Tz,<-zA HE];exact zA bT
  ·have he:kk=bG.length:=(by omega);subst he;have HE:=zC (show out=zfb k (bG.map lk) by rw[AA,List.take_length];unfold zfb;simp);have bT:=zC ax;clear ax AA rY;go_wp2_with fail;go_ret;rw[<-zA HE];exact⟨ao,co,rfl,zG (zA bT).row (by omega),(zA bT).k⟩
end
section
open Go.RowKit Go.Maps
theorem zjg {w1:W8}{n:Nat}{u0 u1 u2:Value}(h0:w1.cell? ⟨n,0,none⟩=some u0)(h1:w1.cell? ⟨n,1,none⟩=some u1)(h2:w1.cell? ⟨n,2,none⟩=some u2)(v0 v1 v2:Value):(((w1.setCell ⟨n,0,none⟩ v0).setCell ⟨n,1,none⟩ v1).setCell ⟨n,2,none⟩ v2).cell? ⟨n,0,none⟩=some v0/\(((w1.setCell ⟨n,0,none⟩ v0).setCell ⟨n,1,none⟩ v1).setCell ⟨n,2,none⟩ v2).cell? ⟨n,1,none⟩=some v1/\(((w1.setCell ⟨n,0,none⟩ v0).setCell ⟨n,1,none⟩ v1).setCell ⟨n,2,none⟩ v2).cell? ⟨n,2,none⟩=some v2:=
 ⟨by rw[yC (by omega),yC (by omega)];exact qT h0,by rw[yC (by omega)];exact qT (by rw[yC (by omega)];exact h1),qT (by rw[yC (by omega),yC (by omega)];exact h2)⟩
theorem zmn (B:Nat->Bool):∀ (l:List (Nat × List Nat)) (i:Nat) (pl:Nat->Nat) (out:List (Nat × List Nat)),(zcy B l i pl out).length<=out.length+l.length
 | [],_,_,_=>Nat.le_refl _
 | x::r,i,pl,out=>by
  rw[zcy]
  split
  ·have:=zmn B r (i+1) (bK pl i out.length) (out++[(x.1,x.2.map (bK pl i out.length))]);simp at this ⊢;omega
  ·have:=zmn B r (i+1) pl out;simp at this ⊢;omega
theorem zpy (B:Nat->Bool)(m:Nat):∀ (l:List (Nat × List Nat)) (i:Nat) (pl:Nat->Nat) (out:List (Nat × List Nat)),(∀ x∈l,x.2.length<=m)->(∀ x∈out,x.2.length<=m)->∀ x∈zcy B l i pl out,x.2.length<=m
 | [],_,_,_,_,h=>h
 | y::r,i,pl,out,hl,h=>by
  rw[zcy]
  split
  ·refine zpy B m r _ _ _ (λ x hx=>hl x (List.mem_cons_of_mem _ hx)) (λ x hx=>?_);rcases List.mem_append.1 hx with hx | hx
   ·exact h x hx
   ·rw[List.mem_singleton.1 hx,List.length_map];exact hl y List.mem_cons_self
  ·exact zpy B m r _ _ _ (λ x hx=>hl x (List.mem_cons_of_mem _ hx)) h
def z9o (ps:P9)(S:B8->Nat)(K:List (Th × Nat))(t:Th)(rea:Nat->Nat × List Nat)(O:List Pl):List (Nat × List Nat):=
 zcy (qX O (jO ps S K t) t rea (qI O.length 0)) (qF O.length rea (qX O (jO ps S K t) t rea (qI O.length 0))) 0 (λ _=>0) []
def zd3 (ps:P9)(S:B8->Nat)(K:List (Th × Nat))(t:Th)(rea:Nat->Nat × List Nat)(O:List Pl):List Nat:=zfb (jO ps S K t) (z9o ps S K t rea O)
theorem zv6 (ps:P9)(S:B8->Nat)(K:List (Th × Nat))(t:Th)(rea:Nat->Nat × List Nat)(O:List Pl):(z9o ps S K t rea O).length<=O.length:=by
 have:=zmn (qX O (jO ps S K t) t rea (qI O.length 0)) (qF O.length rea (qX O (jO ps S K t) t rea (qI O.length 0))) 0 (λ _=>0) [];unfold z9o;simpa[qF] using this
theorem z14 {ps:P9}{S:B8->Nat}{K:List (Th × Nat)}{t:Th}{rea:Nat->Nat × List Nat}{O:List Pl}(h:∀ i,i<O.length->(rea i).2.length<=3):∀ x∈z9o ps S K t rea O,x.2.length<=3:=by
 refine zpy _ 3 _ _ _ _ (λ x hx=>?_) (λ x hx=>by cases hx);obtain⟨i,hi,rfl⟩:=List.mem_map.1 hx
 split
 ·exact h i (List.mem_range.1 hi)
 ·simp
inductive BT (w:W8)(rs:List PR)(ps:P9)(s:B8)(limit:Int)(rea:(B8->Nat)->List (Th × Nat)->List Pl->Nat->Nat × List Nat)(w':W8):Ending->Prop
 | arg:uG limit=false->BT w rs ps s limit rea w' (.returned (.tuple #[.agg #[.int .i64 0,.int .i64 0,.slice none 0 0],.int .i64 8]))
 | ask:uG limit=true->zeb ps s=none->BT w rs ps s limit rea w' (.returned (.tuple #[.agg #[.int .i64 0,.int .i64 0,.slice none 0 0],.int .i64 6]))
 | fG {t:Th} {S:B8->Nat} {m:Nat}:uG limit=true->zeb ps s=some t->zd0 (rs.map (·.R)) S->z52 (rs.map (·.R)) S->ze6 ps S m->zdx rs S limit.toNat m 0 [] none->BT w rs ps s limit rea w' (.returned (.tuple #[.agg #[.int .i64 0,.int .i64 0,.slice none 0 0],.int .i64 7]))
 | yes {t:Th} {S:B8->Nat} {m:Nat} {K:List (Th × Nat)} {O:List Pl} {a:O8} {c:Nat}:uG limit=true->zeb ps s=some t->zd0 (rs.map (·.R)) S->z52 (rs.map (·.R)) S->ze6 ps S m->zdx rs S limit.toNat m 0 [] (some K)->(K.map (·.1)).Nodup->O.Perm (K.map (zno S))->(O.Pairwise λ p q=>vU p q=true)->w'.ownsRow w.heap.size 5 1 (.slice a (zd3 ps S K t (rea S K O) O).length c) (zd3 ps S K t (rea S K O) O).length ((zd3 ps S K t (rea S K O) O).map u8c) ->
   BT w rs ps s limit rea w' (.returned (.tuple #[.agg #[.int .i64 (if (yS K t).isSome then 1 else 2),.int .i64 (((yS K t).getD 0:Nat):Int),.slice a (zd3 ps S K t (rea S K O) O).length c],.int .i64 0]))
end
section
open Go.RowKit Go.Maps
def plF (f:zP):Pl:=⟨bN f.aj,f.s,f.h⟩
theorem zxj (g f:zP):zed (plF g) (plF f)=zgy g f:=rfl
theorem zws (p:Pl):∀ (a b:List Pl) (i:Nat),ze2 p (a++b) i=ze2 p a i++ze2 p b (i+a.length)
 | [],b,i=>by simp[ze2]
 | x::a,b,i=>by
  rw[List.cons_append,ze2,ze2,zws p a b (i+1),List.length_cons,show i+1+a.length=i+(a.length+1) by omega]
  split <;> rfl
theorem zwr (p:Pl):∀ (l:List zP) (i:Nat),(∀ g∈l,zed (plF g) p=true)->ze2 p (l.map plF) i=zcb l i
 | [],_,_=>rfl
 | x::l,i,h=>by
  rw[List.map_cons,ze2,if_pos (h x List.mem_cons_self),zcb,zwr p l (i+1) (λ g hg=>h g (List.mem_cons_of_mem _ hg))];rfl
theorem zr8 (p:Pl):∀ (l:List zP) (i:Nat),(∀ g∈l,zed (plF g) p=false)->ze2 p (l.map plF) i=[]
 | [],_,_=>rfl
 | x::l,i,h=>by
  rw[List.map_cons,ze2,if_neg (by rw[h x List.mem_cons_self];simp),zr8 p l (i+1) (λ g hg=>h g (List.mem_cons_of_mem _ hg))]
theorem z6j {x y:zP}(hx:x.text=xK (bN x.aj))(hy:y.text=xK (bN y.aj)):jD x y=vU (plF x) (plF y):=by
 rw[Bool.eq_iff_iff,zbn];unfold jD;rw[hx,hy]
 show _↔x.s<y.s\/(x.s=y.s/\(x.h<y.h\/(x.h=y.h/\zaf (xK (bN x.aj)) (xK (bN y.aj))=true)))
 by_cases h1:x.s=y.s
 ·by_cases h2:x.h=y.h
  ·simp[h1,h2]
  ·simp[h1,h2]
 ·simp[h1]
variable {l:List zP} {K:List (Th × Nat)} {rs:List zS} {S:Nat->Nat} {ps:P9}
theorem zvd (hS:gu ps K l)(hT:pN ps S rs l):(l.map plF).Pairwise λ p q=>vU p q=true:=by
 rw[List.pairwise_map];have hn:=hS.EM;unfold List.Nodup at hn;rw[List.pairwise_map] at hn;refine List.Pairwise.imp_of_mem (λ {x y} hx hy h=>?_) (hT.Vb.and hn);obtain⟨h1,h2⟩:=h;rw[z6j (hS.text y hy) (hS.text x hx)] at h1
 cases hc:vU (plF x) (plF y) with
 | true=>rfl
 | false=>
  have:=(zi6 hc h1).2.2;exact absurd (zea (hS.dM x hx).w (hS.dM y hy).w this) h2
theorem ybz {A B:List Pl}(h:A.Perm B)(hA:A.Pairwise λ p q=>vU p q=true)(hB:B.Pairwise λ p q=>vU p q=true):A=B:=
 List.Perm.eq_of_pairwise (λ a b _ _ h1 h2=>by have:=NR h1 h2;rw[RM] at this;cases this) hA hB h
variable {Sp:B8->Nat}
theorem z5m (hS:gu ps K l)(hs:∀ f∈l,f.s=Sp (bN f.aj).1):(l.map plF).Perm (K.map (zno Sp)):=by
 refine (List.perm_ext_iff_of_nodup (zfl (λ p:Pl=>p.t) (by rw[List.map_map];exact hS.EM)) (zfl (λ p:Pl=>p.t) (by rw[List.map_map];exact hS.NC))).2 λ p=>?_
 rw[List.mem_map,List.mem_map]
 constructor
 ·rintro⟨f,hf,rfl⟩;refine⟨(bN f.aj,f.h),(hS.mem _ _).2 ⟨f,hf,rfl,rfl⟩,?_⟩;unfold zno plF;rw[hs f hf]
 ·rintro⟨⟨t,n⟩,hq,rfl⟩;obtain⟨f,hf,e1,e2⟩:=(hS.mem t n).1 hq;refine⟨f,hf,?_⟩;unfold zno plF;rw[hs f hf,e1,e2]
def zip (l:List zP)(i:Nat):Nat × List Nat:=match l[i]? with | some f=>(f.r,f.fr) | none=>(0,[])
theorem zmm {i:Nat}(h:i<l.length):zip l i=(l[i].r,l[i].fr):=by unfold zip;rw[List.getElem?_eq_getElem h]
theorem zqb {rp:List PR}(hR:zax ps rs rp)(hI:z0i rs rp)(hS:gu ps K l)(hT:pN ps S rs l)(hs:∀ f∈l,f.s=Sp (bN f.aj).1){O:List Pl}(hO:O.Perm (K.map (zno Sp)))(oa:O.Pairwise λ p q=>vU p q=true):O=l.map plF/\ztn ps Sp rp K O (zip l):=by
 have hp:=z5m hS hs;have e:O=l.map plF:=ybz (hO.trans hp.symm) oa (zvd hS hT);refine⟨e,?_⟩;have main:∀ (i:Nat) (h:i<l.length),E0 (ze2 (plF l[i]) (l.map plF) 0) rp (bN l[i].aj) l[i].r l[i].fr/\l[i].fr.length<=3/\∀ x∈l[i].fr,x<i:=λ i h=>by
  obtain⟨l0,r,e1,h1,h2,h3,_,h5,h6⟩:=hT.least hR hI hS (List.getElem_mem h);have hn:ze2 (plF l[i]) (l.map plF) 0=zb6 l0:=by
   have ex:l.map plF=l0.map plF++r.map plF:=(by rw[<-List.map_append,<-e1]);rw[ex,zws,zwr _ l0 0 (λ g hg=>by rw[zxj];exact h1 g hg),zr8 _ r _ (λ g hg=>by rw[zxj];exact h2 g hg),List.append_nil];rfl
  rw[hn];refine⟨h3,h5,λ x hx=>?_⟩;have hx:=h6 x hx;have qu:l0.length<=i:=by
   refine Nat.le_of_not_lt λ aH=>?_
   have hm:l[i]∈l0:=by
    have:l[i]=l0[i]:=by simp only[e1];exact List.getElem_append_left aH
    rw[this];exact List.getElem_mem aH
   have:=h1 _ hm;rw[zcj] at this;omega
  omega
 subst e;refine⟨hO,λ i h=>?_,λ i h=>?_,λ i h=>?_⟩
 ·have h':i<l.length:=by simpa using h
  rw[zmm h',List.getElem_map];exact (main i h').1
 ·have h':i<l.length:=by simpa using h
  rw[zmm h'];exact (main i h').2.1
 ·have h':i<l.length:=by simpa using h
  rw[zmm h'];exact (main i h').2.2
end
section
open Go.RowKit Go.Maps
theorem zmo (B:Nat->Bool):∀ (l:List zP) (ns:List (Nat × List Nat)) (i:Nat) (pl:Nat->Nat) (out:List (Nat × List Nat)),ns.length=l.length->(∀ (j:Nat) (h:j<l.length) (h':j<ns.length),B (i+j)=true->ns[j]=(l[j].r,l[j].fr))->(zcy B ns i pl out).length=(zfv B l i out.length pl (out.flatMap uB)).1/\(zcy B ns i pl out).flatMap uB=(zfv B l i out.length pl (out.flatMap uB)).2
 | [],[],_,_,_,_,_=>⟨rfl,rfl⟩
 | [],x::ns,_,_,_,h,_=>by simp at h
 | f::r,[],_,_,_,h,_=>by simp at h
 | f::r,x::ns,i,pl,out,h,hx=>by
  have hl:ns.length=r.length:=by simpa using h
  have hr:∀ (j:Nat) (h:j<r.length) (h':j<ns.length),B (i+1+j)=true->ns[j]=(r[j].r,r[j].fr):=λ j h1 h2 hb=>by
   have:=hx (j+1) (by simpa using h1) (by simpa using h2) (by rw[show i+(j+1)=i+1+j by omega];exact hb);simpa using this
  rw[zcy,zfv]
  by_cases hb:B i=true
  ·rw[if_pos hb,if_pos hb];have e:x=(f.r,f.fr):=hx 0 (by simp) (by simp) (by simpa using hb);subst e;have:=zmo B r ns (i+1) (bK pl i out.length) (out++[(f.r,f.fr.map (bK pl i out.length))]) hl hr;rw[List.length_append,List.flatMap_append] at this;simpa[uB] using this
  ·rw[if_neg hb,if_neg hb];exact zmo B r ns (i+1) pl out hl hr
variable {B:Nat->Bool}
theorem zyy {n:Nat}{rea:Nat->Nat × List Nat}{j:Nat}(h:j<(qF n rea B).length):(qF n rea B)[j]=if B j then rea j else (0,[]):=by
 have h2:(qF n rea B)[j]?=some (if B j then rea j else (0,[])):=by
  have h3:j<n:=by simpa[qF] using h
  unfold qF;simp[h3]
 rw[List.getElem?_eq_getElem h] at h2;exact Option.some.inj h2
theorem zf5 (k:Nat)(l:List zP)(B:Nat->Bool):zfb k (zcy B (qF l.length (zip l) B) 0 (λ _=>0) [])=znp k l B:=by
 obtain⟨h1,h2⟩:=zmo B l (qF l.length (zip l) B) 0 (λ _=>0) [] (by simp[qF]) (λ j h h' hb=>by
  rw[Nat.zero_add] at hb
  rw[zyy,if_pos hb,zmm h])
 unfold zfb znp;rw[h1,h2];rfl
theorem zhn {B B':Nat->Bool}{n:Nat}:∀ (ns:List (Nat × List Nat)) (i:Nat) (pl:Nat->Nat) (out:List (Nat × List Nat)),(∀ j,j<i+ns.length->B j=B' j)->zcy B ns i pl out=zcy B' ns i pl out
 | [],_,_,_,_=>rfl
 | x::ns,i,pl,out,h=>by
  rw[zcy,zcy,h i (by simp),zhn (n:=n) ns (i+1) _ _ (λ j hj=>h j (by rw[List.length_cons];omega)),zhn (n:=n) ns (i+1) _ _ (λ j hj=>h j (by rw[List.length_cons];omega))]
theorem zon {k:Nat}{l:List zP}{B':Nat->Bool}(h:∀ i,i<l.length->B i=B' i):znp k l B=znp k l B':=by
 rw[<-zf5,<-zf5];have e:qF l.length (zip l) B=qF l.length (zip l) B':=by
  unfold qF;apply List.map_congr_left;intro i hi;rw[h i (List.mem_range.1 hi)]
 rw[e,zhn (n:=0) _ 0 _ _ (λ j hj=>h j (by simpa[qF] using hj))]
end
section
open Go.RowKit Go.Maps
attribute [local go_sem ↓] zbb qQ qP qO
attribute [local go_sem] jY jX
def WV (w:W8)(b:Nat)(v0 v1 v2:Value):Prop:=w.heap[b]?=some (.cells #[v0,v1,v2] 49 (0,0))
variable {b:Nat} {w:W8}
theorem WV.zero (h:WV w b (.int .i64 0) (.int .i64 0) (.slice none 0 0)):w.cell? ⟨b,0,none⟩=some (.int .i64 0)/\w.cell? ⟨b,1,none⟩=some (.int .i64 0)/\w.cell? ⟨b,2,none⟩=some (.slice none 0 0)/\∀ i,w.frozen? ⟨b,i,none⟩=false:=
 ⟨(zB h 0).1,(zB h 1).1,(zB h 2).1,λ i=>(zB h i).2⟩
theorem WV.new (w:W8):WV (w.alloc (.cells #[.int .i64 0,.int .i64 0,.slice none 0 0] 49)) w.heap.size (.int .i64 0) (.int .i64 0) (.slice none 0 0):=heap_alloc_new w _
theorem WV.below {w':W8}{v0 v1 v2:Value}(h:WV w b v0 v1 v2)(k:Below w.heap.size w w'):WV w' b v0 v1 v2:=(k.block b (Array.getElem?_eq_some_iff.1 h).1).trans h
theorem WV.set {u0 u1 u2:Value}(h:WV w b u0 u1 u2)(v0 v1 v2:Value):WV (((w.setCell ⟨b,0,none⟩ v0).setCell ⟨b,1,none⟩ v1).setCell ⟨b,2,none⟩ v2) b v0 v1 v2:=by
 have h1:WV (w.setCell ⟨b,0,none⟩ v0) b v0 u1 u2:=by
  show _=_
  rw[setCell_eq_setRow w b 0 _ _ (0,0) v0 h];exact setRow_heap _ _ _ _ _ _ h
 have h2:WV ((w.setCell ⟨b,0,none⟩ v0).setCell ⟨b,1,none⟩ v1) b v0 v1 u2:=by
  show _=_
  rw[setCell_eq_setRow _ b 1 _ _ (0,0) v1 h1];exact setRow_heap _ _ _ _ _ _ h1
 show _=_
 rw[setCell_eq_setRow _ b 2 _ _ (0,0) v2 h2];exact setRow_heap _ _ _ _ _ _ h2
variable {xs:V8} {v:Value} {size base n:Nat} {e:TypeId}
theorem zde {wr:W8}(h:wr.ownsRow base e size v n xs)(hb:b<base)(u0 u1 u2:Value):(((wr.setCell ⟨b,0,none⟩ u0).setCell ⟨b,1,none⟩ u1).setCell ⟨b,2,none⟩ u2).ownsRow base e size v n xs:=
 zZ h λ g hg=>by
  have:=(h.lt g hg).1;rw[Below.heap_setCell _ _ _ _ (by simp;omega),Below.heap_setCell _ _ _ _ (by simp;omega),Below.heap_setCell _ _ _ _ (by simp;omega)]
theorem ybu {T:TypeId}(h:w.ownsRow base e size v n xs){cs:Array Value}{fr:Nat × Nat}(hb:w.heap[b]?=some (.cells cs T fr))(bF:e≠T):∀ g,v.ownBlock=some g->g≠b:=by
 rcases h.2 with⟨rfl,_⟩ | ⟨g',cap,cur,rfl,_,hg,_⟩
 ·intro g e;cases e
 ·intro g e
  cases e
  rintro rfl;rw[hg] at hb;injection hb with hb
  injection hb with _ ht
  exact bF ht
theorem z71 (w:W8)(base b:Nat)(rs:List PR)(ps:P9)(s:B8)(limit:Int)(rea:(B8->Nat)->List (Th × Nat)->List Pl->Nat->Nat × List Nat)(hs:s.size<=2000000)(h:wK w base b rs)(nH:rs.length<=30)(cI:∀ r∈rs,r.bs.length<=3)(jk:∀ r∈rs,r.R.pd.size<=800)(Db:∀ r∈rs,∀ x∈r.bs,x.1.pd.size<=800)(xg:zbh ((rs.map (·.R)).flatMap jN) [])(pF:iK ((rs.map (·.R)).flatMap jN) []=ps)(bt:ps.length<=1000)(ax:∀ r∈rs,(∃ n,yX ps r.R.pd=some n)/\∀ x∈r.bs,∃ n,yX ps x.1.pd=some n)(f0:B8->Nat)(uw:zd0 (rs.map (·.R)) f0)(me:∀ k,f0 k<=1000)(nT:DP rs (iD ps))(hg:∀ r∈rs,nP ps r)(oD:∀ t,zeb ps s=some t->zdu t)
  (Ls:uG limit=true->∀ S m K,zd0 (rs.map (·.R)) S->z52 (rs.map (·.R)) S->ze6 ps S m->zdx rs S limit.toNat m 0 [] (some K)->∀ O:List Pl,O.Perm (K.map (zno S))->(O.Pairwise λ p q=>vU p q=true)->ztn ps S rs K O (rea S K O)):
  Calls Tryz.prog 26 #[.pointer (some ⟨b,0,none⟩),.string s,.int .i64 limit] w λ e w'=>BT w rs ps s limit rea w' e/\Below w.heap.size w w':=by
 obtain⟨a,c,hb,uv,hr⟩:=h;have dK:b<w.heap.size:=(Array.getElem?_eq_some_iff.1 hb).1;have k0:Below w.heap.size w (w.alloc (.cells #[.int .i64 0,.int .i64 0,.slice none 0 0] 49)):=B9.alloc L9 _;have v0:WV (w.alloc (.cells #[.int .i64 0,.int .i64 0,.slice none 0 0] 49)) w.heap.size (.int .i64 0) (.int .i64 0) (.slice none 0 0):=heap_alloc_new w _;have s0:(w.alloc (.cells #[.int .i64 0,.int .i64 0,.slice none 0 0] 49)).heap.size=w.heap.size+1:=by simp
 have HR:=zC hr;have HG:=zC hg;have N3:=zC oD;have Jp:=zC Ls;have Hq:=zC nT;have Jn:=zC (show ∀ r∈rs,r.R.pd.size<=800/\(yX ps r.R.pd).isSome=true from λ r hr=>⟨jk r hr,by obtain⟨n,e⟩:=(ax r hr).1;rw[e];rfl⟩);have Fg:=zC uw;have Fh:=zC me;have Sq:=zC (λ (V:W8) (hV:Below w.heap.size w V)=>ydp V base a c rs ps (hr.sG hV L9) nH cI jk Db xg pF bt ax f0 uw me);have HB:=zC hb;clear hr cI jk Db xg pF bt ax uw me nT hg oD Ls hb;go_enter Tryz.func26,Tryz.ntmps26;go_upto_region 1 with fail;generalize (w.alloc (.cells #[.int .i64 0,.int .i64 0,.slice none 0 0] 49))=w0 at *;obtain⟨x0,_⟩:=zB ((k0.block b dK).trans (zA HB)) 0;obtain⟨z0,z1,z2,zf⟩:=v0.zero;have na:=zf 0;have sq:=zf 1;have pL:=zf 2;have OX:=zC v0;have dr:=zC k0;have lV:=zC s0;clear k0 v0 s0 zf;go_wp2_with fail;refine (z3l w0 limit).mono ?_;rintro e w1 ⟨rfl,hw⟩;have hw:=hw.symm;subst hw
 cases hL:uG limit with
 | false=>
  have HL:=zC hL;clear hL;go_wp2_with fail;obtain⟨q0,q1,q2⟩:=zjg z0 z1 z2 (.int .i64 0) (.int .i64 0) (.slice none 0 0);refine bodyPost_ret (v:=.tuple #[.agg #[.int .i64 0,.int .i64 0,.slice none 0 0],.int .i64 8]) (by simp[results,Tryz.results26,go_sem,q0,q1,q2]) rfl ?_;exact⟨.arg (zA HL),(((zA dr).setCell L9 _).setCell L9 _).setCell L9 _⟩
 | true=>
  obtain⟨l1,l50⟩:=zpl hL;obtain⟨lim,rfl⟩:∃ n:Nat,limit=n:=⟨limit.toNat,by omega⟩;have HL:=zC hL;clear hL z0 z1 z2 na sq pL;go_wp2_with fail;refine (zmi _ b _ a rs.length c rfl x0).mono ?_;rintro e w2 ⟨rfl,hw⟩;have hw:=hw.symm;subst hw;go_wp2_with fail;refine (zA Sq w0 (zA dr)).mono ?_;clear Sq;rintro e w2 ⟨rfl,bg,aK,S,n,hm,hn,dA,bc⟩;have Fv:=zC (show ∀ k,S k<=1000000 from λ k=>by have:=bc f0 (zA Fg) k;have:=zA Fh k;omega);have HV:=zC dA;have Jg:=zC bc;have HM:=zC hm;have ir:=zC aK;clear dA bc hm aK x0;go_wp2_with fail;refine (zpx w2 s _ n ps S (zA HM) hs).mono ?_;rintro e w3 ⟨cI,rfl⟩;have A4:=cI.size;have ri:=zA lV;have kn:Below w0.heap.size w0 w3:=(zA ir).trans (cI.mono (by omega));have fq:=(zA HM).block (cI.block _ bg);have yg:=zC kn;have yn:=zC fq;have v3:WV w3 w.heap.size (.int .i64 0) (.int .i64 0) (.slice none 0 0):=(kn.block _ (by omega)).trans (zA OX);have Gs:=(kn.block b (by omega)).trans (((zA dr).block b dK).trans (zA HB))
  cases hP:zeb ps s with
  | none=>
   have HP:=zC hP;have v4:WV (w3.alloc (.cells (zV ({ data:=#[] },[])).toArray 88)) w.heap.size (.int .i64 0) (.int .i64 0) (.slice none 0 0):=(Below.heap_alloc _ _ _ (by omega)).trans v3;have iM:=zC (((zA dr).trans (kn.mono (by omega))).alloc (by omega) (.cells (zV ({ data:=#[] },[])).toArray 88));obtain⟨z0,z1,z2,zf⟩:=v4.zero;have na:=zf 0;have sq:=zf 1;have pL:=zf 2;clear hP kn fq cI v3 Gs zf v4 ri;rw[Option.getD_none,Option.isSome_none];go_wp2_with fail;obtain⟨q0,q1,q2⟩:=zjg z0 z1 z2 (.int .i64 0) (.int .i64 0) (.slice none 0 0);refine bodyPost_ret (v:=.tuple #[.agg #[.int .i64 0,.int .i64 0,.slice none 0 0],.int .i64 6]) (by simp[results,Tryz.results26,go_sem,q0,q1,q2]) rfl ?_;exact⟨.ask (zA HL) (zA HP),(((zA iM).setCell L9 _).setCell L9 _).setCell L9 _⟩
  | some t=>
   have bR:=zA N3 t hP;have HP:=zC hP;have iM:=zC (kn.alloc (by omega) (.cells (zV t).toArray 88));have v4:WV (w3.alloc (.cells (zV t).toArray 88)) w.heap.size (.int .i64 0) (.int .i64 0) (.slice none 0 0):=(Below.heap_alloc _ _ _ (by omega)).trans v3;have Ln:=(Below.heap_alloc w3 (.cells (zV t).toArray 88) b (by omega)).trans Gs;have rX:=fq.block (Below.heap_alloc w3 (.cells (zV t).toArray 88) w0.heap.size (by omega));have t4:TV (w3.alloc (.cells (zV t).toArray 88)) w3.heap.size t:=heap_alloc_new _ _;have sl:(w3.alloc (.cells (zV t).toArray 88)).heap.size=w3.heap.size+1:=(by simp);have Jz:=zC v4;have Jm:=zC Ln;have Sh:=zC rX;have WI:=zC t4;have Hz:=zC sl;clear hP kn fq cI v3 Gs v4 Ln rX t4 sl ri;rw[Option.getD_some,Option.isSome_some];go_upto_region 7 with fail;generalize (w3.alloc (.cells (zV t).toArray 88))=w4 at *;obtain⟨x0,_⟩:=zB (zA Jm) 0;go_wp2_with fail;refine (zmi _ b _ a rs.length c rfl x0).mono ?_;rintro e w5 ⟨rfl,hw⟩;have hw:=hw.symm;subst hw;clear x0;go_wp2_with fail;have sl:=zA Hz;have za:Below w.heap.size w w4:=(zA dr).trans ((zA iM).mono (by have:=zA lV;omega));have il:=(zA HR).sG za L9;refine (z64 w4 base a c rs w0.heap.size n ps S lim (iD ps) il (by have:=za.size;omega) (zA Sh) (λ k _=>zA Fv k) (by omega) (zA Jn) (zA Hq) (by omega)).mono ?_;rintro e w5 ⟨m,r,FW,AD,dC,aX,kY⟩;have ri:=zA lV;have lY:Below w.heap.size w w5:=za.trans (dC.mono (by omega));have v5:WV w5 w.heap.size (.int .i64 0) (.int .i64 0) (.slice none 0 0):=(dC.block _ (by omega)).trans (zA Jz);have LQ:=dC.size;have Cq:=zC lY;have HX:=zC (And.intro FW AD)
   cases r with
   | none=>
    have he:=aX rfl;subst he;obtain⟨z0,z1,z2,zf⟩:=v5.zero;have na:=zf 0;have sq:=zf 1;have pL:=zf 2;clear aX kY FW AD lY dC sl za il v5 zf ri LQ;go_wp2_with fail;obtain⟨q0,q1,q2⟩:=zjg z0 z1 z2 (.int .i64 0) (.int .i64 0) (.slice none 0 0);refine bodyPost_ret (v:=.tuple #[.agg #[.int .i64 0,.int .i64 0,.slice none 0 0],.int .i64 7]) (by simp[results,Tryz.results26,go_sem,q0,q1,q2]) rfl ?_;exact⟨.fG (zA HL) (zA HP) (zA HV) (zA Jg) (zA HX).1 (zA HX).2,(((zA Cq).setCell L9 _).setCell L9 _).setCell L9 _⟩
   | some K=>
    obtain⟨kb,rfl,KP,dI,Te,Tg⟩:=kY K rfl;have t5:TV w5 w3.heap.size t:=(zA WI).below dC;have Av:=(zA Sh).block (dC.block _ (by omega));have Dk:=il.below dC;have Lo:=(dC.block b (by omega)).trans (zA Jm);have CA:=zC dI;have WL:=zC v5;have Ou:=zC Tg;have Fz:=zC t5;have Wd:=zC Av;have Hu:=zC Dk;have OD:=zC Lo;have lW:=zC (show w.heap.size+1=w0.heap.size/\w0.heap.size<w2.heap.size/\w2.heap.size<=w3.heap.size/\w3.heap.size+1<=w5.heap.size from by omega);clear aX kY FW AD lY dC dI Tg sl za il v5 t5 Av Dk Lo ri LQ;go_upto_region 10 with fail
    have B2:=zC (show (K.map λ p=>xK p.1).Nodup from by
     have h1:=(zA CA).nodup;unfold List.Nodup at h1 ⊢;rw[List.pairwise_map] at h1 ⊢
     exact List.Pairwise.imp_of_mem (λ ha hb bF e=>bF (zea (zA Ou _ ha).w (zA Ou _ hb).w e)) h1)
    have Tf:kb<w5.heap.size:=(zA CA).lt
    have WS:=zC (λ (V:W8) (hV:Below w5.heap.size w5 V)=>(show Calls Tryz.prog 42 #[.slice a rs.length c,.map (some w0.heap.size),.map (some kb),thV t] V λ e w'=>∃ (O:List Pl) (out:List ND) (a6:O8) (c6:Nat),O.Perm (K.map (zno S))/\(O.Pairwise λ p q=>vU p q=true)/\e=.returned (.agg #[.int .i64 (jO ps S K t:Nat),.slice a6 out.length c6])/\wI w' w5.heap.size (.slice a6 out.length c6) out/\zfb (jO ps S K t) (out.map lk)=zd3 ps S K t (rea S K O) O/\out.length<=50/\(∀ x∈out,x.fr.length<=3)/\Below V.heap.size V w' from by
     have hx:=zA HX;have aH:=zA lW;refine (ycn ps V base w0.heap.size n kb a c rs S K t (rea S K) ((zA Hu).sG hV L9) ((zA Wd).block (hV.block _ (by omega))) ((zA CA).block (hV.block _ Tf)) (zA HG) (zA Ou) (by omega) (λ p _=>zA Fv p) bR (zA Fv _) (zA B2) (λ O h1 h2=>zA Jp (zA HL) S m K (zA HV) (zA Jg) hx.1 (by simpa using hx.2) O h1 h2)).mono ?_;rintro e w' ⟨O,sX,oa,out,a6,c6,rfl,hn,hp,mu⟩;have hA:=zA Jp (zA HL) S m K (zA HV) (zA Jg) hx.1 (by simpa using hx.2) O sX oa;have hp:out.map lk=z9o ps S K t (rea S K O) O:=hp;have hlen:out.length=(out.map lk).length:=(by simp);have MZ:O.length=K.length:=(by rw[sX.length_eq,List.length_map]);refine⟨O,out,a6,c6,sX,oa,rfl,hn.low hV.size,by rw[hp];rfl,?_,λ x hx=>?_,mu⟩
     ·rw[hlen,hp];have:=zv6 ps S K t (rea S K O) O;omega
     ·have h3:lk x∈out.map lk:=List.mem_map_of_mem hx;rw[hp] at h3
      exact z14 hA.len (lk x) h3))
    have HA:=zC (λ (V:W8) (hV:Below w5.heap.size w5 V)=>(show V.cell? ⟨b,0,none⟩=some (.slice a rs.length c)/\(zmx (.pointer (some ⟨w3.heap.size,0,none⟩))).run Tryz.prog V=.ok (thV t) V from by
     have aH:=zA lW
     exact⟨(zB ((hV.block b (by omega)).trans (zA OD)) 0).1,((zA Fz).below hV).load⟩))
    have J0:Below w5.heap.size w5 w5.drew:=B9.drew;have D8:=zA HA w5.drew J0
    go_region_held3 (λ V=>V.cell? ⟨b,0,none⟩=some (.slice a rs.length c)/\(zmx (.pointer (some ⟨w3.heap.size,0,none⟩))).run Tryz.prog V=.ok (thV t) V) ((refine zA HA _ ?_;first | exact J0 | exact xc | exact mr | exact B9.drew | exact (B9.alloc L9 _).drew | exact xc.alloc xc.size _ | exact mr.alloc mr.size _ | exact ((xc.setCell L9 _).setCell L9 _).setCell L9 _ | exact ((xc.setCell mr.size _).setCell mr.size _).setCell mr.size _)) ((first
     | (go_at_call 36;refine (zmi _ b _ a rs.length c rfl (zA HA _ (by first | exact B9.drew | exact (B9.alloc L9 _).drew)).1).mono ?_;rintro e w6 ⟨rfl,hw⟩;have hw:=hw.symm;subst hw)
     | (go_at_call 42;refine (zA WS _ (by first | exact B9.drew | exact (B9.alloc L9 _).drew)).mono ?_;rintro e w6 ⟨O,out,a6,c6,sX,oa,rfl,Ua,KE,Yn,TP,FT⟩;have mr:Below w5.heap.size w5 w6:=(by first | exact yA FT | exact zf3 (B9.alloc L9 _) FT);have px:=zC (And.intro sX oa);have Ht:=zC Ua;have I9:=zC KE;have VN:=zC TP;(first | (have Rz:=(WV.new w5).below (yA FT)) | skip);clear sX oa Ua KE TP FT)
     | (go_at_call 43;refine (z1k _ w5.heap.size (jO ps S K t) a6 c6 out (by first | exact zA Ht | exact (zA Ht).below (B9.alloc L9 _)) Yn (zA VN)).mono ?_;rintro e w7 ⟨a7,c7,rfl,fF,zm⟩;have xc:Below w5.heap.size w5 w7:=(by first | exact mr.trans (zm.mono mr.size) | exact zf3 (mr.alloc mr.size _) zm | exact (mr.alloc mr.size _).trans (zm.mono (mr.alloc mr.size _).size));(first | (have Dw:=Rz.below zm;have IB:=Dw.zero;obtain⟨z0,z1,z2,zf⟩:=IB;have na:=zf 0;have sq:=zf 1;have pL:=zf 2;clear zf) | (have Dw:=(WV.new w6).below zm;have IB:=Dw.zero;obtain⟨z0,z1,z2,zf⟩:=IB;have na:=zf 0;have sq:=zf 1;have pL:=zf 2;clear zf) | skip);rw[zA I9] at fF ⊢;have uj:=zC fF;clear fF)))
    have pJ:WV (w7.alloc (.cells #[.int .i64 2,.int .i64 0,.slice a7 (zd3 ps S K t (rea S K O) O).length c7] 49)) w7.heap.size (.int .i64 2) (.int .i64 0) (.slice a7 (zd3 ps S K t (rea S K O) O).length c7):=heap_alloc_new w7 _;have nD:Below w5.heap.size w5 (w7.alloc (.cells #[.int .i64 2,.int .i64 0,.slice a7 (zd3 ps S K t (rea S K O) O).length c7] 49)):=xc.alloc xc.size _;have nK:(w7.alloc (.cells #[.int .i64 2,.int .i64 0,.slice a7 (zd3 ps S K t (rea S K O) O).length c7] 49)).ownsRow w5.heap.size 5 1 (.slice a7 (zd3 ps S K t (rea S K O) O).length c7) (zd3 ps S K t (rea S K O) O).length ((zd3 ps S K t (rea S K O) O).map u8c):=(zG (zA uj) mr.size).alloc _;have dq:w5.heap.size<=w7.heap.size:=xc.size;generalize (w7.alloc (.cells #[.int .i64 2,.int .i64 0,.slice a7 (zd3 ps S K t (rea S K O) O).length c7] 49))=w8 at pJ nD nK ⊢;obtain⟨bx,iE⟩:∃ bx,bx=w7.heap.size:=⟨_,rfl⟩;rw[<-iE] at pJ dq ⊢;clear iE
    rotate_left
    have pJ:=Dw.set (.int .i64 2) (.int .i64 0) (.slice a7 (zd3 ps S K t (rea S K O) O).length c7);have nD:Below w5.heap.size w5 (((w7.setCell ⟨w6.heap.size,0,none⟩ (.int .i64 2)).setCell ⟨w6.heap.size,1,none⟩ (.int .i64 0)).setCell ⟨w6.heap.size,2,none⟩ (.slice a7 (zd3 ps S K t (rea S K O) O).length c7)):=((xc.setCell mr.size _).setCell mr.size _).setCell mr.size _;have nK:(((w7.setCell ⟨w6.heap.size,0,none⟩ (.int .i64 2)).setCell ⟨w6.heap.size,1,none⟩ (.int .i64 0)).setCell ⟨w6.heap.size,2,none⟩ (.slice a7 (zd3 ps S K t (rea S K O) O).length c7)).ownsRow w5.heap.size 5 1 (.slice a7 (zd3 ps S K t (rea S K O) O).length c7) (zd3 ps S K t (rea S K O) O).length ((zd3 ps S K t (rea S K O) O).map u8c):=zG (zde (zA uj) (by simp) _ _ _) (by have:=mr.size;first | omega | (simp only[World.size_alloc];omega));clear Dw z0 z1 z2 na sq pL;generalize (((w7.setCell ⟨w6.heap.size,0,none⟩ (.int .i64 2)).setCell ⟨w6.heap.size,1,none⟩ (.int .i64 0)).setCell ⟨w6.heap.size,2,none⟩ (.slice a7 (zd3 ps S K t (rea S K O) O).length c7))=w8 at pJ nD nK ⊢;obtain⟨bx,iE⟩:∃ bx,bx=w6.heap.size:=⟨_,rfl⟩;have dq:w5.heap.size<=bx:=(by rw[iE];exact mr.size);rw[<-iE] at pJ ⊢;clear iE
    rotate_left
    have pJ:=Dw.set (.int .i64 2) (.int .i64 0) (.slice a7 (zd3 ps S K t (rea S K O) O).length c7);have nD:Below w5.heap.size w5 (((w7.setCell ⟨w5.heap.size,0,none⟩ (.int .i64 2)).setCell ⟨w5.heap.size,1,none⟩ (.int .i64 0)).setCell ⟨w5.heap.size,2,none⟩ (.slice a7 (zd3 ps S K t (rea S K O) O).length c7)):=((xc.setCell L9 _).setCell L9 _).setCell L9 _;have nK:(((w7.setCell ⟨w5.heap.size,0,none⟩ (.int .i64 2)).setCell ⟨w5.heap.size,1,none⟩ (.int .i64 0)).setCell ⟨w5.heap.size,2,none⟩ (.slice a7 (zd3 ps S K t (rea S K O) O).length c7)).ownsRow w5.heap.size 5 1 (.slice a7 (zd3 ps S K t (rea S K O) O).length c7) (zd3 ps S K t (rea S K O) O).length ((zd3 ps S K t (rea S K O) O).map u8c):=zG (zde (zA uj) (Array.getElem?_eq_some_iff.1 Rz).1 _ _ _) (by have:=mr.size;first | omega | (simp only[World.size_alloc];omega));clear Dw z0 z1 z2 na sq pL;generalize (((w7.setCell ⟨w5.heap.size,0,none⟩ (.int .i64 2)).setCell ⟨w5.heap.size,1,none⟩ (.int .i64 0)).setCell ⟨w5.heap.size,2,none⟩ (.slice a7 (zd3 ps S K t (rea S K O) O).length c7))=w8 at pJ nD nK ⊢;obtain⟨bx,iE⟩:∃ bx,bx=w5.heap.size:=⟨_,rfl⟩;have dq:w5.heap.size<=bx:=(by rw[iE];exact L9);rw[<-iE] at pJ ⊢;clear iE
    rotate_left
    have pJ:=Dw.set (.int .i64 2) (.int .i64 0) (.slice a7 (zd3 ps S K t (rea S K O) O).length c7);have nD:Below w5.heap.size w5 (((w7.setCell ⟨w5.heap.size,0,none⟩ (.int .i64 2)).setCell ⟨w5.heap.size,1,none⟩ (.int .i64 0)).setCell ⟨w5.heap.size,2,none⟩ (.slice a7 (zd3 ps S K t (rea S K O) O).length c7)):=((xc.setCell L9 _).setCell L9 _).setCell L9 _;have nK:(((w7.setCell ⟨w5.heap.size,0,none⟩ (.int .i64 2)).setCell ⟨w5.heap.size,1,none⟩ (.int .i64 0)).setCell ⟨w5.heap.size,2,none⟩ (.slice a7 (zd3 ps S K t (rea S K O) O).length c7)).ownsRow w5.heap.size 5 1 (.slice a7 (zd3 ps S K t (rea S K O) O).length c7) (zd3 ps S K t (rea S K O) O).length ((zd3 ps S K t (rea S K O) O).map u8c):=zG (zde (zA uj) (Array.getElem?_eq_some_iff.1 Rz).1 _ _ _) (by have:=mr.size;first | omega | (simp only[World.size_alloc];omega));clear Dw z0 z1 z2 na sq pL;generalize (((w7.setCell ⟨w5.heap.size,0,none⟩ (.int .i64 2)).setCell ⟨w5.heap.size,1,none⟩ (.int .i64 0)).setCell ⟨w5.heap.size,2,none⟩ (.slice a7 (zd3 ps S K t (rea S K O) O).length c7))=w8 at pJ nD nK ⊢;obtain⟨bx,iE⟩:∃ bx,bx=w5.heap.size:=⟨_,rfl⟩;have dq:w5.heap.size<=bx:=(by rw[iE];exact L9);rw[<-iE] at pJ ⊢;clear iE
    rotate_left
    all_goals
     have Xv:=zA lW;have t8:=(zA HA w8 nD).2;have UR:=((zA CA).block (nD.block _ Tf)).look bR Tryz.underlying83;have Zw:=(zB pJ 0).1;have Zx:=(zB pJ 1).1;have Zy:=(zB pJ 2).1;have zg0:=(zB pJ 0).2;have zg1:=(zB pJ 1).2;simp only[List.getElem?_toArray,List.getElem?_cons_zero,List.getElem?_cons_succ] at Zw Zx Zy;have v8:WV w8 w.heap.size (.int .i64 0) (.int .i64 0) (.slice none 0 0):=(nD.block _ (by omega)).trans (zA WL);obtain⟨y0,y1,y2,yf⟩:=v8.zero;have Vo:=yf 0;have Hh:=yf 1;have Vp:=yf 2;have bF:bx≠w.heap.size:=(by omega);have AU:w.heap.size<w5.heap.size:=(by omega);have Mp:=zC nD;have DW:=zC nK;have OL:=zC (ybu nK pJ (by decide));clear nD nK yf v8 pJ Xv xc D8 J0;generalize hEL:zd3 ps S K t (rea S K O) O=L at *;have yj:=zC hEL;clear hEL
     cases aF:yS K t with
     | none=>
      rw[aF] at UR;have Fp:=zC aF;clear aF;go_wp2_with fail;have RD:=y0;have RE:=y1;have RF:=y2;obtain⟨q0,q1,q2⟩:=zjg RD RE RF (.int .i64 2) (.int .i64 0) (.slice a7 L.length c7);refine bodyPost_ret (v:=.tuple #[.agg #[.int .i64 2,.int .i64 0,.slice a7 L.length c7],.int .i64 0]) (by simp[results,Tryz.results26,go_sem,q0,q1,q2]) rfl ?_;have iE:=zA Cq;have nD:Below w.heap.size w w8:=iE.trans ((zA Mp).mono iE.size);have hy:=BT.yes (w:=w) (rs:=rs) (ps:=ps) (s:=s) (limit:=(lim:Int)) (rea:=rea) (w':=(((w8.setCell ⟨w.heap.size,0,none⟩ (.int .i64 2)).setCell ⟨w.heap.size,1,none⟩ (.int .i64 0)).setCell ⟨w.heap.size,2,none⟩ (.slice a7 L.length c7))) (a:=a7) (c:=c7) (O:=O) (zA HL) (zA HP) (zA HV) (zA Jg) (zA HX).1 (zA HX).2 (zA CA).nodup (zA px).1 (zA px).2 (by rw[zA yj];exact zG (zde (zA DW) AU _ _ _) (by omega));rw[zA yj,zA Fp] at hy;exact⟨hy,((nD.setCell L9 _).setCell L9 _).setCell L9 _⟩
     | some hh=>
      rw[aF] at UR;have Fp:=zC aF;clear aF;go_wp2_with fail;have RD:((w8.setCell ⟨bx,0,none⟩ (.int .i64 1)).setCell ⟨bx,1,none⟩ (.int .i64 (hh:Nat))).cell? ⟨w.heap.size,0,none⟩=some (.int .i64 0):=(by rw[World.cell?_of_block (w:=w8) (by rw[Below.heap_setCell _ _ _ _ (by simpa using bF.symm),Below.heap_setCell _ _ _ _ (by simpa using bF.symm)])];exact y0);have RE:((w8.setCell ⟨bx,0,none⟩ (.int .i64 1)).setCell ⟨bx,1,none⟩ (.int .i64 (hh:Nat))).cell? ⟨w.heap.size,1,none⟩=some (.int .i64 0):=(by rw[World.cell?_of_block (w:=w8) (by rw[Below.heap_setCell _ _ _ _ (by simpa using bF.symm),Below.heap_setCell _ _ _ _ (by simpa using bF.symm)])];exact y1);have RF:((w8.setCell ⟨bx,0,none⟩ (.int .i64 1)).setCell ⟨bx,1,none⟩ (.int .i64 (hh:Nat))).cell? ⟨w.heap.size,2,none⟩=some (.slice none 0 0):=(by rw[World.cell?_of_block (w:=w8) (by rw[Below.heap_setCell _ _ _ _ (by simpa using bF.symm),Below.heap_setCell _ _ _ _ (by simpa using bF.symm)])];exact y2);obtain⟨q0,q1,q2⟩:=zjg RD RE RF (.int .i64 1) (.int .i64 (hh:Nat)) (.slice a7 L.length c7);refine bodyPost_ret (v:=.tuple #[.agg #[.int .i64 1,.int .i64 (hh:Nat),.slice a7 L.length c7],.int .i64 0]) (by simp[results,Tryz.results26,go_sem,q0,q1,q2]) rfl ?_;have iE:=zA Cq;have Lv:((w8.setCell ⟨bx,0,none⟩ (.int .i64 1)).setCell ⟨bx,1,none⟩ (.int .i64 (hh:Nat))).ownsRow w5.heap.size 5 1 (.slice a7 L.length c7) L.length (L.map u8c):=zZ (zA DW) (λ g e=>by have:=zA OL g e;rw[Below.heap_setCell _ _ _ _ (by simpa using this),Below.heap_setCell _ _ _ _ (by simpa using this)]);have nD:Below w.heap.size w w8:=iE.trans ((zA Mp).mono iE.size);have hy:=BT.yes (w:=w) (rs:=rs) (ps:=ps) (s:=s) (limit:=(lim:Int)) (rea:=rea) (w':=(((((w8.setCell ⟨bx,0,none⟩ (.int .i64 1)).setCell ⟨bx,1,none⟩ (.int .i64 (hh:Nat))).setCell ⟨w.heap.size,0,none⟩ (.int .i64 1)).setCell ⟨w.heap.size,1,none⟩ (.int .i64 (hh:Nat))).setCell ⟨w.heap.size,2,none⟩ (.slice a7 L.length c7))) (a:=a7) (c:=c7) (O:=O) (zA HL) (zA HP) (zA HV) (zA Jg) (zA HX).1 (zA HX).2 (zA CA).nodup (zA px).1 (zA px).2 (by rw[zA yj];exact zG (zde Lv AU _ _ _) (by omega))
      rw[zA yj,zA Fp] at hy;exact⟨hy,((((nD.setCell (p:=⟨bx,0,none⟩) (show w.heap.size<=bx by omega) _).setCell (p:=⟨bx,1,none⟩) (show w.heap.size<=bx by omega) _).setCell L9 _).setCell L9 _).setCell L9 _⟩
end
end Go.Proofs.YtldkpahaocjdpaaGreat
