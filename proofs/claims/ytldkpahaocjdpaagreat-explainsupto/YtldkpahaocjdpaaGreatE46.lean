/-
  Bytes: a witness is written.
-/
import Derived.Test.YtldkpahaocjdpaaGreatE45
set_option maxHeartbeats 16000000
set_option maxRecDepth 1000000
namespace Go.Proofs.YtldkpahaocjdpaaGreat
section
open Go.RowKit Go.Maps
def uB (x:Nat × List Nat):List Nat:=x.1::x.2
def zfb (k:Nat)(ns:List (Nat × List Nat)):List Nat:=k::ns.length::ns.flatMap uB
structure Hi (w:W8)(out:List Nat)(v:Value)(wr:W8):Prop where
 k:Below w.heap.size w wr
 row:wr.ownsRow (w.heap.size+1) 5 1 v out.length (out.map u8c)
theorem Hi.add {w:W8}{out:List Nat}{v v':Value}{wr W w5:W8}{x:Nat}(h:Hi w out v wr)(hW:Below wr.heap.size wr W)(hg:W.grownBy w5 v.ownBlock)(ay:w5.ownsRow (w.heap.size+1) 5 1 v' (out.length+1) (out.map u8c++[u8c x])):Hi w (out++[x]) v' w5:=by
 have hs:=h.k.size;refine⟨⟨hg.os.trans (hW.os.trans h.k.os),hg.tape.trans (hW.tape.trans h.k.tape),hg.output.trans (hW.output.trans h.k.output),Nat.le_trans h.k.size (Nat.le_trans hW.size hg.size),λ i hi=>?_⟩,?_⟩
 ·have:=hW.size;rw[hg.block i (by omega) (λ e=>by have:=(h.row.lt i e.symm).1;omega),hW.block i (by omega)];exact h.k.block i hi
 ·rw[List.length_append,List.length_singleton,List.map_append];exact ay
def z0f (w:W8)(L:List Nat)(e:Ending)(w':W8):Prop:=
 ∃ (a:O8) (c:Nat),e=.returned (.slice a L.length c)/\w'.ownsRow w.heap.size 5 1 (.slice a L.length c) L.length (L.map u8c)/\Below w.heap.size w w'
theorem z1k (w:W8)(base k:Nat)(an:O8)(cn:Nat)(bG:List ND)(h:wI w base (.slice an bG.length cn) bG)(hl:bG.length<=50)(hf:∀ x∈bG,x.fr.length<=3):
  Calls Tryz.prog 43 #[.agg #[.int .i64 (k:Nat),.slice an bG.length cn]] w (z0f w (zfb k (bG.map lk))):=by
 obtain⟨i0,hi,bL,aY,bg⟩:=info_parts zeo;have H:=zC h;have HF:=zC hf;have HL:=zC hl;clear h hf hl;go_enter Tryz.func43,Tryz.ntmps43;go_upto_region 2 with fail;generalize bC:World.alloc (World.alloc w _) _=w0;have k0:Below w.heap.size w w0:=by
  rw[<-bC];exact ((Below.refl w.heap.size w).alloc L9 _).alloc (by simp) _
 have r0:w0.ownsRow (w.heap.size+1) 5 1 (.slice (some ⟨w.heap.size+1,0,none⟩) 2 2) 2 ([k,bG.length].map u8c):=by
  rw[<-bC];have:=World.ownsRow_lit (base:=w.heap.size+1) (size:=1) (e:=5) (w.alloc (.cells #[.int .i64 (k:Nat),.slice an bG.length cn] 93)) #[.int .u8 ((k:Int)%256),.int .u8 ((bG.length:Int)%256)] 2 (by simp) (by unfold maxLen;omega) rfl;rw[World.size_alloc] at this;exact this
 have b1:w0.cell? ⟨w.heap.size,1,none⟩=some (.slice an bG.length cn):=by
  have x0:w0.heap[w.heap.size]?=some (.cells #[.int .i64 (k:Nat),.slice an bG.length cn] 93 (0,0)):=by
   rw[<-bC,Below.heap_alloc _ _ _ (by simp)];exact heap_alloc_new w _
  exact (zB x0 1).1
 have H0:=zC (show Hi w (k::bG.length::((bG.take 0).map lk).flatMap uB) (.slice (some ⟨w.heap.size+1,0,none⟩) 2 2) w0 from ⟨k0,r0⟩);clear bC k0 r0;go_upto_region 3 with fail;clear b1
 go_loopg [3,19] bG.length (λ gg v i wr=>∃ kk:Nat,kk<=bG.length/\gg=bG.length-kk/\i=.int .i64 kk/\(k::bG.length::((bG.take kk).map lk).flatMap uB).length<=2+4*kk/\Hi w (k::bG.length::((bG.take kk).map lk).flatMap uB) v wr)
 exact⟨0,Nat.zero_le _,rfl,rfl,by simp,zA H0⟩
 case round=>
  clear H0;obtain⟨kk,lz,eD,rfl,rY,ax⟩:=hrel;obtain⟨out,AA⟩:∃ out,out=k::bG.length::((bG.take kk).map lk).flatMap uB:=⟨_,rfl⟩;rw[<-AA] at rY ax;obtain⟨ao,co,rfl⟩:=zD ax.row
  by_cases aF:kk<bG.length
  ·obtain⟨x,AX⟩:∃ x,x=bG[kk]:=⟨_,rfl⟩;have cg:x∈bG:=(by rw[AX];exact List.getElem_mem aF);obtain⟨g,cap,hv,iF,aZ,bO,bQ,hc⟩:=vX zhg (zA H).row kk aF;injection hv with h1 h2 h3
   subst h1 h3;have GF:=(zA H).each x cg;obtain⟨av,cv,GG⟩:=zD GF;have e0:wr.cell? ⟨g,kk*2,none⟩=some (.int .i64 (x.r:Nat)):=(by rw[AX];exact (ax.k.cell (p:=⟨g,kk*2,none⟩) aZ).trans (hc 0 (by omega)));have e1:wr.cell? ⟨g,kk*2+1,none⟩=some (.slice av x.fr.length cv):=(by rw[<-GG,AX];exact (ax.k.cell (p:=⟨g,kk*2+1,none⟩) aZ).trans (hc 1 (by omega)));have nu:(kk:Int)<bG.length:=(by omega);have XM:=zA HF x cg;have An:=zA HL;have Lh:out.length<=300:=by omega
   have Tz:=zC (show k::bG.length::((bG.take (kk+1)).map lk).flatMap uB=out++x.r::x.fr by
    rw[List.take_succ_eq_append_getElem aF,List.map_append,List.flatMap_append,AA,<-AX]
    simp[uB,lk])
   have Wo:=zC (show (out++x.r::x.fr).length<=2+4*(kk+1) by simp;omega);have bH:=(ax.row.alloc (.cells #[.int .i64 (x.r:Nat),.slice av x.fr.length cv] 150)).alloc (.cells #[.int .u8 ((x.r:Int)%256)] 5);have dt:=zC (World.news_of_block (heap_alloc_new (wr.alloc (.cells #[.int .i64 (x.r:Nat),.slice av x.fr.length cv] 150)) (.cells #[.int .u8 ((x.r:Int)%256)] 5)));rw[World.size_alloc] at dt;have bT:=zC ax;have JE:=zC GF;have O1:=zC GG;have xq:=ax.k.size;clear hc ax AX cg h2 GF GG AA rY;go_upto_region 6 with (at_builtin;refine wpList_append_own _ rfl _ _ 47 rfl (w.heap.size+1) 5 i0 _ 1 1 Tryz.underlying47 hi bL aY bg rfl (by decide) _ _ _ rfl bH ⟨wr.heap.size+1,0,none⟩ 1 1 [u8c x.r] rfl rfl (zA dt) (by intro u hu;rw[List.mem_singleton.1 hu];rfl) (by unfold maxLen;omega) (by omega) (by simp;omega) ?_;intro v5 w5 aq aU hne5;clear hne5;obtain⟨a5,c5,rfl⟩:=zD aq;have CD:=zC aq;have Fj:=zC aU;clear aq aU);have ax:=zA bT;have aU:((wr.alloc (.cells #[.int .i64 (x.r:Nat),.slice av x.fr.length cv] 150)).alloc (.cells #[.int .u8 ((x.r:Int)%256)] 5)).grownBy w5 (Value.slice ao out.length co).ownBlock:=zA Fj;have T2:Below wr.heap.size wr ((wr.alloc (.cells #[.int .i64 (x.r:Nat),.slice av x.fr.length cv] 150)).alloc (.cells #[.int .u8 ((x.r:Int)%256)] 5)):=((Below.refl wr.heap.size wr).alloc L9 _).alloc (by simp) _;have Ah:=ax.add T2 aU (zA CD);have SP:w5.heap[wr.heap.size]?=some (.cells #[.int .i64 (x.r:Nat),.slice av x.fr.length cv] 150 (0,0)):=by
    rw[aU.block wr.heap.size (by simp only[World.size_alloc];omega) (λ e=>by have:=(ax.row.lt _ e.symm).2;omega),Below.heap_alloc _ _ _ (by simp)];exact heap_alloc_new wr _
   have b1:=(zB SP 1).1;simp only[List.getElem?_toArray,List.getElem?_cons_zero,List.getElem?_cons_succ] at b1;have H5:=zC (show Hi w (out++x.r::x.fr.take 0) (.slice a5 (out.length+1) c5) w5 from by simpa using Ah);clear ax aU T2 Ah SP bH dt e0 e1 Fj CD bT xq;generalize wr.heap.size=xb at *;go_upto_region 7 with fail;clear b1
   go_loopg [3,32] x.fr.length (λ gg2 v jj wi=>∃ j:Nat,j<=x.fr.length/\gg2=x.fr.length-j/\jj=.int .i64 j/\Hi w (out++x.r::x.fr.take j) v wi)
   exact⟨0,Nat.zero_le _,rfl,rfl,zA H5⟩
   case round=>
    clear H5;obtain⟨j,hj,xj,rfl,ax⟩:=hrel;have Aq:(out++x.r::x.fr.take j).length<=310:=(by simp;omega);obtain⟨o2,Gq⟩:∃ o2,o2=out++x.r::x.fr.take j:=⟨_,rfl⟩;rw[<-Gq] at ax Aq;obtain⟨ai,ci,rfl⟩:=zD ax.row
    by_cases hlj:j<x.fr.length
    ·have Ci:=zJ (zA JE) ax.k (λ g e=>((zA JE).lt g e).2);rw[zA O1] at Ci;obtain⟨gv,rfl,Ya,QC,PQ,M8⟩:=z3v Ci j hlj;have Na:(j:Int)<x.fr.length:=(by omega);have Wm:=zC (show out++x.r::x.fr.take (j+1)=o2++[x.fr[j]] by rw[Gq,List.take_succ_eq_append_getElem hlj];simp);generalize x.fr[j]=y at *;have Li:=ax.row.alloc (.cells #[.int .u8 ((y:Int)%256)] 5);have K8:=zC (World.news_of_block (heap_alloc_new wr (.cells #[.int .u8 ((y:Int)%256)] 5)));have bT:=zC ax;have Ra:=ax.k.size;clear ax Gq Ci;go_wp2_with (at_builtin;refine wpList_append_own _ rfl _ _ 47 rfl (w.heap.size+1) 5 i0 _ 1 1 Tryz.underlying47 hi bL aY bg rfl (by decide) _ _ _ rfl Li ⟨wr.heap.size,0,none⟩ 1 1 [u8c y] rfl rfl (zA K8) (by intro u hu;rw[List.mem_singleton.1 hu];rfl) (by unfold maxLen;omega) (by omega) (by simp;omega) ?_;intro v6 w6 hown6 sN hne6;clear hne6;obtain⟨a6,c6,rfl⟩:=zD hown6;have VX:=zC ((zA bT).add (B9.alloc L9 _) sN hown6);clear hown6 sN);go_roundg (x.fr.length-(j+1))
     case measure=>omega
     case rel=>
      refine⟨j+1,by omega,rfl,by go_num,?_⟩;rw[zA Wm];exact zA VX
    ·have qv:j=x.fr.length:=(by omega);subst qv;have HE:=zC (show o2=out++x.r::x.fr by rw[Gq,List.take_length]);have bT:=zC ax;clear ax Gq;go_wp2_with fail;go_roundg (bG.length-(kk+1))
     case measure=>omega
     case rel=>
      refine⟨kk+1,by omega,rfl,by go_num,?_,?_⟩
      ·rw[zA Tz];exact zA Wo
      ·rw[zA Tz,<-zA HE];exact zA bT
  ·have he:kk=bG.length:=(by omega);subst he;have HE:=zC (show out=zfb k (bG.map lk) by rw[AA,List.take_length];unfold zfb;simp);have bT:=zC ax;clear ax AA rY;go_wp2_with fail;go_ret;rw[<-zA HE];exact⟨ao,co,rfl,zG (zA bT).row (by omega),(zA bT).k⟩
end
section
open Go.RowKit Go.Maps
theorem zjg {w1:W8}{n:Nat}{u0 u1 u2:Value}(h0:w1.cell? ⟨n,0,none⟩=some u0)(h1:w1.cell? ⟨n,1,none⟩=some u1)(h2:w1.cell? ⟨n,2,none⟩=some u2)(v0 v1 v2:Value):(((w1.setCell ⟨n,0,none⟩ v0).setCell ⟨n,1,none⟩ v1).setCell ⟨n,2,none⟩ v2).cell? ⟨n,0,none⟩=some v0/\(((w1.setCell ⟨n,0,none⟩ v0).setCell ⟨n,1,none⟩ v1).setCell ⟨n,2,none⟩ v2).cell? ⟨n,1,none⟩=some v1/\(((w1.setCell ⟨n,0,none⟩ v0).setCell ⟨n,1,none⟩ v1).setCell ⟨n,2,none⟩ v2).cell? ⟨n,2,none⟩=some v2:=
 ⟨by rw[yC (by omega),yC (by omega)];exact qT h0,by rw[yC (by omega)];exact qT (by rw[yC (by omega)];exact h1),qT (by rw[yC (by omega),yC (by omega)];exact h2)⟩
theorem zmn (B:Nat->Bool):∀ (l:List (Nat × List Nat)) (i:Nat) (pl:Nat->Nat) (out:List (Nat × List Nat)),(zcy B l i pl out).length<=out.length+l.length
 | [],_,_,_=>Nat.le_refl _
 | x::r,i,pl,out=>by
  rw[zcy]
  split
  ·have:=zmn B r (i+1) (bK pl i out.length) (out++[(x.1,x.2.map (bK pl i out.length))]);simp at this ⊢;omega
  ·have:=zmn B r (i+1) pl out;simp at this ⊢;omega
theorem zpy (B:Nat->Bool)(m:Nat):∀ (l:List (Nat × List Nat)) (i:Nat) (pl:Nat->Nat) (out:List (Nat × List Nat)),(∀ x∈l,x.2.length<=m)->(∀ x∈out,x.2.length<=m)->∀ x∈zcy B l i pl out,x.2.length<=m
 | [],_,_,_,_,h=>h
 | y::r,i,pl,out,hl,h=>by
  rw[zcy]
  split
  ·refine zpy B m r _ _ _ (λ x hx=>hl x (List.mem_cons_of_mem _ hx)) (λ x hx=>?_);rcases List.mem_append.1 hx with hx | hx
   ·exact h x hx
   ·rw[List.mem_singleton.1 hx,List.length_map];exact hl y List.mem_cons_self
  ·exact zpy B m r _ _ _ (λ x hx=>hl x (List.mem_cons_of_mem _ hx)) h
def z9o (ps:P9)(S:B8->Nat)(K:List (Th × Nat))(t:Th)(rea:Nat->Nat × List Nat)(O:List Pl):List (Nat × List Nat):=
 zcy (qX O (jO ps S K t) t rea (qI O.length 0)) (qF O.length rea (qX O (jO ps S K t) t rea (qI O.length 0))) 0 (λ _=>0) []
def zd3 (ps:P9)(S:B8->Nat)(K:List (Th × Nat))(t:Th)(rea:Nat->Nat × List Nat)(O:List Pl):List Nat:=zfb (jO ps S K t) (z9o ps S K t rea O)
theorem zv6 (ps:P9)(S:B8->Nat)(K:List (Th × Nat))(t:Th)(rea:Nat->Nat × List Nat)(O:List Pl):(z9o ps S K t rea O).length<=O.length:=by
 have:=zmn (qX O (jO ps S K t) t rea (qI O.length 0)) (qF O.length rea (qX O (jO ps S K t) t rea (qI O.length 0))) 0 (λ _=>0) [];unfold z9o;simpa[qF] using this
theorem z14 {ps:P9}{S:B8->Nat}{K:List (Th × Nat)}{t:Th}{rea:Nat->Nat × List Nat}{O:List Pl}(h:∀ i,i<O.length->(rea i).2.length<=3):∀ x∈z9o ps S K t rea O,x.2.length<=3:=by
 refine zpy _ 3 _ _ _ _ (λ x hx=>?_) (λ x hx=>by cases hx);obtain⟨i,hi,rfl⟩:=List.mem_map.1 hx
 split
 ·exact h i (List.mem_range.1 hi)
 ·simp
inductive BT (w:W8)(rs:List PR)(ps:P9)(s:B8)(limit:Int)(rea:(B8->Nat)->List (Th × Nat)->List Pl->Nat->Nat × List Nat)(w':W8):Ending->Prop
 | arg:uG limit=false->BT w rs ps s limit rea w' (.returned (.tuple #[.agg #[.int .i64 0,.int .i64 0,.slice none 0 0],.int .i64 8]))
 | ask:uG limit=true->zeb ps s=none->BT w rs ps s limit rea w' (.returned (.tuple #[.agg #[.int .i64 0,.int .i64 0,.slice none 0 0],.int .i64 6]))
 | fG {t:Th} {S:B8->Nat} {m:Nat}:uG limit=true->zeb ps s=some t->zd0 (rs.map (·.R)) S->z52 (rs.map (·.R)) S->ze6 ps S m->zdx rs S limit.toNat m 0 [] none->BT w rs ps s limit rea w' (.returned (.tuple #[.agg #[.int .i64 0,.int .i64 0,.slice none 0 0],.int .i64 7]))
 | yes {t:Th} {S:B8->Nat} {m:Nat} {K:List (Th × Nat)} {O:List Pl} {a:O8} {c:Nat}:uG limit=true->zeb ps s=some t->zd0 (rs.map (·.R)) S->z52 (rs.map (·.R)) S->ze6 ps S m->zdx rs S limit.toNat m 0 [] (some K)->(K.map (·.1)).Nodup->O.Perm (K.map (zno S))->(O.Pairwise λ p q=>vU p q=true)->w'.ownsRow w.heap.size 5 1 (.slice a (zd3 ps S K t (rea S K O) O).length c) (zd3 ps S K t (rea S K O) O).length ((zd3 ps S K t (rea S K O) O).map u8c) ->
   BT w rs ps s limit rea w' (.returned (.tuple #[.agg #[.int .i64 (if (yS K t).isSome then 1 else 2),.int .i64 (((yS K t).getD 0:Nat):Int),.slice a (zd3 ps S K t (rea S K O) O).length c],.int .i64 0]))
end
section
open Go.RowKit Go.Maps
def plF (f:zP):Pl:=⟨bN f.aj,f.s,f.h⟩
theorem zxj (g f:zP):zed (plF g) (plF f)=zgy g f:=rfl
theorem zws (p:Pl):∀ (a b:List Pl) (i:Nat),ze2 p (a++b) i=ze2 p a i++ze2 p b (i+a.length)
 | [],b,i=>by simp[ze2]
 | x::a,b,i=>by
  rw[List.cons_append,ze2,ze2,zws p a b (i+1),List.length_cons,show i+1+a.length=i+(a.length+1) by omega]
  split <;> rfl
theorem zwr (p:Pl):∀ (l:List zP) (i:Nat),(∀ g∈l,zed (plF g) p=true)->ze2 p (l.map plF) i=zcb l i
 | [],_,_=>rfl
 | x::l,i,h=>by
  rw[List.map_cons,ze2,if_pos (h x List.mem_cons_self),zcb,zwr p l (i+1) (λ g hg=>h g (List.mem_cons_of_mem _ hg))];rfl
theorem zr8 (p:Pl):∀ (l:List zP) (i:Nat),(∀ g∈l,zed (plF g) p=false)->ze2 p (l.map plF) i=[]
 | [],_,_=>rfl
 | x::l,i,h=>by
  rw[List.map_cons,ze2,if_neg (by rw[h x List.mem_cons_self];simp),zr8 p l (i+1) (λ g hg=>h g (List.mem_cons_of_mem _ hg))]
theorem z6j {x y:zP}(hx:x.text=xK (bN x.aj))(hy:y.text=xK (bN y.aj)):jD x y=vU (plF x) (plF y):=by
 rw[Bool.eq_iff_iff,zbn];unfold jD;rw[hx,hy]
 show _↔x.s<y.s\/(x.s=y.s/\(x.h<y.h\/(x.h=y.h/\zaf (xK (bN x.aj)) (xK (bN y.aj))=true)))
 by_cases h1:x.s=y.s
 ·by_cases h2:x.h=y.h
  ·simp[h1,h2]
  ·simp[h1,h2]
 ·simp[h1]
variable {l:List zP} {K:List (Th × Nat)} {rs:List zS} {S:Nat->Nat} {ps:P9}
theorem zvd (hS:gu ps K l)(hT:pN ps S rs l):(l.map plF).Pairwise λ p q=>vU p q=true:=by
 rw[List.pairwise_map];have hn:=hS.EM;unfold List.Nodup at hn;rw[List.pairwise_map] at hn;refine List.Pairwise.imp_of_mem (λ {x y} hx hy h=>?_) (hT.Vb.and hn);obtain⟨h1,h2⟩:=h;rw[z6j (hS.text y hy) (hS.text x hx)] at h1
 cases hc:vU (plF x) (plF y) with
 | true=>rfl
 | false=>
  have:=(zi6 hc h1).2.2;exact absurd (zea (hS.dM x hx).w (hS.dM y hy).w this) h2
theorem ybz {A B:List Pl}(h:A.Perm B)(hA:A.Pairwise λ p q=>vU p q=true)(hB:B.Pairwise λ p q=>vU p q=true):A=B:=
 List.Perm.eq_of_pairwise (λ a b _ _ h1 h2=>by have:=NR h1 h2;rw[RM] at this;cases this) hA hB h
variable {Sp:B8->Nat}
theorem z5m (hS:gu ps K l)(hs:∀ f∈l,f.s=Sp (bN f.aj).1):(l.map plF).Perm (K.map (zno Sp)):=by
 refine (List.perm_ext_iff_of_nodup (zfl (λ p:Pl=>p.t) (by rw[List.map_map];exact hS.EM)) (zfl (λ p:Pl=>p.t) (by rw[List.map_map];exact hS.NC))).2 λ p=>?_
 rw[List.mem_map,List.mem_map]
 constructor
 ·rintro⟨f,hf,rfl⟩;refine⟨(bN f.aj,f.h),(hS.mem _ _).2 ⟨f,hf,rfl,rfl⟩,?_⟩;unfold zno plF;rw[hs f hf]
 ·rintro⟨⟨t,n⟩,hq,rfl⟩;obtain⟨f,hf,e1,e2⟩:=(hS.mem t n).1 hq;refine⟨f,hf,?_⟩;unfold zno plF;rw[hs f hf,e1,e2]
def zip (l:List zP)(i:Nat):Nat × List Nat:=match l[i]? with | some f=>(f.r,f.fr) | none=>(0,[])
theorem zmm {i:Nat}(h:i<l.length):zip l i=(l[i].r,l[i].fr):=by unfold zip;rw[List.getElem?_eq_getElem h]
theorem zqb {rp:List PR}(hR:zax ps rs rp)(hI:z0i rs rp)(hS:gu ps K l)(hT:pN ps S rs l)(hs:∀ f∈l,f.s=Sp (bN f.aj).1){O:List Pl}(hO:O.Perm (K.map (zno Sp)))(oa:O.Pairwise λ p q=>vU p q=true):O=l.map plF/\ztn ps Sp rp K O (zip l):=by
 have hp:=z5m hS hs;have e:O=l.map plF:=ybz (hO.trans hp.symm) oa (zvd hS hT);refine⟨e,?_⟩;have main:∀ (i:Nat) (h:i<l.length),E0 (ze2 (plF l[i]) (l.map plF) 0) rp (bN l[i].aj) l[i].r l[i].fr/\l[i].fr.length<=3/\∀ x∈l[i].fr,x<i:=λ i h=>by
  obtain⟨l0,r,e1,h1,h2,h3,_,h5,h6⟩:=hT.least hR hI hS (List.getElem_mem h);have hn:ze2 (plF l[i]) (l.map plF) 0=zb6 l0:=by
   have ex:l.map plF=l0.map plF++r.map plF:=(by rw[<-List.map_append,<-e1]);rw[ex,zws,zwr _ l0 0 (λ g hg=>by rw[zxj];exact h1 g hg),zr8 _ r _ (λ g hg=>by rw[zxj];exact h2 g hg),List.append_nil];rfl
  rw[hn];refine⟨h3,h5,λ x hx=>?_⟩;have hx:=h6 x hx;have qu:l0.length<=i:=by
   refine Nat.le_of_not_lt λ aH=>?_
   have hm:l[i]∈l0:=by
    have:l[i]=l0[i]:=by simp only[e1];exact List.getElem_append_left aH
    rw[this];exact List.getElem_mem aH
   have:=h1 _ hm;rw[zcj] at this;omega
  omega
 subst e;refine⟨hO,λ i h=>?_,λ i h=>?_,λ i h=>?_⟩
 ·have h':i<l.length:=by simpa using h
  rw[zmm h',List.getElem_map];exact (main i h').1
 ·have h':i<l.length:=by simpa using h
  rw[zmm h'];exact (main i h').2.1
 ·have h':i<l.length:=by simpa using h
  rw[zmm h'];exact (main i h').2.2
end
section
open Go.RowKit Go.Maps
theorem zmo (B:Nat->Bool):∀ (l:List zP) (ns:List (Nat × List Nat)) (i:Nat) (pl:Nat->Nat) (out:List (Nat × List Nat)),ns.length=l.length->(∀ (j:Nat) (h:j<l.length) (h':j<ns.length),B (i+j)=true->ns[j]=(l[j].r,l[j].fr))->(zcy B ns i pl out).length=(zfv B l i out.length pl (out.flatMap uB)).1/\(zcy B ns i pl out).flatMap uB=(zfv B l i out.length pl (out.flatMap uB)).2
 | [],[],_,_,_,_,_=>⟨rfl,rfl⟩
 | [],x::ns,_,_,_,h,_=>by simp at h
 | f::r,[],_,_,_,h,_=>by simp at h
 | f::r,x::ns,i,pl,out,h,hx=>by
  have hl:ns.length=r.length:=by simpa using h
  have hr:∀ (j:Nat) (h:j<r.length) (h':j<ns.length),B (i+1+j)=true->ns[j]=(r[j].r,r[j].fr):=λ j h1 h2 hb=>by
   have:=hx (j+1) (by simpa using h1) (by simpa using h2) (by rw[show i+(j+1)=i+1+j by omega];exact hb);simpa using this
  rw[zcy,zfv]
  by_cases hb:B i=true
  ·rw[if_pos hb,if_pos hb];have e:x=(f.r,f.fr):=hx 0 (by simp) (by simp) (by simpa using hb);subst e;have:=zmo B r ns (i+1) (bK pl i out.length) (out++[(f.r,f.fr.map (bK pl i out.length))]) hl hr;rw[List.length_append,List.flatMap_append] at this;simpa[uB] using this
  ·rw[if_neg hb,if_neg hb];exact zmo B r ns (i+1) pl out hl hr
variable {B:Nat->Bool}
theorem zyy {n:Nat}{rea:Nat->Nat × List Nat}{j:Nat}(h:j<(qF n rea B).length):(qF n rea B)[j]=if B j then rea j else (0,[]):=by
 have h2:(qF n rea B)[j]?=some (if B j then rea j else (0,[])):=by
  have h3:j<n:=by simpa[qF] using h
  unfold qF;simp[h3]
 rw[List.getElem?_eq_getElem h] at h2;exact Option.some.inj h2
theorem zf5 (k:Nat)(l:List zP)(B:Nat->Bool):zfb k (zcy B (qF l.length (zip l) B) 0 (λ _=>0) [])=znp k l B:=by
 obtain⟨h1,h2⟩:=zmo B l (qF l.length (zip l) B) 0 (λ _=>0) [] (by simp[qF]) (λ j h h' hb=>by
  rw[Nat.zero_add] at hb
  rw[zyy,if_pos hb,zmm h])
 unfold zfb znp;rw[h1,h2];rfl
theorem zhn {B B':Nat->Bool}{n:Nat}:∀ (ns:List (Nat × List Nat)) (i:Nat) (pl:Nat->Nat) (out:List (Nat × List Nat)),(∀ j,j<i+ns.length->B j=B' j)->zcy B ns i pl out=zcy B' ns i pl out
 | [],_,_,_,_=>rfl
 | x::ns,i,pl,out,h=>by
  rw[zcy,zcy,h i (by simp),zhn (n:=n) ns (i+1) _ _ (λ j hj=>h j (by rw[List.length_cons];omega)),zhn (n:=n) ns (i+1) _ _ (λ j hj=>h j (by rw[List.length_cons];omega))]
theorem zon {k:Nat}{l:List zP}{B':Nat->Bool}(h:∀ i,i<l.length->B i=B' i):znp k l B=znp k l B':=by
 rw[<-zf5,<-zf5];have e:qF l.length (zip l) B=qF l.length (zip l) B':=by
  unfold qF;apply List.map_congr_left;intro i hi;rw[h i (List.mem_range.1 hi)]
 rw[e,zhn (n:=0) _ 0 _ _ (λ j hj=>h j (by simpa[qF] using hj))]
end
section
open Go.RowKit Go.Maps
theorem zct (j:Nat):∀ (fr:List Nat) (B:Nat->Bool),vR B fr j=(B j||decide (j∈fr))
 | [],B=>by simp[vR]
 | x::r,B=>by
  have h:=zct j r (zbg B x true)
  show vR (zbg B x true) r j=_
  rw[h];unfold zbg
  by_cases e:j=x
  ·simp[e]
  ·simp[e]
theorem ydf (l:List zP)(i:Nat):lF l i=(zip l i).2:=by
 unfold lF zip
 cases l[i]? <;> rfl
theorem z9y {l:List zP}{i:Nat}(h:i<l.length)(k:Nat)(t:Th):yd5 (l.map plF) k t i=(decide (lS l i<k)||decide (bN l[i].aj=t)):=by
 unfold yd5 lS;rw[List.getElem?_map,List.getElem?_eq_getElem h];rfl
theorem zr5 {l:List zP}{k:Nat}{t:Th}(aX:∀ (i:Nat) (h:i<l.length),bN l[i].aj≠t)(hle:∀ (i:Nat),i<l.length->∀ x∈(zip l i).2,x<l.length/\lS l x<=lS l i):∀ (d m:Nat),m+d=(l.map plF).length->∀ j,j<l.length->(qX (l.map plF) k t (zip l) (qI (l.map plF).length m) j=true->lS l j<k)/\(m<=j->lS l j<k->qX (l.map plF) k t (zip l) (qI (l.map plF).length m) j=true)
 | 0,m,hm,j,hj=>by
  rw[Nat.add_zero] at hm;subst hm;rw[NT];refine⟨λ h=>(by cases h),λ h=>?_⟩;rw[List.length_map] at h;omega
 | d+1,m,hm,j,hj=>by
  have aH:m<(l.map plF).length:=by omega
  have mS:m<l.length:=by rw[List.length_map] at aH;exact aH
  have ih:=zr5 (k:=k) aX hle d (m+1) (by omega);rw[zfz aH,zgc]
  show (zal _ _ _ _ _ m j=true->_)/\(_->_->zal _ _ _ _ _ m j=true)
  rw[zcu];have ho:=z9y mS k t;rw[show decide (bN l[m].aj=t)=false from decide_eq_false (aX m mS),Bool.or_false] at ho;have hn:∀ q,zdr (l.map plF) k t (qX (l.map plF) k t (zip l) (qI (l.map plF).length (m+1))) m q=(qX (l.map plF) k t (zip l) (qI (l.map plF).length (m+1)) q||(decide (q=m)&&decide (lS l m<k))):=λ q=>by
   unfold zdr;rw[ho]
   by_cases h1:lS l m<k
   ·rw[if_pos (by simpa using h1)];unfold zbg
    by_cases h2:q=m
    ·simp[h2,h1]
    ·simp[h2]
   ·rw[if_neg (by simpa using h1)];simp[h1]
  have ia:∀ q,q<l.length->zdr (l.map plF) k t (qX (l.map plF) k t (zip l) (qI (l.map plF).length (m+1))) m q=true->lS l q<k:=λ q hq h=>by
   rw[hn q] at h;simp only[Bool.or_eq_true,Bool.and_eq_true,decide_eq_true_eq] at h;rcases h with h | ⟨rfl,h⟩
   ·exact (ih q hq).1 h
   ·exact h
  have oI:m<=j->lS l j<k->zdr (l.map plF) k t (qX (l.map plF) k t (zip l) (qI (l.map plF).length (m+1))) m j=true:=λ h1 h2=>by
   rw[hn j]
   by_cases e:j=m
   ·subst e;simp[h2]
   ·rw[(ih j hj).2 (by omega) h2];rfl
  split
  ·rename_i hc;rw[zct];refine⟨λ h=>?_,λ h1 h2=>by rw[oI h1 h2];rfl⟩;simp only[Bool.or_eq_true,decide_eq_true_eq] at h;rcases h with h | h
   ·exact ia j hj h
   ·have h3:=ia m mS hc;have:=(hle m mS j h).2;omega
  ·exact⟨ia j hj,oI⟩
theorem zwp {l:List zP}{k f:Nat}{t:Th}(hf:f<l.length)(oO:∀ (i:Nat) (h:i<l.length),bN l[i].aj=t↔i=f):∀ (d m:Nat),m+d=(l.map plF).length->∃ Br,zh7 l k (l.map plF).length (zbg (λ _=>false) f true)=zh7 l k m Br/\(∀ j,Br j=(qX (l.map plF) k t (zip l) (qI (l.map plF).length m) j||decide (j=f)))/\(m<=f->qX (l.map plF) k t (zip l) (qI (l.map plF).length m) f=true)
 | 0,m,hm=>by
  rw[Nat.add_zero] at hm;subst hm;refine⟨_,rfl,λ j=>?_,λ h=>by rw[List.length_map] at h;omega⟩;rw[NT];unfold zbg
  by_cases e:j=f <;> simp[e,qX]
 | d+1,m,hm=>by
  have aH:m<(l.map plF).length:=by omega
  have mS:m<l.length:=by rw[List.length_map] at aH;exact aH
  obtain⟨Br,h1,h2,h3⟩:=zwp hf oO d (m+1) (by omega);refine⟨IM l k Br m,h1,?_⟩;rw[zfz aH,zgc]
  show (∀ j,IM l k Br m j=(zal _ _ _ _ _ m j||_))/\(_->zal _ _ _ _ _ m f=true)
  rw[zcu];generalize qX (l.map plF) k t (zip l) (qI (l.map plF).length (m+1))=Bp at *;have ho:=z9y mS k t;rw[show decide (bN l[m].aj=t)=decide (m=f) by rw[decide_eq_decide];exact oO m mS] at ho;have hn:∀ q,zdr (l.map plF) k t Bp m q=(Bp q||(decide (q=m)&&(decide (lS l m<k)||decide (m=f)))):=λ q=>by
   unfold zdr;rw[ho]
   cases hc:(decide (lS l m<k)||decide (m=f)) with
   | true=>
    rw[if_pos rfl];unfold zbg
    by_cases e:q=m <;> simp[e]
   | false=>
    rw[if_neg (by simp)];simp
  have hc:(Br m||decide (lS l m<k))=zdr (l.map plF) k t Bp m m:=by
   rw[hn m,h2 m];simp
   cases Bp m <;> cases decide (m=f) <;> cases decide (lS l m<k) <;> rfl
  unfold IM;rw[hc,ydf]
  cases hb:zdr (l.map plF) k t Bp m m with
  | true=>
   simp only[if_pos];refine⟨λ j=>?_,λ h=>?_⟩
   ·rw[zct,zct];unfold zbg
    by_cases e:j=m
    ·subst e;simp[hb]
    ·simp only[if_neg e];rw[h2 j,hn j];simp[e]
     cases Bp j <;> cases decide (j=f) <;> simp
   ·rw[zct]
    by_cases e:f=m
    ·subst e;rw[hb];rfl
    ·rw[hn f,h3 (by omega)];rfl
  | false=>
   simp only[Bool.false_eq_true,if_false];refine⟨λ j=>?_,λ h=>?_⟩
   ·unfold zbg
    by_cases e:j=m
    ·subst e;rw[if_pos rfl,hb];rw[hn j] at hb;simp at hb;simp[hb]
    ·rw[if_neg e,h2 j,hn j];simp[e]
   ·by_cases e:f=m
    ·subst e;rw[hn f] at hb;simp at hb
    ·rw[hn f,h3 (by omega)];rfl
end
section
open Go.RowKit Go.Maps
variable {i:Nat}
theorem zwq {β:Type}{l:List β}(h:l.Nodup){j:Nat}(hi:i<l.length)(hj:j<l.length)(e:l[i]=l[j]):i=j:=by
 unfold List.Nodup at h;rw[List.pairwise_iff_getElem] at h;rcases Nat.lt_trichotomy i j with h1 | h1 | h1
 ·exact absurd e (h i j hi hj h1)
 ·exact h1
 ·exact absurd e.symm (h j i hj hi h1)
theorem z3t {α β:Type}{f:α->β}{l:List α}(h:(l.map f).Nodup){x y:α}(hx:x∈l)(hy:y∈l)(e:f x=f y):x=y:=by
 obtain⟨i,hi,rfl⟩:=List.mem_iff_getElem.1 hx;obtain⟨j,hj,rfl⟩:=List.mem_iff_getElem.1 hy;have:=zwq h (i:=i) (j:=j) (by simpa using hi) (by simpa using hj) (by simpa using e);subst this;rfl
variable {l:List zP}
theorem z2z (h:i<l.length):lS l i=l[i].s:=by unfold lS;rw[List.getElem?_eq_getElem h];rfl
variable {K:List (Th × Nat)} {rp:List PR} {rs:List zS} {S:Nat->Nat} {ps:P9}
theorem z5l (hR:zax ps rs rp)(hI:z0i rs rp)(hS:gu ps K l)(hT:pN ps S rs l):∀ (i:Nat),i<l.length->∀ x∈(zip l i).2,x<l.length/\lS l x<=lS l i:=λ i h x hx=>by
 obtain⟨l0,r,e1,h1,h2,h3,_,h5,h6⟩:=hT.least hR hI hS (List.getElem_mem h);rw[zmm h] at hx;have EJ:=h6 x hx;have EK:x<l.length:=by rw[e1,List.length_append];omega
 refine⟨EK,?_⟩;rw[z2z EK,z2z h];have hm:l[x]∈l0:=by
  have:l[x]=l0[x]:=by simp only[e1];exact List.getElem_append_left EJ
  rw[this];exact List.getElem_mem EJ
 have:=h1 _ hm;rw[zcj] at this;omega
variable {t:Th} {Sp:B8->Nat}
theorem z61 (hR:zax ps rs rp)(hI:z0i rs rp)(hS:gu ps K l)(hT:pN ps S rs l)(aX:yS K t=none):zd3 ps Sp K t (zip l) (l.map plF)=znp (jO ps Sp K t) l (λ i=>decide (lS l i<jO ps Sp K t)):=by
 have oJ:∀ (i:Nat) (h:i<l.length),bN l[i].aj≠t:=λ i h e=>by
  have hm:(t,l[i].h)∈K:=(hS.mem _ _).2 ⟨l[i],List.getElem_mem h,e,rfl⟩;have:=(zep K t).2 ⟨_,hm⟩;rw[aX] at this
  cases this
 have hq:=zr5 (k:=jO ps Sp K t) oJ (z5l hR hI hS hT) (l.map plF).length 0 (by omega);unfold zd3 z9o;generalize qX (l.map plF) (jO ps Sp K t) t (zip l) (qI (l.map plF).length 0)=B at *;rw[List.length_map,zf5];refine zon λ j hj=>?_
 have:=hq j hj;rw[Bool.eq_iff_iff,decide_eq_true_eq];exact⟨this.1,this.2 (Nat.zero_le _)⟩
theorem ya5 (hS:gu ps K l)(hs:∀ f∈l,f.s=Sp (bN f.aj).1){f:Nat}(hf:f<l.length)(ht:bN l[f].aj=t):jO ps Sp K t=lS l f/\yS K t=some l[f].h/\zd3 ps Sp K t (zip l) (l.map plF)=znp (lS l f) l (zh7 l (lS l f) l.length (zbg (λ _=>false) f true)):=by
 have hm:(t,l[f].h)∈K:=(hS.mem _ _).2 ⟨l[f],List.getElem_mem hf,ht,rfl⟩;have aF:yS K t=some l[f].h:=by
  have h1:=(zep K t).2 ⟨_,hm⟩
  cases hq:yS K t with
  | none=>rw[hq] at h1;cases h1
  | some n=>
   have pD:(t,n)∈K:=jV hq;obtain⟨g,hg,e1,e2⟩:=(hS.mem t n).1 pD;have hn:=hS.EM;have:g=l[f]:=z3t hn hg (List.getElem_mem hf) (by rw[e1,ht]);rw[<-e2,this]
 have lC:(yX ps t.1).isSome=true:=by
  have:=(hS.dM _ (List.getElem_mem hf)).num;rw[ht] at this;rw[this];rfl
 have hk:jO ps Sp K t=lS l f:=by
  unfold jO;rw[if_pos lC,aF,z2z hf,hs _ (List.getElem_mem hf),ht];rfl
 refine⟨hk,aF,?_⟩;have oO:∀ (i:Nat) (h:i<l.length),bN l[i].aj=t↔i=f:=λ i h=>by
  constructor
  ·intro e;have hn:=hS.EM;have h1:(l.map λ f=>bN f.aj)[i]'(by simpa using h)=(l.map λ f=>bN f.aj)[f]'(by simpa using hf):=(by simp[e,ht]);exact zwq hn _ _ h1
  ·rintro rfl;exact ht
 obtain⟨Br,h1,h2,h3⟩:=zwp (k:=lS l f) hf oO (l.map plF).length 0 (by omega);unfold zd3 z9o;rw[hk];generalize qX (l.map plF) (lS l f) t (zip l) (qI (l.map plF).length 0)=B at *;rw[List.length_map] at h1 ⊢;rw[zf5,h1];refine zon λ j _=>?_
 show _=Br j
 rw[h2 j]
 by_cases e:j=f
 ·subst e;rw[h3 (Nat.zero_le _)];rfl
 ·simp[e]
end
section
open Go.RowKit Go.Maps
theorem ych (A:zL):z55 (pa A)=if qE A then some (bN A) else none:=by
 unfold z55 qE bN pa;simp only[List.any_map,List.map_map];have e:(A.ae.any ((λ x=>x.1) ∘ ed))=!(A.ae.all λ t=>!t.isVar):=by
  induction A.ae with
  | nil=>rfl
  | cons t r ih=>
   rw[List.any_cons,List.all_cons,ih]
   show (t.isVar||_)=_
   cases t.isVar <;> simp
 rw[e]
 cases (A.ae.all λ t=>!t.isVar) with
 | true=>rfl
 | false=>rfl
theorem zxe (ps:P9)(q:B8):zeb ps q=if zcn ps q&&qE (zN q) then some (bN (zN q)) else none:=by
 unfold zeb;rw[z6o]
 cases zcn ps q with
 | false=>rfl
 | true=>
  rw[if_pos rfl,Bool.true_and];exact ych (zN q)
end
section
open Go.RowKit Go.Maps
theorem zjs (t:B8):∀ (l:List zP) (i f:Nat),za1 t l i=(f:Int)->∃ (j:Nat) (h:j<l.length),f=i+j/\l[j].text=t
 | [],i,f,h=>by rw[za1] at h;omega
 | x::r,i,f,h=>by
  rw[za1] at h
  split at h
  ·rename_i hx;refine⟨0,by simp,by omega,?_⟩;rw[xO] at hx;exact hx
  ·obtain⟨j,hj,e,hx⟩:=zjs t r (i+1) f h;exact⟨j+1,by simpa using hj,by omega,by simpa using hx⟩
theorem z2b {l:List zP}{t:B8}{f:Nat}(h:jE l t=(f:Int)):∃ h:f<l.length,l[f].text=t:=by
 obtain⟨j,hj,e,hx⟩:=zjs t l 0 f h;have:f=j:=by omega
 subst this;exact⟨hj,hx⟩
def zir (v h:Int)(wv:Value):Value:=.agg #[.int .i64 v,.int .i64 h,wv]
inductive wJ (w:W8)(ps:P9)(S:Nat->Nat)(rs:List zS)(s:B8)(limit:Int)(w':W8):Value->Nat->Prop
 | arg:limit<1\/50<limit->wJ w ps S rs s limit w' (zir 0 0 (.slice none 0 0)) 8
 | ask:1<=limit->limit<=50->(zcn ps s&&qE (zN s))=false->wJ w ps S rs s limit w' (zir 0 0 (.slice none 0 0)) 6
 | fG:1<=limit->limit<=50->(zcn ps s&&qE (zN s))=true->zka ps S rs limit.toNat (lQ S ps.length) 0 [] none->wJ w ps S rs s limit w' (zir 0 0 (.slice none 0 0)) 7
 | out {l:List zP} {k:Nat} {x:B8} {a:O8} {c:Nat}:1<=limit->limit<=50->(zcn ps s&&qE (zN s))=true->zka ps S rs limit.toNat (lQ S ps.length) 0 [] (some l)->l.length<=50->x.data.toList=jH (zN s)->jE l x<0->k=(if 0<=zM ps (zN s).pred then S (zM ps (zN s).pred).toNat+1 else 0)->w'.ownsRow w.heap.size 5 1 (.slice a (znp k l (λ i=>decide (lS l i<k))).length c) (znp k l (λ i=>decide (lS l i<k))).length ((znp k l (λ i=>decide (lS l i<k))).map u8c)->wJ w ps S rs s limit w' (zir 2 0 (.slice a (znp k l (λ i=>decide (lS l i<k))).length c)) 0
 | yes {l:List zP} {f:Nat} {x:B8} {a:O8} {c:Nat}:1<=limit->limit<=50->(zcn ps s&&qE (zN s))=true->zka ps S rs limit.toNat (lQ S ps.length) 0 [] (some l)->l.length<=50->x.data.toList=jH (zN s)->jE l x=(f:Int)->f<l.length->w'.ownsRow w.heap.size 5 1 (.slice a (znp (lS l f) l (zh7 l (lS l f) l.length (zbg (λ _=>false) f true))).length c) (znp (lS l f) l (zh7 l (lS l f) l.length (zbg (λ _=>false) f true))).length ((znp (lS l f) l (zh7 l (lS l f) l.length (zbg (λ _=>false) f true))).map u8c)->wJ w ps S rs s limit w' (zir 1 (lH l f:Nat) (.slice a (znp (lS l f) l (zh7 l (lS l f) l.length (zbg (λ _=>false) f true))).length c)) 0
def z96 (w:W8)(ps:P9)(S:Nat->Nat)(rs:List zS)(s:B8)(limit:Int)(e:Ending)(w':W8):Prop:=
 ∃ v n,e=.returned (.tuple #[v,.int .i64 (n:Nat)])/\wJ w ps S rs s limit w' v n/\Below w.heap.size w w'
end
section
open Go.Sort
variable {q:B8} {ps:P9}
theorem zkc (h:(zcn ps q&&qE (zN q))=true):D3 (bN (zN q))/\(bN (zN q)).2.length<=4:=by
 have mN:zhw q=true:=by
  unfold zcn at h;simp only[Bool.and_eq_true] at h;exact h.1.1
 have hw:zkq (pa (zN q)).p (pa (zN q)).ts:=z33 (q:=q) (by rw[z32,if_pos mN]);refine⟨⟨hw.pd,λ x hx=>?_⟩,by have:=hw.eJ;simpa[pa,bN] using this⟩;obtain⟨t,ht,rfl⟩:=List.mem_map.1 hx;exact hw.ts (ed t) (List.mem_map.2 ⟨t,ht,rfl⟩)
variable {t:Th}
theorem ydz (h:D3 t)(hf:t.2.length<=4):zdu t:=
 ⟨by have:=h.pd.le;show t.1.size<=_;omega,hf,λ x hx=>by have:=(h.ts x hx).le;omega,λ x hx=>(h.ts x hx).ne⟩
theorem z6n (t:Th)(h:zeb ps q=some t):zdu t:=by
 rw[zxe] at h
 split at h
 ·rename_i bR;obtain rfl:=Option.some.inj h;exact ydz (zkc bR).1 (zkc bR).2
 ·cases h
theorem z07 (h:(zcn ps q&&qE (zN q))=true):(jH (zN q)).length<=1000000000:=by
 obtain⟨hw,h3⟩:=zkc h;have e:(jH (zN q)).length=(zau (bN (zN q)).1 (xB (bN (zN q)))).length:=by
  have:=congrArg (λ x:B8=>x.data.toList.length) (DO (zN q));simpa[xP,xK] using this
 generalize bN (zN q)=t at *;have h1:=zew (xB t) 0 (λ x hx=>by have:=(hw.ae x hx).le;omega);have h2:(xB t).length=t.2.length:=by unfold xB;simp
 have h4:=hw.pd.le;have h5:=jI t.1;rw[e];unfold zau;rw[List.length_append,List.length_append];have h6:(if (xB t).length=0 then ([]:List UInt8) else [41]).length<=1:=by split <;> simp
 have h7:(xB t).length*1001<=4*1001:=Nat.mul_le_mul_right _ (by omega);omega
theorem zvo {x:B8}(h:x.data.toList=jH (zN q)):x=xK (bN (zN q)):=by
 rw[<-DO];unfold xP;rw[<-h]
variable {rp:List PR} {s:B8}
theorem z2w (h:(yY s).1=true)(oN:rp.map (·.R)=(yL s).2.2.1)(ly:∀ r∈rp,r.bs.map (·.1)=r.R.body):z0i (yG s).1 rp:=by
 have g:=zha h;have e:rp.map (·.R)=(yG s).1.map yO:=by rw[oN,g.rules]
 have hl:(yG s).1.length=rp.length:=by have:=congrArg List.length e;simpa using this.symm
 refine⟨hl,λ i h1 h2=>⟨?_,ly _ (List.getElem_mem h2)⟩⟩;have:=congrArg (λ l:List vY=>l[i]?) e;simp only[List.getElem?_map,List.getElem?_eq_getElem h1,List.getElem?_eq_getElem h2,Option.map_some,Option.some.injEq] at this;exact this
theorem zqe {l:List zP}:∀ (b:List zL) (now:List Way) (m:Nat),(∀ x∈now,x.2.length<=m/\∀ z∈x.2,z<l.length)->∀ y∈ziq l b now,y.2.length<=m+b.length/\∀ z∈y.2,z<l.length
 | [],_,_,h,y,hy=>by simpa using h y hy
 | a::r,now,m,h,y,hy=>by
  rw[ziq] at hy
  split at hy
  ·have:=zqe r now m h y hy;exact⟨by have:=this.1;simp;omega,this.2⟩
  ·have:=zqe r (zgl a l now) (m+1) (λ x hx=>by
    obtain⟨u,hu,hx⟩:=List.mem_flatMap.1 hx;obtain⟨k,hk,e,_,rfl⟩:=zhr l 0 hx;have hu:=h u hu;refine⟨by simp;exact hu.1,λ z hz=>?_⟩;rcases List.mem_append.1 hz with hz | hz
    ·exact hu.2 z hz
    ·rw[List.mem_singleton] at hz
     omega) y hy
   exact⟨by have:=this.1;simp;omega,this.2⟩
variable {l:List zP} {limit:Nat} {S:Nat->Nat}
theorem ycj (h:(yY s).1=true)(hl:limit<=50)(aP:zka (zT s).2 S (yG s).1 limit (lQ S (zT s).2.length) 0 [] (some l)):∀ f∈l,f.fr.length<=3/\∀ x∈f.fr,x<l.length:=by
 have g:=zha h;have hT:=zw9 hl aP (pN.nil _ _ _) (by simp) l rfl;intro f hf;obtain⟨l0,r,e,_,_,_,hF⟩:=hT.each f hf;obtain⟨R,Py,_,⟨y,hy,LP,_⟩,_⟩:=hF.has;have hb:R.body.length<=3:=by
  have:=g.body (yO R) (by rw[g.rules];exact List.mem_map_of_mem (List.mem_of_getElem? Py));simpa[yO] using this
 obtain⟨h1,h2⟩:=zqe R.body [([],[])] 0 (by simp) y (List.mem_filter.1 hy).1;rw[LP] at h1 h2;refine⟨by omega,λ x hx=>?_⟩;have:=h2 x hx;rw[e,List.length_append];omega
noncomputable def ycv (ps:P9)(rp:List PR)(Sp:B8->Nat)(K:List (Th × Nat))(O:List Pl):Nat->Nat × List Nat:=open Classical in λ i=>if h:(∃ r,ztn ps Sp rp K O r)/\i<O.length then h.1.choose i else (0,[])
variable {K:List (Th × Nat)} {Sp:B8->Nat}
theorem zuz (h:ztn ps Sp rp K (l.map plF) (zip l)):ycv ps rp Sp K (l.map plF)=zip l:=by
 funext i
 unfold ycv
 split
 ·rename_i hx;have h1:=hx.1.choose_spec.least i hx.2;have h2:=h.least i hx.2;obtain⟨e1,e2⟩:=h1.uniq h2;exact Prod.ext e1 e2
 ·rename_i hx;have:¬ i<l.length:=λ c=>hx ⟨⟨_,h⟩,by simpa using c⟩
  unfold zip;rw[List.getElem?_eq_none (by omega)]
theorem yb5 (h:ztn ps Sp rp K (l.map plF) (zip l)):ztn ps Sp rp K (l.map plF) (ycv ps rp Sp K (l.map plF)):=by rw[zuz h];exact h
theorem zim (h:(yY s).1=true)(oN:rp.map (·.R)=(yL s).2.2.1)(ly:∀ r∈rp,r.bs.map (·.1)=r.R.body)(hv:zef (zT s).2 (yG s).1 S)(bc:Low (zT s).2 (yG s).1 S)(h1:zd0 (rp.map (·.R)) Sp)(h2:z52 (rp.map (·.R)) Sp){m:Nat}(hl:limit<=50)(hc:ze6 (zT s).2 Sp m){r:Option (List zP)}(aP:zka (zT s).2 S (yG s).1 limit (lQ S (zT s).2.length) 0 [] r)(mX:zdx rp Sp limit m 0 [] (some K)):(∀ k,0<=zM (zT s).2 k->Sp k=S (qJ (zT s).2 k))/\∃ l,r=some l/\l.length<=50/\gu (zT s).2 K l/\pN (zT s).2 S (yG s).1 l/\∀ f∈l,f.s=Sp (bN f.aj).1:=by
 have g:=zha h;have hR:=zmr h oN ly;have hI:=z2w h oN ly;have aS:∀ R∈(yG s).1,0<=zM (zT s).2 R.head.pred:=λ R hR=>g.all _ (List.mem_flatMap.2 ⟨R,hR,List.mem_cons_self⟩)
 have gS:∀ k,0<=zM (zT s).2 k->Sp k=S (qJ (zT s).2 k):=λ k hk=>by
  rw[oN,g.rules] at h1 h2;exact zs0 g.all hv bc h1 h2 k hk
 rcases zu8 hR g.once aS gS hl hc aP mX with⟨_,e⟩ | ⟨l,K1,rfl,e2,hS,hle⟩
 ·cases e
 ·obtain rfl:=Option.some.inj e2;have hT:=zw9 hl aP (pN.nil _ _ _) (by simp) l rfl;refine⟨gS,l,rfl,by omega,hS,hT,λ f hf=>?_⟩;obtain⟨_,_,_,_,_,_,hs,_⟩:=hT.least hR hI hS hf
  have hn:0<=zM (zT s).2 f.aj.pred:=zid.1 (by
   have:yX (zT s).2 f.aj.pred=some (bN f.aj).2.length:=(hS.dM f hf).num
   rw[this];rfl)
  rw[hs];exact (gS _ hn).symm
theorem ybk (n:Nat × List Nat):(uB n).length=1+n.2.length:=by unfold uB;simp;omega
theorem zwn {m:Nat}:∀ (ns:List (Nat × List Nat)),(∀ x∈ns,x.2.length<=m)->(ns.flatMap uB).length<=ns.length*(1+m)
 | [],_=>by simp
 | x::r,h=>by
  have h1:=zwn r (λ y hy=>h y (List.mem_cons_of_mem _ hy));have h2:=h x List.mem_cons_self;rw[List.flatMap_cons,List.length_append,ybk,List.length_cons,Nat.succ_mul];omega
theorem zv5 {S:B8->Nat}{rea:Nat->Nat × List Nat}{O:List Pl}(h:∀ i,i<O.length->(rea i).2.length<=3)(hO:O.length<=50):(zd3 ps S K t rea O).length<=1000:=by
 have h1:=zv6 ps S K t rea O;have h2:=zwn (m:=3) (z9o ps S K t rea O) (z14 h);unfold zd3 zfb;simp only[List.length_cons];omega
inductive IQ (w w' wr Cl:W8):Ending->Value->Nat->Prop
 | mk {v h:Int} {n:Nat} {bs:List Nat} {a b:O8} {c d:Nat}:bs.length<=1000->w'.ownsRow w.heap.size 5 1 (.slice a bs.length c) bs.length (bs.map u8c)->Cl.ownsRow wr.heap.size 5 1 (.slice b bs.length d) bs.length (bs.map u8c)->IQ w w' wr Cl (.returned (.tuple #[.agg #[.int .i64 v,.int .i64 h,.slice a bs.length c],.int .i64 (n:Nat)])) (zir v h (.slice b bs.length d)) n
theorem IQ.no (w w' wr Cl:W8)(n:Nat):IQ w w' wr Cl (.returned (.tuple #[.agg #[.int .i64 0,.int .i64 0,.slice none 0 0],.int .i64 (n:Nat)])) (zir 0 0 (.slice none 0 0)) n:=
 .mk (bs:=[]) (by simp) (World.ownsRow_nil _ _ _ _) (World.ownsRow_nil _ _ _ _)
theorem z15 (h:(yY s).1=true)(oN:rp.map (·.R)=(yL s).2.2.1)(ly:∀ r∈rp,r.bs.map (·.1)=r.R.body)(hv:zef (zT s).2 (yG s).1 S)(bc:Low (zT s).2 (yG s).1 S){limit:Int}{w w' wr Cl:W8}{e:Ending}{v:Value}{n:Nat}(hP:BT w rp (zT s).2 q limit (ycv (zT s).2 rp) w' e)(hQ:wJ wr (zT s).2 S (yG s).1 q limit Cl v n):IQ w w' wr Cl e v n:=by
 have g:=zha h;have hR:=zmr h oN ly;have hI:=z2w h oN ly;have oD:=zxe (zT s).2 q;have hl:∀ {l:Int},uG l=true->1<=l/\l<=50:=λ h=>zpl h
 have nU:∀ {l:Int},uG l=false->¬ (1<=l/\l<=50):=λ h c=>by
  unfold uG at h;simp at h;omega
 cases hP with
 | arg h1=>
  have:=nU h1
  cases hQ with
  | arg _=>exact .no _ _ _ _ 8
  | ask a b _=>exact absurd ⟨a,b⟩ this
  | fG a b _ _=>exact absurd ⟨a,b⟩ this
  | out a b _ _ _ _ _ _ _=>exact absurd ⟨a,b⟩ this
  | yes a b _ _ _ _ _ _ _=>exact absurd ⟨a,b⟩ this
 | ask h1 h2=>
  have:=hl h1;rw[oD] at h2
  cases hQ with
  | arg a=>omega
  | ask _ _ _=>exact .no _ _ _ _ 6
  | fG _ _ c _=>rw[if_pos c] at h2;cases h2
  | out _ _ c _ _ _ _ _ _=>rw[if_pos c] at h2;cases h2
  | yes _ _ c _ _ _ _ _ _=>rw[if_pos c] at h2;cases h2
 | fG h1 h2 Dt nG hc aP=>
  have:=hl h1;rw[oD] at h2;have aS:∀ R∈(yG s).1,0<=zM (zT s).2 R.head.pred:=λ R hR=>g.all _ (List.mem_flatMap.2 ⟨R,hR,List.mem_cons_self⟩)
  have gS:=λ k hk=>by
   have h3:=Dt;have h4:=nG;rw[oN,g.rules] at h3 h4;exact zs0 g.all hv bc h3 h4 k hk
  cases hQ with
  | arg a=>omega
  | ask _ _ c=>rw[c] at h2;cases h2
  | fG _ _ _ _=>exact .no _ _ _ _ 7
  | out _ _ _ mX _ _ _ _ _=>
   rcases zu8 hR g.once aS gS (by omega) hc mX aP with⟨e,_⟩ | ⟨_,_,_,e,_⟩ <;> cases e
  | yes _ _ _ mX _ _ _ _ _=>
   rcases zu8 hR g.once aS gS (by omega) hc mX aP with⟨e,_⟩ | ⟨_,_,_,e,_⟩ <;> cases e
 | @yes t Sp m K O a c h1 h2 Dt nG hc aP mT hO oa aB=>
  have:=hl h1;rw[oD] at h2
  cases hQ with
  | arg a=>omega
  | ask _ _ c=>rw[c] at h2;cases h2
  | fG _ _ _ mX=>
   obtain⟨_,l,e,_⟩:=zim h oN ly hv bc Dt nG (by omega) hc mX aP
   cases e
  | @out l k x b d _ _ bR mX An hx hneg hk re=>
   obtain⟨gS,l1,e1,-,hS,hT,hs⟩:=zim h oN ly hv bc Dt nG (by omega) hc mX aP;obtain rfl:=Option.some.inj e1;rw[if_pos bR] at h2;obtain rfl:=Option.some.inj h2;obtain⟨rfl,FO⟩:=zqb hR hI hS hT hs hO oa;rw[zuz FO] at aB ⊢;have nW:yS K (bN (zN q))=none:=by
    cases hL:yS K (bN (zN q)) with
    | none=>rfl
    | some n=>
     obtain⟨f,hf,XP⟩:=(hS.look _).1 (by rw[hL];rfl);refine absurd ?_ ((zlw l x).1 hneg f hf);rw[hS.text f hf,XP,zvo hx]
   have EI:jO (zT s).2 Sp K (bN (zN q))=k:=by
    unfold jO;rw[hk,nW,show (bN (zN q)).1=(zN q).pred from rfl]
    by_cases hp:0<=zM (zT s).2 (zN q).pred
    ·rw[if_pos (zid.2 hp),if_pos hp];exact congrArg (·+1) (gS _ hp)
    ·rw[if_neg (λ c=>hp (zid.1 c)),if_neg hp]
   have he:=z61 hR hI hS hT (Sp:=Sp) nW;rw[EI] at he;rw[nW];have hle:=zv5 (ps:=(zT s).2) (S:=Sp) (K:=K) (t:=bN (zN q)) (λ i hi=>FO.len i hi) (by simpa using An);rw[he] at aB hle ⊢;exact .mk (v:=2) (h:=0) (n:=0) hle aB re
  | @yes l f x b d _ _ bR mX An hx Eg hf re=>
   obtain⟨gS,l1,e1,-,hS,hT,hs⟩:=zim h oN ly hv bc Dt nG (by omega) hc mX aP;obtain rfl:=Option.some.inj e1;rw[if_pos bR] at h2;obtain rfl:=Option.some.inj h2;obtain⟨rfl,FO⟩:=zqb hR hI hS hT hs hO oa;rw[zuz FO] at aB ⊢;have ht:bN l[f].aj=bN (zN q):=by
    obtain⟨_,h5⟩:=z2b Eg;rw[hS.text _ (List.getElem_mem hf),zvo hx] at h5;exact zea (hS.dM _ (List.getElem_mem hf)).w (zkc bR).1 h5
   obtain⟨EI,aF,he⟩:=ya5 hS hs hf ht;have Ng:lH l f=l[f].h:=(by unfold lH;rw[List.getElem?_eq_getElem hf];rfl);have hle:=zv5 (ps:=(zT s).2) (S:=Sp) (K:=K) (t:=bN (zN q)) (λ i hi=>FO.len i hi) (by simpa using An);rw[aF];rw[he] at aB hle ⊢;rw[Ng];exact .mk (v:=1) (h:=(l[f].h:Nat)) (n:=0) hle aB re
end
end Go.Proofs.YtldkpahaocjdpaaGreat
