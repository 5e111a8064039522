/-
  Bytes: a witness is written.
-/
import Derived.Test.YtldkpahaocjdpaaGreatE45
set_option maxHeartbeats 16000000
set_option maxRecDepth 1000000
namespace Go.Proofs.YtldkpahaocjdpaaGreat
section
open Go.RowKit Go.Maps
def uz (x:Nat × List Nat):List Nat:=x.1::x.2
def zfw (k:Nat)(ns:List (Nat × List Nat)):List Nat:=k::ns.length::ns.flatMap uz
structure Fh (w:W8)(out:List Nat)(v:Value)(wr:W8):Prop where
 k:Below w.heap.size w wr
 row:wr.ownsRow (w.heap.size+1) 5 1 v out.length (out.map u8c)
theorem Fh.add {w:W8}{out:List Nat}{v v':Value}{wr W w5:W8}{x:Nat}(h:Fh w out v wr)(hW:Below wr.heap.size wr W)(hg:W.grownBy w5 v.ownBlock)(ay:w5.ownsRow (w.heap.size+1) 5 1 v' (out.length+1) (out.map u8c++[u8c x])):Fh w (out++[x]) v' w5:=by
 have hs:=h.k.size;refine⟨⟨hg.os.trans (hW.os.trans h.k.os),hg.tape.trans (hW.tape.trans h.k.tape),hg.output.trans (hW.output.trans h.k.output),Nat.le_trans h.k.size (Nat.le_trans hW.size hg.size),λ i hi=>?_⟩,?_⟩
 ·have:=hW.size;rw[hg.block i (by omega) (λ e=>by have:=(h.row.lt i e.symm).1;omega),hW.block i (by omega)];exact h.k.block i hi
 ·rw[List.length_append,List.length_singleton,List.map_append];exact ay
def z03 (w:W8)(L:List Nat)(e:Ending)(w':W8):Prop:=
 ∃ (a:O8) (c:Nat),e=.returned (.slice a L.length c)/\w'.ownsRow w.heap.size 5 1 (.slice a L.length c) L.length (L.map u8c)/\Below w.heap.size w w'
theorem z5r (w:W8)(base k:Nat)(an:O8)(cn:Nat)(bG:List ND)(h:uX w base (.slice an bG.length cn) bG)(hl:bG.length<=50)(hf:∀ x∈bG,x.fr.length<=3):
  Calls Tryz.prog 43 #[.agg #[.int .i64 (k:Nat),.slice an bG.length cn]] w (z03 w (zfw k (bG.map lf))):=by
 obtain⟨i0,hi,bL,aY,bf⟩:=info_parts zen;have H:=zC h;have HF:=zC hf;have HL:=zC hl;clear h hf hl;go_enter Tryz.func43,Tryz.ntmps43;go_upto_region 2 with fail;generalize bC:World.alloc (World.alloc w _) _=w0;have k0:Below w.heap.size w w0:=by
  rw[<-bC];exact ((Below.refl w.heap.size w).alloc L9 _).alloc (by simp) _
 have r0:w0.ownsRow (w.heap.size+1) 5 1 (.slice (some ⟨w.heap.size+1,0,none⟩) 2 2) 2 ([k,bG.length].map u8c):=by
  rw[<-bC];have:=World.ownsRow_lit (base:=w.heap.size+1) (size:=1) (e:=5) (w.alloc (.cells #[.int .i64 (k:Nat),.slice an bG.length cn] 93)) #[.int .u8 ((k:Int)%256),.int .u8 ((bG.length:Int)%256)] 2 (by simp) (by unfold maxLen;omega) rfl;rw[World.size_alloc] at this;exact this
 have b1:w0.cell? ⟨w.heap.size,1,none⟩=some (.slice an bG.length cn):=by
  have x0:w0.heap[w.heap.size]?=some (.cells #[.int .i64 (k:Nat),.slice an bG.length cn] 93 (0,0)):=by
   rw[<-bC,Below.heap_alloc _ _ _ (by simp)];exact heap_alloc_new w _
  exact (zB x0 1).1
 have H0:=zC (show Fh w (k::bG.length::((bG.take 0).map lf).flatMap uz) (.slice (some ⟨w.heap.size+1,0,none⟩) 2 2) w0 from ⟨k0,r0⟩);clear bC k0 r0;go_upto_region 3 with fail;clear b1
 go_loopg [3,19] bG.length (λ gg v i wr=>∃ kk:Nat,kk<=bG.length/\gg=bG.length-kk/\i=.int .i64 kk/\(k::bG.length::((bG.take kk).map lf).flatMap uz).length<=2+4*kk/\Fh w (k::bG.length::((bG.take kk).map lf).flatMap uz) v wr)
 exact⟨0,Nat.zero_le _,rfl,rfl,by simp,zA H0⟩
 case round=>
  clear H0;obtain⟨kk,lx,eA,rfl,sn,ax⟩:=hrel;obtain⟨out,AZ⟩:∃ out,out=k::bG.length::((bG.take kk).map lf).flatMap uz:=⟨_,rfl⟩;rw[<-AZ] at sn ax;obtain⟨ao,co,rfl⟩:=zD ax.row
  by_cases aF:kk<bG.length
  ·obtain⟨x,Bg⟩:∃ x,x=bG[kk]:=⟨_,rfl⟩;have cg:x∈bG:=(by rw[Bg];exact List.getElem_mem aF);obtain⟨g,cap,hv,iG,aZ,bO,bP,hc⟩:=vU zg5 (zA H).row kk aF;injection hv with h1 h2 h3
   subst h1 h3;have GU:=(zA H).each x cg;obtain⟨av,cv,Gx⟩:=zD GU;have e0:wr.cell? ⟨g,kk*2,none⟩=some (.int .i64 (x.r:Nat)):=(by rw[Bg];exact (ax.k.cell (p:=⟨g,kk*2,none⟩) aZ).trans (hc 0 (by omega)));have e1:wr.cell? ⟨g,kk*2+1,none⟩=some (.slice av x.fr.length cv):=(by rw[<-Gx,Bg];exact (ax.k.cell (p:=⟨g,kk*2+1,none⟩) aZ).trans (hc 1 (by omega)));have nz:(kk:Int)<bG.length:=(by omega);have WU:=zA HF x cg;have BR:=zA HL;have Jf:out.length<=300:=by omega
   have Ts:=zC (show k::bG.length::((bG.take (kk+1)).map lf).flatMap uz=out++x.r::x.fr by
    rw[List.take_succ_eq_append_getElem aF,List.map_append,List.flatMap_append,AZ,<-Bg]
    simp[uz,lf])
   have YW:=zC (show (out++x.r::x.fr).length<=2+4*(kk+1) by simp;omega);have bH:=(ax.row.alloc (.cells #[.int .i64 (x.r:Nat),.slice av x.fr.length cv] 150)).alloc (.cells #[.int .u8 ((x.r:Int)%256)] 5);have dt:=zC (World.news_of_block (heap_alloc_new (wr.alloc (.cells #[.int .i64 (x.r:Nat),.slice av x.fr.length cv] 150)) (.cells #[.int .u8 ((x.r:Int)%256)] 5)));rw[World.size_alloc] at dt;have bT:=zC ax;have LO:=zC GU;have Ps:=zC Gx;have xo:=ax.k.size;clear hc ax Bg cg h2 GU Gx AZ sn;go_upto_region 6 with (at_builtin;refine wpList_append_own _ rfl _ _ 47 rfl (w.heap.size+1) 5 i0 _ 1 1 Tryz.underlying47 hi bL aY bf rfl (by decide) _ _ _ rfl bH ⟨wr.heap.size+1,0,none⟩ 1 1 [u8c x.r] rfl rfl (zA dt) (by intro u hu;rw[List.mem_singleton.1 hu];rfl) (by unfold maxLen;omega) (by omega) (by simp;omega) ?_;intro v5 w5 aq aU hne5;clear hne5;obtain⟨a5,c5,rfl⟩:=zD aq;have CC:=zC aq;have FB:=zC aU;clear aq aU);have ax:=zA bT;have aU:((wr.alloc (.cells #[.int .i64 (x.r:Nat),.slice av x.fr.length cv] 150)).alloc (.cells #[.int .u8 ((x.r:Int)%256)] 5)).grownBy w5 (Value.slice ao out.length co).ownBlock:=zA FB;have SN:Below wr.heap.size wr ((wr.alloc (.cells #[.int .i64 (x.r:Nat),.slice av x.fr.length cv] 150)).alloc (.cells #[.int .u8 ((x.r:Int)%256)] 5)):=((Below.refl wr.heap.size wr).alloc L9 _).alloc (by simp) _;have BD:=ax.add SN aU (zA CC);have Sl:w5.heap[wr.heap.size]?=some (.cells #[.int .i64 (x.r:Nat),.slice av x.fr.length cv] 150 (0,0)):=by
    rw[aU.block wr.heap.size (by simp only[World.size_alloc];omega) (λ e=>by have:=(ax.row.lt _ e.symm).2;omega),Below.heap_alloc _ _ _ (by simp)];exact heap_alloc_new wr _
   have b1:=(zB Sl 1).1;simp only[List.getElem?_toArray,List.getElem?_cons_zero,List.getElem?_cons_succ] at b1;have H5:=zC (show Fh w (out++x.r::x.fr.take 0) (.slice a5 (out.length+1) c5) w5 from by simpa using BD);clear ax aU SN BD Sl bH dt e0 e1 FB CC bT xo;generalize wr.heap.size=xb at *;go_upto_region 7 with fail;clear b1
   go_loopg [3,32] x.fr.length (λ gg2 v jj wi=>∃ j:Nat,j<=x.fr.length/\gg2=x.fr.length-j/\jj=.int .i64 j/\Fh w (out++x.r::x.fr.take j) v wi)
   exact⟨0,Nat.zero_le _,rfl,rfl,zA H5⟩
   case round=>
    clear H5;obtain⟨j,hj,xu,rfl,ax⟩:=hrel;have zg:(out++x.r::x.fr.take j).length<=310:=(by simp;omega);obtain⟨o2,GL⟩:∃ o2,o2=out++x.r::x.fr.take j:=⟨_,rfl⟩;rw[<-GL] at ax zg;obtain⟨ai,ci,rfl⟩:=zD ax.row
    by_cases hlj:j<x.fr.length
    ·have Ca:=zJ (zA LO) ax.k (λ g e=>((zA LO).lt g e).2);rw[zA Ps] at Ca;obtain⟨gv,rfl,WS,N3,OB,MX⟩:=z3q Ca j hlj;have M9:(j:Int)<x.fr.length:=(by omega);have WC:=zC (show out++x.r::x.fr.take (j+1)=o2++[x.fr[j]] by rw[GL,List.take_succ_eq_append_getElem hlj];simp);generalize x.fr[j]=y at *;have L1:=ax.row.alloc (.cells #[.int .u8 ((y:Int)%256)] 5);have Je:=zC (World.news_of_block (heap_alloc_new wr (.cells #[.int .u8 ((y:Int)%256)] 5)));have bT:=zC ax;have Oi:=ax.k.size;clear ax GL Ca;go_wp2_with (at_builtin;refine wpList_append_own _ rfl _ _ 47 rfl (w.heap.size+1) 5 i0 _ 1 1 Tryz.underlying47 hi bL aY bf rfl (by decide) _ _ _ rfl L1 ⟨wr.heap.size,0,none⟩ 1 1 [u8c y] rfl rfl (zA Je) (by intro u hu;rw[List.mem_singleton.1 hu];rfl) (by unfold maxLen;omega) (by omega) (by simp;omega) ?_;intro v6 w6 hown6 sZ hne6;clear hne6;obtain⟨a6,c6,rfl⟩:=zD hown6;have Y1:=zC ((zA bT).add (B9.alloc L9 _) sZ hown6);clear hown6 sZ);go_roundg (x.fr.length-(j+1))
     case measure=>omega
     case rel=>
      refine⟨j+1,by omega,rfl,by go_num,?_⟩;rw[zA WC];exact zA Y1
    ·have qi:j=x.fr.length:=(by omega);subst qi;have HE:=zC (show o2=out++x.r::x.fr by rw[GL,List.take_length]);have bT:=zC ax;clear ax GL;go_wp2_with fail;go_roundg (bG.length-(kk+1))
     case measure=>omega
     case rel=>
      refine⟨kk+1,by omega,rfl,by go_num,?_,?_⟩
      ·rw[zA Ts];exact zA YW
      ·rw[zA Ts,<-zA HE];exact zA bT
  ·have he:kk=bG.length:=(by omega);subst he;have HE:=zC (show out=zfw k (bG.map lf) by rw[AZ,List.take_length];unfold zfw;simp);have bT:=zC ax;clear ax AZ sn;go_wp2_with fail;go_ret;rw[<-zA HE];exact⟨ao,co,rfl,zG (zA bT).row (by omega),(zA bT).k⟩
end
section
open Go.RowKit Go.Maps
theorem zi6 {w1:W8}{n:Nat}{u0 u1 u2:Value}(h0:w1.cell? ⟨n,0,none⟩=some u0)(h1:w1.cell? ⟨n,1,none⟩=some u1)(h2:w1.cell? ⟨n,2,none⟩=some u2)(v0 v1 v2:Value):(((w1.setCell ⟨n,0,none⟩ v0).setCell ⟨n,1,none⟩ v1).setCell ⟨n,2,none⟩ v2).cell? ⟨n,0,none⟩=some v0/\(((w1.setCell ⟨n,0,none⟩ v0).setCell ⟨n,1,none⟩ v1).setCell ⟨n,2,none⟩ v2).cell? ⟨n,1,none⟩=some v1/\(((w1.setCell ⟨n,0,none⟩ v0).setCell ⟨n,1,none⟩ v1).setCell ⟨n,2,none⟩ v2).cell? ⟨n,2,none⟩=some v2:=
 ⟨by rw[yC (by omega),yC (by omega)];exact qV h0,by rw[yC (by omega)];exact qV (by rw[yC (by omega)];exact h1),qV (by rw[yC (by omega),yC (by omega)];exact h2)⟩
theorem zlm (B:Nat->Bool):∀ (l:List (Nat × List Nat)) (i:Nat) (pl:Nat->Nat) (out:List (Nat × List Nat)),(zc1 B l i pl out).length<=out.length+l.length
 | [],_,_,_=>Nat.le_refl _
 | x::r,i,pl,out=>by
  rw[zc1]
  split
  ·have:=zlm B r (i+1) (bJ pl i out.length) (out++[(x.1,x.2.map (bJ pl i out.length))]);simp at this ⊢;omega
  ·have:=zlm B r (i+1) pl out;simp at this ⊢;omega
theorem zpp (B:Nat->Bool)(m:Nat):∀ (l:List (Nat × List Nat)) (i:Nat) (pl:Nat->Nat) (out:List (Nat × List Nat)),(∀ x∈l,x.2.length<=m)->(∀ x∈out,x.2.length<=m)->∀ x∈zc1 B l i pl out,x.2.length<=m
 | [],_,_,_,_,h=>h
 | y::r,i,pl,out,hl,h=>by
  rw[zc1]
  split
  ·refine zpp B m r _ _ _ (λ x hx=>hl x (List.mem_cons_of_mem _ hx)) (λ x hx=>?_);rcases List.mem_append.1 hx with hx | hx
   ·exact h x hx
   ·rw[List.mem_singleton.1 hx,List.length_map];exact hl y List.mem_cons_self
  ·exact zpp B m r _ _ _ (λ x hx=>hl x (List.mem_cons_of_mem _ hx)) h
def z9b (ps:P9)(S:B8->Nat)(K:List (Th × Nat))(t:Th)(rea:Nat->Nat × List Nat)(O:List Pl):List (Nat × List Nat):=
 zc1 (qY O (jM ps S K t) t rea (qI O.length 0)) (qF O.length rea (qY O (jM ps S K t) t rea (qI O.length 0))) 0 (λ _=>0) []
def zdw (ps:P9)(S:B8->Nat)(K:List (Th × Nat))(t:Th)(rea:Nat->Nat × List Nat)(O:List Pl):List Nat:=zfw (jM ps S K t) (z9b ps S K t rea O)
theorem zw6 (ps:P9)(S:B8->Nat)(K:List (Th × Nat))(t:Th)(rea:Nat->Nat × List Nat)(O:List Pl):(z9b ps S K t rea O).length<=O.length:=by
 have:=zlm (qY O (jM ps S K t) t rea (qI O.length 0)) (qF O.length rea (qY O (jM ps S K t) t rea (qI O.length 0))) 0 (λ _=>0) [];unfold z9b;simpa[qF] using this
theorem z1c {ps:P9}{S:B8->Nat}{K:List (Th × Nat)}{t:Th}{rea:Nat->Nat × List Nat}{O:List Pl}(h:∀ i,i<O.length->(rea i).2.length<=3):∀ x∈z9b ps S K t rea O,x.2.length<=3:=by
 refine zpp _ 3 _ _ _ _ (λ x hx=>?_) (λ x hx=>by cases hx);obtain⟨i,hi,rfl⟩:=List.mem_map.1 hx
 split
 ·exact h i (List.mem_range.1 hi)
 ·simp
inductive yx (w:W8)(rs:List PR)(ps:P9)(s:B8)(limit:Int)(rea:(B8->Nat)->List (Th × Nat)->List Pl->Nat->Nat × List Nat)(w':W8):Ending->Prop
 | arg:uA limit=false->yx w rs ps s limit rea w' (.returned (.tuple #[.agg #[.int .i64 0,.int .i64 0,.slice none 0 0],.int .i64 8]))
 | ask:uA limit=true->zec ps s=none->yx w rs ps s limit rea w' (.returned (.tuple #[.agg #[.int .i64 0,.int .i64 0,.slice none 0 0],.int .i64 6]))
 | fF {t:Th} {S:B8->Nat} {m:Nat}:uA limit=true->zec ps s=some t->zd1 (rs.map (·.R)) S->z56 (rs.map (·.R)) S->zfa ps S m->zd9 rs S limit.toNat m 0 [] none->yx w rs ps s limit rea w' (.returned (.tuple #[.agg #[.int .i64 0,.int .i64 0,.slice none 0 0],.int .i64 7]))
 | yes {t:Th} {S:B8->Nat} {m:Nat} {K:List (Th × Nat)} {O:List Pl} {a:O8} {c:Nat}:uA limit=true->zec ps s=some t->zd1 (rs.map (·.R)) S->z56 (rs.map (·.R)) S->zfa ps S m->zd9 rs S limit.toNat m 0 [] (some K)->(K.map (·.1)).Nodup->O.Perm (K.map (znf S))->(O.Pairwise λ p q=>vX p q=true)->w'.ownsRow w.heap.size 5 1 (.slice a (zdw ps S K t (rea S K O) O).length c) (zdw ps S K t (rea S K O) O).length ((zdw ps S K t (rea S K O) O).map u8c) ->
   yx w rs ps s limit rea w' (.returned (.tuple #[.agg #[.int .i64 (if (yS K t).isSome then 1 else 2),.int .i64 (((yS K t).getD 0:Nat):Int),.slice a (zdw ps S K t (rea S K O) O).length c],.int .i64 0]))
end
section
open Go.RowKit Go.Maps
def plF (f:zP):Pl:=⟨bM f.aj,f.s,f.h⟩
theorem zwt (g f:zP):zd4 (plF g) (plF f)=zgu g f:=rfl
theorem zv3 (p:Pl):∀ (a b:List Pl) (i:Nat),ze2 p (a++b) i=ze2 p a i++ze2 p b (i+a.length)
 | [],b,i=>by simp[ze2]
 | x::a,b,i=>by
  rw[List.cons_append,ze2,ze2,zv3 p a b (i+1),List.length_cons,show i+1+a.length=i+(a.length+1) by omega]
  split <;> rfl
theorem zvm (p:Pl):∀ (l:List zP) (i:Nat),(∀ g∈l,zd4 (plF g) p=true)->ze2 p (l.map plF) i=zcb l i
 | [],_,_=>rfl
 | x::l,i,h=>by
  rw[List.map_cons,ze2,if_pos (h x List.mem_cons_self),zcb,zvm p l (i+1) (λ g hg=>h g (List.mem_cons_of_mem _ hg))];rfl
theorem zrk (p:Pl):∀ (l:List zP) (i:Nat),(∀ g∈l,zd4 (plF g) p=false)->ze2 p (l.map plF) i=[]
 | [],_,_=>rfl
 | x::l,i,h=>by
  rw[List.map_cons,ze2,if_neg (by rw[h x List.mem_cons_self];simp),zrk p l (i+1) (λ g hg=>h g (List.mem_cons_of_mem _ hg))]
theorem z6c {x y:zP}(hx:x.text=xF (bM x.aj))(hy:y.text=xF (bM y.aj)):jD x y=vX (plF x) (plF y):=by
 rw[Bool.eq_iff_iff,zbj];unfold jD;rw[hx,hy]
 show _↔x.s<y.s\/(x.s=y.s/\(x.h<y.h\/(x.h=y.h/\zag (xF (bM x.aj)) (xF (bM y.aj))=true)))
 by_cases h1:x.s=y.s
 ·by_cases h2:x.h=y.h
  ·simp[h1,h2]
  ·simp[h1,h2]
 ·simp[h1]
variable {l:List zP} {K:List (Th × Nat)} {rs:List zS} {S:Nat->Nat} {ps:P9}
theorem ztp (hS:gp ps K l)(hT:px ps S rs l):(l.map plF).Pairwise λ p q=>vX p q=true:=by
 rw[List.pairwise_map];have hn:=hS.DU;unfold List.Nodup at hn;rw[List.pairwise_map] at hn;refine List.Pairwise.imp_of_mem (λ {x y} hx hy h=>?_) (hT.Sy.and hn);obtain⟨h1,h2⟩:=h;rw[z6c (hS.text y hy) (hS.text x hx)] at h1
 cases hc:vX (plF x) (plF y) with
 | true=>rfl
 | false=>
  have:=(zjg hc h1).2.2;exact absurd (zd6 (hS.dQ x hx).w (hS.dQ y hy).w this) h2
theorem ya5 {A B:List Pl}(h:A.Perm B)(hA:A.Pairwise λ p q=>vX p q=true)(hB:B.Pairwise λ p q=>vX p q=true):A=B:=
 List.Perm.eq_of_pairwise (λ a b _ _ h1 h2=>by have:=Nh h1 h2;rw[Rx] at this;cases this) hA hB h
variable {Sp:B8->Nat}
theorem z1o (hS:gp ps K l)(hs:∀ f∈l,f.s=Sp (bM f.aj).1):(l.map plF).Perm (K.map (znf Sp)):=by
 refine (List.perm_ext_iff_of_nodup (zfg (λ p:Pl=>p.t) (by rw[List.map_map];exact hS.DU)) (zfg (λ p:Pl=>p.t) (by rw[List.map_map];exact hS.Nw))).2 λ p=>?_
 rw[List.mem_map,List.mem_map]
 constructor
 ·rintro⟨f,hf,rfl⟩;refine⟨(bM f.aj,f.h),(hS.mem _ _).2 ⟨f,hf,rfl,rfl⟩,?_⟩;unfold znf plF;rw[hs f hf]
 ·rintro⟨⟨t,n⟩,hq,rfl⟩;obtain⟨f,hf,e1,e2⟩:=(hS.mem t n).1 hq;refine⟨f,hf,?_⟩;unfold znf plF;rw[hs f hf,e1,e2]
def ziq (l:List zP)(i:Nat):Nat × List Nat:=match l[i]? with | some f=>(f.r,f.fr) | none=>(0,[])
theorem zks {i:Nat}(h:i<l.length):ziq l i=(l[i].r,l[i].fr):=by unfold ziq;rw[List.getElem?_eq_getElem h]
theorem zoz {rp:List PR}(hR:za0 ps rs rp)(hI:z4z rs rp)(hS:gp ps K l)(hT:px ps S rs l)(hs:∀ f∈l,f.s=Sp (bM f.aj).1){O:List Pl}(hO:O.Perm (K.map (znf Sp)))(n9:O.Pairwise λ p q=>vX p q=true):O=l.map plF/\zuf ps Sp rp K O (ziq l):=by
 have hp:=z1o hS hs;have e:O=l.map plF:=ya5 (hO.trans hp.symm) n9 (ztp hS hT);refine⟨e,?_⟩;have main:∀ (i:Nat) (h:i<l.length),Ep (ze2 (plF l[i]) (l.map plF) 0) rp (bM l[i].aj) l[i].r l[i].fr/\l[i].fr.length<=3/\∀ x∈l[i].fr,x<i:=λ i h=>by
  obtain⟨l0,r,e1,h1,h2,h3,_,h5,h6⟩:=hT.least hR hI hS (List.getElem_mem h);have hn:ze2 (plF l[i]) (l.map plF) 0=zb4 l0:=by
   have ex:l.map plF=l0.map plF++r.map plF:=(by rw[<-List.map_append,<-e1]);rw[ex,zv3,zvm _ l0 0 (λ g hg=>by rw[zwt];exact h1 g hg),zrk _ r _ (λ g hg=>by rw[zwt];exact h2 g hg),List.append_nil];rfl
  rw[hn];refine⟨h3,h5,λ x hx=>?_⟩;have hx:=h6 x hx;have qq:l0.length<=i:=by
   refine Nat.le_of_not_lt λ aH=>?_
   have hm:l[i]∈l0:=by
    have:l[i]=l0[i]:=by simp only[e1];exact List.getElem_append_left aH
    rw[this];exact List.getElem_mem aH
   have:=h1 _ hm;rw[zch] at this;omega
  omega
 subst e;refine⟨hO,λ i h=>?_,λ i h=>?_,λ i h=>?_⟩
 ·have h':i<l.length:=by simpa using h
  rw[zks h',List.getElem_map];exact (main i h').1
 ·have h':i<l.length:=by simpa using h
  rw[zks h'];exact (main i h').2.1
 ·have h':i<l.length:=by simpa using h
  rw[zks h'];exact (main i h').2.2
end
section
open Go.RowKit Go.Maps
theorem zl3 (B:Nat->Bool):∀ (l:List zP) (ns:List (Nat × List Nat)) (i:Nat) (pl:Nat->Nat) (out:List (Nat × List Nat)),ns.length=l.length->(∀ (j:Nat) (h:j<l.length) (h':j<ns.length),B (i+j)=true->ns[j]=(l[j].r,l[j].fr))->(zc1 B ns i pl out).length=(ze7 B l i out.length pl (out.flatMap uz)).1/\(zc1 B ns i pl out).flatMap uz=(ze7 B l i out.length pl (out.flatMap uz)).2
 | [],[],_,_,_,_,_=>⟨rfl,rfl⟩
 | [],x::ns,_,_,_,h,_=>by simp at h
 | f::r,[],_,_,_,h,_=>by simp at h
 | f::r,x::ns,i,pl,out,h,hx=>by
  have hl:ns.length=r.length:=by simpa using h
  have hr:∀ (j:Nat) (h:j<r.length) (h':j<ns.length),B (i+1+j)=true->ns[j]=(r[j].r,r[j].fr):=λ j h1 h2 hb=>by
   have:=hx (j+1) (by simpa using h1) (by simpa using h2) (by rw[show i+(j+1)=i+1+j by omega];exact hb);simpa using this
  rw[zc1,ze7]
  by_cases hb:B i=true
  ·rw[if_pos hb,if_pos hb];have e:x=(f.r,f.fr):=hx 0 (by simp) (by simp) (by simpa using hb);subst e;have:=zl3 B r ns (i+1) (bJ pl i out.length) (out++[(f.r,f.fr.map (bJ pl i out.length))]) hl hr;rw[List.length_append,List.flatMap_append] at this;simpa[uz] using this
  ·rw[if_neg hb,if_neg hb];exact zl3 B r ns (i+1) pl out hl hr
variable {B:Nat->Bool}
theorem zzc {n:Nat}{rea:Nat->Nat × List Nat}{j:Nat}(h:j<(qF n rea B).length):(qF n rea B)[j]=if B j then rea j else (0,[]):=by
 have h2:(qF n rea B)[j]?=some (if B j then rea j else (0,[])):=by
  have h3:j<n:=by simpa[qF] using h
  unfold qF;simp[h3]
 rw[List.getElem?_eq_getElem h] at h2;exact Option.some.inj h2
theorem zge (k:Nat)(l:List zP)(B:Nat->Bool):zfw k (zc1 B (qF l.length (ziq l) B) 0 (λ _=>0) [])=znp k l B:=by
 obtain⟨h1,h2⟩:=zl3 B l (qF l.length (ziq l) B) 0 (λ _=>0) [] (by simp[qF]) (λ j h h' hb=>by
  rw[Nat.zero_add] at hb
  rw[zzc,if_pos hb,zks h])
 unfold zfw znp;rw[h1,h2];rfl
theorem zhn {B B':Nat->Bool}{n:Nat}:∀ (ns:List (Nat × List Nat)) (i:Nat) (pl:Nat->Nat) (out:List (Nat × List Nat)),(∀ j,j<i+ns.length->B j=B' j)->zc1 B ns i pl out=zc1 B' ns i pl out
 | [],_,_,_,_=>rfl
 | x::ns,i,pl,out,h=>by
  rw[zc1,zc1,h i (by simp),zhn (n:=n) ns (i+1) _ _ (λ j hj=>h j (by rw[List.length_cons];omega)),zhn (n:=n) ns (i+1) _ _ (λ j hj=>h j (by rw[List.length_cons];omega))]
theorem zov {k:Nat}{l:List zP}{B':Nat->Bool}(h:∀ i,i<l.length->B i=B' i):znp k l B=znp k l B':=by
 rw[<-zge,<-zge];have e:qF l.length (ziq l) B=qF l.length (ziq l) B':=by
  unfold qF;apply List.map_congr_left;intro i hi;rw[h i (List.mem_range.1 hi)]
 rw[e,zhn (n:=0) _ 0 _ _ (λ j hj=>h j (by simpa[qF] using hj))]
end
section
open Go.RowKit Go.Maps
theorem zcw (j:Nat):∀ (fr:List Nat) (B:Nat->Bool),vR B fr j=(B j||decide (j∈fr))
 | [],B=>by simp[vR]
 | x::r,B=>by
  have h:=zcw j r (zbf B x true)
  show vR (zbf B x true) r j=_
  rw[h];unfold zbf
  by_cases e:j=x
  ·simp[e]
  ·simp[e]
theorem yc4 (l:List zP)(i:Nat):lF l i=(ziq l i).2:=by
 unfold lF ziq
 cases l[i]? <;> rfl
theorem z9d {l:List zP}{i:Nat}(h:i<l.length)(k:Nat)(t:Th):yd5 (l.map plF) k t i=(decide (lS l i<k)||decide (bM l[i].aj=t)):=by
 unfold yd5 lS;rw[List.getElem?_map,List.getElem?_eq_getElem h];rfl
theorem zsy {l:List zP}{k:Nat}{t:Th}(aW:∀ (i:Nat) (h:i<l.length),bM l[i].aj≠t)(hle:∀ (i:Nat),i<l.length->∀ x∈(ziq l i).2,x<l.length/\lS l x<=lS l i):∀ (d m:Nat),m+d=(l.map plF).length->∀ j,j<l.length->(qY (l.map plF) k t (ziq l) (qI (l.map plF).length m) j=true->lS l j<k)/\(m<=j->lS l j<k->qY (l.map plF) k t (ziq l) (qI (l.map plF).length m) j=true)
 | 0,m,hm,j,hj=>by
  rw[Nat.add_zero] at hm;subst hm;rw[MP];refine⟨λ h=>(by cases h),λ h=>?_⟩;rw[List.length_map] at h;omega
 | d+1,m,hm,j,hj=>by
  have aH:m<(l.map plF).length:=by omega
  have ng:m<l.length:=by rw[List.length_map] at aH;exact aH
  have ih:=zsy (k:=k) aW hle d (m+1) (by omega);rw[zgc aH,zf8]
  show (zak _ _ _ _ _ m j=true->_)/\(_->_->zak _ _ _ _ _ m j=true)
  rw[zcv];have ho:=z9d ng k t;rw[show decide (bM l[m].aj=t)=false from decide_eq_false (aW m ng),Bool.or_false] at ho;have hn:∀ q,zdn (l.map plF) k t (qY (l.map plF) k t (ziq l) (qI (l.map plF).length (m+1))) m q=(qY (l.map plF) k t (ziq l) (qI (l.map plF).length (m+1)) q||(decide (q=m)&&decide (lS l m<k))):=λ q=>by
   unfold zdn;rw[ho]
   by_cases h1:lS l m<k
   ·rw[if_pos (by simpa using h1)];unfold zbf
    by_cases h2:q=m
    ·simp[h2,h1]
    ·simp[h2]
   ·rw[if_neg (by simpa using h1)];simp[h1]
  have gW:∀ q,q<l.length->zdn (l.map plF) k t (qY (l.map plF) k t (ziq l) (qI (l.map plF).length (m+1))) m q=true->lS l q<k:=λ q hq h=>by
   rw[hn q] at h;simp only[Bool.or_eq_true,Bool.and_eq_true,decide_eq_true_eq] at h;rcases h with h | ⟨rfl,h⟩
   ·exact (ih q hq).1 h
   ·exact h
  have ou:m<=j->lS l j<k->zdn (l.map plF) k t (qY (l.map plF) k t (ziq l) (qI (l.map plF).length (m+1))) m j=true:=λ h1 h2=>by
   rw[hn j]
   by_cases e:j=m
   ·subst e;simp[h2]
   ·rw[(ih j hj).2 (by omega) h2];rfl
  split
  ·rename_i hc;rw[zcw];refine⟨λ h=>?_,λ h1 h2=>by rw[ou h1 h2];rfl⟩;simp only[Bool.or_eq_true,decide_eq_true_eq] at h;rcases h with h | h
   ·exact gW j hj h
   ·have h3:=gW m ng hc;have:=(hle m ng j h).2;omega
  ·exact⟨gW j hj,ou⟩
theorem zwz {l:List zP}{k f:Nat}{t:Th}(hf:f<l.length)(oN:∀ (i:Nat) (h:i<l.length),bM l[i].aj=t↔i=f):∀ (d m:Nat),m+d=(l.map plF).length->∃ Br,zin l k (l.map plF).length (zbf (λ _=>false) f true)=zin l k m Br/\(∀ j,Br j=(qY (l.map plF) k t (ziq l) (qI (l.map plF).length m) j||decide (j=f)))/\(m<=f->qY (l.map plF) k t (ziq l) (qI (l.map plF).length m) f=true)
 | 0,m,hm=>by
  rw[Nat.add_zero] at hm;subst hm;refine⟨_,rfl,λ j=>?_,λ h=>by rw[List.length_map] at h;omega⟩;rw[MP];unfold zbf
  by_cases e:j=f <;> simp[e,qY]
 | d+1,m,hm=>by
  have aH:m<(l.map plF).length:=by omega
  have ng:m<l.length:=by rw[List.length_map] at aH;exact aH
  obtain⟨Br,h1,h2,h3⟩:=zwz hf oN d (m+1) (by omega);refine⟨IM l k Br m,h1,?_⟩;rw[zgc aH,zf8]
  show (∀ j,IM l k Br m j=(zak _ _ _ _ _ m j||_))/\(_->zak _ _ _ _ _ m f=true)
  rw[zcv];generalize qY (l.map plF) k t (ziq l) (qI (l.map plF).length (m+1))=Bp at *;have ho:=z9d ng k t;rw[show decide (bM l[m].aj=t)=decide (m=f) by rw[decide_eq_decide];exact oN m ng] at ho;have hn:∀ q,zdn (l.map plF) k t Bp m q=(Bp q||(decide (q=m)&&(decide (lS l m<k)||decide (m=f)))):=λ q=>by
   unfold zdn;rw[ho]
   cases hc:(decide (lS l m<k)||decide (m=f)) with
   | true=>
    rw[if_pos rfl];unfold zbf
    by_cases e:q=m <;> simp[e]
   | false=>
    rw[if_neg (by simp)];simp
  have hc:(Br m||decide (lS l m<k))=zdn (l.map plF) k t Bp m m:=by
   rw[hn m,h2 m];simp
   cases Bp m <;> cases decide (m=f) <;> cases decide (lS l m<k) <;> rfl
  unfold IM;rw[hc,yc4]
  cases hb:zdn (l.map plF) k t Bp m m with
  | true=>
   simp only[if_pos];refine⟨λ j=>?_,λ h=>?_⟩
   ·rw[zcw,zcw];unfold zbf
    by_cases e:j=m
    ·subst e;simp[hb]
    ·simp only[if_neg e];rw[h2 j,hn j];simp[e]
     cases Bp j <;> cases decide (j=f) <;> simp
   ·rw[zcw]
    by_cases e:f=m
    ·subst e;rw[hb];rfl
    ·rw[hn f,h3 (by omega)];rfl
  | false=>
   simp only[Bool.false_eq_true,if_false];refine⟨λ j=>?_,λ h=>?_⟩
   ·unfold zbf
    by_cases e:j=m
    ·subst e;rw[if_pos rfl,hb];rw[hn j] at hb;simp at hb;simp[hb]
    ·rw[if_neg e,h2 j,hn j];simp[e]
   ·by_cases e:f=m
    ·subst e;rw[hn f] at hb;simp at hb
    ·rw[hn f,h3 (by omega)];rfl
end
section
open Go.RowKit Go.Maps
variable {i:Nat}
theorem zv4 {β:Type}{l:List β}(h:l.Nodup){j:Nat}(hi:i<l.length)(hj:j<l.length)(e:l[i]=l[j]):i=j:=by
 unfold List.Nodup at h;rw[List.pairwise_iff_getElem] at h;rcases Nat.lt_trichotomy i j with h1 | h1 | h1
 ·exact absurd e (h i j hi hj h1)
 ·exact h1
 ·exact absurd e.symm (h j i hj hi h1)
theorem z42 {α β:Type}{f:α->β}{l:List α}(h:(l.map f).Nodup){x y:α}(hx:x∈l)(hy:y∈l)(e:f x=f y):x=y:=by
 obtain⟨i,hi,rfl⟩:=List.mem_iff_getElem.1 hx;obtain⟨j,hj,rfl⟩:=List.mem_iff_getElem.1 hy;have:=zv4 h (i:=i) (j:=j) (by simpa using hi) (by simpa using hj) (by simpa using e);subst this;rfl
variable {l:List zP}
theorem z2u (h:i<l.length):lS l i=l[i].s:=by unfold lS;rw[List.getElem?_eq_getElem h];rfl
variable {K:List (Th × Nat)} {rp:List PR} {rs:List zS} {S:Nat->Nat} {ps:P9}
theorem z0p (hR:za0 ps rs rp)(hI:z4z rs rp)(hS:gp ps K l)(hT:px ps S rs l):∀ (i:Nat),i<l.length->∀ x∈(ziq l i).2,x<l.length/\lS l x<=lS l i:=λ i h x hx=>by
 obtain⟨l0,r,e1,h1,h2,h3,_,h5,h6⟩:=hT.least hR hI hS (List.getElem_mem h);rw[zks h] at hx;have E6:=h6 x hx;have EC:x<l.length:=by rw[e1,List.length_append];omega
 refine⟨EC,?_⟩;rw[z2u EC,z2u h];have hm:l[x]∈l0:=by
  have:l[x]=l0[x]:=by simp only[e1];exact List.getElem_append_left E6
  rw[this];exact List.getElem_mem E6
 have:=h1 _ hm;rw[zch] at this;omega
variable {t:Th} {Sp:B8->Nat}
theorem z69 (hR:za0 ps rs rp)(hI:z4z rs rp)(hS:gp ps K l)(hT:px ps S rs l)(aW:yS K t=none):zdw ps Sp K t (ziq l) (l.map plF)=znp (jM ps Sp K t) l (λ i=>decide (lS l i<jM ps Sp K t)):=by
 have oH:∀ (i:Nat) (h:i<l.length),bM l[i].aj≠t:=λ i h e=>by
  have hm:(t,l[i].h)∈K:=(hS.mem _ _).2 ⟨l[i],List.getElem_mem h,e,rfl⟩;have:=(zet K t).2 ⟨_,hm⟩;rw[aW] at this
  cases this
 have hq:=zsy (k:=jM ps Sp K t) oH (z0p hR hI hS hT) (l.map plF).length 0 (by omega);unfold zdw z9b;generalize qY (l.map plF) (jM ps Sp K t) t (ziq l) (qI (l.map plF).length 0)=B at *;rw[List.length_map,zge];refine zov λ j hj=>?_
 have:=hq j hj;rw[Bool.eq_iff_iff,decide_eq_true_eq];exact⟨this.1,this.2 (Nat.zero_le _)⟩
theorem ybc (hS:gp ps K l)(hs:∀ f∈l,f.s=Sp (bM f.aj).1){f:Nat}(hf:f<l.length)(ht:bM l[f].aj=t):jM ps Sp K t=lS l f/\yS K t=some l[f].h/\zdw ps Sp K t (ziq l) (l.map plF)=znp (lS l f) l (zin l (lS l f) l.length (zbf (λ _=>false) f true)):=by
 have hm:(t,l[f].h)∈K:=(hS.mem _ _).2 ⟨l[f],List.getElem_mem hf,ht,rfl⟩;have aF:yS K t=some l[f].h:=by
  have h1:=(zet K t).2 ⟨_,hm⟩
  cases hq:yS K t with
  | none=>rw[hq] at h1;cases h1
  | some n=>
   have pK:(t,n)∈K:=jU hq;obtain⟨g,hg,e1,e2⟩:=(hS.mem t n).1 pK;have hn:=hS.DU;have:g=l[f]:=z42 hn hg (List.getElem_mem hf) (by rw[e1,ht]);rw[<-e2,this]
 have ly:(yY ps t.1).isSome=true:=by
  have:=(hS.dQ _ (List.getElem_mem hf)).num;rw[ht] at this;rw[this];rfl
 have hk:jM ps Sp K t=lS l f:=by
  unfold jM;rw[if_pos ly,aF,z2u hf,hs _ (List.getElem_mem hf),ht];rfl
 refine⟨hk,aF,?_⟩;have oN:∀ (i:Nat) (h:i<l.length),bM l[i].aj=t↔i=f:=λ i h=>by
  constructor
  ·intro e;have hn:=hS.DU;have h1:(l.map λ f=>bM f.aj)[i]'(by simpa using h)=(l.map λ f=>bM f.aj)[f]'(by simpa using hf):=(by simp[e,ht]);exact zv4 hn _ _ h1
  ·rintro rfl;exact ht
 obtain⟨Br,h1,h2,h3⟩:=zwz (k:=lS l f) hf oN (l.map plF).length 0 (by omega);unfold zdw z9b;rw[hk];generalize qY (l.map plF) (lS l f) t (ziq l) (qI (l.map plF).length 0)=B at *;rw[List.length_map] at h1 ⊢;rw[zge,h1];refine zov λ j _=>?_
 show _=Br j
 rw[h2 j]
 by_cases e:j=f
 ·subst e;rw[h3 (Nat.zero_le _)];rfl
 ·simp[e]
end
section
open Go.RowKit Go.Maps
theorem yat (A:zL):z54 (pa A)=if qD A then some (bM A) else none:=by
 unfold z54 qD bM pa;simp only[List.any_map,List.map_map];have e:(A.ae.any ((λ x=>x.1) ∘ ed))=!(A.ae.all λ t=>!t.isVar):=by
  induction A.ae with
  | nil=>rfl
  | cons t r ih=>
   rw[List.any_cons,List.all_cons,ih]
   show (t.isVar||_)=_
   cases t.isVar <;> simp
 rw[e]
 cases (A.ae.all λ t=>!t.isVar) with
 | true=>rfl
 | false=>rfl
theorem zwq (ps:P9)(q:B8):zec ps q=if zcr ps q&&qD (zN q) then some (bM (zN q)) else none:=by
 unfold zec;rw[z6a]
 cases zcr ps q with
 | false=>rfl
 | true=>
  rw[if_pos rfl,Bool.true_and];exact yat (zN q)
end
section
open Go.RowKit Go.Maps
theorem zji (t:B8):∀ (l:List zP) (i f:Nat),zaz t l i=(f:Int)->∃ (j:Nat) (h:j<l.length),f=i+j/\l[j].text=t
 | [],i,f,h=>by rw[zaz] at h;omega
 | x::r,i,f,h=>by
  rw[zaz] at h
  split at h
  ·rename_i hx;refine⟨0,by simp,by omega,?_⟩;rw[xO] at hx;exact hx
  ·obtain⟨j,hj,e,hx⟩:=zji t r (i+1) f h;exact⟨j+1,by simpa using hj,by omega,by simpa using hx⟩
theorem z15 {l:List zP}{t:B8}{f:Nat}(h:jE l t=(f:Int)):∃ h:f<l.length,l[f].text=t:=by
 obtain⟨j,hj,e,hx⟩:=zji t l 0 f h;have:f=j:=by omega
 subst this;exact⟨hj,hx⟩
def zir (v h:Int)(wv:Value):Value:=.agg #[.int .i64 v,.int .i64 h,wv]
inductive vh (w:W8)(ps:P9)(S:Nat->Nat)(rs:List zS)(s:B8)(limit:Int)(w':W8):Value->Nat->Prop
 | arg:limit<1\/50<limit->vh w ps S rs s limit w' (zir 0 0 (.slice none 0 0)) 8
 | ask:1<=limit->limit<=50->(zcr ps s&&qD (zN s))=false->vh w ps S rs s limit w' (zir 0 0 (.slice none 0 0)) 6
 | fF:1<=limit->limit<=50->(zcr ps s&&qD (zN s))=true->zkk ps S rs limit.toNat (lQ S ps.length) 0 [] none->vh w ps S rs s limit w' (zir 0 0 (.slice none 0 0)) 7
 | out {l:List zP} {k:Nat} {x:B8} {a:O8} {c:Nat}:1<=limit->limit<=50->(zcr ps s&&qD (zN s))=true->zkk ps S rs limit.toNat (lQ S ps.length) 0 [] (some l)->l.length<=50->x.data.toList=jG (zN s)->jE l x<0->k=(if 0<=zM ps (zN s).pred then S (zM ps (zN s).pred).toNat+1 else 0)->w'.ownsRow w.heap.size 5 1 (.slice a (znp k l (λ i=>decide (lS l i<k))).length c) (znp k l (λ i=>decide (lS l i<k))).length ((znp k l (λ i=>decide (lS l i<k))).map u8c)->vh w ps S rs s limit w' (zir 2 0 (.slice a (znp k l (λ i=>decide (lS l i<k))).length c)) 0
 | yes {l:List zP} {f:Nat} {x:B8} {a:O8} {c:Nat}:1<=limit->limit<=50->(zcr ps s&&qD (zN s))=true->zkk ps S rs limit.toNat (lQ S ps.length) 0 [] (some l)->l.length<=50->x.data.toList=jG (zN s)->jE l x=(f:Int)->f<l.length->w'.ownsRow w.heap.size 5 1 (.slice a (znp (lS l f) l (zin l (lS l f) l.length (zbf (λ _=>false) f true))).length c) (znp (lS l f) l (zin l (lS l f) l.length (zbf (λ _=>false) f true))).length ((znp (lS l f) l (zin l (lS l f) l.length (zbf (λ _=>false) f true))).map u8c)->vh w ps S rs s limit w' (zir 1 (lH l f:Nat) (.slice a (znp (lS l f) l (zin l (lS l f) l.length (zbf (λ _=>false) f true))).length c)) 0
def yci (w:W8)(ps:P9)(S:Nat->Nat)(rs:List zS)(s:B8)(limit:Int)(e:Ending)(w':W8):Prop:=
 ∃ v n,e=.returned (.tuple #[v,.int .i64 (n:Nat)])/\vh w ps S rs s limit w' v n/\Below w.heap.size w w'
end
section
open Go.Sort
variable {q:B8} {ps:P9}
theorem zke (h:(zcr ps q&&qD (zN q))=true):EB (bM (zN q))/\(bM (zN q)).2.length<=4:=by
 have mU:zic q=true:=by
  unfold zcr at h;simp only[Bool.and_eq_true] at h;exact h.1.1
 have hw:zl8 (pa (zN q)).p (pa (zN q)).ts:=z5j (q:=q) (by rw[z2l,if_pos mU]);refine⟨⟨hw.pd,λ x hx=>?_⟩,by have:=hw.eJ;simpa[pa,bM] using this⟩;obtain⟨t,ht,rfl⟩:=List.mem_map.1 hx;exact hw.ts (ed t) (List.mem_map.2 ⟨t,ht,rfl⟩)
variable {t:Th}
theorem ydq (h:EB t)(hf:t.2.length<=4):zdu t:=
 ⟨by have:=h.pd.le;show t.1.size<=_;omega,hf,λ x hx=>by have:=(h.ts x hx).le;omega,λ x hx=>(h.ts x hx).ne⟩
theorem z7s (t:Th)(h:zec ps q=some t):zdu t:=by
 rw[zwq] at h
 split at h
 ·rename_i bQ;obtain rfl:=Option.some.inj h;exact ydq (zke bQ).1 (zke bQ).2
 ·cases h
theorem z50 (h:(zcr ps q&&qD (zN q))=true):(jG (zN q)).length<=1000000000:=by
 obtain⟨hw,h3⟩:=zke h;have e:(jG (zN q)).length=(zaw (bM (zN q)).1 (xA (bM (zN q)))).length:=by
  have:=congrArg (λ x:B8=>x.data.toList.length) (DQ (zN q));simpa[xP,xF] using this
 generalize bM (zN q)=t at *;have h1:=zey (xA t) 0 (λ x hx=>by have:=(hw.ae x hx).le;omega);have h2:(xA t).length=t.2.length:=by unfold xA;simp
 have h4:=hw.pd.le;have h5:=jH t.1;rw[e];unfold zaw;rw[List.length_append,List.length_append];have h6:(if (xA t).length=0 then ([]:List UInt8) else [41]).length<=1:=by split <;> simp
 have h7:(xA t).length*1001<=4*1001:=Nat.mul_le_mul_right _ (by omega);omega
theorem zwm {x:B8}(h:x.data.toList=jG (zN q)):x=xF (bM (zN q)):=by
 rw[<-DQ];unfold xP;rw[<-h]
variable {rp:List PR} {s:B8}
theorem z4d (h:(yW s).1=true)(oW:rp.map (·.R)=(yM s).2.2.1)(lz:∀ r∈rp,r.bs.map (·.1)=r.R.body):z4z (yG s).1 rp:=by
 have g:=zhk h;have e:rp.map (·.R)=(yG s).1.map yN:=by rw[oW,g.rules]
 have hl:(yG s).1.length=rp.length:=by have:=congrArg List.length e;simpa using this.symm
 refine⟨hl,λ i h1 h2=>⟨?_,lz _ (List.getElem_mem h2)⟩⟩;have:=congrArg (λ l:List vY=>l[i]?) e;simp only[List.getElem?_map,List.getElem?_eq_getElem h1,List.getElem?_eq_getElem h2,Option.map_some,Option.some.injEq] at this;exact this
theorem zoy {l:List zP}:∀ (b:List zL) (now:List Way) (m:Nat),(∀ x∈now,x.2.length<=m/\∀ z∈x.2,z<l.length)->∀ y∈zip l b now,y.2.length<=m+b.length/\∀ z∈y.2,z<l.length
 | [],_,_,h,y,hy=>by simpa using h y hy
 | a::r,now,m,h,y,hy=>by
  rw[zip] at hy
  split at hy
  ·have:=zoy r now m h y hy;exact⟨by have:=this.1;simp;omega,this.2⟩
  ·have:=zoy r (zgk a l now) (m+1) (λ x hx=>by
    obtain⟨u,hu,hx⟩:=List.mem_flatMap.1 hx;obtain⟨k,hk,e,_,rfl⟩:=zg4 l 0 hx;have hu:=h u hu;refine⟨by simp;exact hu.1,λ z hz=>?_⟩;rcases List.mem_append.1 hz with hz | hz
    ·exact hu.2 z hz
    ·rw[List.mem_singleton] at hz
     omega) y hy
   exact⟨by have:=this.1;simp;omega,this.2⟩
variable {l:List zP} {limit:Nat} {S:Nat->Nat}
theorem yas (h:(yW s).1=true)(hl:limit<=50)(aO:zkk (zT s).2 S (yG s).1 limit (lQ S (zT s).2.length) 0 [] (some l)):∀ f∈l,f.fr.length<=3/\∀ x∈f.fr,x<l.length:=by
 have g:=zhk h;have hT:=zvk hl aO (px.nil _ _ _) (by simp) l rfl;intro f hf;obtain⟨l0,r,e,_,_,_,hF⟩:=hT.each f hf;obtain⟨R,Pr,_,⟨y,hy,Jh,_⟩,_⟩:=hF.has;have hb:R.body.length<=3:=by
  have:=g.body (yN R) (by rw[g.rules];exact List.mem_map_of_mem (List.mem_of_getElem? Pr));simpa[yN] using this
 obtain⟨h1,h2⟩:=zoy R.body [([],[])] 0 (by simp) y (List.mem_filter.1 hy).1;rw[Jh] at h1 h2;refine⟨by omega,λ x hx=>?_⟩;have:=h2 x hx;rw[e,List.length_append];omega
noncomputable def ycr (ps:P9)(rp:List PR)(Sp:B8->Nat)(K:List (Th × Nat))(O:List Pl):Nat->Nat × List Nat:=open Classical in λ i=>if h:(∃ r,zuf ps Sp rp K O r)/\i<O.length then h.1.choose i else (0,[])
variable {K:List (Th × Nat)} {Sp:B8->Nat}
theorem ztu (h:zuf ps Sp rp K (l.map plF) (ziq l)):ycr ps rp Sp K (l.map plF)=ziq l:=by
 funext i
 unfold ycr
 split
 ·rename_i hx;have h1:=hx.1.choose_spec.least i hx.2;have h2:=h.least i hx.2;obtain⟨e1,e2⟩:=h1.uniq h2;exact Prod.ext e1 e2
 ·rename_i hx;have:¬ i<l.length:=λ c=>hx ⟨⟨_,h⟩,by simpa using c⟩
  unfold ziq;rw[List.getElem?_eq_none (by omega)]
theorem ybo (h:zuf ps Sp rp K (l.map plF) (ziq l)):zuf ps Sp rp K (l.map plF) (ycr ps rp Sp K (l.map plF)):=by rw[ztu h];exact h
theorem zhv (h:(yW s).1=true)(oW:rp.map (·.R)=(yM s).2.2.1)(lz:∀ r∈rp,r.bs.map (·.1)=r.R.body)(hv:zez (zT s).2 (yG s).1 S)(bc:Low (zT s).2 (yG s).1 S)(h1:zd1 (rp.map (·.R)) Sp)(h2:z56 (rp.map (·.R)) Sp){m:Nat}(hl:limit<=50)(hc:zfa (zT s).2 Sp m){r:Option (List zP)}(aO:zkk (zT s).2 S (yG s).1 limit (lQ S (zT s).2.length) 0 [] r)(mX:zd9 rp Sp limit m 0 [] (some K)):(∀ k,0<=zM (zT s).2 k->Sp k=S (qJ (zT s).2 k))/\∃ l,r=some l/\l.length<=50/\gp (zT s).2 K l/\px (zT s).2 S (yG s).1 l/\∀ f∈l,f.s=Sp (bM f.aj).1:=by
 have g:=zhk h;have hR:=zmw h oW lz;have hI:=z4d h oW lz;have aS:∀ R∈(yG s).1,0<=zM (zT s).2 R.head.pred:=λ R hR=>g.all _ (List.mem_flatMap.2 ⟨R,hR,List.mem_cons_self⟩)
 have gD:∀ k,0<=zM (zT s).2 k->Sp k=S (qJ (zT s).2 k):=λ k hk=>by
  rw[oW,g.rules] at h1 h2;exact zr2 g.all hv bc h1 h2 k hk
 rcases ztx hR g.once aS gD hl hc aO mX with⟨_,e⟩ | ⟨l,K1,rfl,e2,hS,hle⟩
 ·cases e
 ·obtain rfl:=Option.some.inj e2;have hT:=zvk hl aO (px.nil _ _ _) (by simp) l rfl;refine⟨gD,l,rfl,by omega,hS,hT,λ f hf=>?_⟩;obtain⟨_,_,_,_,_,_,hs,_⟩:=hT.least hR hI hS hf
  have hn:0<=zM (zT s).2 f.aj.pred:=zii.1 (by
   have:yY (zT s).2 f.aj.pred=some (bM f.aj).2.length:=(hS.dQ f hf).num
   rw[this];rfl)
  rw[hs];exact (gD _ hn).symm
theorem yce (n:Nat × List Nat):(uz n).length=1+n.2.length:=by unfold uz;simp;omega
theorem zw8 {m:Nat}:∀ (ns:List (Nat × List Nat)),(∀ x∈ns,x.2.length<=m)->(ns.flatMap uz).length<=ns.length*(1+m)
 | [],_=>by simp
 | x::r,h=>by
  have h1:=zw8 r (λ y hy=>h y (List.mem_cons_of_mem _ hy));have h2:=h x List.mem_cons_self;rw[List.flatMap_cons,List.length_append,yce,List.length_cons,Nat.succ_mul];omega
theorem zv0 {S:B8->Nat}{rea:Nat->Nat × List Nat}{O:List Pl}(h:∀ i,i<O.length->(rea i).2.length<=3)(hO:O.length<=50):(zdw ps S K t rea O).length<=1000:=by
 have h1:=zw6 ps S K t rea O;have h2:=zw8 (m:=3) (z9b ps S K t rea O) (z1c h);unfold zdw zfw;simp only[List.length_cons];omega
inductive Iz (w w' wr B2:W8):Ending->Value->Nat->Prop
 | mk {v h:Int} {n:Nat} {bs:List Nat} {a b:O8} {c d:Nat}:bs.length<=1000->w'.ownsRow w.heap.size 5 1 (.slice a bs.length c) bs.length (bs.map u8c)->B2.ownsRow wr.heap.size 5 1 (.slice b bs.length d) bs.length (bs.map u8c)->Iz w w' wr B2 (.returned (.tuple #[.agg #[.int .i64 v,.int .i64 h,.slice a bs.length c],.int .i64 (n:Nat)])) (zir v h (.slice b bs.length d)) n
theorem Iz.no (w w' wr B2:W8)(n:Nat):Iz w w' wr B2 (.returned (.tuple #[.agg #[.int .i64 0,.int .i64 0,.slice none 0 0],.int .i64 (n:Nat)])) (zir 0 0 (.slice none 0 0)) n:=
 .mk (bs:=[]) (by simp) (World.ownsRow_nil _ _ _ _) (World.ownsRow_nil _ _ _ _)
theorem z4c (h:(yW s).1=true)(oW:rp.map (·.R)=(yM s).2.2.1)(lz:∀ r∈rp,r.bs.map (·.1)=r.R.body)(hv:zez (zT s).2 (yG s).1 S)(bc:Low (zT s).2 (yG s).1 S){limit:Int}{w w' wr B2:W8}{e:Ending}{v:Value}{n:Nat}(hP:yx w rp (zT s).2 q limit (ycr (zT s).2 rp) w' e)(hQ:vh wr (zT s).2 S (yG s).1 q limit B2 v n):Iz w w' wr B2 e v n:=by
 have g:=zhk h;have hR:=zmw h oW lz;have hI:=z4d h oW lz;have ow:=zwq (zT s).2 q;have hl:∀ {l:Int},uA l=true->1<=l/\l<=50:=λ h=>zo3 h
 have nV:∀ {l:Int},uA l=false->¬ (1<=l/\l<=50):=λ h c=>by
  unfold uA at h;simp at h;omega
 cases hP with
 | arg h1=>
  have:=nV h1
  cases hQ with
  | arg _=>exact .no _ _ _ _ 8
  | ask a b _=>exact absurd ⟨a,b⟩ this
  | fF a b _ _=>exact absurd ⟨a,b⟩ this
  | out a b _ _ _ _ _ _ _=>exact absurd ⟨a,b⟩ this
  | yes a b _ _ _ _ _ _ _=>exact absurd ⟨a,b⟩ this
 | ask h1 h2=>
  have:=hl h1;rw[ow] at h2
  cases hQ with
  | arg a=>omega
  | ask _ _ _=>exact .no _ _ _ _ 6
  | fF _ _ c _=>rw[if_pos c] at h2;cases h2
  | out _ _ c _ _ _ _ _ _=>rw[if_pos c] at h2;cases h2
  | yes _ _ c _ _ _ _ _ _=>rw[if_pos c] at h2;cases h2
 | fF h1 h2 CM nD hc aO=>
  have:=hl h1;rw[ow] at h2;have aS:∀ R∈(yG s).1,0<=zM (zT s).2 R.head.pred:=λ R hR=>g.all _ (List.mem_flatMap.2 ⟨R,hR,List.mem_cons_self⟩)
  have gD:=λ k hk=>by
   have h3:=CM;have h4:=nD;rw[oW,g.rules] at h3 h4;exact zr2 g.all hv bc h3 h4 k hk
  cases hQ with
  | arg a=>omega
  | ask _ _ c=>rw[c] at h2;cases h2
  | fF _ _ _ _=>exact .no _ _ _ _ 7
  | out _ _ _ mX _ _ _ _ _=>
   rcases ztx hR g.once aS gD (by omega) hc mX aO with⟨e,_⟩ | ⟨_,_,_,e,_⟩ <;> cases e
  | yes _ _ _ mX _ _ _ _ _=>
   rcases ztx hR g.once aS gD (by omega) hc mX aO with⟨e,_⟩ | ⟨_,_,_,e,_⟩ <;> cases e
 | @yes t Sp m K O a c h1 h2 CM nD hc aO mS hO n9 aB=>
  have:=hl h1;rw[ow] at h2
  cases hQ with
  | arg a=>omega
  | ask _ _ c=>rw[c] at h2;cases h2
  | fF _ _ _ mX=>
   obtain⟨_,l,e,_⟩:=zhv h oW lz hv bc CM nD (by omega) hc mX aO
   cases e
  | @out l k x b d _ _ bQ mX BR hx hneg hk pW=>
   obtain⟨gD,l1,e1,-,hS,hT,hs⟩:=zhv h oW lz hv bc CM nD (by omega) hc mX aO;obtain rfl:=Option.some.inj e1;rw[if_pos bQ] at h2;obtain rfl:=Option.some.inj h2;obtain⟨rfl,Gk⟩:=zoz hR hI hS hT hs hO n9;rw[ztu Gk] at aB ⊢;have nU:yS K (bM (zN q))=none:=by
    cases hL:yS K (bM (zN q)) with
    | none=>rfl
    | some n=>
     obtain⟨f,hf,Zk⟩:=(hS.look _).1 (by rw[hL];rfl);refine absurd ?_ ((zll l x).1 hneg f hf);rw[hS.text f hf,Zk,zwm hx]
   have Eu:jM (zT s).2 Sp K (bM (zN q))=k:=by
    unfold jM;rw[hk,nU,show (bM (zN q)).1=(zN q).pred from rfl]
    by_cases hp:0<=zM (zT s).2 (zN q).pred
    ·rw[if_pos (zii.2 hp),if_pos hp];exact congrArg (·+1) (gD _ hp)
    ·rw[if_neg (λ c=>hp (zii.1 c)),if_neg hp]
   have he:=z69 hR hI hS hT (Sp:=Sp) nU;rw[Eu] at he;rw[nU];have hle:=zv0 (ps:=(zT s).2) (S:=Sp) (K:=K) (t:=bM (zN q)) (λ i hi=>Gk.len i hi) (by simpa using BR);rw[he] at aB hle ⊢;exact .mk (v:=2) (h:=0) (n:=0) hle aB pW
  | @yes l f x b d _ _ bQ mX BR hx Ey hf pW=>
   obtain⟨gD,l1,e1,-,hS,hT,hs⟩:=zhv h oW lz hv bc CM nD (by omega) hc mX aO;obtain rfl:=Option.some.inj e1;rw[if_pos bQ] at h2;obtain rfl:=Option.some.inj h2;obtain⟨rfl,Gk⟩:=zoz hR hI hS hT hs hO n9;rw[ztu Gk] at aB ⊢;have ht:bM l[f].aj=bM (zN q):=by
    obtain⟨_,h5⟩:=z15 Ey;rw[hS.text _ (List.getElem_mem hf),zwm hx] at h5;exact zd6 (hS.dQ _ (List.getElem_mem hf)).w (zke bQ).1 h5
   obtain⟨Eu,aF,he⟩:=ybc hS hs hf ht;have MN:lH l f=l[f].h:=(by unfold lH;rw[List.getElem?_eq_getElem hf];rfl);have hle:=zv0 (ps:=(zT s).2) (S:=Sp) (K:=K) (t:=bM (zN q)) (λ i hi=>Gk.len i hi) (by simpa using BR);rw[aF];rw[he] at aB hle ⊢;rw[MN];exact .mk (v:=1) (h:=(l[f].h:Nat)) (n:=0) hle aB pW
end
end Go.Proofs.YtldkpahaocjdpaaGreat
