/-
  The program's table of predicates: add, ground.
-/
import Derived.Test.YtldkpahaocjdpaaGreatR16
set_option maxHeartbeats 16000000
set_option maxRecDepth 1000000
namespace Go.Proofs.YtldkpahaocjdpaaGreat
section
open Go.RowKit Go.Maps
def stV (ps:P9)(S:B8->Nat):B8->Option Value:=λ k=>(zV ps k).map λ n=>Value.agg #[.string k,.int .i64 (S k),.int .i64 n]
variable {n:Nat}
theorem zjb {ps:P9}{nm:B8}(h:zd1 ps nm n=true)(k:B8):zV (zan ps nm n) k=if k=nm then some n else zV ps k:=by
 rw[qK] at h;rw[zls]
 by_cases e:k=nm
 ·subst e;rw[if_pos rfl]
  cases hn:zV ps k with
  | none=>rw[if_pos (by rfl),zfx,hn];simp
  | some m=>
   rw[hn] at h;simp at h;rw[if_neg (by simp),hn,h]
 ·rw[if_neg e]
  cases hn:zV ps nm with
  | none=>
   rw[if_pos (by rfl),zfx];have:¬ (nm.toList==k.toList)=true:=λ h=>e ((yB.1 h).symm)
   cases zV ps k with
   | none=>simp only[if_neg this]
   | some m=>rfl
  | some m=>rw[if_neg (by simp)]
theorem ycx (ps:P9)(nm:B8)(n:Nat)(h:zd1 ps nm n=true):z1c (stV ps (λ _=>0)) nm (.agg #[.string nm,.int .i64 0,.int .i64 n])=stV (zan ps nm n) (λ _=>0):=by
 funext k
 unfold stV;rw[zjb h]
 by_cases e:k=nm
 ·subst e;rw[zal,if_pos rfl];rfl
 ·rw[jR e,if_neg e]
structure ko (w:W8)(b n:Nat)(V:B8->Option Value)(wr:W8):Prop where
 map:qQ Tryz.prog 9 wr b n V
 kept:yA [b] w wr
variable {wr w:W8} {V:B8->Option Value} {b:Nat}
theorem ko.alloc (h:ko w b n V wr)(o:Obj):ko w b n V (wr.alloc o):=⟨h.map.alloc o,h.kept.alloc o⟩
theorem ko.put {m:Nat}{V':B8->Option Value}{w1:W8}(h:ko w b n V wr)(hm:qQ Tryz.prog 9 w1 b m V')(hg:wr.grownBy w1 (some b)):ko w b m V' w1:=
 ⟨hm,h.kept.trans ⟨hg.os,hg.tape,hg.output,hg.size,λ k hk hn=>hg.block k hk (by simp at hn ⊢;exact hn)⟩⟩
theorem z10 (w:W8)(b n:Nat)(ps:P9)(pd:B8)(a:O8)(nt c:Nat)(h:qQ Tryz.prog 9 w b n (stV ps (λ _=>0)))(hn:n<=100000)(hp:pd.size<=800)(hb:zd1 ps pd nt=true):
  Calls Tryz.prog 97 #[.map (some b),.agg #[.string pd,.slice a nt c]] w λ e w'=>e=.returned (.tuple #[])/\qQ Tryz.prog 9 w' b (n+1) (stV (zan ps pd nt) (λ _=>0))/\yA [b] w w':=by
 have h0:ko w b n (stV ps (λ _=>0)) (w.alloc (.cells #[.string pd,.slice a nt c] 79)):=ko.alloc ⟨h,yA.refl _ _⟩ _;have aq:=h0.map;have du:pd.size<=maxLen:=by unfold maxLen;omega
 have HT:=zC h0;have HP:=zC (ycx ps pd nt hb);clear h h0 hb;go_enter Tryz.func97,Tryz.ntmps97;go_wp2_with (at_mapUpdate;refine zpu _ rfl _ _ _ 73 rfl 9 185 Tryz.underlying9 Tryz.underlying73 b n (stV ps (λ _=>0)) rfl aq (by unfold maxLen;omega) pd (.agg #[.string pd,.int .i64 0,.int .i64 nt]) (by rfl) (by rfl) du ?_);intro w2 eG dd;have oh:=(zA HT).put eG dd;rw[zA HP] at oh;have tM:=zC oh;clear HT eG dd aq oh;go_wp2_with fail;go_end0;exact⟨rfl,(zA tM).map,(zA tM).kept⟩
def xS (R:yH):P9:=(R.pd,R.ts.length)::R.body.map λ l=>(l.pd,l.ts.length)
def j7:P9->P9->P9
 | [],ps=>ps
 | x::r,ps=>j7 r (zan ps x.1 x.2)
def qS:P9->P9->Prop
 | [],_=>True
 | x::r,ps=>zd1 ps x.1 x.2=true/\qS r (zan ps x.1 x.2)
theorem zcj (m:P9):∀ (l ps:P9),j7 (l++m) ps=j7 m (j7 l ps)
 | [],_=>rfl
 | _::r,_=>zcj m r _
theorem zdr (m:P9):∀ (l ps:P9),qS (l++m) ps↔qS l ps/\qS m (j7 l ps)
 | [],ps=>by simp[qS,j7]
 | x::r,ps=>by rw[List.cons_append,qS,qS,zdr m r,j7,and_assoc]
def zbn (ls:List (yR × Value)):P9:=ls.map λ x=>(x.1.pd,x.1.ts.length)
theorem z4c {r:PR}{base:Nat}(h:bu w base r):xS r.R=(r.R.pd,r.R.ts.length)::zbn r.bs:=by
 unfold xS zbn;rw[<-h.eq,List.map_map];rfl
theorem zzj (w:W8)(base:Nat)(ar:O8)(cr:Nat)(rs:List PR)(h:aD w base (.slice ar rs.length cr) rs)(iG:rs.length<=30)(cE:∀ r∈rs,r.bs.length<=3)(eN:∀ r∈rs,r.R.pd.size<=800)(kX:∀ r∈rs,∀ x∈r.bs,x.1.pd.size<=800)(kc:qS ((rs.map (·.R)).flatMap xS) []):
  Calls Tryz.prog 55 #[.slice ar rs.length cr] w λ e w'=>e=.returned (.map (some w.heap.size))/\w.heap.size<w'.heap.size/\Below w.heap.size w w'/\qQ Tryz.prog 9 w' w.heap.size (4*rs.length) (stV (j7 ((rs.map (·.R)).flatMap xS) []) (λ _=>0)):=by
 have bz:=@run_makeMap Tryz.prog;have h0:qQ Tryz.prog 9 (w.alloc (.map #[] 0)) w.heap.size 0 (stV [] (λ _=>0)):=qQ.made _ _ w;have b0:Below w.heap.size w (w.alloc (.map #[] 0)):=B9.alloc L9 _;have HR:=zC h;have GX:=zC kc;clear h kc;go_enter Tryz.func55,Tryz.ntmps55;go_wp2_with fail
 go_loopg [11] rs.length (λ gg i wr=>∃ k:Nat,k<=rs.length/\gg=rs.length-k/\i=.int .i64 k/\Below w.heap.size w wr/\w.heap.size<wr.heap.size/\qQ Tryz.prog 9 wr w.heap.size (4*k) (stV (j7 (((rs.map (·.R)).take k).flatMap xS) []) (λ _=>0)))
 exact⟨0,Nat.zero_le _,rfl,rfl,b0,by simp,h0⟩
 case round=>
  clear h0 b0;obtain⟨k,hk,fM,rfl,hB,hsz,hm⟩:=hrel
  by_cases aN:k<rs.length
  ·have fV:=(zA HR).below hB;obtain⟨gr,oJ,nM,oS,o5,pn,oY,fL⟩:=vE zme fV.row k aN;injection nM with h4 h5 h6
   subst h4 h6;have ak:=(zA HR).each _ (List.getElem_mem aN);obtain⟨ah,ch,nz⟩:=zE ak.hd;obtain⟨ab,cb,iB⟩:=zE ak.bo.row;have r0:=fL 0 (by omega);have r1:=fL 1 (by omega);have r2:=fL 2 (by omega);simp only[PR.cells,nz,iB,Nat.add_zero,List.getElem?_cons_zero,List.getElem?_cons_succ] at r0 r1 r2;have eL:=ak.bo;rw[iB] at eL;have rG:=zC eL;have mJ:=eN _ (List.getElem_mem aN);have ja:=cE _ (List.getElem_mem aN);have uC:=kX _ (List.getElem_mem aN);have me:((rs.map (·.R)).take (k+1)).flatMap xS=((rs.map (·.R)).take k).flatMap xS++((rs[k].R.pd,rs[k].R.ts.length)::zbn rs[k].bs):=by
    rw[zji aN,List.flatMap_append];simp[z4c ak]
   have LK:qS (((rs.map (·.R)).take k).flatMap xS++((rs[k].R.pd,rs[k].R.ts.length)::zbn rs[k].bs)) []:=by
    have:=zA GX;rw[<-List.take_append_drop (k+1) (rs.map (·.R)),List.flatMap_append,zdr,me] at this;exact this.1
   rw[zdr,qS] at LK;obtain⟨_,LL,LM⟩:=LK;have Eu:=zC (congrArg (λ l=>j7 l []) me);generalize gj:j7 (((rs.map (·.R)).take k).flatMap xS) []=ps at *;have BA:=zC (show j7 (((rs.map (·.R)).take (k+1)).flatMap xS) []=j7 (zbn rs[k].bs) (zan ps rs[k].R.pd rs[k].R.ts.length) by rw[show j7 (((rs.map (·.R)).take (k+1)).flatMap xS) []=_ from zA Eu,zcj,gj];rfl);have bA:=(Below.refl wr.heap.size wr).alloc L9 (.cells #[.string rs[k].R.pd,.slice ah rs[k].R.ts.length ch,.slice ab rs[k].bs.length cb] 123);have ot:(wr.alloc (.cells #[.string rs[k].R.pd,.slice ah rs[k].R.ts.length ch,.slice ab rs[k].bs.length cb] 123)).heap[wr.heap.size]?=_:=heap_alloc_new wr _;have gS:=hB.trans (bA.mono (by omega));have fa:=hm.alloc (.cells #[.string rs[k].R.pd,.slice ah rs[k].R.ts.length ch,.slice ab rs[k].bs.length cb] 123);have Lj:=zC LM;clear fL ak nz iB eL fV me Eu hB hm bA LM gj;go_wp2_with fail;refine (z10 _ w.heap.size (4*k) ps rs[k].R.pd ah rs[k].R.ts.length ch fa (by omega) mJ LL).mono ?_;rintro e w2 ⟨rfl,eG,cN⟩;have pA:=yY ot cN (by simp;omega);have bZ:=cN.size;rw[World.size_alloc] at bZ;have mx:=yE gS cN (by simp;omega) (by simp);obtain⟨x2,DU⟩:=zB pA 2;clear ot cN gS fa r0 r1 r2 LL;generalize zan ps rs[k].R.pd rs[k].R.ts.length=ps1 at *;generalize lH:wr.heap.size=n1 at *;go_wp2_with fail
   go_loopg [22] rs[k].bs.length (λ gg2 j wj=>∃ (jj:Nat),jj<=rs[k].bs.length/\gg2=rs[k].bs.length-jj/\j=.int .i64 jj/\Below w.heap.size w wj/\n1<wj.heap.size/\qQ Tryz.prog 9 wj w.heap.size (4*k+1+jj) (stV (j7 ((zbn rs[k].bs).take jj) ps1) (λ _=>0))/\qS ((zbn rs[k].bs).drop jj) (j7 ((zbn rs[k].bs).take jj) ps1))
   exact⟨0,Nat.zero_le _,rfl,rfl,mx,by omega,eG,by simpa[j7] using zA Lj⟩
   case round=>
    clear mx eG pA x2 DU Lj;obtain⟨j,hj,uo,rfl,hB,nK,hm,kc⟩:=hrel
    by_cases ij:j<rs[k].bs.length
    ·have ei:=(zA rG).below hB;obtain⟨g,cap,hv,iC,dp,dG,dx,hc⟩:=vE zte ei.row j ij;injection hv with h1 h2 h3
     subst h1 h3;obtain⟨ag,fJ,gU⟩:=zE (ei.each _ (List.getElem_mem ij));have q0:=hc 0 (by omega);have q1:=hc 1 (by omega);have q2:=hc 2 (by omega);simp only[yR.cells,gU,Nat.add_zero,List.getElem?_cons_zero,List.getElem?_cons_succ] at q0 q1 q2;have yy:(zbn rs[k].bs).drop j=(rs[k].bs[j].1.pd,rs[k].bs[j].1.ts.length)::(zbn rs[k].bs).drop (j+1):=by
      rw[List.drop_eq_getElem_cons (by simpa[zbn] using ij)];simp[zbn]
     have gZ:(zbn rs[k].bs).take (j+1)=(zbn rs[k].bs).take j++[(rs[k].bs[j].1.pd,rs[k].bs[j].1.ts.length)]:=by
      rw[List.take_succ_eq_append_getElem (by simpa[zbn] using ij)];simp[zbn]
     rw[yy,qS] at kc;obtain⟨LN,LO⟩:=kc;have FY:=uC _ (List.getElem_mem ij);have AU:=zC (show qS ((zbn rs[k].bs).drop (j+1)) (j7 ((zbn rs[k].bs).take (j+1)) ps1) by rw[gZ,zcj];exact LO);have fU:=zC (show zan (j7 ((zbn rs[k].bs).take j) ps1) rs[k].bs[j].1.pd rs[k].bs[j].1.ts.length=j7 ((zbn rs[k].bs).take (j+1)) ps1 by rw[gZ,zcj];rfl);have bA:=(Below.refl wr.heap.size wr).alloc L9 (.cells #[.bool rs[k].bs[j].1.neg,.string rs[k].bs[j].1.pd,.slice ag rs[k].bs[j].1.ts.length fJ] 183);have gS:=hB.trans (bA.mono (by omega));have fa:=hm.alloc (.cells #[.bool rs[k].bs[j].1.neg,.string rs[k].bs[j].1.pd,.slice ag rs[k].bs[j].1.ts.length fJ] 183);clear hc gU ei yy gZ LO hB hm bA;go_wp2_with fail;refine (z10 _ w.heap.size (4*k+1+j) (j7 ((zbn rs[k].bs).take j) ps1) rs[k].bs[j].1.pd ag rs[k].bs[j].1.ts.length fJ fa (by omega) FY LN).mono ?_;rintro e w3 ⟨rfl,ey,fB⟩;have pO:=fB.size;rw[World.size_alloc] at pO;have iz:=yE gS fB (by simp;omega) (by simp);rw[zA fU] at ey;have mW:=zC ey;clear fB gS fa q0 q1 q2 LN ey;go_wp2_with fail;go_roundg (rs[k].bs.length-(j+1));exact⟨j+1,by omega,rfl,by go_num,iz,by omega,zA mW,zA AU⟩;omega
    ·have gZ:(zbn rs[k].bs).take j=zbn rs[k].bs:=List.take_of_length_le (by simp[zbn];omega);rw[gZ] at hm;have HM:=zC (hm.mono (m:=4*(k+1)) (by omega));clear hm gZ kc;go_wp2_with fail;go_roundg (rs.length-(k+1));exact⟨k+1,by omega,rfl,by go_num,hB,by omega,by rw[zA BA];exact zA HM⟩;omega
  ·have e:(rs.map (·.R)).take k=rs.map (·.R):=List.take_of_length_le (by simp;omega);have ek:k=rs.length:=(by omega);rw[e,ek] at hm;have HM:=zC hm;clear hm e;go_wp2_with fail;go_ret;exact⟨rfl,hsz,hB,zA HM⟩
end
section
open Go.RowKit Go.Maps
def zrr (S:B8->Nat):List yR->Nat->Nat
 | [],m=>m
 | l::r,m=>zrr S r (max m (S l.pd+if l.neg then 1 else 0))
open Classical in
noncomputable def ycv (S:B8->Nat)(k:B8)(v:Nat):B8->Nat:=λ x=>if x=k then v else S x
theorem zfm (S:B8->Nat)(k:B8)(v:Nat):ycv S k v k=v:=by simp[ycv]
variable {S:B8->Nat}
theorem zf5 {k x:B8}{v:Nat}(h:x≠k):ycv S k v x=S x:=by simp[ycv,h]
noncomputable def zgq (S:B8->Nat)(R:yH):B8->Nat:=ycv S R.pd (zrr S R.body (S R.pd))
variable {m:Nat}
theorem z59 {ls:List (yR × Value)}{k:Nat}(h:k<ls.length):zrr S ((ls.map (·.1)).drop k) m=zrr S ((ls.map (·.1)).drop (k+1)) (max m (S ls[k].1.pd+if ls[k].1.neg then 1 else 0)):=by
 rw[List.drop_eq_getElem_cons (by simpa using h),zrr];simp
theorem ycy (ps:P9)(S:B8->Nat)(nm:B8)(n v:Nat)(h:zV ps nm=some n):z1c (stV ps S) nm (.agg #[.string nm,.int .i64 v,.int .i64 n])=stV ps (ycv S nm v):=by
 funext k
 unfold stV
 by_cases e:k=nm
 ·subst e;rw[zal,h,zfm];rfl
 ·rw[jR e,zf5 e]
variable {n:Nat}
theorem yat {ps:P9}{nm:B8}(S:B8->Nat)(h:zV ps nm=some n):(stV ps S nm).getD (.agg #[.string { data:=#[] },.int .i64 0,.int .i64 0])=.agg #[.string nm,.int .i64 (S nm),.int .i64 n]:=by
 unfold stV;rw[h];rfl
theorem zrl (S:B8->Nat):∀ (l:List yR) (m:Nat),m<=zrr S l m
 | [],_=>Nat.le_refl _
 | _::r,_=>Nat.le_trans (Nat.le_max_left _ _) (zrl S r _)
theorem z58 {S:B8->Nat}{c:Nat}:∀ (l:List yR) (m:Nat),m<=c->(∀ x∈l,(S x.pd+if x.neg then 1 else 0)<=c)->zrr S l m<=c
 | [],_,h,_=>h
 | x::r,_,h,hl=>z58 r _ (Nat.max_le.2 ⟨h,hl x List.mem_cons_self⟩) (λ y hy=>hl y (List.mem_cons_of_mem _ hy))
theorem zyo {S:B8->Nat}:∀ (l:List yR) (m:Nat),∀ x∈l,(S x.pd+if x.neg then 1 else 0)<=zrr S l m
 | [],_,_,hx=>by cases hx
 | _::r,_,x,hx=>by
  rcases List.mem_cons.1 hx with rfl | hx
  ·exact Nat.le_trans (Nat.le_max_right _ _) (zrl S r _)
  ·exact zyo r _ x hx
theorem zht (x y z:Value)(w:W8):Sem.run Tryz.prog (Instr.field 185 (.agg #[x,y,z]) 1) w=.ok y w:=by kernel_rfl
structure Nh (w:W8)(b n:Nat)(V:B8->Option Value)(pd:B8)(nt m:Nat)(wr:W8):Prop where
 map:qQ Tryz.prog 9 wr b n V
 below:Below w.heap.size w wr
 size:w.heap.size+1<wr.heap.size
 BT:wr.heap[w.heap.size+1]?=some (.cells #[.string pd,.int .i64 m,.int .i64 nt] 185 (0,0))
theorem Nh.next {w:W8}{b:Nat}{V:B8->Option Value}{pd:B8}{nt:Nat}{wr:W8}(h:Nh w b n V pd nt m wr)(hb:b<w.heap.size)(x:Int)(m':Nat)(hx:x=m')(o:Obj):
  Nh w b n V pd nt m' ((wr.setCell ⟨w.heap.size+1,1,none⟩ (.int .i64 x)).alloc o):=by
 subst hx;refine⟨(h.map.block (Below.heap_setCell _ _ _ _ (by simp;omega))).alloc o,(h.below.setCell (by simp) _).alloc ?_ o,?_,?_⟩
 ·have:=h.size;simp[World.setCell];omega
 ·have:=h.size;rw[World.size_alloc];simp[World.setCell];omega
 ·have:=h.size;rw[Below.heap_alloc _ _ _ (by simp[World.setCell];omega),heap_setCell_same _ _ _ _ _ _ h.BT];rfl
theorem z4u (w:W8)(b n base:Nat)(ps:P9)(S:B8->Nat)(pd:B8)(ah:O8)(nh ch:Nat)(ab:O8)(cb:Nat)(ls:List (yR × Value))(h:qQ Tryz.prog 9 w b n (stV ps S))(hL:aL w base (.slice ab ls.length cb) ls)(hn:n<=1000000000)(hp:pd.size<=800)(nt:Nat)(KU:zV ps pd=some nt)(kX:∀ x∈ls,x.1.pd.size<=800/\∃ m,zV ps x.1.pd=some m)(hS:∀ k,S k<=100000)(oo:ls.length<=1000):
  Calls Tryz.prog 56 #[.map (some b),.agg #[.string pd,.slice ah nh ch,.slice ab ls.length cb]] w λ e w'=>e=.returned (.bool (decide (S pd<zrr S (ls.map (·.1)) (S pd))))/\qQ Tryz.prog 9 w' b (n+1) (stV ps (ycv S pd (zrr S (ls.map (·.1)) (S pd))))/\yA [b] w w':=by
 have yh:=h.lt;have bA:=(Below.refl w.heap.size w).alloc L9 (.cells #[.string pd,.slice ah nh ch,.slice ab ls.length cb] 123);have aq:=h.alloc (.cells #[.string pd,.slice ah nh ch,.slice ab ls.length cb] 123);have du:pd.size<=maxLen:=by unfold maxLen;omega
 have hu:=yat S KU;have sD:=aq.alloc (.cells #[.string pd,.int .i64 (S pd),.int .i64 nt] 185);have bB:=bA.alloc (by simp) (.cells #[.string pd,.int .i64 (S pd),.int .i64 nt] 185);have kS:((w.alloc (.cells #[.string pd,.slice ah nh ch,.slice ab ls.length cb] 123)).alloc (.cells #[.string pd,.int .i64 (S pd),.int .i64 nt] 185)).heap[w.heap.size+1]?=some (.cells #[.string pd,.int .i64 (S pd),.int .i64 nt] 185 (0,0)):=by
  have:=heap_alloc_new (w.alloc (.cells #[.string pd,.slice ah nh ch,.slice ab ls.length cb] 123)) (.cells #[.string pd,.int .i64 (S pd),.int .i64 nt] 185);rw[World.size_alloc] at this;exact this
 have hSp:=hS pd;have HL:=zC hL;clear h hL;have uk:=zht;go_enter Tryz.func56,Tryz.ntmps56;go_wp2_with (at_lookup;refine zcv _ rfl _ _ 73 rfl 9 185 Tryz.underlying9 Tryz.underlying73 (Tryz.zeroValue185 _) b n (stV ps S) rfl aq pd rfl du _ hu ?_);clear aq bA
 go_loopg [20] ls.length (λ gg i wr=>∃ (k m:Nat),k<=ls.length/\gg=ls.length-k/\i=.int .i64 k/\Nh w b n (stV ps S) pd nt m wr/\S pd<=m/\m<=100001/\zrr S ((ls.map (·.1)).drop k) m=zrr S (ls.map (·.1)) (S pd))
 exact⟨0,S pd,Nat.zero_le _,rfl,rfl,⟨sD,bB,by simp,kS⟩,Nat.le_refl _,by omega,rfl⟩
 case round=>
  clear sD bB kS;obtain⟨k,m,hk,fM,rfl,hR,hSm,eG,sR⟩:=hrel;have hm:=hR.map;have hB:=hR.below;have hsz:=hR.size;have kS:=hR.BT;have HR:=zC hR;clear hR;obtain⟨x0,ou⟩:=zB kS 0;obtain⟨x1,ov⟩:=zB kS 1;obtain⟨x2,DU⟩:=zB kS 2
  by_cases aN:k<ls.length
  ·have dj:=z59 (S:=S) (m:=m) aN;have HU:=zC (dj.symm.trans sR);clear dj sR;have qe:=(zA HL).below hB;obtain⟨g,cap,hv,iC,dp,dG,dx,hc⟩:=vE zte qe.row k aN;injection hv with h1 h2 h3
   subst h1 h3;obtain⟨ag,fJ,gU⟩:=zE (qe.each _ (List.getElem_mem aN));have q0:=hc 0 (by omega);have q1:=hc 1 (by omega);have q2:=hc 2 (by omega);simp only[yR.cells,gU,Nat.add_zero,List.getElem?_cons_zero,List.getElem?_cons_succ] at q0 q1 q2;obtain⟨FY,mq,JM⟩:=kX _ (List.getElem_mem aN);have F0:ls[k].1.pd.size<=maxLen:=(by unfold maxLen;omega);have Ge:=yat S JM;have hSq:=hS ls[k].1.pd;have nE:=hm.alloc (.cells #[.bool ls[k].1.neg,.string ls[k].1.pd,.slice ag ls[k].1.ts.length fJ] 183);clear hc gU qe hm hB kS
   cases eH:ls[k].1.neg with
   | true=>
    rw[eH] at q0 nE HU;go_wp2_with (at_lookup;refine zcv _ rfl _ _ 73 rfl 9 185 Tryz.underlying9 Tryz.underlying73 (Tryz.zeroValue185 _) b n (stV ps S) rfl nE ls[k].1.pd rfl F0 _ Ge ?_);have hN:=(zA HR).next yh (max (m:Int) ((S ls[k].1.pd:Int)+1)) (max m (S ls[k].1.pd+1)) (by omega) (.cells #[.bool true,.string ls[k].1.pd,.slice ag ls[k].1.ts.length fJ] 183);go_roundg (ls.length-(k+1));exact⟨k+1,max m (S ls[k].1.pd+1),by omega,rfl,by go_num,hN,by omega,by omega,by simpa using zA HU⟩;omega
   | false=>
    rw[eH] at q0 nE HU;go_wp2_with (at_lookup;refine zcv _ rfl _ _ 73 rfl 9 185 Tryz.underlying9 Tryz.underlying73 (Tryz.zeroValue185 _) b n (stV ps S) rfl nE ls[k].1.pd rfl F0 _ Ge ?_);have hN:=(zA HR).next yh (max (m:Int) (S ls[k].1.pd:Int)) (max m (S ls[k].1.pd)) (by omega) (.cells #[.bool false,.string ls[k].1.pd,.slice ag ls[k].1.ts.length fJ] 183);go_roundg (ls.length-(k+1));exact⟨k+1,max m (S ls[k].1.pd),by omega,rfl,by go_num,hN,by omega,by omega,by simpa using zA HU⟩;omega
  ·have hd:(ls.map (·.1)).drop k=[]:=List.drop_eq_nil_of_le (by simp;omega);rw[hd,zrr] at sR;have Ah:=zC sR;have fT:=zC (ycy ps S pd nt m KU);clear hd sR hu kS;go_wp2_with (at_mapUpdate;refine zpu _ rfl _ _ _ 73 rfl 9 185 Tryz.underlying9 Tryz.underlying73 b n (stV ps S) rfl hm (by unfold maxLen;omega) pd (.agg #[.string pd,.int .i64 m,.int .i64 nt]) (by rfl) (by rfl) du ?_);intro w2 eG dd;have oh:=ko.put ⟨hm,(yA.refl _ _).aF hB⟩ eG dd;rw[zA fT,zA Ah] at oh;have tM:=zC oh;have si:w2.heap[w.heap.size+1]?=some (.cells #[.string pd,.int .i64 m,.int .i64 nt] 185 (0,0)):=by
    rw[dd.block _ hsz (by simp;omega)];exact (zA HR).BT
   obtain⟨y1,DY⟩:=zB si 1;clear eG dd oh hm hB si x0 x1 x2 ou ov DU;go_wp2_with fail;go_ret;exact⟨by rw[zA Ah];rfl,(zA tM).map,(zA tM).kept⟩
end
end Go.Proofs.YtldkpahaocjdpaaGreat
