/-
  The program's table of predicates: add, ground.
-/
import Derived.Test.YtldkpahaocjdpaaGreatD15
set_option maxHeartbeats 16000000
set_option maxRecDepth 1000000
namespace Go.Proofs.YtldkpahaocjdpaaGreat
section
open Go.RowKit Go.Maps
def stV (ps:P9)(S:B8->Nat):B8->Option Value:=λ k=>(zZ ps k).map λ n=>Value.agg #[.string k,.int .i64 (S k),.int .i64 n]
variable {n:Nat}
theorem ziu {ps:P9}{nm:B8}(h:zdu ps nm n=true)(k:B8):zZ (zao ps nm n) k=if k=nm then some n else zZ ps k:=by
 rw[qM] at h;rw[zle]
 by_cases e:k=nm
 ·subst e;rw[if_pos rfl]
  cases hn:zZ ps k with
  | none=>rw[if_pos (by rfl),zfq,hn];simp
  | some m=>
   rw[hn] at h;simp at h;rw[if_neg (by simp),hn,h]
 ·rw[if_neg e]
  cases hn:zZ ps nm with
  | none=>
   rw[if_pos (by rfl),zfq];have:¬ (nm.toList==k.toList)=true:=λ h=>e ((zU.1 h).symm)
   cases zZ ps k with
   | none=>simp only[if_neg this]
   | some m=>rfl
  | some m=>rw[if_neg (by simp)]
theorem ybh (ps:P9)(nm:B8)(n:Nat)(h:zdu ps nm n=true):zzi (stV ps (λ _=>0)) nm (.agg #[.string nm,.int .i64 0,.int .i64 n])=stV (zao ps nm n) (λ _=>0):=by
 funext k
 unfold stV;rw[ziu h]
 by_cases e:k=nm
 ·subst e;rw[zal,if_pos rfl];rfl
 ·rw[jR e,if_neg e]
structure iW (w:W8)(b n:Nat)(V:B8->Option Value)(wr:W8):Prop where
 map:qS Tryz.prog 9 wr b n V
 kept:yC [b] w wr
variable {wr w:W8} {V:B8->Option Value} {b:Nat}
theorem iW.alloc (h:iW w b n V wr)(o:Obj):iW w b n V (wr.alloc o):=⟨h.map.alloc o,h.kept.alloc o⟩
theorem iW.put {m:Nat}{V':B8->Option Value}{w1:W8}(h:iW w b n V wr)(hm:qS Tryz.prog 9 w1 b m V')(hg:wr.grownBy w1 (some b)):iW w b m V' w1:=
 ⟨hm,h.kept.trans ⟨hg.os,hg.tape,hg.output,hg.size,λ k hk hn=>hg.block k hk (by simp at hn ⊢;exact hn)⟩⟩
theorem z0a (w:W8)(b n:Nat)(ps:P9)(pd:B8)(a:O8)(nt c:Nat)(h:qS Tryz.prog 9 w b n (stV ps (λ _=>0)))(hn:n<=100000)(hp:pd.size<=800)(hb:zdu ps pd nt=true):
  Calls Tryz.prog 97 #[.map (some b),.agg #[.string pd,.slice a nt c]] w λ e w'=>e=.returned (.tuple #[])/\qS Tryz.prog 9 w' b (n+1) (stV (zao ps pd nt) (λ _=>0))/\yC [b] w w':=by
 have h0:iW w b n (stV ps (λ _=>0)) (w.alloc (.cells #[.string pd,.slice a nt c] 79)):=iW.alloc ⟨h,yC.refl _ _⟩ _;have cA:=h0.map;have du:pd.size<=maxLen:=by unfold maxLen;omega
 have HT:=zC h0;have HP:=zC (ybh ps pd nt hb);clear h h0 hb;go_enter Tryz.func97,Tryz.ntmps97;go_wp2_with (at_mapUpdate;refine zn7 _ rfl _ _ _ 73 rfl 9 185 Tryz.underlying9 Tryz.underlying73 b n (stV ps (λ _=>0)) rfl cA (by unfold maxLen;omega) pd (.agg #[.string pd,.int .i64 0,.int .i64 nt]) (by rfl) (by rfl) du ?_);intro w2 eG dd;have oh:=(zA HT).put eG dd;rw[zA HP] at oh;have tM:=zC oh;clear HT eG dd cA oh;go_wp2_with fail;go_end0;exact⟨rfl,(zA tM).map,(zA tM).kept⟩
def xV (R:yG):P9:=(R.pd,R.ts.length)::R.body.map λ l=>(l.pd,l.ts.length)
def j5:P9->P9->P9
 | [],ps=>ps
 | x::r,ps=>j5 r (zao ps x.1 x.2)
def qT:P9->P9->Prop
 | [],_=>True
 | x::r,ps=>zdu ps x.1 x.2=true/\qT r (zao ps x.1 x.2)
theorem zch (m:P9):∀ (l ps:P9),j5 (l++m) ps=j5 m (j5 l ps)
 | [],_=>rfl
 | _::r,_=>zch m r _
theorem zdl (m:P9):∀ (l ps:P9),qT (l++m) ps↔qT l ps/\qT m (j5 l ps)
 | [],ps=>by simp[qT,j5]
 | x::r,ps=>by rw[List.cons_append,qT,qT,zdl m r,j5,and_assoc]
def zbm (ls:List (yX × Value)):P9:=ls.map λ x=>(x.1.pd,x.1.ts.length)
theorem z2n {r:PR}{base:Nat}(h:bL w base r):xV r.R=(r.R.pd,r.R.ts.length)::zbm r.bs:=by
 unfold xV zbm;rw[<-h.eq,List.map_map];rfl
theorem zxz (w:W8)(base:Nat)(ar:O8)(cr:Nat)(rs:List PR)(h:aD w base (.slice ar rs.length cr) rs)(iG:rs.length<=30)(cE:∀ r∈rs,r.bs.length<=3)(eN:∀ r∈rs,r.R.pd.size<=800)(kX:∀ r∈rs,∀ x∈r.bs,x.1.pd.size<=800)(kc:qT ((rs.map (·.R)).flatMap xV) []):
  Calls Tryz.prog 55 #[.slice ar rs.length cr] w λ e w'=>e=.returned (.map (some w.heap.size))/\w.heap.size<w'.heap.size/\Below w.heap.size w w'/\qS Tryz.prog 9 w' w.heap.size (4*rs.length) (stV (j5 ((rs.map (·.R)).flatMap xV) []) (λ _=>0)):=by
 have bD:=@run_makeMap Tryz.prog;have h0:qS Tryz.prog 9 (w.alloc (.map #[] 0)) w.heap.size 0 (stV [] (λ _=>0)):=qS.made _ _ w;have b0:Below w.heap.size w (w.alloc (.map #[] 0)):=B9.alloc L9 _;have HR:=zC h;have GX:=zC kc;clear h kc;go_enter Tryz.func55,Tryz.ntmps55;go_wp2_with fail
 go_loopg [11] rs.length (λ gg i wr=>∃ k:Nat,k<=rs.length/\gg=rs.length-k/\i=.int .i64 k/\Below w.heap.size w wr/\w.heap.size<wr.heap.size/\qS Tryz.prog 9 wr w.heap.size (4*k) (stV (j5 (((rs.map (·.R)).take k).flatMap xV) []) (λ _=>0)))
 exact⟨0,Nat.zero_le _,rfl,rfl,b0,by simp,h0⟩
 case round=>
  clear h0 b0;obtain⟨k,hk,fM,rfl,hB,hsz,hm⟩:=hrel
  by_cases aN:k<rs.length
  ·have jw:=(zA HR).below hB;obtain⟨gr,oJ,nM,oS,o5,pn,oY,fL⟩:=vL znq jw.row k aN;injection nM with h4 h5 h6
   subst h4 h6;have ak:=(zA HR).each _ (List.getElem_mem aN);obtain⟨ah,ch,nz⟩:=zE ak.hd;obtain⟨ab,cb,iB⟩:=zE ak.bo.row;have r0:=fL 0 (by omega);have r1:=fL 1 (by omega);have r2:=fL 2 (by omega);simp only[PR.cells,nz,iB,Nat.add_zero,List.getElem?_cons_zero,List.getElem?_cons_succ] at r0 r1 r2;have eL:=ak.bo;rw[iB] at eL;have rG:=zC eL;have mJ:=eN _ (List.getElem_mem aN);have ja:=cE _ (List.getElem_mem aN);have uC:=kX _ (List.getElem_mem aN);have me:((rs.map (·.R)).take (k+1)).flatMap xV=((rs.map (·.R)).take k).flatMap xV++((rs[k].R.pd,rs[k].R.ts.length)::zbm rs[k].bs):=by
    rw[zi2 aN,List.flatMap_append];simp[z2n ak]
   have Lp:qT (((rs.map (·.R)).take k).flatMap xV++((rs[k].R.pd,rs[k].R.ts.length)::zbm rs[k].bs)) []:=by
    have:=zA GX;rw[<-List.take_append_drop (k+1) (rs.map (·.R)),List.flatMap_append,zdl,me] at this;exact this.1
   rw[zdl,qT] at Lp;obtain⟨_,Lq,Lr⟩:=Lp;have Eu:=zC (congrArg (λ l=>j5 l []) me);generalize gj:j5 (((rs.map (·.R)).take k).flatMap xV) []=ps at *;have BA:=zC (show j5 (((rs.map (·.R)).take (k+1)).flatMap xV) []=j5 (zbm rs[k].bs) (zao ps rs[k].R.pd rs[k].R.ts.length) by rw[show j5 (((rs.map (·.R)).take (k+1)).flatMap xV) []=_ from zA Eu,zch,gj];rfl);have bA:=(Below.refl wr.heap.size wr).alloc L9 (.cells #[.string rs[k].R.pd,.slice ah rs[k].R.ts.length ch,.slice ab rs[k].bs.length cb] 123);have ot:(wr.alloc (.cells #[.string rs[k].R.pd,.slice ah rs[k].R.ts.length ch,.slice ab rs[k].bs.length cb] 123)).heap[wr.heap.size]?=_:=heap_alloc_new wr _;have gS:=hB.trans (bA.mono (by omega));have fa:=hm.alloc (.cells #[.string rs[k].R.pd,.slice ah rs[k].R.ts.length ch,.slice ab rs[k].bs.length cb] 123);have KT:=zC Lr;clear fL ak nz iB eL jw me Eu hB hm bA Lr gj;go_wp2_with fail;refine (z0a _ w.heap.size (4*k) ps rs[k].R.pd ah rs[k].R.ts.length ch fa (by omega) mJ Lq).mono ?_;rintro e w2 ⟨rfl,eG,cN⟩;have pA:=yS ot cN (by simp;omega);have bZ:=cN.size;rw[World.size_alloc] at bZ;have mx:=yE gS cN (by simp;omega) (by simp);obtain⟨x2,DU⟩:=zB pA 2;clear ot cN gS fa r0 r1 r2 Lq;generalize zao ps rs[k].R.pd rs[k].R.ts.length=ps1 at *;generalize lH:wr.heap.size=n1 at *;go_wp2_with fail
   go_loopg [22] rs[k].bs.length (λ gg2 j wj=>∃ (jj:Nat),jj<=rs[k].bs.length/\gg2=rs[k].bs.length-jj/\j=.int .i64 jj/\Below w.heap.size w wj/\n1<wj.heap.size/\qS Tryz.prog 9 wj w.heap.size (4*k+1+jj) (stV (j5 ((zbm rs[k].bs).take jj) ps1) (λ _=>0))/\qT ((zbm rs[k].bs).drop jj) (j5 ((zbm rs[k].bs).take jj) ps1))
   exact⟨0,Nat.zero_le _,rfl,rfl,mx,by omega,eG,by simpa[j5] using zA KT⟩
   case round=>
    clear mx eG pA x2 DU KT;obtain⟨j,hj,uo,rfl,hB,nK,hm,kc⟩:=hrel
    by_cases ij:j<rs[k].bs.length
    ·have ei:=(zA rG).below hB;obtain⟨g,cap,hv,iC,dp,dG,dx,hc⟩:=vL zwj ei.row j ij;injection hv with h1 h2 h3
     subst h1 h3;obtain⟨ag,fJ,gU⟩:=zE (ei.each _ (List.getElem_mem ij));have q0:=hc 0 (by omega);have q1:=hc 1 (by omega);have q2:=hc 2 (by omega);simp only[yX.cells,gU,Nat.add_zero,List.getElem?_cons_zero,List.getElem?_cons_succ] at q0 q1 q2;have Lw:(zbm rs[k].bs).drop j=(rs[k].bs[j].1.pd,rs[k].bs[j].1.ts.length)::(zbm rs[k].bs).drop (j+1):=by
      rw[List.drop_eq_getElem_cons (by simpa[zbm] using ij)];simp[zbm]
     have gZ:(zbm rs[k].bs).take (j+1)=(zbm rs[k].bs).take j++[(rs[k].bs[j].1.pd,rs[k].bs[j].1.ts.length)]:=by
      rw[List.take_succ_eq_append_getElem (by simpa[zbm] using ij)];simp[zbm]
     rw[Lw,qT] at kc;obtain⟨Lt,Lu⟩:=kc;have FY:=uC _ (List.getElem_mem ij);have AU:=zC (show qT ((zbm rs[k].bs).drop (j+1)) (j5 ((zbm rs[k].bs).take (j+1)) ps1) by rw[gZ,zch];exact Lu);have fU:=zC (show zao (j5 ((zbm rs[k].bs).take j) ps1) rs[k].bs[j].1.pd rs[k].bs[j].1.ts.length=j5 ((zbm rs[k].bs).take (j+1)) ps1 by rw[gZ,zch];rfl);have bA:=(Below.refl wr.heap.size wr).alloc L9 (.cells #[.bool rs[k].bs[j].1.neg,.string rs[k].bs[j].1.pd,.slice ag rs[k].bs[j].1.ts.length fJ] 183);have gS:=hB.trans (bA.mono (by omega));have fa:=hm.alloc (.cells #[.bool rs[k].bs[j].1.neg,.string rs[k].bs[j].1.pd,.slice ag rs[k].bs[j].1.ts.length fJ] 183);clear hc gU ei Lw gZ Lu hB hm bA;go_wp2_with fail;refine (z0a _ w.heap.size (4*k+1+j) (j5 ((zbm rs[k].bs).take j) ps1) rs[k].bs[j].1.pd ag rs[k].bs[j].1.ts.length fJ fa (by omega) FY Lt).mono ?_;rintro e w3 ⟨rfl,ey,fB⟩;have pO:=fB.size;rw[World.size_alloc] at pO;have iz:=yE gS fB (by simp;omega) (by simp);rw[zA fU] at ey;have mW:=zC ey;clear fB gS fa q0 q1 q2 Lt ey;go_wp2_with fail;go_roundg (rs[k].bs.length-(j+1));exact⟨j+1,by omega,rfl,by go_num,iz,by omega,zA mW,zA AU⟩;omega
    ·have gZ:(zbm rs[k].bs).take j=zbm rs[k].bs:=List.take_of_length_le (by simp[zbm];omega);rw[gZ] at hm;have HM:=zC (hm.mono (m:=4*(k+1)) (by omega));clear hm gZ kc;go_wp2_with fail;go_roundg (rs.length-(k+1));exact⟨k+1,by omega,rfl,by go_num,hB,by omega,by rw[zA BA];exact zA HM⟩;omega
  ·have e:(rs.map (·.R)).take k=rs.map (·.R):=List.take_of_length_le (by simp;omega);have ek:k=rs.length:=(by omega);rw[e,ek] at hm;have HM:=zC hm;clear hm e;go_wp2_with fail;go_ret;exact⟨rfl,hsz,hB,zA HM⟩
end
section
open Go.RowKit Go.Maps
def zqe (S:B8->Nat):List yX->Nat->Nat
 | [],m=>m
 | l::r,m=>zqe S r (max m (S l.pd+if l.neg then 1 else 0))
open Classical in
noncomputable def ybf (S:B8->Nat)(k:B8)(v:Nat):B8->Nat:=λ x=>if x=k then v else S x
theorem zff (S:B8->Nat)(k:B8)(v:Nat):ybf S k v k=v:=by simp[ybf]
variable {S:B8->Nat}
theorem zfu {k x:B8}{v:Nat}(h:x≠k):ybf S k v x=S x:=by simp[ybf,h]
noncomputable def zgg (S:B8->Nat)(R:yG):B8->Nat:=ybf S R.pd (zqe S R.body (S R.pd))
variable {m:Nat}
theorem z4j {ls:List (yX × Value)}{k:Nat}(h:k<ls.length):zqe S ((ls.map (·.1)).drop k) m=zqe S ((ls.map (·.1)).drop (k+1)) (max m (S ls[k].1.pd+if ls[k].1.neg then 1 else 0)):=by
 rw[List.drop_eq_getElem_cons (by simpa using h),zqe];simp
theorem ybi (ps:P9)(S:B8->Nat)(nm:B8)(n v:Nat)(h:zZ ps nm=some n):zzi (stV ps S) nm (.agg #[.string nm,.int .i64 v,.int .i64 n])=stV ps (ybf S nm v):=by
 funext k
 unfold stV
 by_cases e:k=nm
 ·subst e;rw[zal,h,zff];rfl
 ·rw[jR e,zfu e]
variable {n:Nat}
theorem z9i {ps:P9}{nm:B8}(S:B8->Nat)(h:zZ ps nm=some n):(stV ps S nm).getD (.agg #[.string { data:=#[] },.int .i64 0,.int .i64 0])=.agg #[.string nm,.int .i64 (S nm),.int .i64 n]:=by
 unfold stV;rw[h];rfl
theorem zp9 (S:B8->Nat):∀ (l:List yX) (m:Nat),m<=zqe S l m
 | [],_=>Nat.le_refl _
 | _::r,_=>Nat.le_trans (Nat.le_max_left _ _) (zp9 S r _)
theorem z4i {S:B8->Nat}{c:Nat}:∀ (l:List yX) (m:Nat),m<=c->(∀ x∈l,(S x.pd+if x.neg then 1 else 0)<=c)->zqe S l m<=c
 | [],_,h,_=>h
 | x::r,_,h,hl=>z4i r _ (Nat.max_le.2 ⟨h,hl x List.mem_cons_self⟩) (λ y hy=>hl y (List.mem_cons_of_mem _ hy))
theorem zw2 {S:B8->Nat}:∀ (l:List yX) (m:Nat),∀ x∈l,(S x.pd+if x.neg then 1 else 0)<=zqe S l m
 | [],_,_,hx=>by cases hx
 | _::r,_,x,hx=>by
  rcases List.mem_cons.1 hx with rfl | hx
  ·exact Nat.le_trans (Nat.le_max_right _ _) (zp9 S r _)
  ·exact zw2 r _ x hx
theorem zhk (x y z:Value)(w:W8):Sem.run Tryz.prog (Instr.field 185 (.agg #[x,y,z]) 1) w=.ok y w:=by kernel_rfl
structure MN (w:W8)(b n:Nat)(V:B8->Option Value)(pd:B8)(nt m:Nat)(wr:W8):Prop where
 map:qS Tryz.prog 9 wr b n V
 below:Below w.heap.size w wr
 size:w.heap.size+1<wr.heap.size
 BT:wr.heap[w.heap.size+1]?=some (.cells #[.string pd,.int .i64 m,.int .i64 nt] 185 (0,0))
theorem MN.next {w:W8}{b:Nat}{V:B8->Option Value}{pd:B8}{nt:Nat}{wr:W8}(h:MN w b n V pd nt m wr)(hb:b<w.heap.size)(x:Int)(m':Nat)(hx:x=m')(o:Obj):
  MN w b n V pd nt m' ((wr.setCell ⟨w.heap.size+1,1,none⟩ (.int .i64 x)).alloc o):=by
 subst hx;refine⟨(h.map.block (Below.heap_setCell _ _ _ _ (by simp;omega))).alloc o,(h.below.setCell (by simp) _).alloc ?_ o,?_,?_⟩
 ·have:=h.size;simp[World.setCell];omega
 ·have:=h.size;rw[World.size_alloc];simp[World.setCell];omega
 ·have:=h.size;rw[Below.heap_alloc _ _ _ (by simp[World.setCell];omega),heap_setCell_same _ _ _ _ _ _ h.BT];rfl
theorem z26 (w:W8)(b n base:Nat)(ps:P9)(S:B8->Nat)(pd:B8)(ah:O8)(nh ch:Nat)(ab:O8)(cb:Nat)(ls:List (yX × Value))(h:qS Tryz.prog 9 w b n (stV ps S))(hL:aK w base (.slice ab ls.length cb) ls)(hn:n<=1000000000)(hp:pd.size<=800)(nt:Nat)(Ht:zZ ps pd=some nt)(kX:∀ x∈ls,x.1.pd.size<=800/\∃ m,zZ ps x.1.pd=some m)(hS:∀ k,S k<=100000)(oo:ls.length<=1000):
  Calls Tryz.prog 56 #[.map (some b),.agg #[.string pd,.slice ah nh ch,.slice ab ls.length cb]] w λ e w'=>e=.returned (.bool (decide (S pd<zqe S (ls.map (·.1)) (S pd))))/\qS Tryz.prog 9 w' b (n+1) (stV ps (ybf S pd (zqe S (ls.map (·.1)) (S pd))))/\yC [b] w w':=by
 have yh:=h.lt;have bA:=(Below.refl w.heap.size w).alloc L9 (.cells #[.string pd,.slice ah nh ch,.slice ab ls.length cb] 123);have cA:=h.alloc (.cells #[.string pd,.slice ah nh ch,.slice ab ls.length cb] 123);have du:pd.size<=maxLen:=by unfold maxLen;omega
 have hu:=z9i S Ht;have sD:=cA.alloc (.cells #[.string pd,.int .i64 (S pd),.int .i64 nt] 185);have bB:=bA.alloc (by simp) (.cells #[.string pd,.int .i64 (S pd),.int .i64 nt] 185);have kS:((w.alloc (.cells #[.string pd,.slice ah nh ch,.slice ab ls.length cb] 123)).alloc (.cells #[.string pd,.int .i64 (S pd),.int .i64 nt] 185)).heap[w.heap.size+1]?=some (.cells #[.string pd,.int .i64 (S pd),.int .i64 nt] 185 (0,0)):=by
  have:=heap_alloc_new (w.alloc (.cells #[.string pd,.slice ah nh ch,.slice ab ls.length cb] 123)) (.cells #[.string pd,.int .i64 (S pd),.int .i64 nt] 185);rw[World.size_alloc] at this;exact this
 have hSp:=hS pd;have HL:=zC hL;clear h hL;have uk:=zhk;go_enter Tryz.func56,Tryz.ntmps56;go_wp2_with (at_lookup;refine zcr _ rfl _ _ 73 rfl 9 185 Tryz.underlying9 Tryz.underlying73 (Tryz.zeroValue185 _) b n (stV ps S) rfl cA pd rfl du _ hu ?_);clear cA bA
 go_loopg [20] ls.length (λ gg i wr=>∃ (k m:Nat),k<=ls.length/\gg=ls.length-k/\i=.int .i64 k/\MN w b n (stV ps S) pd nt m wr/\S pd<=m/\m<=100001/\zqe S ((ls.map (·.1)).drop k) m=zqe S (ls.map (·.1)) (S pd))
 exact⟨0,S pd,Nat.zero_le _,rfl,rfl,⟨sD,bB,by simp,kS⟩,Nat.le_refl _,by omega,rfl⟩
 case round=>
  clear sD bB kS;obtain⟨k,m,hk,fM,rfl,hR,hSm,eG,sR⟩:=hrel;have hm:=hR.map;have hB:=hR.below;have hsz:=hR.size;have kS:=hR.BT;have HR:=zC hR;clear hR;obtain⟨x0,ou⟩:=zB kS 0;obtain⟨x1,ov⟩:=zB kS 1;obtain⟨x2,DU⟩:=zB kS 2
  by_cases aN:k<ls.length
  ·have dj:=z4j (S:=S) (m:=m) aN;have HU:=zC (dj.symm.trans sR);clear dj sR;have qe:=(zA HL).below hB;obtain⟨g,cap,hv,iC,dp,dG,dx,hc⟩:=vL zwj qe.row k aN;injection hv with h1 h2 h3
   subst h1 h3;obtain⟨ag,fJ,gU⟩:=zE (qe.each _ (List.getElem_mem aN));have q0:=hc 0 (by omega);have q1:=hc 1 (by omega);have q2:=hc 2 (by omega);simp only[yX.cells,gU,Nat.add_zero,List.getElem?_cons_zero,List.getElem?_cons_succ] at q0 q1 q2;obtain⟨FY,mq,JM⟩:=kX _ (List.getElem_mem aN);have F0:ls[k].1.pd.size<=maxLen:=(by unfold maxLen;omega);have Ge:=z9i S JM;have hSq:=hS ls[k].1.pd;have nE:=hm.alloc (.cells #[.bool ls[k].1.neg,.string ls[k].1.pd,.slice ag ls[k].1.ts.length fJ] 183);clear hc gU qe hm hB kS
   cases eH:ls[k].1.neg with
   | true=>
    rw[eH] at q0 nE HU;go_wp2_with (at_lookup;refine zcr _ rfl _ _ 73 rfl 9 185 Tryz.underlying9 Tryz.underlying73 (Tryz.zeroValue185 _) b n (stV ps S) rfl nE ls[k].1.pd rfl F0 _ Ge ?_);have hN:=(zA HR).next yh (max (m:Int) ((S ls[k].1.pd:Int)+1)) (max m (S ls[k].1.pd+1)) (by omega) (.cells #[.bool true,.string ls[k].1.pd,.slice ag ls[k].1.ts.length fJ] 183);go_roundg (ls.length-(k+1));exact⟨k+1,max m (S ls[k].1.pd+1),by omega,rfl,by go_num,hN,by omega,by omega,by simpa using zA HU⟩;omega
   | false=>
    rw[eH] at q0 nE HU;go_wp2_with (at_lookup;refine zcr _ rfl _ _ 73 rfl 9 185 Tryz.underlying9 Tryz.underlying73 (Tryz.zeroValue185 _) b n (stV ps S) rfl nE ls[k].1.pd rfl F0 _ Ge ?_);have hN:=(zA HR).next yh (max (m:Int) (S ls[k].1.pd:Int)) (max m (S ls[k].1.pd)) (by omega) (.cells #[.bool false,.string ls[k].1.pd,.slice ag ls[k].1.ts.length fJ] 183);go_roundg (ls.length-(k+1));exact⟨k+1,max m (S ls[k].1.pd),by omega,rfl,by go_num,hN,by omega,by omega,by simpa using zA HU⟩;omega
  ·have hd:(ls.map (·.1)).drop k=[]:=List.drop_eq_nil_of_le (by simp;omega);rw[hd,zqe] at sR;have Ah:=zC sR;have fT:=zC (ybi ps S pd nt m Ht);clear hd sR hu kS;go_wp2_with (at_mapUpdate;refine zn7 _ rfl _ _ _ 73 rfl 9 185 Tryz.underlying9 Tryz.underlying73 b n (stV ps S) rfl hm (by unfold maxLen;omega) pd (.agg #[.string pd,.int .i64 m,.int .i64 nt]) (by rfl) (by rfl) du ?_);intro w2 eG dd;have oh:=iW.put ⟨hm,(yC.refl _ _).aF hB⟩ eG dd;rw[zA fT,zA Ah] at oh;have tM:=zC oh;have si:w2.heap[w.heap.size+1]?=some (.cells #[.string pd,.int .i64 m,.int .i64 nt] 185 (0,0)):=by
    rw[dd.block _ hsz (by simp;omega)];exact (zA HR).BT
   obtain⟨y1,DY⟩:=zB si 1;clear eG dd oh hm hB si x0 x1 x2 ou ov DU;go_wp2_with fail;go_ret;exact⟨by rw[zA Ah];rfl,(zA tM).map,(zA tM).kept⟩
end
section
open Go.RowKit Go.Maps
def zek (f:B8->Nat)(R:yG):Prop:=∀ l∈R.body,(f l.pd+if l.neg then 1 else 0)<=f R.pd
def qH (rs:List yG)(f:B8->Nat):Prop:=∀ R∈rs,zek f R
def ztd (rs:List yG)(S:B8->Nat):Prop:=∀ f,qH rs f->∀ k,S k<=f k
theorem zsf (S:B8->Nat)(R:yG)(k:B8):S k<=zgg S R k:=by
 unfold zgg
 by_cases e:k=R.pd
 ·subst e;rw[zff];exact zp9 _ _ _
 ·rw[zfu e];exact Nat.le_refl _
variable {R:yG} {S:B8->Nat} {rs:List yG}
theorem z1z (h:ztd rs S)(hR:R∈rs):ztd rs (zgg S R):=by
 intro f hf k;unfold zgg
 by_cases e:k=R.pd
 ·subst e;rw[zff];refine z4i _ _ (h f hf _) λ x hx=>?_
  have h1:=h f hf x.pd;have h2:=hf R hR x hx;omega
 ·rw[zfu e];exact h f hf k
theorem zui (h:¬ S R.pd<zqe S R.body (S R.pd)):zek S R/\zgg S R=S:=by
 have h2:zqe S R.body (S R.pd)=S R.pd:=Nat.le_antisymm (Nat.not_lt.1 h) (zp9 _ _ _);refine⟨λ l hl=>?_,?_⟩
 ·have:=zw2 R.body (S R.pd) (S:=S) l hl
  rwa [h2] at this
 ·funext k
  unfold zgg
  by_cases e:k=R.pd
  ·subst e;rw[zff,h2]
  ·rw[zfu e]
def zsu (S:B8->Nat):P9->Nat
 | []=>0
 | p::r=>S p.1+zsu S r
theorem zp4 {S T:B8->Nat}(h:∀ k,S k<=T k):∀ ps,zsu S ps<=zsu T ps
 | []=>Nat.le_refl _
 | p::r=>Nat.add_le_add (h p.1) (zp4 h r)
theorem z30 {S T:B8->Nat}(h:∀ k,S k<=T k){p:B8 × Nat}(hp:S p.1<T p.1):∀ ps,p∈ps->zsu S ps<zsu T ps
 | [],hm=>by cases hm
 | q::r,hm=>by
  rcases List.mem_cons.1 hm with rfl | hm
  ·exact Nat.add_lt_add_of_lt_of_le hp (zp4 h r)
  ·exact Nat.add_lt_add_of_le_of_lt (h q.1) (z30 h hp r hm)
theorem znz {S:B8->Nat}{c:Nat}(h:∀ k,S k<=c):∀ ps,zsu S ps<=c*ps.length
 | []=>Nat.zero_le _
 | p::r=>by
  have:=znz h r;have h1:=h p.1;simp only[zsu,List.length_cons,Nat.mul_add,Nat.mul_one];omega
theorem zrx {nm:B8}{n:Nat}:∀ {ps:P9},zZ ps nm=some n->∃ p∈ps,p.1=nm
 | [],h=>by simp[zZ] at h
 | p::r,h=>by
  rw[zZ] at h
  split at h
  ·rename_i e;exact⟨p,List.mem_cons_self,zU.1 e⟩
  ·obtain⟨q,hq,e⟩:=zrx h;exact⟨q,List.mem_cons_of_mem _ hq,e⟩
structure Mr (rs:List yG)(ps:P9)(S0:B8->Nat)(k:Nat)(b:Bool)(S:B8->Nat):Prop where
 low:ztd rs S
 ge:zsu S0 ps<=zsu S ps
 up:b=true->zsu S0 ps<zsu S ps
 keeps:b=false->∀ R∈rs.take k,zek S R
theorem Mr.next {ps:P9}{S0:B8->Nat}{k:Nat}{b:Bool}(h:Mr rs ps S0 k b S)(hk:k<rs.length){n:Nat}(hn:zZ ps rs[k].pd=some n):Mr rs ps S0 (k+1) (if decide (S rs[k].pd<zqe S rs[k].body (S rs[k].pd)) then true else b) (zgg S rs[k]):=by
 have um:=zp4 (zsf S rs[k]) ps
 by_cases hu:S rs[k].pd<zqe S rs[k].body (S rs[k].pd)
 ·obtain⟨p,hp,e⟩:=zrx hn;have bP:zsu S ps<zsu (zgg S rs[k]) ps:=z30 (zsf S rs[k]) (p:=p) (by rw[e,zgg,zff];exact hu) ps hp;simp only[hu,decide_true,if_true];exact⟨z1z h.low (List.getElem_mem hk),Nat.le_trans h.ge um,λ _=>Nat.lt_of_le_of_lt h.ge bP,λ e=>by cases e⟩
 ·obtain⟨h1,h2⟩:=zui hu;simp only[hu,decide_false,h2];refine⟨h.low,h.ge,by simpa using h.up,λ e R hR=>?_⟩;rw[List.take_succ_eq_append_getElem hk,List.mem_append] at hR;rcases hR with hR | hR
  ·exact h.keeps (by simpa using e) R hR
  ·rw[List.mem_singleton.1 hR];exact h1
theorem z2e (w:W8)(base:Nat)(ar:O8)(cr:Nat)(rs:List PR)(ps:P9)(h:aD w base (.slice ar rs.length cr) rs)(iG:rs.length<=30)(cE:∀ r∈rs,r.bs.length<=3)(eN:∀ r∈rs,r.R.pd.size<=800)(kX:∀ r∈rs,∀ x∈r.bs,x.1.pd.size<=800)(kc:qT ((rs.map (·.R)).flatMap xV) [])(gj:j5 ((rs.map (·.R)).flatMap xV) []=ps)(dP:ps.length<=1000)(ak:∀ r∈rs,(∃ n,zZ ps r.R.pd=some n)/\∀ x∈r.bs,∃ n,zZ ps x.1.pd=some n)(f0:B8->Nat)(bR:qH (rs.map (·.R)) f0)(jd:∀ k,f0 k<=1000):
  Calls Tryz.prog 35 #[.slice ar rs.length cr] w λ e w'=>e=.returned (.map (some w.heap.size))/\w.heap.size<w'.heap.size/\Below w.heap.size w w'/\∃ (S:B8->Nat) (n:Nat),qS Tryz.prog 9 w' w.heap.size n (stV ps S)/\n<=1000000000/\qH (rs.map (·.R)) S/\ztd (rs.map (·.R)) S:=by
 have HR:=zC h;have hsf:=znz jd ps;go_enter Tryz.func35,Tryz.ntmps35;go_wp2_with fail;refine (zxz w base ar cr rs h iG cE eN kX kc).mono ?_;rintro e w1 ⟨rfl,cB,aT,fa⟩;rw[gj] at fa;clear h kc gj;go_wp2_with fail
 go_loopg [4] (zsu f0 ps+1) (λ gg r wr=>∃ (b:Bool) (S:B8->Nat) (n:Nat),r=.bool b/\(b=true->zsu f0 ps-zsu S ps+1<=gg)/\n+30*gg<=120+30*(zsu f0 ps+1)/\Below w.heap.size w wr/\w.heap.size<wr.heap.size/\qS Tryz.prog 9 wr w.heap.size n (stV ps S)/\ztd (rs.map (·.R)) S/\(b=false->qH (rs.map (·.R)) S))
 exact⟨true,λ _=>0,4*rs.length,rfl,λ _=>by omega,by omega,aT,cB,fa,λ _ _ _=>Nat.zero_le _,λ e=>by cases e⟩
 case round=>
  clear aT cB fa;obtain⟨b,S0,n0,rfl,dn,AA,hB,hsz,hm,aX,fD⟩:=hrel
  cases b with
  | false=>
   have HV:=zC (fD rfl);have wV:=zC aX;clear aX fD;go_wp2_with fail;go_ret;exact⟨rfl,hsz,hB,S0,n0,hm,by omega,zA HV,zA wV⟩
  | true=>
   have fM:=dn rfl;generalize eP:gk=g1 at *;have h0:Mr (rs.map (·.R)) ps S0 0 false S0:=⟨aX,Nat.le_refl _,(λ e=>by cases e),λ _ R hR=>by simp at hR⟩;clear dn fD aX;go_wp2_with fail
   go_loopg [4,12] rs.length (λ gg2 r j wj=>∃ (b:Bool) (S:B8->Nat) (k:Nat),r=.bool b/\k<=rs.length/\gg2=rs.length-k/\j=.int .i64 k/\Below w.heap.size w wj/\w.heap.size<wj.heap.size/\qS Tryz.prog 9 wj w.heap.size (n0+k) (stV ps S)/\Mr (rs.map (·.R)) ps S0 k b S)
   exact⟨false,S0,0,rfl,Nat.zero_le _,rfl,rfl,hB,hsz,hm,h0⟩
   case round=>
    clear hB hm h0;obtain⟨b,S,k,rfl,hk,Jm,rfl,hB,hsz,hm,eR⟩:=hrel
    by_cases aN:k<rs.length
    ·have jw:=(zA HR).below hB;obtain⟨gr,oJ,nM,oS,o5,pn,oY,fL⟩:=vL znq jw.row k aN;injection nM with h4 h5 h6
     subst h4 h6;have kh:=(zA HR).each _ (List.getElem_mem aN);obtain⟨ah,ch,nz⟩:=zE kh.hd;obtain⟨ab,cb,iB⟩:=zE kh.bo.row;have r0:=fL 0 (by omega);have r1:=fL 1 (by omega);have r2:=fL 2 (by omega);simp only[PR.cells,nz,iB,Nat.add_zero,List.getElem?_cons_zero,List.getElem?_cons_succ] at r0 r1 r2;have mJ:=eN _ (List.getElem_mem aN);obtain⟨⟨nt,bU⟩,nD⟩:=ak _ (List.getElem_mem aN);have uC:=kX _ (List.getElem_mem aN);have I8:=cE _ (List.getElem_mem aN);have fa:=hm.alloc (.cells #[.string rs[k].R.pd,.slice ah rs[k].R.ts.length ch,.slice ab rs[k].bs.length cb] 123);have gS:=hB.alloc (by omega) (.cells #[.string rs[k].R.pd,.slice ah rs[k].R.ts.length ch,.slice ab rs[k].bs.length cb] 123);have eL:aK (wr.alloc (.cells #[.string rs[k].R.pd,.slice ah rs[k].R.ts.length ch,.slice ab rs[k].bs.length cb] 123)) base (.slice ab rs[k].bs.length cb) rs[k].bs:=by
      have:=kh.bo.below gS
      rwa [iB] at this
     have De:=eR.next (by simpa using aN) (n:=nt) (by simpa using bU);have sx:∀ x,S x<=100000:=λ x=>Nat.le_trans (Nat.le_trans (eR.low f0 bR x) (jd x)) (by omega)
     simp only[List.getElem_map] at De;have heq:=kh.eq;have oC:=zC De;clear fL kh nz iB jw De eR hB hm;go_wp2_with fail;refine (z26 _ w.heap.size (n0+k) base ps S rs[k].R.pd ah rs[k].R.ts.length ch ab cb rs[k].bs fa eL (by omega) mJ nt bU (λ x hx=>⟨uC x hx,nD x hx⟩) sx (by omega)).mono ?_;rintro e w3 ⟨rfl,ey,fB⟩;have pO:=fB.size;rw[World.size_alloc] at pO;have iz:=yE gS fB (by simp;omega) (by simp);rw[heq] at ey ⊢;have mW:Hid (qS Tryz.prog 9 w3 w.heap.size (n0+(k+1)) (stV ps (zgg S rs[k].R))):=zC ey;clear ey fB gS fa eL r0 r1 r2 sx heq;generalize decide (S rs[k].R.pd<zqe S rs[k].R.body (S rs[k].R.pd))=c at oC ⊢
     cases c with
     | true=>
      go_wp2_with fail;go_roundg (rs.length-(k+1));exact⟨true,_,k+1,rfl,by omega,rfl,by go_num,iz,by omega,zA mW,zA oC⟩;omega
     | false=>
      go_wp2_with fail;go_roundg (rs.length-(k+1));exact⟨b,_,k+1,rfl,by omega,rfl,by go_num,iz,by omega,zA mW,zA oC⟩;omega
    ·have du:k=rs.length:=(by omega);have um:=eR.ge;have sR:=eR.up;have Fh:=zp4 (eR.low f0 bR) ps;have Ek:=zC eR;have Ah:=zC sR;clear eR sR;go_wp2_with fail;go_roundg (g1-1);exact⟨b,S,n0+k,rfl,λ e=>by have:=zA Ah e;omega,by omega,hB,hsz,hm,(zA Ek).low,λ e R hR=>(zA Ek).keeps e R (by rwa [List.take_of_length_le (by simp;omega)])⟩;omega
end
end Go.Proofs.YtldkpahaocjdpaaGreat
