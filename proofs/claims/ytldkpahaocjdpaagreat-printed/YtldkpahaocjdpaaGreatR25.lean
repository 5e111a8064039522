/-
  The program's table of predicates: add, ground.
-/
import Derived.Test.YtldkpahaocjdpaaGreatR24
set_option maxHeartbeats 16000000
set_option maxRecDepth 1000000
namespace Go.Proofs.YtldkpahaocjdpaaGreat
section
open Go.RowKit Go.Maps
def stV (ps:P9)(S:B8->Nat):B8->Option Value:=λ k=>(numOf ps k).map λ n=>Value.agg #[.string k,.int .i64 (S k),.int .i64 n]
variable {n:Nat}
theorem numOf_meet {ps:P9}{nm:B8}(h:meetB ps nm n=true)(k:B8):numOf (meetP ps nm n) k=if k=nm then some n else numOf ps k:=by
 rw[meetB_num] at h;rw[meetP_num]
 by_cases e:k=nm
 ·subst e;rw[if_pos rfl]
  cases hn:numOf ps k with
  | none=>rw[if_pos (by rfl),num_snoc,hn];simp
  | some m=>
   rw[hn] at h;simp at h;rw[if_neg (by simp),hn,h]
 ·rw[if_neg e]
  cases hn:numOf ps nm with
  | none=>
   rw[if_pos (by rfl),num_snoc];have:¬ (nm.toList==k.toList)=true:=λ h=>e ((aW.1 h).symm)
   cases numOf ps k with
   | none=>simp only[if_neg this]
   | some m=>rfl
  | some m=>rw[if_neg (by simp)]
theorem stV_add (ps:P9)(nm:B8)(n:Nat)(h:meetB ps nm n=true):updV (stV ps (λ _=>0)) nm (.agg #[.string nm,.int .i64 0,.int .i64 n])=stV (meetP ps nm n) (λ _=>0):=by
 funext k
 unfold stV;rw[numOf_meet h]
 by_cases e:k=nm
 ·subst e;rw[updV_same,if_pos rfl];rfl
 ·rw[updV_other e,if_neg e]
structure qL (w:W8)(b n:Nat)(V:B8->Option Value)(wr:W8):Prop where
 map:SMap Tryz.prog 9 wr b n V
 kept:Kept [b] w wr
variable {wr w:W8} {V:B8->Option Value} {b:Nat}
theorem qL.alloc (h:qL w b n V wr)(o:Obj):qL w b n V (wr.alloc o):=⟨h.map.alloc o,h.kept.alloc o⟩
theorem qL.put {m:Nat}{V':B8->Option Value}{w1:W8}(h:qL w b n V wr)(hm:SMap Tryz.prog 9 w1 b m V')(hg:wr.grownBy w1 (some b)):qL w b m V' w1:=
 ⟨hm,h.kept.trans ⟨hg.os,hg.tape,hg.output,hg.size,λ k hk hn=>hg.block k hk (by simp at hn ⊢;exact hn)⟩⟩
theorem add_any (w:W8)(b n:Nat)(ps:P9)(pd:B8)(a:O8)(nt c:Nat)(h:SMap Tryz.prog 9 w b n (stV ps (λ _=>0)))(hn:n<=100000)(hp:pd.size<=800)(hb:meetB ps pd nt=true):
  Calls Tryz.prog 97 #[.map (some b),.agg #[.string pd,.slice a nt c]] w λ e w'=>e=.returned (.tuple #[])/\SMap Tryz.prog 9 w' b (n+1) (stV (meetP ps pd nt) (λ _=>0))/\Kept [b] w w':=by
 have h0:qL w b n (stV ps (λ _=>0)) (w.alloc (.cells #[.string pd,.slice a nt c] 79)):=qL.alloc ⟨h,Kept.refl _ _⟩ _;have gP:=h0.map;have du:pd.size<=maxLen:=by unfold maxLen;omega
 have HT:=hide h0;have HP:=hide (stV_add ps pd nt hb);clear h h0 hb;go_enter Tryz.func97,Tryz.ntmps97;go_wp2_with (at_mapUpdate;refine wp_put _ rfl _ _ _ 73 rfl 9 185 Tryz.underlying9 Tryz.underlying73 b n (stV ps (λ _=>0)) rfl gP (by unfold maxLen;omega) pd (.agg #[.string pd,.int .i64 0,.int .i64 nt]) (by rfl) (by rfl) du ?_);intro w2 eG dd;have oh:=(ad HT).put eG dd;rw[ad HP] at oh;have tM:=hide oh;clear HT eG dd gP oh;go_wp2_with fail;go_end0;exact⟨rfl,(ad tM).map,(ad tM).kept⟩
def aZ (R:PRule):P9:=(R.pd,R.ts.length)::R.body.map λ l=>(l.pd,l.ts.length)
def meetL:P9->P9->P9
 | [],ps=>ps
 | x::r,ps=>meetL r (meetP ps x.1 x.2)
def AgreeL:P9->P9->Prop
 | [],_=>True
 | x::r,ps=>meetB ps x.1 x.2=true/\AgreeL r (meetP ps x.1 x.2)
theorem meetL_append (m:P9):∀ (l ps:P9),meetL (l++m) ps=meetL m (meetL l ps)
 | [],_=>rfl
 | _::r,_=>meetL_append m r _
theorem agreeL_append (m:P9):∀ (l ps:P9),AgreeL (l++m) ps↔AgreeL l ps/\AgreeL m (meetL l ps)
 | [],ps=>by simp[AgreeL,meetL]
 | x::r,ps=>by rw[List.cons_append,AgreeL,AgreeL,agreeL_append m r,meetL,and_assoc]
def plits (ls:List (PLit × Value)):P9:=ls.map λ x=>(x.1.pd,x.1.ts.length)
theorem patoms_eq {r:PR}{base:Nat}(h:ev w base r):aZ r.R=(r.R.pd,r.R.ts.length)::plits r.bs:=by
 unfold aZ plits;rw[<-h.eq,List.map_map];rfl
theorem ground_any (w:W8)(base:Nat)(ar:O8)(cr:Nat)(rs:List PR)(h:bR w base (.slice ar rs.length cr) rs)(iG:rs.length<=30)(cE:∀ r∈rs,r.bs.length<=3)(eN:∀ r∈rs,r.R.pd.size<=800)(kX:∀ r∈rs,∀ x∈r.bs,x.1.pd.size<=800)(kc:AgreeL ((rs.map (·.R)).flatMap aZ) []):
  Calls Tryz.prog 55 #[.slice ar rs.length cr] w λ e w'=>e=.returned (.map (some w.heap.size))/\w.heap.size<w'.heap.size/\Below w.heap.size w w'/\SMap Tryz.prog 9 w' w.heap.size (4*rs.length) (stV (meetL ((rs.map (·.R)).flatMap aZ) []) (λ _=>0)):=by
 have jA:=@run_makeMap Tryz.prog;have h0:SMap Tryz.prog 9 (w.alloc (.map #[] 0)) w.heap.size 0 (stV [] (λ _=>0)):=SMap.made _ _ w;have b0:Below w.heap.size w (w.alloc (.map #[] 0)):=B9.alloc L9 _;have HR:=hide h;have GX:=hide kc;clear h kc;go_enter Tryz.func55,Tryz.ntmps55;go_wp2_with fail
 go_loopg [11] rs.length (λ gg i wr=>∃ k:Nat,k<=rs.length/\gg=rs.length-k/\i=.int .i64 k/\Below w.heap.size w wr/\w.heap.size<wr.heap.size/\SMap Tryz.prog 9 wr w.heap.size (4*k) (stV (meetL (((rs.map (·.R)).take k).flatMap aZ) []) (λ _=>0)))
 exact⟨0,Nat.zero_le _,rfl,rfl,b0,by simp,h0⟩
 case round=>
  clear h0 b0;obtain⟨k,hk,fM,rfl,hB,hsz,hm⟩:=hrel
  by_cases aN:k<rs.length
  ·have qQ:=(ad HR).below hB;obtain⟨gr,oJ,nM,oS,o5,pn,oY,fL⟩:=row_at pr_len qQ.row k aN;injection nM with h4 h5 h6
   subst h4 h6;have ak:=(ad HR).each _ (List.getElem_mem aN);obtain⟨ah,ch,nz⟩:=own_slice ak.hd;obtain⟨ab,cb,iB⟩:=own_slice ak.bo.row;have r0:=fL 0 (by omega);have r1:=fL 1 (by omega);have r2:=fL 2 (by omega);simp only[PR.cells,nz,iB,Nat.add_zero,List.getElem?_cons_zero,List.getElem?_cons_succ] at r0 r1 r2;have eL:=ak.bo;rw[iB] at eL;have rG:=hide eL;have mJ:=eN _ (List.getElem_mem aN);have ja:=cE _ (List.getElem_mem aN);have uC:=kX _ (List.getElem_mem aN);have me:((rs.map (·.R)).take (k+1)).flatMap aZ=((rs.map (·.R)).take k).flatMap aZ++((rs[k].R.pd,rs[k].R.ts.length)::plits rs[k].bs):=by
    rw[rules_take aN,List.flatMap_append];simp[patoms_eq ak]
   have xV:AgreeL (((rs.map (·.R)).take k).flatMap aZ++((rs[k].R.pd,rs[k].R.ts.length)::plits rs[k].bs)) []:=by
    have:=ad GX;rw[<-List.take_append_drop (k+1) (rs.map (·.R)),List.flatMap_append,agreeL_append,me] at this;exact this.1
   rw[agreeL_append,AgreeL] at xV;obtain⟨_,xW,xX⟩:=xV;have Eu:=hide (congrArg (λ l=>meetL l []) me);generalize gj:meetL (((rs.map (·.R)).take k).flatMap aZ) []=ps at *;have BA:=hide (show meetL (((rs.map (·.R)).take (k+1)).flatMap aZ) []=meetL (plits rs[k].bs) (meetP ps rs[k].R.pd rs[k].R.ts.length) by rw[show meetL (((rs.map (·.R)).take (k+1)).flatMap aZ) []=_ from ad Eu,meetL_append,gj];rfl);have bA:=(Below.refl wr.heap.size wr).alloc L9 (.cells #[.string rs[k].R.pd,.slice ah rs[k].R.ts.length ch,.slice ab rs[k].bs.length cb] 123);have ot:(wr.alloc (.cells #[.string rs[k].R.pd,.slice ah rs[k].R.ts.length ch,.slice ab rs[k].bs.length cb] 123)).heap[wr.heap.size]?=_:=heap_alloc_new wr _;have gS:=hB.trans (bA.mono (by omega));have fa:=hm.alloc (.cells #[.string rs[k].R.pd,.slice ah rs[k].R.ts.length ch,.slice ab rs[k].bs.length cb] 123);have vY:=hide xX;clear fL ak nz iB eL qQ me Eu hB hm bA xX gj;go_wp2_with fail;refine (add_any _ w.heap.size (4*k) ps rs[k].R.pd ah rs[k].R.ts.length ch fa (by omega) mJ xW).mono ?_;rintro e w2 ⟨rfl,eG,cN⟩;have pA:=cells_keptT ot cN (by simp;omega);have bZ:=cN.size;rw[World.size_alloc] at bZ;have mx:=below_kept gS cN (by simp;omega) (by simp);obtain⟨x2,DU⟩:=block_cells pA 2;clear ot cN gS fa r0 r1 r2 xW;generalize meetP ps rs[k].R.pd rs[k].R.ts.length=ps1 at *;generalize lH:wr.heap.size=n1 at *;go_wp2_with fail
   go_loopg [22] rs[k].bs.length (λ gg2 j wj=>∃ (jj:Nat),jj<=rs[k].bs.length/\gg2=rs[k].bs.length-jj/\j=.int .i64 jj/\Below w.heap.size w wj/\n1<wj.heap.size/\SMap Tryz.prog 9 wj w.heap.size (4*k+1+jj) (stV (meetL ((plits rs[k].bs).take jj) ps1) (λ _=>0))/\AgreeL ((plits rs[k].bs).drop jj) (meetL ((plits rs[k].bs).take jj) ps1))
   exact⟨0,Nat.zero_le _,rfl,rfl,mx,by omega,eG,by simpa[meetL] using ad vY⟩
   case round=>
    clear mx eG pA x2 DU vY;obtain⟨j,hj,uo,rfl,hB,nK,hm,kc⟩:=hrel
    by_cases ij:j<rs[k].bs.length
    ·have ei:=(ad rG).below hB;obtain⟨g,cap,hv,iC,dp,dG,dx,hc⟩:=row_at pl_len ei.row j ij;injection hv with h1 h2 h3
     subst h1 h3;obtain⟨cy,fJ,gU⟩:=own_slice (ei.each _ (List.getElem_mem ij));have q0:=hc 0 (by omega);have q1:=hc 1 (by omega);have q2:=hc 2 (by omega);simp only[PLit.cells,gU,Nat.add_zero,List.getElem?_cons_zero,List.getElem?_cons_succ] at q0 q1 q2;have yy:(plits rs[k].bs).drop j=(rs[k].bs[j].1.pd,rs[k].bs[j].1.ts.length)::(plits rs[k].bs).drop (j+1):=by
      rw[List.drop_eq_getElem_cons (by simpa[plits] using ij)];simp[plits]
     have gZ:(plits rs[k].bs).take (j+1)=(plits rs[k].bs).take j++[(rs[k].bs[j].1.pd,rs[k].bs[j].1.ts.length)]:=by
      rw[List.take_succ_eq_append_getElem (by simpa[plits] using ij)];simp[plits]
     rw[yy,AgreeL] at kc;obtain⟨xY,xZ⟩:=kc;have FY:=uC _ (List.getElem_mem ij);have AU:=hide (show AgreeL ((plits rs[k].bs).drop (j+1)) (meetL ((plits rs[k].bs).take (j+1)) ps1) by rw[gZ,meetL_append];exact xZ);have fU:=hide (show meetP (meetL ((plits rs[k].bs).take j) ps1) rs[k].bs[j].1.pd rs[k].bs[j].1.ts.length=meetL ((plits rs[k].bs).take (j+1)) ps1 by rw[gZ,meetL_append];rfl);have bA:=(Below.refl wr.heap.size wr).alloc L9 (.cells #[.bool rs[k].bs[j].1.neg,.string rs[k].bs[j].1.pd,.slice cy rs[k].bs[j].1.ts.length fJ] 183);have gS:=hB.trans (bA.mono (by omega));have fa:=hm.alloc (.cells #[.bool rs[k].bs[j].1.neg,.string rs[k].bs[j].1.pd,.slice cy rs[k].bs[j].1.ts.length fJ] 183);clear hc gU ei yy gZ xZ hB hm bA;go_wp2_with fail;refine (add_any _ w.heap.size (4*k+1+j) (meetL ((plits rs[k].bs).take j) ps1) rs[k].bs[j].1.pd cy rs[k].bs[j].1.ts.length fJ fa (by omega) FY xY).mono ?_;rintro e w3 ⟨rfl,ey,fB⟩;have pO:=fB.size;rw[World.size_alloc] at pO;have iz:=below_kept gS fB (by simp;omega) (by simp);rw[ad fU] at ey;have mW:=hide ey;clear fB gS fa q0 q1 q2 xY ey;go_wp2_with fail;go_roundg (rs[k].bs.length-(j+1));exact⟨j+1,by omega,rfl,by go_num,iz,by omega,ad mW,ad AU⟩;omega
    ·have gZ:(plits rs[k].bs).take j=plits rs[k].bs:=List.take_of_length_le (by simp[plits];omega);rw[gZ] at hm;have HM:=hide (hm.mono (m:=4*(k+1)) (by omega));clear hm gZ kc;go_wp2_with fail;go_roundg (rs.length-(k+1));exact⟨k+1,by omega,rfl,by go_num,hB,by omega,by rw[ad BA];exact ad HM⟩;omega
  ·have e:(rs.map (·.R)).take k=rs.map (·.R):=List.take_of_length_le (by simp;omega);have ek:k=rs.length:=(by omega);rw[e,ek] at hm;have HM:=hide hm;clear hm e;go_wp2_with fail;go_ret;exact⟨rfl,hsz,hB,ad HM⟩
end
section
open Go.RowKit Go.Maps
def upTo (S:B8->Nat):List PLit->Nat->Nat
 | [],m=>m
 | l::r,m=>upTo S r (max m (S l.pd+if l.neg then 1 else 0))
open Classical in
noncomputable def setN (S:B8->Nat)(k:B8)(v:Nat):B8->Nat:=λ x=>if x=k then v else S x
theorem setN_same (S:B8->Nat)(k:B8)(v:Nat):setN S k v k=v:=by simp[setN]
variable {S:B8->Nat}
theorem setN_other {k x:B8}{v:Nat}(h:x≠k):setN S k v x=S x:=by simp[setN,h]
noncomputable def raiseS (S:B8->Nat)(R:PRule):B8->Nat:=setN S R.pd (upTo S R.body (S R.pd))
variable {m:Nat}
theorem upTo_step {ls:List (PLit × Value)}{k:Nat}(h:k<ls.length):upTo S ((ls.map (·.1)).drop k) m=upTo S ((ls.map (·.1)).drop (k+1)) (max m (S ls[k].1.pd+if ls[k].1.neg then 1 else 0)):=by
 rw[List.drop_eq_getElem_cons (by simpa using h),upTo];simp
theorem stV_set (ps:P9)(S:B8->Nat)(nm:B8)(n v:Nat)(h:numOf ps nm=some n):updV (stV ps S) nm (.agg #[.string nm,.int .i64 v,.int .i64 n])=stV ps (setN S nm v):=by
 funext k
 unfold stV
 by_cases e:k=nm
 ·subst e;rw[updV_same,h,setN_same];rfl
 ·rw[updV_other e,setN_other e]
variable {n:Nat}
theorem stV_at {ps:P9}{nm:B8}(S:B8->Nat)(h:numOf ps nm=some n):(stV ps S nm).getD (.agg #[.string { data:=#[] },.int .i64 0,.int .i64 0])=.agg #[.string nm,.int .i64 (S nm),.int .i64 n]:=by
 unfold stV;rw[h];rfl
theorem upTo_ge (S:B8->Nat):∀ (l:List PLit) (m:Nat),m<=upTo S l m
 | [],_=>Nat.le_refl _
 | _::r,_=>Nat.le_trans (Nat.le_max_left _ _) (upTo_ge S r _)
theorem upTo_le {S:B8->Nat}{c:Nat}:∀ (l:List PLit) (m:Nat),m<=c->(∀ x∈l,(S x.pd+if x.neg then 1 else 0)<=c)->upTo S l m<=c
 | [],_,h,_=>h
 | x::r,_,h,hl=>upTo_le r _ (Nat.max_le.2 ⟨h,hl x List.mem_cons_self⟩) (λ y hy=>hl y (List.mem_cons_of_mem _ hy))
theorem upTo_all {S:B8->Nat}:∀ (l:List PLit) (m:Nat),∀ x∈l,(S x.pd+if x.neg then 1 else 0)<=upTo S l m
 | [],_,_,hx=>by cases hx
 | _::r,_,x,hx=>by
  rcases List.mem_cons.1 hx with rfl | hx
  ·exact Nat.le_trans (Nat.le_max_right _ _) (upTo_ge S r _)
  ·exact upTo_all r _ x hx
theorem fieldStr (x y z:Value)(w:W8):Sem.run Tryz.prog (Instr.field 185 (.agg #[x,y,z]) 1) w=.ok y w:=by kernel_rfl
structure iK (w:W8)(b n:Nat)(V:B8->Option Value)(pd:B8)(nt m:Nat)(wr:W8):Prop where
 map:SMap Tryz.prog 9 wr b n V
 below:Below w.heap.size w wr
 size:w.heap.size+1<wr.heap.size
 BT:wr.heap[w.heap.size+1]?=some (.cells #[.string pd,.int .i64 m,.int .i64 nt] 185 (0,0))
theorem iK.next {w:W8}{b:Nat}{V:B8->Option Value}{pd:B8}{nt:Nat}{wr:W8}(h:iK w b n V pd nt m wr)(hb:b<w.heap.size)(x:Int)(m':Nat)(hx:x=m')(o:Obj):
  iK w b n V pd nt m' ((wr.setCell ⟨w.heap.size+1,1,none⟩ (.int .i64 x)).alloc o):=by
 subst hx;refine⟨(h.map.block (Below.heap_setCell _ _ _ _ (by simp;omega))).alloc o,(h.below.setCell (by simp) _).alloc ?_ o,?_,?_⟩
 ·have:=h.size;simp[World.setCell];omega
 ·have:=h.size;rw[World.size_alloc];simp[World.setCell];omega
 ·have:=h.size;rw[Below.heap_alloc _ _ _ (by simp[World.setCell];omega),heap_setCell_same _ _ _ _ _ _ h.BT];rfl
theorem raise_any (w:W8)(b n base:Nat)(ps:P9)(S:B8->Nat)(pd:B8)(ah:O8)(nh ch:Nat)(ab:O8)(cb:Nat)(ls:List (PLit × Value))(h:SMap Tryz.prog 9 w b n (stV ps S))(hL:cS w base (.slice ab ls.length cb) ls)(hn:n<=1000000000)(hp:pd.size<=800)(nt:Nat)(vO:numOf ps pd=some nt)(kX:∀ x∈ls,x.1.pd.size<=800/\∃ m,numOf ps x.1.pd=some m)(hS:∀ k,S k<=100000)(oo:ls.length<=1000):
  Calls Tryz.prog 56 #[.map (some b),.agg #[.string pd,.slice ah nh ch,.slice ab ls.length cb]] w λ e w'=>e=.returned (.bool (decide (S pd<upTo S (ls.map (·.1)) (S pd))))/\SMap Tryz.prog 9 w' b (n+1) (stV ps (setN S pd (upTo S (ls.map (·.1)) (S pd))))/\Kept [b] w w':=by
 have yh:=h.lt;have bA:=(Below.refl w.heap.size w).alloc L9 (.cells #[.string pd,.slice ah nh ch,.slice ab ls.length cb] 123);have gP:=h.alloc (.cells #[.string pd,.slice ah nh ch,.slice ab ls.length cb] 123);have du:pd.size<=maxLen:=by unfold maxLen;omega
 have hu:=stV_at S vO;have sD:=gP.alloc (.cells #[.string pd,.int .i64 (S pd),.int .i64 nt] 185);have bB:=bA.alloc (by simp) (.cells #[.string pd,.int .i64 (S pd),.int .i64 nt] 185);have kS:((w.alloc (.cells #[.string pd,.slice ah nh ch,.slice ab ls.length cb] 123)).alloc (.cells #[.string pd,.int .i64 (S pd),.int .i64 nt] 185)).heap[w.heap.size+1]?=some (.cells #[.string pd,.int .i64 (S pd),.int .i64 nt] 185 (0,0)):=by
  have:=heap_alloc_new (w.alloc (.cells #[.string pd,.slice ah nh ch,.slice ab ls.length cb] 123)) (.cells #[.string pd,.int .i64 (S pd),.int .i64 nt] 185);rw[World.size_alloc] at this;exact this
 have hSp:=hS pd;have HL:=hide hL;clear h hL;have uk:=fieldStr;go_enter Tryz.func56,Tryz.ntmps56;go_wp2_with (at_lookup;refine wp_look _ rfl _ _ 73 rfl 9 185 Tryz.underlying9 Tryz.underlying73 (Tryz.zeroValue185 _) b n (stV ps S) rfl gP pd rfl du _ hu ?_);clear gP bA
 go_loopg [20] ls.length (λ gg i wr=>∃ (k m:Nat),k<=ls.length/\gg=ls.length-k/\i=.int .i64 k/\iK w b n (stV ps S) pd nt m wr/\S pd<=m/\m<=100001/\upTo S ((ls.map (·.1)).drop k) m=upTo S (ls.map (·.1)) (S pd))
 exact⟨0,S pd,Nat.zero_le _,rfl,rfl,⟨sD,bB,by simp,kS⟩,Nat.le_refl _,by omega,rfl⟩
 case round=>
  clear sD bB kS;obtain⟨k,m,hk,fM,rfl,hR,hSm,eG,sR⟩:=hrel;have hm:=hR.map;have hB:=hR.below;have hsz:=hR.size;have kS:=hR.BT;have HR:=hide hR;clear hR;obtain⟨x0,ou⟩:=block_cells kS 0;obtain⟨x1,ov⟩:=block_cells kS 1;obtain⟨x2,DU⟩:=block_cells kS 2
  by_cases aN:k<ls.length
  ·have dj:=upTo_step (S:=S) (m:=m) aN;have HU:=hide (dj.symm.trans sR);clear dj sR;have qe:=(ad HL).below hB;obtain⟨g,cap,hv,iC,dp,dG,dx,hc⟩:=row_at pl_len qe.row k aN;injection hv with h1 h2 h3
   subst h1 h3;obtain⟨cy,fJ,gU⟩:=own_slice (qe.each _ (List.getElem_mem aN));have q0:=hc 0 (by omega);have q1:=hc 1 (by omega);have q2:=hc 2 (by omega);simp only[PLit.cells,gU,Nat.add_zero,List.getElem?_cons_zero,List.getElem?_cons_succ] at q0 q1 q2;obtain⟨FY,mq,JM⟩:=kX _ (List.getElem_mem aN);have F0:ls[k].1.pd.size<=maxLen:=(by unfold maxLen;omega);have Ge:=stV_at S JM;have hSq:=hS ls[k].1.pd;have nE:=hm.alloc (.cells #[.bool ls[k].1.neg,.string ls[k].1.pd,.slice cy ls[k].1.ts.length fJ] 183);clear hc gU qe hm hB kS
   cases eH:ls[k].1.neg with
   | true=>
    rw[eH] at q0 nE HU;go_wp2_with (at_lookup;refine wp_look _ rfl _ _ 73 rfl 9 185 Tryz.underlying9 Tryz.underlying73 (Tryz.zeroValue185 _) b n (stV ps S) rfl nE ls[k].1.pd rfl F0 _ Ge ?_);have hN:=(ad HR).next yh (max (m:Int) ((S ls[k].1.pd:Int)+1)) (max m (S ls[k].1.pd+1)) (by omega) (.cells #[.bool true,.string ls[k].1.pd,.slice cy ls[k].1.ts.length fJ] 183);go_roundg (ls.length-(k+1));exact⟨k+1,max m (S ls[k].1.pd+1),by omega,rfl,by go_num,hN,by omega,by omega,by simpa using ad HU⟩;omega
   | false=>
    rw[eH] at q0 nE HU;go_wp2_with (at_lookup;refine wp_look _ rfl _ _ 73 rfl 9 185 Tryz.underlying9 Tryz.underlying73 (Tryz.zeroValue185 _) b n (stV ps S) rfl nE ls[k].1.pd rfl F0 _ Ge ?_);have hN:=(ad HR).next yh (max (m:Int) (S ls[k].1.pd:Int)) (max m (S ls[k].1.pd)) (by omega) (.cells #[.bool false,.string ls[k].1.pd,.slice cy ls[k].1.ts.length fJ] 183);go_roundg (ls.length-(k+1));exact⟨k+1,max m (S ls[k].1.pd),by omega,rfl,by go_num,hN,by omega,by omega,by simpa using ad HU⟩;omega
  ·have hd:(ls.map (·.1)).drop k=[]:=List.drop_eq_nil_of_le (by simp;omega);rw[hd,upTo] at sR;have Ah:=hide sR;have fT:=hide (stV_set ps S pd nt m vO);clear hd sR hu kS;go_wp2_with (at_mapUpdate;refine wp_put _ rfl _ _ _ 73 rfl 9 185 Tryz.underlying9 Tryz.underlying73 b n (stV ps S) rfl hm (by unfold maxLen;omega) pd (.agg #[.string pd,.int .i64 m,.int .i64 nt]) (by rfl) (by rfl) du ?_);intro w2 eG dd;have oh:=qL.put ⟨hm,(Kept.refl _ _).aF hB⟩ eG dd;rw[ad fT,ad Ah] at oh;have tM:=hide oh;have si:w2.heap[w.heap.size+1]?=some (.cells #[.string pd,.int .i64 m,.int .i64 nt] 185 (0,0)):=by
    rw[dd.block _ hsz (by simp;omega)];exact (ad HR).BT
   obtain⟨y1,DY⟩:=block_cells si 1;clear eG dd oh hm hB si x0 x1 x2 ou ov DU;go_wp2_with fail;go_ret;exact⟨by rw[ad Ah];rfl,(ad tM).map,(ad tM).kept⟩
end
section
open Go.RowKit Go.Maps
def KeepsN (f:B8->Nat)(R:PRule):Prop:=∀ l∈R.body,(f l.pd+if l.neg then 1 else 0)<=f R.pd
def ValidN (rs:List PRule)(f:B8->Nat):Prop:=∀ R∈rs,KeepsN f R
def LowN (rs:List PRule)(S:B8->Nat):Prop:=∀ f,ValidN rs f->∀ k,S k<=f k
theorem raiseS_ge (S:B8->Nat)(R:PRule)(k:B8):S k<=raiseS S R k:=by
 unfold raiseS
 by_cases e:k=R.pd
 ·subst e;rw[setN_same];exact upTo_ge _ _ _
 ·rw[setN_other e];exact Nat.le_refl _
variable {R:PRule} {S:B8->Nat} {rs:List PRule}
theorem low_raise (h:LowN rs S)(hR:R∈rs):LowN rs (raiseS S R):=by
 intro f hf k;unfold raiseS
 by_cases e:k=R.pd
 ·subst e;rw[setN_same];refine upTo_le _ _ (h f hf _) λ x hx=>?_
  have h1:=h f hf x.pd;have h2:=hf R hR x hx;omega
 ·rw[setN_other e];exact h f hf k
theorem raise_still (h:¬ S R.pd<upTo S R.body (S R.pd)):KeepsN S R/\raiseS S R=S:=by
 have h2:upTo S R.body (S R.pd)=S R.pd:=Nat.le_antisymm (Nat.not_lt.1 h) (upTo_ge _ _ _);refine⟨λ l hl=>?_,?_⟩
 ·have:=upTo_all R.body (S R.pd) (S:=S) l hl
  rwa [h2] at this
 ·funext k
  unfold raiseS
  by_cases e:k=R.pd
  ·subst e;rw[setN_same,h2]
  ·rw[setN_other e]
def sumN (S:B8->Nat):P9->Nat
 | []=>0
 | p::r=>S p.1+sumN S r
theorem sumN_le {S T:B8->Nat}(h:∀ k,S k<=T k):∀ ps,sumN S ps<=sumN T ps
 | []=>Nat.le_refl _
 | p::r=>Nat.add_le_add (h p.1) (sumN_le h r)
theorem sumN_lt {S T:B8->Nat}(h:∀ k,S k<=T k){p:B8 × Nat}(hp:S p.1<T p.1):∀ ps,p∈ps->sumN S ps<sumN T ps
 | [],hm=>by cases hm
 | q::r,hm=>by
  rcases List.mem_cons.1 hm with rfl | hm
  ·exact Nat.add_lt_add_of_lt_of_le hp (sumN_le h r)
  ·exact Nat.add_lt_add_of_le_of_lt (h q.1) (sumN_lt h hp r hm)
theorem sumN_bound {S:B8->Nat}{c:Nat}(h:∀ k,S k<=c):∀ ps,sumN S ps<=c*ps.length
 | []=>Nat.zero_le _
 | p::r=>by
  have:=sumN_bound h r;have h1:=h p.1;simp only[sumN,List.length_cons,Nat.mul_add,Nat.mul_one];omega
theorem numOf_mem {nm:B8}{n:Nat}:∀ {ps:P9},numOf ps nm=some n->∃ p∈ps,p.1=nm
 | [],h=>by simp[numOf] at h
 | p::r,h=>by
  rw[numOf] at h
  split at h
  ·rename_i e;exact⟨p,List.mem_cons_self,aW.1 e⟩
  ·obtain⟨q,hq,e⟩:=numOf_mem h;exact⟨q,List.mem_cons_of_mem _ hq,e⟩
structure kH (rs:List PRule)(ps:P9)(S0:B8->Nat)(k:Nat)(b:Bool)(S:B8->Nat):Prop where
 low:LowN rs S
 ge:sumN S0 ps<=sumN S ps
 up:b=true->sumN S0 ps<sumN S ps
 keeps:b=false->∀ R∈rs.take k,KeepsN S R
theorem kH.next {ps:P9}{S0:B8->Nat}{k:Nat}{b:Bool}(h:kH rs ps S0 k b S)(hk:k<rs.length){n:Nat}(hn:numOf ps rs[k].pd=some n):kH rs ps S0 (k+1) (if decide (S rs[k].pd<upTo S rs[k].body (S rs[k].pd)) then true else b) (raiseS S rs[k]):=by
 have um:=sumN_le (raiseS_ge S rs[k]) ps
 by_cases hu:S rs[k].pd<upTo S rs[k].body (S rs[k].pd)
 ·obtain⟨p,hp,e⟩:=numOf_mem hn;have bP:sumN S ps<sumN (raiseS S rs[k]) ps:=sumN_lt (raiseS_ge S rs[k]) (p:=p) (by rw[e,raiseS,setN_same];exact hu) ps hp;simp only[hu,decide_true,if_true];exact⟨low_raise h.low (List.getElem_mem hk),Nat.le_trans h.ge um,λ _=>Nat.lt_of_le_of_lt h.ge bP,λ e=>by cases e⟩
 ·obtain⟨h1,h2⟩:=raise_still hu;simp only[hu,decide_false,h2];refine⟨h.low,h.ge,by simpa using h.up,λ e R hR=>?_⟩;rw[List.take_succ_eq_append_getElem hk,List.mem_append] at hR;rcases hR with hR | hR
  ·exact h.keeps (by simpa using e) R hR
  ·rw[List.mem_singleton.1 hR];exact h1
theorem of_any (w:W8)(base:Nat)(ar:O8)(cr:Nat)(rs:List PR)(ps:P9)(h:bR w base (.slice ar rs.length cr) rs)(iG:rs.length<=30)(cE:∀ r∈rs,r.bs.length<=3)(eN:∀ r∈rs,r.R.pd.size<=800)(kX:∀ r∈rs,∀ x∈r.bs,x.1.pd.size<=800)(kc:AgreeL ((rs.map (·.R)).flatMap aZ) [])(gj:meetL ((rs.map (·.R)).flatMap aZ) []=ps)(dP:ps.length<=1000)(ak:∀ r∈rs,(∃ n,numOf ps r.R.pd=some n)/\∀ x∈r.bs,∃ n,numOf ps x.1.pd=some n)(f0:B8->Nat)(jM:ValidN (rs.map (·.R)) f0)(jd:∀ k,f0 k<=1000):
  Calls Tryz.prog 35 #[.slice ar rs.length cr] w λ e w'=>e=.returned (.map (some w.heap.size))/\w.heap.size<w'.heap.size/\Below w.heap.size w w'/\∃ (S:B8->Nat) (n:Nat),SMap Tryz.prog 9 w' w.heap.size n (stV ps S)/\n<=1000000000/\ValidN (rs.map (·.R)) S/\LowN (rs.map (·.R)) S:=by
 have HR:=hide h;have hsf:=sumN_bound jd ps;go_enter Tryz.func35,Tryz.ntmps35;go_wp2_with fail;refine (ground_any w base ar cr rs h iG cE eN kX kc).mono ?_;rintro e w1 ⟨rfl,ir,aT,fa⟩;rw[gj] at fa;clear h kc gj;go_wp2_with fail
 go_loopg [4] (sumN f0 ps+1) (λ gg r wr=>∃ (b:Bool) (S:B8->Nat) (n:Nat),r=.bool b/\(b=true->sumN f0 ps-sumN S ps+1<=gg)/\n+30*gg<=120+30*(sumN f0 ps+1)/\Below w.heap.size w wr/\w.heap.size<wr.heap.size/\SMap Tryz.prog 9 wr w.heap.size n (stV ps S)/\LowN (rs.map (·.R)) S/\(b=false->ValidN (rs.map (·.R)) S))
 exact⟨true,λ _=>0,4*rs.length,rfl,λ _=>by omega,by omega,aT,ir,fa,λ _ _ _=>Nat.zero_le _,λ e=>by cases e⟩
 case round=>
  clear aT ir fa;obtain⟨b,S0,n0,rfl,dn,AA,hB,hsz,hm,aX,fD⟩:=hrel
  cases b with
  | false=>
   have HV:=hide (fD rfl);have wV:=hide aX;clear aX fD;go_wp2_with fail;go_ret;exact⟨rfl,hsz,hB,S0,n0,hm,by omega,ad HV,ad wV⟩
  | true=>
   have fM:=dn rfl;generalize eP:gk=g1 at *;have h0:kH (rs.map (·.R)) ps S0 0 false S0:=⟨aX,Nat.le_refl _,(λ e=>by cases e),λ _ R hR=>by simp at hR⟩;clear dn fD aX;go_wp2_with fail
   go_loopg [4,12] rs.length (λ gg2 r j wj=>∃ (b:Bool) (S:B8->Nat) (k:Nat),r=.bool b/\k<=rs.length/\gg2=rs.length-k/\j=.int .i64 k/\Below w.heap.size w wj/\w.heap.size<wj.heap.size/\SMap Tryz.prog 9 wj w.heap.size (n0+k) (stV ps S)/\kH (rs.map (·.R)) ps S0 k b S)
   exact⟨false,S0,0,rfl,Nat.zero_le _,rfl,rfl,hB,hsz,hm,h0⟩
   case round=>
    clear hB hm h0;obtain⟨b,S,k,rfl,hk,Jm,rfl,hB,hsz,hm,eR⟩:=hrel
    by_cases aN:k<rs.length
    ·have qQ:=(ad HR).below hB;obtain⟨gr,oJ,nM,oS,o5,pn,oY,fL⟩:=row_at pr_len qQ.row k aN;injection nM with h4 h5 h6
     subst h4 h6;have kh:=(ad HR).each _ (List.getElem_mem aN);obtain⟨ah,ch,nz⟩:=own_slice kh.hd;obtain⟨ab,cb,iB⟩:=own_slice kh.bo.row;have r0:=fL 0 (by omega);have r1:=fL 1 (by omega);have r2:=fL 2 (by omega);simp only[PR.cells,nz,iB,Nat.add_zero,List.getElem?_cons_zero,List.getElem?_cons_succ] at r0 r1 r2;have mJ:=eN _ (List.getElem_mem aN);obtain⟨⟨nt,jP⟩,nD⟩:=ak _ (List.getElem_mem aN);have uC:=kX _ (List.getElem_mem aN);have I8:=cE _ (List.getElem_mem aN);have fa:=hm.alloc (.cells #[.string rs[k].R.pd,.slice ah rs[k].R.ts.length ch,.slice ab rs[k].bs.length cb] 123);have gS:=hB.alloc (by omega) (.cells #[.string rs[k].R.pd,.slice ah rs[k].R.ts.length ch,.slice ab rs[k].bs.length cb] 123);have eL:cS (wr.alloc (.cells #[.string rs[k].R.pd,.slice ah rs[k].R.ts.length ch,.slice ab rs[k].bs.length cb] 123)) base (.slice ab rs[k].bs.length cb) rs[k].bs:=by
      have:=kh.bo.below gS
      rwa [iB] at this
     have De:=eR.next (by simpa using aN) (n:=nt) (by simpa using jP);have sx:∀ x,S x<=100000:=λ x=>Nat.le_trans (Nat.le_trans (eR.low f0 jM x) (jd x)) (by omega)
     simp only[List.getElem_map] at De;have heq:=kh.eq;have oC:=hide De;clear fL kh nz iB qQ De eR hB hm;go_wp2_with fail;refine (raise_any _ w.heap.size (n0+k) base ps S rs[k].R.pd ah rs[k].R.ts.length ch ab cb rs[k].bs fa eL (by omega) mJ nt jP (λ x hx=>⟨uC x hx,nD x hx⟩) sx (by omega)).mono ?_;rintro e w3 ⟨rfl,ey,fB⟩;have pO:=fB.size;rw[World.size_alloc] at pO;have iz:=below_kept gS fB (by simp;omega) (by simp);rw[heq] at ey ⊢;have mW:Hid (SMap Tryz.prog 9 w3 w.heap.size (n0+(k+1)) (stV ps (raiseS S rs[k].R))):=hide ey;clear ey fB gS fa eL r0 r1 r2 sx heq;generalize decide (S rs[k].R.pd<upTo S rs[k].R.body (S rs[k].R.pd))=c at oC ⊢
     cases c with
     | true=>
      go_wp2_with fail;go_roundg (rs.length-(k+1));exact⟨true,_,k+1,rfl,by omega,rfl,by go_num,iz,by omega,ad mW,ad oC⟩;omega
     | false=>
      go_wp2_with fail;go_roundg (rs.length-(k+1));exact⟨b,_,k+1,rfl,by omega,rfl,by go_num,iz,by omega,ad mW,ad oC⟩;omega
    ·have du:k=rs.length:=(by omega);have um:=eR.ge;have sR:=eR.up;have vL:=sumN_le (eR.low f0 jM) ps;have Ek:=hide eR;have Ah:=hide sR;clear eR sR;go_wp2_with fail;go_roundg (g1-1);exact⟨b,S,n0+k,rfl,λ e=>by have:=ad Ah e;omega,by omega,hB,hsz,hm,(ad Ek).low,λ e R hR=>(ad Ek).keeps e R (by rwa [List.take_of_length_le (by simp;omega)])⟩;omega
end
section
open Go.RowKit Go.Maps
def bI (S:B8->Nat)(s:Nat)(r:PR):Bool:=S r.R.pd==s
structure kG (w:W8)(base:Nat)(rv:Value)(rs:List PR)(tb n:Nat)(ps:P9)(S:B8->Nat)(l:List PR)(v:Value)(wr:W8):Prop where
 row:wr.ownsRow w.heap.size 123 3 v l.length (l.flatMap PR.cells)
 below:Below w.heap.size w wr
variable {wr w:W8} {v rv:Value} {l rs:List PR} {S:B8->Nat} {ps:P9} {tb n base:Nat}
theorem kG.alloc (h:kG w base rv rs tb n ps S l v wr)(o:Obj):kG w base rv rs tb n ps S l v (wr.alloc o):=⟨h.row.alloc o,h.below.alloc h.below.size _⟩
theorem kG.append {v':Value}{w5:W8}(h:kG w base rv rs tb n ps S l v wr){r:PR}(aI:w5.ownsRow w.heap.size 123 3 v' (l.length+1) (l.flatMap PR.cells++r.cells))(hg:wr.grownBy w5 v.ownBlock):kG w base rv rs tb n ps S (l++[r]) v' w5:=by
 have hs:=h.below.size;have hb:∀ g,g<w.heap.size->w5.heap[g]?=wr.heap[g]?:=λ g jo=>hg.block g (by omega) (λ e=>by have:=(h.row.lt g e.symm).1;omega)
 refine⟨?_,h.below.trans ⟨hg.os,hg.tape,hg.output,hg.size,hb⟩⟩;simpa using aI
def OSPost (w:W8)(base:Nat)(rs:List PR)(S:B8->Nat)(s:Nat)(en:Ending)(w':W8):Prop:=
 ∃ a c,en=.returned (.slice a (rs.filter (bI S s)).length c)/\Below w.heap.size w w'/\bR w' base (.slice a (rs.filter (bI S s)).length c) (rs.filter (bI S s))
theorem ofstr_any (w:W8)(base:Nat)(ar:O8)(cr:Nat)(rs:List PR)(tb n:Nat)(ps:P9)(S:B8->Nat)(s:Nat)(h:bR w base (.slice ar rs.length cr) rs)(hb:base<=w.heap.size)(ht:SMap Tryz.prog 9 w tb n (stV ps S))(hl:rs.length<=1000)(eN:∀ r∈rs,r.R.pd.size<=800/\(numOf ps r.R.pd).isSome=true):
  Calls Tryz.prog 61 #[.slice ar rs.length cr,.map (some tb),.int .i64 (s:Nat)] w (OSPost w base rs S s):=by
 obtain⟨i0,hi,dK,ir,bZ⟩:=info_parts infoPRule;have H:=hide h;have HT:=hide ht;have qC:=hide eN;have h0:kG w base (.slice ar rs.length cr) rs tb n ps S [] (.slice none 0 0) w:=⟨World.ownsRow_nil _ _ _ _,Below.refl _ _⟩;have H0:=hide h0;have fZ:=ht.lt;clear h ht eN h0;have uk:=fieldStr;go_enter Tryz.func61,Tryz.ntmps61;go_wp2_with fail
 go_loopg [7,12] rs.length (λ gg v i wr=>∃ k:Nat,k<=rs.length/\gg=rs.length-k/\i=.int .i64 k/\kG w base (.slice ar rs.length cr) rs tb n ps S ((rs.take k).filter (bI S s)) v wr)
 exact⟨0,Nat.zero_le _,rfl,rfl,ad H0⟩
 case round=>
  clear H0;obtain⟨k,hk,fM,rfl,hinv⟩:=hrel;obtain⟨a1,kN,rfl⟩:=own_slice hinv.row
  by_cases aN:k<rs.length
  ·obtain⟨r,eI⟩:∃ r,r=rs[k]:=⟨_,rfl⟩;have bC:r∈rs:=(by rw[eI];exact List.getElem_mem aN);have ak:=(ad H).each r bC;obtain⟨ah,ch,fs⟩:=own_slice ak.hd;obtain⟨ab,cb,fi⟩:=own_slice ak.bo.row;obtain⟨g,cap,hv,iC,dp,dG,dx,hc⟩:=row_at pr_len3 (ad H).row k aN;injection hv with h1 h2 h3
   subst h1 h3;have ei:=hinv.below;have e0:wr.cell? ⟨g,k*3,none⟩=some (.string r.R.pd):=(by rw[eI];exact (ei.cell (p:=⟨g,k*3,none⟩) dp).trans (hc 0 (by omega)));have e1:wr.cell? ⟨g,k*3+1,none⟩=some (.slice ah r.R.ts.length ch):=(by rw[<-fs,eI];exact (ei.cell (p:=⟨g,k*3+1,none⟩) dp).trans (hc 1 (by omega)));have e2:wr.cell? ⟨g,k*3+2,none⟩=some (.slice ab r.bs.length cb):=(by rw[<-fi,eI];exact (ei.cell (p:=⟨g,k*3+2,none⟩) dp).trans (hc 2 (by omega)));have gW:(k:Int)<rs.length:=(by omega);have hI:=hinv.alloc (.cells #[.string r.R.pd,.slice ah r.R.ts.length ch,.slice ab r.bs.length cb] 123);have nE:SMap Tryz.prog 9 (wr.alloc (.cells #[.string r.R.pd,.slice ah r.R.ts.length ch,.slice ab r.bs.length cb] 123)) tb n (stV ps S):=(ad HT).block (hI.below.block tb fZ);obtain⟨mJ,gj⟩:=ad qC r bC;have du:r.R.pd.size<=maxLen:=(by unfold maxLen;omega);obtain⟨m,hm⟩:=Option.isSome_iff_exists.1 gj;have hu:(stV ps S r.R.pd).getD (.agg #[.string { data:=#[] },.int .i64 0,.int .i64 0])=.agg #[.string r.R.pd,.int .i64 (S r.R.pd),.int .i64 m]:=(by unfold stV;rw[hm];rfl);have lE:((rs.take k).filter (bI S s)).length<=1000:=Nat.le_trans (List.length_filter_le _ _) (by simp;omega);have ru:r=⟨r.R,.slice ah r.R.ts.length ch,r.bs,.slice ab r.bs.length cb⟩:=(by rw[<-fs,<-fi]);have Iz:=hide ru;have fU:=hide (take_filter (f:=bI S s) aN);have lR:=hide eI;have sU:=hinv.below.size;clear hc hinv ak eI bC ei h2 gj hm fs fi ru
   cases hq:bI S s r with
   | true=>
    have AE:(S r.R.pd:Int)=s:=(by have:S r.R.pd=s:=(by simpa[bI] using hq);omega);have HQ:=hide hq;have bH:=(hI.alloc (.cells #[.string r.R.pd,.slice ah r.R.ts.length ch,.slice ab r.bs.length cb] 123)).row;have HI:=hide (hI.alloc (.cells #[.string r.R.pd,.slice ah r.R.ts.length ch,.slice ab r.bs.length cb] 123));clear hI hq
    go_wp2_with (first
     | (at_lookup;refine wp_look _ rfl _ _ 73 rfl 9 185 Tryz.underlying9 Tryz.underlying73 (Tryz.zeroValue185 _) tb n (stV ps S) rfl nE r.R.pd rfl du _ hu ?_)
     | (at_builtin;refine wpList_append_own _ rfl _ _ 75 rfl w.heap.size 123 i0 _ 3 64 Tryz.underlying75 hi dK ir bZ rfl (by decide) _ _ _ rfl bH ⟨wr.heap.size+1,0,none⟩ 1 1 (PR.mk r.R (.slice ah r.R.ts.length ch) r.bs (.slice ab r.bs.length cb)).cells rfl rfl (pr_cell wr _ (PR.mk r.R (.slice ah r.R.ts.length ch) r.bs (.slice ab r.bs.length cb))) (pr_one _ _ _ _ _ _ _ _) (by unfold maxLen;omega) (by omega) (by simp;omega) ?_;intro v5 w5 dm dz jv;clear jv;obtain⟨a5,gz,rfl⟩:=own_slice dm;have mj:=hide ((ad HI).append dm dz);clear dm dz))
    go_roundg (rs.length-(k+1))
    case measure=>omega
    case rel=>
     refine⟨k+1,by omega,rfl,by go_num,?_⟩;rw[ad fU,<-ad lR,ad HQ,if_pos rfl,ad Iz];exact ad mj
   | false=>
    have AE:¬ ((S r.R.pd:Int)=s):=(by have:S r.R.pd≠s:=(by simpa[bI] using hq);omega);have HQ:=hide hq;have HI:=hide hI;clear hI hq;go_wp2_with (at_lookup;refine wp_look _ rfl _ _ 73 rfl 9 185 Tryz.underlying9 Tryz.underlying73 (Tryz.zeroValue185 _) tb n (stV ps S) rfl nE r.R.pd rfl du _ hu ?_);go_roundg (rs.length-(k+1))
    case measure=>omega
    case rel=>
     refine⟨k+1,by omega,rfl,by go_num,?_⟩;rw[ad fU,<-ad lR,ad HQ,if_neg (by decide),List.append_nil];exact ad HI
  ·have e:(rs.take k).filter (bI S s)=rs.filter (bI S s):=(by rw[List.take_of_length_le (by omega)]);rw[e] at hinv ⊢;have HI:=hide hinv;clear hinv;go_wp2_with fail;go_ret;have hI:=ad HI
   exact⟨_,_,rfl,hI.below,⟨aw hI.row hb,λ r hr=>by
    have ak:=(ad H).each r (List.mem_filter.1 hr).1
    exact⟨own_below ak.hd hI.below (λ g e=>(ak.hd.lt g e).2),ak.bo.below hI.below,ak.eq⟩⟩⟩
end
end Go.Proofs.YtldkpahaocjdpaaGreat
