/-
  The program's table of predicates: add, ground.
-/
import Derived.Test.YtldkpahaocjdpaaGreatS23
set_option maxHeartbeats 16000000
set_option maxRecDepth 1000000
namespace Go.Proofs.YtldkpahaocjdpaaGreat
section
open Go.RowKit Go.Maps
def stV (ps:P9)(S:B8->Nat):B8->Option Value:=λ k=>(numOf ps k).map λ n=>Value.agg #[.string k,.int .i64 (S k),.int .i64 n]
variable {n:Nat}
theorem numOf_meet {ps:P9}{nm:B8}(h:meetB ps nm n=true)(k:B8):numOf (meetP ps nm n) k=if k=nm then some n else numOf ps k:=by
 rw[meetB_num] at h;rw[meetP_num]
 by_cases e:k=nm
 ·subst e;rw[if_pos rfl]
  cases hn:numOf ps k with
  | none=>rw[if_pos (by rfl),num_snoc,hn];simp
  | some m=>
   rw[hn] at h;simp at h;rw[if_neg (by simp),hn,h]
 ·rw[if_neg e]
  cases hn:numOf ps nm with
  | none=>
   rw[if_pos (by rfl),num_snoc];have:¬ (nm.toList==k.toList)=true:=λ h=>e ((aN.1 h).symm)
   cases numOf ps k with
   | none=>simp only[if_neg this]
   | some m=>rfl
  | some m=>rw[if_neg (by simp)]
theorem stV_add (ps:P9)(nm:B8)(n:Nat)(h:meetB ps nm n=true):updV (stV ps (λ _=>0)) nm (.agg #[.string nm,.int .i64 0,.int .i64 n])=stV (meetP ps nm n) (λ _=>0):=by
 funext k
 unfold stV;rw[numOf_meet h]
 by_cases e:k=nm
 ·subst e;rw[updV_same,if_pos rfl];rfl
 ·rw[updV_other e,if_neg e]
structure qO (w:W8)(b n:Nat)(V:B8->Option Value)(wr:W8):Prop where
 map:SMap Tryz.prog 9 wr b n V
 kept:Kept [b] w wr
variable {wr w:W8} {V:B8->Option Value} {b:Nat}
theorem qO.alloc (h:qO w b n V wr)(o:Obj):qO w b n V (wr.alloc o):=⟨h.map.alloc o,h.kept.alloc o⟩
theorem qO.put {m:Nat}{V':B8->Option Value}{w1:W8}(h:qO w b n V wr)(hm:SMap Tryz.prog 9 w1 b m V')(hg:wr.grownBy w1 (some b)):qO w b m V' w1:=
 ⟨hm,h.kept.trans ⟨hg.os,hg.tape,hg.output,hg.size,λ k hk hn=>hg.block k hk (by simp at hn ⊢;exact hn)⟩⟩
theorem add_any (w:W8)(b n:Nat)(ps:P9)(pd:B8)(a:O8)(nt c:Nat)(h:SMap Tryz.prog 9 w b n (stV ps (λ _=>0)))(hn:n<=100000)(hp:pd.size<=800)(hb:meetB ps pd nt=true):
  Calls Tryz.prog 97 #[.map (some b),.agg #[.string pd,.slice a nt c]] w λ e w'=>e=.returned (.tuple #[])/\SMap Tryz.prog 9 w' b (n+1) (stV (meetP ps pd nt) (λ _=>0))/\Kept [b] w w':=by
 have h0:qO w b n (stV ps (λ _=>0)) (w.alloc (.cells #[.string pd,.slice a nt c] 79)):=qO.alloc ⟨h,Kept.refl _ _⟩ _;have cA:=h0.map;have du:pd.size<=maxLen:=by unfold maxLen;omega
 have HT:=hide h0;have HP:=hide (stV_add ps pd nt hb);clear h h0 hb;go_enter Tryz.func97,Tryz.ntmps97;go_wp2_with (at_mapUpdate;refine wp_put _ rfl _ _ _ 73 rfl 9 185 Tryz.underlying9 Tryz.underlying73 b n (stV ps (λ _=>0)) rfl cA (by unfold maxLen;omega) pd (.agg #[.string pd,.int .i64 0,.int .i64 nt]) (by rfl) (by rfl) du ?_);intro w2 eG dt;have ub:=(ad HT).put eG dt;rw[ad HP] at ub;have tO:=hide ub;clear HT eG dt cA ub;go_wp2_with fail;go_end0;exact⟨rfl,(ad tO).map,(ad tO).kept⟩
def bg (R:PRule):P9:=(R.pd,R.ts.length)::R.body.map λ l=>(l.pd,l.ts.length)
def meetL:P9->P9->P9
 | [],ps=>ps
 | x::r,ps=>meetL r (meetP ps x.1 x.2)
def AgreeL:P9->P9->Prop
 | [],_=>True
 | x::r,ps=>meetB ps x.1 x.2=true/\AgreeL r (meetP ps x.1 x.2)
theorem meetL_append (m:P9):∀ (l ps:P9),meetL (l++m) ps=meetL m (meetL l ps)
 | [],_=>rfl
 | _::r,_=>meetL_append m r _
theorem agreeL_append (m:P9):∀ (l ps:P9),AgreeL (l++m) ps↔AgreeL l ps/\AgreeL m (meetL l ps)
 | [],ps=>by simp[AgreeL,meetL]
 | x::r,ps=>by rw[List.cons_append,AgreeL,AgreeL,agreeL_append m r,meetL,and_assoc]
def plits (ls:List (PLit × Value)):P9:=ls.map λ x=>(x.1.pd,x.1.ts.length)
theorem patoms_eq {r:PR}{base:Nat}(h:ep w base r):bg r.R=(r.R.pd,r.R.ts.length)::plits r.bs:=by
 unfold bg plits;rw[<-h.eq,List.map_map];rfl
theorem ground_any (w:W8)(base:Nat)(ar:O8)(cr:Nat)(rs:List PR)(h:bQ w base (.slice ar rs.length cr) rs)(iH:rs.length<=30)(cQ:∀ r∈rs,r.bs.length<=3)(eR:∀ r∈rs,r.R.pd.size<=800)(j9:∀ r∈rs,∀ x∈r.bs,x.1.pd.size<=800)(kn:AgreeL ((rs.map (·.R)).flatMap bg) []):
  Calls Tryz.prog 55 #[.slice ar rs.length cr] w λ e w'=>e=.returned (.map (some w.heap.size))/\w.heap.size<w'.heap.size/\Below w.heap.size w w'/\SMap Tryz.prog 9 w' w.heap.size (4*rs.length) (stV (meetL ((rs.map (·.R)).flatMap bg) []) (λ _=>0)):=by
 have jB:=@run_makeMap Tryz.prog;have h0:SMap Tryz.prog 9 (w.alloc (.map #[] 0)) w.heap.size 0 (stV [] (λ _=>0)):=SMap.made _ _ w;have b0:Below w.heap.size w (w.alloc (.map #[] 0)):=B9.alloc L9 _;have HR:=hide h;have GD:=hide kn;clear h kn;go_enter Tryz.func55,Tryz.ntmps55;go_wp2_with fail
 go_loopg [11] rs.length (λ gg i wr=>∃ k:Nat,k<=rs.length/\gg=rs.length-k/\i=.int .i64 k/\Below w.heap.size w wr/\w.heap.size<wr.heap.size/\SMap Tryz.prog 9 wr w.heap.size (4*k) (stV (meetL (((rs.map (·.R)).take k).flatMap bg) []) (λ _=>0)))
 exact⟨0,Nat.zero_le _,rfl,rfl,b0,by simp,h0⟩
 case round=>
  clear h0 b0;obtain⟨k,hk,fK,rfl,hB,hsz,hm⟩:=hrel
  by_cases aR:k<rs.length
  ·have qS:=(ad HR).below hB;obtain⟨gr,oP,nQ,oY,ph,pD,o8,fV⟩:=row_at pr_len qS.row k aR;injection nQ with h4 h5 h6
   subst h4 h6;have ak:=(ad HR).each _ (List.getElem_mem aR);obtain⟨ah,ch,nC⟩:=own_slice ak.hd;obtain⟨ab,cb,iD⟩:=own_slice ak.bo.row;have r0:=fV 0 (by omega);have r1:=fV 1 (by omega);have r2:=fV 2 (by omega);simp only[PR.cells,nC,iD,Nat.add_zero,List.getElem?_cons_zero,List.getElem?_cons_succ] at r0 r1 r2;have eP:=ak.bo;rw[iD] at eP;have rK:=hide eP;have mN:=eR _ (List.getElem_mem aR);have jb:=cQ _ (List.getElem_mem aR);have uB:=j9 _ (List.getElem_mem aR);have mj:((rs.map (·.R)).take (k+1)).flatMap bg=((rs.map (·.R)).take k).flatMap bg++((rs[k].R.pd,rs[k].R.ts.length)::plits rs[k].bs):=by
    rw[rules_take aR,List.flatMap_append];simp[patoms_eq ak]
   have xO:AgreeL (((rs.map (·.R)).take k).flatMap bg++((rs[k].R.pd,rs[k].R.ts.length)::plits rs[k].bs)) []:=by
    have:=ad GD;rw[<-List.take_append_drop (k+1) (rs.map (·.R)),List.flatMap_append,agreeL_append,mj] at this;exact this.1
   rw[agreeL_append,AgreeL] at xO;obtain⟨_,xP,xQ⟩:=xO;have El:=hide (congrArg (λ l=>meetL l []) mj);generalize gQ:meetL (((rs.map (·.R)).take k).flatMap bg) []=ps at *;have Bq:=hide (show meetL (((rs.map (·.R)).take (k+1)).flatMap bg) []=meetL (plits rs[k].bs) (meetP ps rs[k].R.pd rs[k].R.ts.length) by rw[show meetL (((rs.map (·.R)).take (k+1)).flatMap bg) []=_ from ad El,meetL_append,gQ];rfl);have bA:=(Below.refl wr.heap.size wr).alloc L9 (.cells #[.string rs[k].R.pd,.slice ah rs[k].R.ts.length ch,.slice ab rs[k].bs.length cb] 123);have oA:(wr.alloc (.cells #[.string rs[k].R.pd,.slice ah rs[k].R.ts.length ch,.slice ab rs[k].bs.length cb] 123)).heap[wr.heap.size]?=_:=heap_alloc_new wr _;have gX:=hB.trans (bA.mono (by omega));have eY:=hm.alloc (.cells #[.string rs[k].R.pd,.slice ah rs[k].R.ts.length ch,.slice ab rs[k].bs.length cb] 123);have vX:=hide xQ;clear fV ak nC iD eP qS mj El hB hm bA xQ gQ;go_wp2_with fail;refine (add_any _ w.heap.size (4*k) ps rs[k].R.pd ah rs[k].R.ts.length ch eY (by omega) mN xP).mono ?_;rintro e w2 ⟨rfl,eG,cN⟩;have pI:=cells_keptT oA cN (by simp;omega);have cd:=cN.size;rw[World.size_alloc] at cd;have mB:=below_kept gX cN (by simp;omega) (by simp);obtain⟨x2,DP⟩:=block_cells pI 2;clear oA cN gX eY r0 r1 r2 xP;generalize meetP ps rs[k].R.pd rs[k].R.ts.length=ps1 at *;generalize lM:wr.heap.size=n1 at *;go_wp2_with fail
   go_loopg [22] rs[k].bs.length (λ gg2 j wj=>∃ (jj:Nat),jj<=rs[k].bs.length/\gg2=rs[k].bs.length-jj/\j=.int .i64 jj/\Below w.heap.size w wj/\n1<wj.heap.size/\SMap Tryz.prog 9 wj w.heap.size (4*k+1+jj) (stV (meetL ((plits rs[k].bs).take jj) ps1) (λ _=>0))/\AgreeL ((plits rs[k].bs).drop jj) (meetL ((plits rs[k].bs).take jj) ps1))
   exact⟨0,Nat.zero_le _,rfl,rfl,mB,by omega,eG,by simpa[meetL] using ad vX⟩
   case round=>
    clear mB eG pI x2 DP vX;obtain⟨j,hj,vD,rfl,hB,nO,hm,kn⟩:=hrel
    by_cases iq:j<rs[k].bs.length
    ·have ei:=(ad rK).below hB;obtain⟨g,cap,hv,iE,dn,dB,dx,hc⟩:=row_at pl_len ei.row j iq;injection hv with h1 h2 h3
     subst h1 h3;obtain⟨cy,fU,gZ⟩:=own_slice (ei.each _ (List.getElem_mem iq));have q0:=hc 0 (by omega);have q1:=hc 1 (by omega);have q2:=hc 2 (by omega);simp only[PLit.cells,gZ,Nat.add_zero,List.getElem?_cons_zero,List.getElem?_cons_succ] at q0 q1 q2;have yq:(plits rs[k].bs).drop j=(rs[k].bs[j].1.pd,rs[k].bs[j].1.ts.length)::(plits rs[k].bs).drop (j+1):=by
      rw[List.drop_eq_getElem_cons (by simpa[plits] using iq)];simp[plits]
     have ig:(plits rs[k].bs).take (j+1)=(plits rs[k].bs).take j++[(rs[k].bs[j].1.pd,rs[k].bs[j].1.ts.length)]:=by
      rw[List.take_succ_eq_append_getElem (by simpa[plits] using iq)];simp[plits]
     rw[yq,AgreeL] at kn;obtain⟨xR,xS⟩:=kn;have FJ:=uB _ (List.getElem_mem iq);have AM:=hide (show AgreeL ((plits rs[k].bs).drop (j+1)) (meetL ((plits rs[k].bs).take (j+1)) ps1) by rw[ig,meetL_append];exact xS);have gh:=hide (show meetP (meetL ((plits rs[k].bs).take j) ps1) rs[k].bs[j].1.pd rs[k].bs[j].1.ts.length=meetL ((plits rs[k].bs).take (j+1)) ps1 by rw[ig,meetL_append];rfl);have bA:=(Below.refl wr.heap.size wr).alloc L9 (.cells #[.bool rs[k].bs[j].1.neg,.string rs[k].bs[j].1.pd,.slice cy rs[k].bs[j].1.ts.length fU] 183);have gX:=hB.trans (bA.mono (by omega));have eY:=hm.alloc (.cells #[.bool rs[k].bs[j].1.neg,.string rs[k].bs[j].1.pd,.slice cy rs[k].bs[j].1.ts.length fU] 183);clear hc gZ ei yq ig xS hB hm bA;go_wp2_with fail;refine (add_any _ w.heap.size (4*k+1+j) (meetL ((plits rs[k].bs).take j) ps1) rs[k].bs[j].1.pd cy rs[k].bs[j].1.ts.length fU eY (by omega) FJ xR).mono ?_;rintro e w3 ⟨rfl,ew,fL⟩;have pX:=fL.size;rw[World.size_alloc] at pX;have iC:=below_kept gX fL (by simp;omega) (by simp);rw[ad gh] at ew;have mY:=hide ew;clear fL gX eY q0 q1 q2 xR ew;go_wp2_with fail;go_roundg (rs[k].bs.length-(j+1));exact⟨j+1,by omega,rfl,by go_num,iC,by omega,ad mY,ad AM⟩;omega
    ·have ig:(plits rs[k].bs).take j=plits rs[k].bs:=List.take_of_length_le (by simp[plits];omega);rw[ig] at hm;have HM:=hide (hm.mono (m:=4*(k+1)) (by omega));clear hm ig kn;go_wp2_with fail;go_roundg (rs.length-(k+1));exact⟨k+1,by omega,rfl,by go_num,hB,by omega,by rw[ad Bq];exact ad HM⟩;omega
  ·have e:(rs.map (·.R)).take k=rs.map (·.R):=List.take_of_length_le (by simp;omega);have ek:k=rs.length:=(by omega);rw[e,ek] at hm;have HM:=hide hm;clear hm e;go_wp2_with fail;go_ret;exact⟨rfl,hsz,hB,ad HM⟩
end
section
open Go.RowKit Go.Maps
def upTo (S:B8->Nat):List PLit->Nat->Nat
 | [],m=>m
 | l::r,m=>upTo S r (max m (S l.pd+if l.neg then 1 else 0))
open Classical in
noncomputable def setN (S:B8->Nat)(k:B8)(v:Nat):B8->Nat:=λ x=>if x=k then v else S x
theorem setN_same (S:B8->Nat)(k:B8)(v:Nat):setN S k v k=v:=by simp[setN]
variable {S:B8->Nat}
theorem setN_other {k x:B8}{v:Nat}(h:x≠k):setN S k v x=S x:=by simp[setN,h]
noncomputable def raiseS (S:B8->Nat)(R:PRule):B8->Nat:=setN S R.pd (upTo S R.body (S R.pd))
variable {m:Nat}
theorem upTo_step {ls:List (PLit × Value)}{k:Nat}(h:k<ls.length):upTo S ((ls.map (·.1)).drop k) m=upTo S ((ls.map (·.1)).drop (k+1)) (max m (S ls[k].1.pd+if ls[k].1.neg then 1 else 0)):=by
 rw[List.drop_eq_getElem_cons (by simpa using h),upTo];simp
theorem stV_set (ps:P9)(S:B8->Nat)(nm:B8)(n v:Nat)(h:numOf ps nm=some n):updV (stV ps S) nm (.agg #[.string nm,.int .i64 v,.int .i64 n])=stV ps (setN S nm v):=by
 funext k
 unfold stV
 by_cases e:k=nm
 ·subst e;rw[updV_same,h,setN_same];rfl
 ·rw[updV_other e,setN_other e]
variable {n:Nat}
theorem stV_at {ps:P9}{nm:B8}(S:B8->Nat)(h:numOf ps nm=some n):(stV ps S nm).getD (.agg #[.string { data:=#[] },.int .i64 0,.int .i64 0])=.agg #[.string nm,.int .i64 (S nm),.int .i64 n]:=by
 unfold stV;rw[h];rfl
theorem upTo_ge (S:B8->Nat):∀ (l:List PLit) (m:Nat),m<=upTo S l m
 | [],_=>Nat.le_refl _
 | _::r,_=>Nat.le_trans (Nat.le_max_left _ _) (upTo_ge S r _)
theorem upTo_le {S:B8->Nat}{c:Nat}:∀ (l:List PLit) (m:Nat),m<=c->(∀ x∈l,(S x.pd+if x.neg then 1 else 0)<=c)->upTo S l m<=c
 | [],_,h,_=>h
 | x::r,_,h,hl=>upTo_le r _ (Nat.max_le.2 ⟨h,hl x List.mem_cons_self⟩) (λ y hy=>hl y (List.mem_cons_of_mem _ hy))
theorem upTo_all {S:B8->Nat}:∀ (l:List PLit) (m:Nat),∀ x∈l,(S x.pd+if x.neg then 1 else 0)<=upTo S l m
 | [],_,_,hx=>by cases hx
 | _::r,_,x,hx=>by
  rcases List.mem_cons.1 hx with rfl | hx
  ·exact Nat.le_trans (Nat.le_max_right _ _) (upTo_ge S r _)
  ·exact upTo_all r _ x hx
theorem fieldStr (x y z:Value)(w:W8):Sem.run Tryz.prog (Instr.field 185 (.agg #[x,y,z]) 1) w=.ok y w:=by kernel_rfl
structure iL (w:W8)(b n:Nat)(V:B8->Option Value)(pd:B8)(nt m:Nat)(wr:W8):Prop where
 map:SMap Tryz.prog 9 wr b n V
 below:Below w.heap.size w wr
 size:w.heap.size+1<wr.heap.size
 BI:wr.heap[w.heap.size+1]?=some (.cells #[.string pd,.int .i64 m,.int .i64 nt] 185 (0,0))
theorem iL.next {w:W8}{b:Nat}{V:B8->Option Value}{pd:B8}{nt:Nat}{wr:W8}(h:iL w b n V pd nt m wr)(hb:b<w.heap.size)(x:Int)(m':Nat)(hx:x=m')(o:Obj):
  iL w b n V pd nt m' ((wr.setCell ⟨w.heap.size+1,1,none⟩ (.int .i64 x)).alloc o):=by
 subst hx;refine⟨(h.map.block (Below.heap_setCell _ _ _ _ (by simp;omega))).alloc o,(h.below.setCell (by simp) _).alloc ?_ o,?_,?_⟩
 ·have:=h.size;simp[World.setCell];omega
 ·have:=h.size;rw[World.size_alloc];simp[World.setCell];omega
 ·have:=h.size;rw[Below.heap_alloc _ _ _ (by simp[World.setCell];omega),heap_setCell_same _ _ _ _ _ _ h.BI];rfl
theorem raise_any (w:W8)(b n base:Nat)(ps:P9)(S:B8->Nat)(pd:B8)(ah:O8)(nh ch:Nat)(ab:O8)(cb:Nat)(ls:List (PLit × Value))(h:SMap Tryz.prog 9 w b n (stV ps S))(hL:cS w base (.slice ab ls.length cb) ls)(hn:n<=1000000000)(hp:pd.size<=800)(nt:Nat)(vN:numOf ps pd=some nt)(j9:∀ x∈ls,x.1.pd.size<=800/\∃ m,numOf ps x.1.pd=some m)(hS:∀ k,S k<=100000)(ow:ls.length<=1000):
  Calls Tryz.prog 56 #[.map (some b),.agg #[.string pd,.slice ah nh ch,.slice ab ls.length cb]] w λ e w'=>e=.returned (.bool (decide (S pd<upTo S (ls.map (·.1)) (S pd))))/\SMap Tryz.prog 9 w' b (n+1) (stV ps (setN S pd (upTo S (ls.map (·.1)) (S pd))))/\Kept [b] w w':=by
 have xZ:=h.lt;have bA:=(Below.refl w.heap.size w).alloc L9 (.cells #[.string pd,.slice ah nh ch,.slice ab ls.length cb] 123);have cA:=h.alloc (.cells #[.string pd,.slice ah nh ch,.slice ab ls.length cb] 123);have du:pd.size<=maxLen:=by unfold maxLen;omega
 have hu:=stV_at S vN;have sG:=cA.alloc (.cells #[.string pd,.int .i64 (S pd),.int .i64 nt] 185);have bB:=bA.alloc (by simp) (.cells #[.string pd,.int .i64 (S pd),.int .i64 nt] 185);have kZ:((w.alloc (.cells #[.string pd,.slice ah nh ch,.slice ab ls.length cb] 123)).alloc (.cells #[.string pd,.int .i64 (S pd),.int .i64 nt] 185)).heap[w.heap.size+1]?=some (.cells #[.string pd,.int .i64 (S pd),.int .i64 nt] 185 (0,0)):=by
  have:=heap_alloc_new (w.alloc (.cells #[.string pd,.slice ah nh ch,.slice ab ls.length cb] 123)) (.cells #[.string pd,.int .i64 (S pd),.int .i64 nt] 185);rw[World.size_alloc] at this;exact this
 have hSp:=hS pd;have HL:=hide hL;clear h hL;have uj:=fieldStr;go_enter Tryz.func56,Tryz.ntmps56;go_wp2_with (at_lookup;refine wp_look _ rfl _ _ 73 rfl 9 185 Tryz.underlying9 Tryz.underlying73 (Tryz.zeroValue185 _) b n (stV ps S) rfl cA pd rfl du _ hu ?_);clear cA bA
 go_loopg [20] ls.length (λ gg i wr=>∃ (k m:Nat),k<=ls.length/\gg=ls.length-k/\i=.int .i64 k/\iL w b n (stV ps S) pd nt m wr/\S pd<=m/\m<=100001/\upTo S ((ls.map (·.1)).drop k) m=upTo S (ls.map (·.1)) (S pd))
 exact⟨0,S pd,Nat.zero_le _,rfl,rfl,⟨sG,bB,by simp,kZ⟩,Nat.le_refl _,by omega,rfl⟩
 case round=>
  clear sG bB kZ;obtain⟨k,m,hk,fK,rfl,hR,hSm,eG,sU⟩:=hrel;have hm:=hR.map;have hB:=hR.below;have hsz:=hR.size;have kZ:=hR.BI;have HR:=hide hR;clear hR;obtain⟨x0,oC⟩:=block_cells kZ 0;obtain⟨x1,oD⟩:=block_cells kZ 1;obtain⟨x2,DP⟩:=block_cells kZ 2
  by_cases aR:k<ls.length
  ·have dj:=upTo_step (S:=S) (m:=m) aR;have HU:=hide (dj.symm.trans sU);clear dj sU;have qk:=(ad HL).below hB;obtain⟨g,cap,hv,iE,dn,dB,dx,hc⟩:=row_at pl_len qk.row k aR;injection hv with h1 h2 h3
   subst h1 h3;obtain⟨cy,fU,gZ⟩:=own_slice (qk.each _ (List.getElem_mem aR));have q0:=hc 0 (by omega);have q1:=hc 1 (by omega);have q2:=hc 2 (by omega);simp only[PLit.cells,gZ,Nat.add_zero,List.getElem?_cons_zero,List.getElem?_cons_succ] at q0 q1 q2;obtain⟨FJ,mq,JC⟩:=j9 _ (List.getElem_mem aR);have FL:ls[k].1.pd.size<=maxLen:=(by unfold maxLen;omega);have F1:=stV_at S JC;have hSq:=hS ls[k].1.pd;have nH:=hm.alloc (.cells #[.bool ls[k].1.neg,.string ls[k].1.pd,.slice cy ls[k].1.ts.length fU] 183);clear hc gZ qk hm hB kZ
   cases eH:ls[k].1.neg with
   | true=>
    rw[eH] at q0 nH HU;go_wp2_with (at_lookup;refine wp_look _ rfl _ _ 73 rfl 9 185 Tryz.underlying9 Tryz.underlying73 (Tryz.zeroValue185 _) b n (stV ps S) rfl nH ls[k].1.pd rfl FL _ F1 ?_);have hN:=(ad HR).next xZ (max (m:Int) ((S ls[k].1.pd:Int)+1)) (max m (S ls[k].1.pd+1)) (by omega) (.cells #[.bool true,.string ls[k].1.pd,.slice cy ls[k].1.ts.length fU] 183);go_roundg (ls.length-(k+1));exact⟨k+1,max m (S ls[k].1.pd+1),by omega,rfl,by go_num,hN,by omega,by omega,by simpa using ad HU⟩;omega
   | false=>
    rw[eH] at q0 nH HU;go_wp2_with (at_lookup;refine wp_look _ rfl _ _ 73 rfl 9 185 Tryz.underlying9 Tryz.underlying73 (Tryz.zeroValue185 _) b n (stV ps S) rfl nH ls[k].1.pd rfl FL _ F1 ?_);have hN:=(ad HR).next xZ (max (m:Int) (S ls[k].1.pd:Int)) (max m (S ls[k].1.pd)) (by omega) (.cells #[.bool false,.string ls[k].1.pd,.slice cy ls[k].1.ts.length fU] 183);go_roundg (ls.length-(k+1));exact⟨k+1,max m (S ls[k].1.pd),by omega,rfl,by go_num,hN,by omega,by omega,by simpa using ad HU⟩;omega
  ·have hd:(ls.map (·.1)).drop k=[]:=List.drop_eq_nil_of_le (by simp;omega);rw[hd,upTo] at sU;have zY:=hide sU;have gP:=hide (stV_set ps S pd nt m vN);clear hd sU hu kZ;go_wp2_with (at_mapUpdate;refine wp_put _ rfl _ _ _ 73 rfl 9 185 Tryz.underlying9 Tryz.underlying73 b n (stV ps S) rfl hm (by unfold maxLen;omega) pd (.agg #[.string pd,.int .i64 m,.int .i64 nt]) (by rfl) (by rfl) du ?_);intro w2 eG dt;have ub:=qO.put ⟨hm,(Kept.refl _ _).aG hB⟩ eG dt;rw[ad gP,ad zY] at ub;have tO:=hide ub;have so:w2.heap[w.heap.size+1]?=some (.cells #[.string pd,.int .i64 m,.int .i64 nt] 185 (0,0)):=by
    rw[dt.block _ hsz (by simp;omega)];exact (ad HR).BI
   obtain⟨y1,DT⟩:=block_cells so 1;clear eG dt ub hm hB so x0 x1 x2 oC oD DP;go_wp2_with fail;go_ret;exact⟨by rw[ad zY];rfl,(ad tO).map,(ad tO).kept⟩
end
section
open Go.RowKit Go.Maps
def KeepsN (f:B8->Nat)(R:PRule):Prop:=∀ l∈R.body,(f l.pd+if l.neg then 1 else 0)<=f R.pd
def ValidN (rs:List PRule)(f:B8->Nat):Prop:=∀ R∈rs,KeepsN f R
def LowN (rs:List PRule)(S:B8->Nat):Prop:=∀ f,ValidN rs f->∀ k,S k<=f k
theorem raiseS_ge (S:B8->Nat)(R:PRule)(k:B8):S k<=raiseS S R k:=by
 unfold raiseS
 by_cases e:k=R.pd
 ·subst e;rw[setN_same];exact upTo_ge _ _ _
 ·rw[setN_other e];exact Nat.le_refl _
variable {R:PRule} {S:B8->Nat} {rs:List PRule}
theorem low_raise (h:LowN rs S)(hR:R∈rs):LowN rs (raiseS S R):=by
 intro f hf k;unfold raiseS
 by_cases e:k=R.pd
 ·subst e;rw[setN_same];refine upTo_le _ _ (h f hf _) λ x hx=>?_
  have h1:=h f hf x.pd;have h2:=hf R hR x hx;omega
 ·rw[setN_other e];exact h f hf k
theorem raise_still (h:¬ S R.pd<upTo S R.body (S R.pd)):KeepsN S R/\raiseS S R=S:=by
 have h2:upTo S R.body (S R.pd)=S R.pd:=Nat.le_antisymm (Nat.not_lt.1 h) (upTo_ge _ _ _);refine⟨λ l hl=>?_,?_⟩
 ·have:=upTo_all R.body (S R.pd) (S:=S) l hl
  rwa [h2] at this
 ·funext k
  unfold raiseS
  by_cases e:k=R.pd
  ·subst e;rw[setN_same,h2]
  ·rw[setN_other e]
def sumN (S:B8->Nat):P9->Nat
 | []=>0
 | p::r=>S p.1+sumN S r
theorem sumN_le {S T:B8->Nat}(h:∀ k,S k<=T k):∀ ps,sumN S ps<=sumN T ps
 | []=>Nat.le_refl _
 | p::r=>Nat.add_le_add (h p.1) (sumN_le h r)
theorem sumN_lt {S T:B8->Nat}(h:∀ k,S k<=T k){p:B8 × Nat}(hp:S p.1<T p.1):∀ ps,p∈ps->sumN S ps<sumN T ps
 | [],hm=>by cases hm
 | q::r,hm=>by
  rcases List.mem_cons.1 hm with rfl | hm
  ·exact Nat.add_lt_add_of_lt_of_le hp (sumN_le h r)
  ·exact Nat.add_lt_add_of_le_of_lt (h q.1) (sumN_lt h hp r hm)
theorem sumN_bound {S:B8->Nat}{c:Nat}(h:∀ k,S k<=c):∀ ps,sumN S ps<=c*ps.length
 | []=>Nat.zero_le _
 | p::r=>by
  have:=sumN_bound h r;have h1:=h p.1;simp only[sumN,List.length_cons,Nat.mul_add,Nat.mul_one];omega
theorem numOf_mem {nm:B8}{n:Nat}:∀ {ps:P9},numOf ps nm=some n->∃ p∈ps,p.1=nm
 | [],h=>by simp[numOf] at h
 | p::r,h=>by
  rw[numOf] at h
  split at h
  ·rename_i e;exact⟨p,List.mem_cons_self,aN.1 e⟩
  ·obtain⟨q,hq,e⟩:=numOf_mem h;exact⟨q,List.mem_cons_of_mem _ hq,e⟩
structure kO (rs:List PRule)(ps:P9)(S0:B8->Nat)(k:Nat)(b:Bool)(S:B8->Nat):Prop where
 low:LowN rs S
 ge:sumN S0 ps<=sumN S ps
 up:b=true->sumN S0 ps<sumN S ps
 keeps:b=false->∀ R∈rs.take k,KeepsN S R
theorem kO.next {ps:P9}{S0:B8->Nat}{k:Nat}{b:Bool}(h:kO rs ps S0 k b S)(hk:k<rs.length){n:Nat}(hn:numOf ps rs[k].pd=some n):kO rs ps S0 (k+1) (if decide (S rs[k].pd<upTo S rs[k].body (S rs[k].pd)) then true else b) (raiseS S rs[k]):=by
 have uk:=sumN_le (raiseS_ge S rs[k]) ps
 by_cases hu:S rs[k].pd<upTo S rs[k].body (S rs[k].pd)
 ·obtain⟨p,hp,e⟩:=numOf_mem hn;have bS:sumN S ps<sumN (raiseS S rs[k]) ps:=sumN_lt (raiseS_ge S rs[k]) (p:=p) (by rw[e,raiseS,setN_same];exact hu) ps hp;simp only[hu,decide_true,if_true];exact⟨low_raise h.low (List.getElem_mem hk),Nat.le_trans h.ge uk,λ _=>Nat.lt_of_le_of_lt h.ge bS,λ e=>by cases e⟩
 ·obtain⟨h1,h2⟩:=raise_still hu;simp only[hu,decide_false,h2];refine⟨h.low,h.ge,by simpa using h.up,λ e R hR=>?_⟩;rw[List.take_succ_eq_append_getElem hk,List.mem_append] at hR;rcases hR with hR | hR
  ·exact h.keeps (by simpa using e) R hR
  ·rw[List.mem_singleton.1 hR];exact h1
theorem of_any (w:W8)(base:Nat)(ar:O8)(cr:Nat)(rs:List PR)(ps:P9)(h:bQ w base (.slice ar rs.length cr) rs)(iH:rs.length<=30)(cQ:∀ r∈rs,r.bs.length<=3)(eR:∀ r∈rs,r.R.pd.size<=800)(j9:∀ r∈rs,∀ x∈r.bs,x.1.pd.size<=800)(kn:AgreeL ((rs.map (·.R)).flatMap bg) [])(gQ:meetL ((rs.map (·.R)).flatMap bg) []=ps)(dQ:ps.length<=1000)(ak:∀ r∈rs,(∃ n,numOf ps r.R.pd=some n)/\∀ x∈r.bs,∃ n,numOf ps x.1.pd=some n)(f0:B8->Nat)(jN:ValidN (rs.map (·.R)) f0)(je:∀ k,f0 k<=1000):
  Calls Tryz.prog 35 #[.slice ar rs.length cr] w λ e w'=>e=.returned (.map (some w.heap.size))/\w.heap.size<w'.heap.size/\Below w.heap.size w w'/\∃ (S:B8->Nat) (n:Nat),SMap Tryz.prog 9 w' w.heap.size n (stV ps S)/\n<=1000000000/\ValidN (rs.map (·.R)) S/\LowN (rs.map (·.R)) S:=by
 have HR:=hide h;have hsf:=sumN_bound je ps;go_enter Tryz.func35,Tryz.ntmps35;go_wp2_with fail;refine (ground_any w base ar cr rs h iH cQ eR j9 kn).mono ?_;rintro e w1 ⟨rfl,cD,aX,eY⟩;rw[gQ] at eY;clear h kn gQ;go_wp2_with fail
 go_loopg [4] (sumN f0 ps+1) (λ gg r wr=>∃ (b:Bool) (S:B8->Nat) (n:Nat),r=.bool b/\(b=true->sumN f0 ps-sumN S ps+1<=gg)/\n+30*gg<=120+30*(sumN f0 ps+1)/\Below w.heap.size w wr/\w.heap.size<wr.heap.size/\SMap Tryz.prog 9 wr w.heap.size n (stV ps S)/\LowN (rs.map (·.R)) S/\(b=false->ValidN (rs.map (·.R)) S))
 exact⟨true,λ _=>0,4*rs.length,rfl,λ _=>by omega,by omega,aX,cD,eY,λ _ _ _=>Nat.zero_le _,λ e=>by cases e⟩
 case round=>
  clear aX cD eY;obtain⟨b,S0,n0,rfl,dm,C6,hB,hsz,hm,aZ,fN⟩:=hrel
  cases b with
  | false=>
   have HV:=hide (fN rfl);have wR:=hide aZ;clear aZ fN;go_wp2_with fail;go_ret;exact⟨rfl,hsz,hB,S0,n0,hm,by omega,ad HV,ad wR⟩
  | true=>
   have fK:=dm rfl;generalize ft:gk=g1 at *;have h0:kO (rs.map (·.R)) ps S0 0 false S0:=⟨aZ,Nat.le_refl _,(λ e=>by cases e),λ _ R hR=>by simp at hR⟩;clear dm fN aZ;go_wp2_with fail
   go_loopg [4,12] rs.length (λ gg2 r j wj=>∃ (b:Bool) (S:B8->Nat) (k:Nat),r=.bool b/\k<=rs.length/\gg2=rs.length-k/\j=.int .i64 k/\Below w.heap.size w wj/\w.heap.size<wj.heap.size/\SMap Tryz.prog 9 wj w.heap.size (n0+k) (stV ps S)/\kO (rs.map (·.R)) ps S0 k b S)
   exact⟨false,S0,0,rfl,Nat.zero_le _,rfl,rfl,hB,hsz,hm,h0⟩
   case round=>
    clear hB hm h0;obtain⟨b,S,k,rfl,hk,I8,rfl,hB,hsz,hm,eT⟩:=hrel
    by_cases aR:k<rs.length
    ·have qS:=(ad HR).below hB;obtain⟨gr,oP,nQ,oY,ph,pD,o8,fV⟩:=row_at pr_len qS.row k aR;injection nQ with h4 h5 h6
     subst h4 h6;have kr:=(ad HR).each _ (List.getElem_mem aR);obtain⟨ah,ch,nC⟩:=own_slice kr.hd;obtain⟨ab,cb,iD⟩:=own_slice kr.bo.row;have r0:=fV 0 (by omega);have r1:=fV 1 (by omega);have r2:=fV 2 (by omega);simp only[PR.cells,nC,iD,Nat.add_zero,List.getElem?_cons_zero,List.getElem?_cons_succ] at r0 r1 r2;have mN:=eR _ (List.getElem_mem aR);obtain⟨⟨nt,jQ⟩,nG⟩:=ak _ (List.getElem_mem aR);have uB:=j9 _ (List.getElem_mem aR);have IV:=cQ _ (List.getElem_mem aR);have eY:=hm.alloc (.cells #[.string rs[k].R.pd,.slice ah rs[k].R.ts.length ch,.slice ab rs[k].bs.length cb] 123);have gX:=hB.alloc (by omega) (.cells #[.string rs[k].R.pd,.slice ah rs[k].R.ts.length ch,.slice ab rs[k].bs.length cb] 123);have eP:cS (wr.alloc (.cells #[.string rs[k].R.pd,.slice ah rs[k].R.ts.length ch,.slice ab rs[k].bs.length cb] 123)) base (.slice ab rs[k].bs.length cb) rs[k].bs:=by
      have:=kr.bo.below gX
      rwa [iD] at this
     have Db:=eT.next (by simpa using aR) (n:=nt) (by simpa using jQ);have sD:∀ x,S x<=100000:=λ x=>Nat.le_trans (Nat.le_trans (eT.low f0 jN x) (je x)) (by omega)
     simp only[List.getElem_map] at Db;have heq:=kr.eq;have rQ:=hide Db;clear fV kr nC iD qS Db eT hB hm;go_wp2_with fail;refine (raise_any _ w.heap.size (n0+k) base ps S rs[k].R.pd ah rs[k].R.ts.length ch ab cb rs[k].bs eY eP (by omega) mN nt jQ (λ x hx=>⟨uB x hx,nG x hx⟩) sD (by omega)).mono ?_;rintro e w3 ⟨rfl,ew,fL⟩;have pX:=fL.size;rw[World.size_alloc] at pX;have iC:=below_kept gX fL (by simp;omega) (by simp);rw[heq] at ew ⊢;have mY:Hid (SMap Tryz.prog 9 w3 w.heap.size (n0+(k+1)) (stV ps (raiseS S rs[k].R))):=hide ew;clear ew fL gX eY eP r0 r1 r2 sD heq;generalize decide (S rs[k].R.pd<upTo S rs[k].R.body (S rs[k].R.pd))=c at rQ ⊢
     cases c with
     | true=>
      go_wp2_with fail;go_roundg (rs.length-(k+1));exact⟨true,_,k+1,rfl,by omega,rfl,by go_num,iC,by omega,ad mY,ad rQ⟩;omega
     | false=>
      go_wp2_with fail;go_roundg (rs.length-(k+1));exact⟨b,_,k+1,rfl,by omega,rfl,by go_num,iC,by omega,ad mY,ad rQ⟩;omega
    ·have du:k=rs.length:=(by omega);have uk:=eT.ge;have sU:=eT.up;have vK:=sumN_le (eT.low f0 jN) ps;have Ef:=hide eT;have zY:=hide sU;clear eT sU;go_wp2_with fail;go_roundg (g1-1);exact⟨b,S,n0+k,rfl,λ e=>by have:=ad zY e;omega,by omega,hB,hsz,hm,(ad Ef).low,λ e R hR=>(ad Ef).keeps e R (by rwa [List.take_of_length_le (by simp;omega)])⟩;omega
end
section
open Go.RowKit Go.Maps
def bH (S:B8->Nat)(s:Nat)(r:PR):Bool:=S r.R.pd==s
structure kN (w:W8)(base:Nat)(rv:Value)(rs:List PR)(tb n:Nat)(ps:P9)(S:B8->Nat)(l:List PR)(v:Value)(wr:W8):Prop where
 row:wr.ownsRow w.heap.size 123 3 v l.length (l.flatMap PR.cells)
 below:Below w.heap.size w wr
variable {wr w:W8} {v rv:Value} {l rs:List PR} {S:B8->Nat} {ps:P9} {tb n base:Nat}
theorem kN.alloc (h:kN w base rv rs tb n ps S l v wr)(o:Obj):kN w base rv rs tb n ps S l v (wr.alloc o):=⟨h.row.alloc o,h.below.alloc h.below.size _⟩
theorem kN.append {v':Value}{w5:W8}(h:kN w base rv rs tb n ps S l v wr){r:PR}(aI:w5.ownsRow w.heap.size 123 3 v' (l.length+1) (l.flatMap PR.cells++r.cells))(hg:wr.grownBy w5 v.ownBlock):kN w base rv rs tb n ps S (l++[r]) v' w5:=by
 have hs:=h.below.size;have hb:∀ g,g<w.heap.size->w5.heap[g]?=wr.heap[g]?:=λ g js=>hg.block g (by omega) (λ e=>by have:=(h.row.lt g e.symm).1;omega)
 refine⟨?_,h.below.trans ⟨hg.os,hg.tape,hg.output,hg.size,hb⟩⟩;simpa using aI
def OSPost (w:W8)(base:Nat)(rs:List PR)(S:B8->Nat)(s:Nat)(en:Ending)(w':W8):Prop:=
 ∃ a c,en=.returned (.slice a (rs.filter (bH S s)).length c)/\Below w.heap.size w w'/\bQ w' base (.slice a (rs.filter (bH S s)).length c) (rs.filter (bH S s))
theorem ofstr_any (w:W8)(base:Nat)(ar:O8)(cr:Nat)(rs:List PR)(tb n:Nat)(ps:P9)(S:B8->Nat)(s:Nat)(h:bQ w base (.slice ar rs.length cr) rs)(hb:base<=w.heap.size)(ht:SMap Tryz.prog 9 w tb n (stV ps S))(hl:rs.length<=1000)(eR:∀ r∈rs,r.R.pd.size<=800/\(numOf ps r.R.pd).isSome=true):
  Calls Tryz.prog 61 #[.slice ar rs.length cr,.map (some tb),.int .i64 (s:Nat)] w (OSPost w base rs S s):=by
 obtain⟨i0,hi,dD,cD,cd⟩:=info_parts infoPRule;have H:=hide h;have HT:=hide ht;have qD:=hide eR;have h0:kN w base (.slice ar rs.length cr) rs tb n ps S [] (.slice none 0 0) w:=⟨World.ownsRow_nil _ _ _ _,Below.refl _ _⟩;have H0:=hide h0;have gq:=ht.lt;clear h ht eR h0;have uj:=fieldStr;go_enter Tryz.func61,Tryz.ntmps61;go_wp2_with fail
 go_loopg [7,12] rs.length (λ gg v i wr=>∃ k:Nat,k<=rs.length/\gg=rs.length-k/\i=.int .i64 k/\kN w base (.slice ar rs.length cr) rs tb n ps S ((rs.take k).filter (bH S s)) v wr)
 exact⟨0,Nat.zero_le _,rfl,rfl,ad H0⟩
 case round=>
  clear H0;obtain⟨k,hk,fK,rfl,hinv⟩:=hrel;obtain⟨a1,kU,rfl⟩:=own_slice hinv.row
  by_cases aR:k<rs.length
  ·obtain⟨r,eI⟩:∃ r,r=rs[k]:=⟨_,rfl⟩;have bE:r∈rs:=(by rw[eI];exact List.getElem_mem aR);have ak:=(ad H).each r bE;obtain⟨ah,ch,fF⟩:=own_slice ak.hd;obtain⟨ab,cb,fq⟩:=own_slice ak.bo.row;obtain⟨g,cap,hv,iE,dn,dB,dx,hc⟩:=row_at pr_len3 (ad H).row k aR;injection hv with h1 h2 h3
   subst h1 h3;have ei:=hinv.below;have e0:wr.cell? ⟨g,k*3,none⟩=some (.string r.R.pd):=(by rw[eI];exact (ei.cell (p:=⟨g,k*3,none⟩) dn).trans (hc 0 (by omega)));have e1:wr.cell? ⟨g,k*3+1,none⟩=some (.slice ah r.R.ts.length ch):=(by rw[<-fF,eI];exact (ei.cell (p:=⟨g,k*3+1,none⟩) dn).trans (hc 1 (by omega)));have e2:wr.cell? ⟨g,k*3+2,none⟩=some (.slice ab r.bs.length cb):=(by rw[<-fq,eI];exact (ei.cell (p:=⟨g,k*3+2,none⟩) dn).trans (hc 2 (by omega)));have gM:(k:Int)<rs.length:=(by omega);have hI:=hinv.alloc (.cells #[.string r.R.pd,.slice ah r.R.ts.length ch,.slice ab r.bs.length cb] 123);have nH:SMap Tryz.prog 9 (wr.alloc (.cells #[.string r.R.pd,.slice ah r.R.ts.length ch,.slice ab r.bs.length cb] 123)) tb n (stV ps S):=(ad HT).block (hI.below.block tb gq);obtain⟨mN,gQ⟩:=ad qD r bE;have du:r.R.pd.size<=maxLen:=(by unfold maxLen;omega);obtain⟨m,hm⟩:=Option.isSome_iff_exists.1 gQ;have hu:(stV ps S r.R.pd).getD (.agg #[.string { data:=#[] },.int .i64 0,.int .i64 0])=.agg #[.string r.R.pd,.int .i64 (S r.R.pd),.int .i64 m]:=(by unfold stV;rw[hm];rfl);have lJ:((rs.take k).filter (bH S s)).length<=1000:=Nat.le_trans (List.length_filter_le _ _) (by simp;omega);have rB:r=⟨r.R,.slice ah r.R.ts.length ch,r.bs,.slice ab r.bs.length cb⟩:=(by rw[<-fF,<-fq]);have Il:=hide rB;have gh:=hide (take_filter (f:=bH S s) aR);have oh:=hide eI;have sX:=hinv.below.size;clear hc hinv ak eI bE ei h2 gQ hm fF fq rB
   cases hq:bH S s r with
   | true=>
    have Av:(S r.R.pd:Int)=s:=(by have:S r.R.pd=s:=(by simpa[bH] using hq);omega);have HQ:=hide hq;have bz:=(hI.alloc (.cells #[.string r.R.pd,.slice ah r.R.ts.length ch,.slice ab r.bs.length cb] 123)).row;have HI:=hide (hI.alloc (.cells #[.string r.R.pd,.slice ah r.R.ts.length ch,.slice ab r.bs.length cb] 123));clear hI hq
    go_wp2_with (first
     | (at_lookup;refine wp_look _ rfl _ _ 73 rfl 9 185 Tryz.underlying9 Tryz.underlying73 (Tryz.zeroValue185 _) tb n (stV ps S) rfl nH r.R.pd rfl du _ hu ?_)
     | (at_builtin;refine wpList_append_own _ rfl _ _ 75 rfl w.heap.size 123 i0 _ 3 64 Tryz.underlying75 hi dD cD cd rfl (by decide) _ _ _ rfl bz ⟨wr.heap.size+1,0,none⟩ 1 1 (PR.mk r.R (.slice ah r.R.ts.length ch) r.bs (.slice ab r.bs.length cb)).cells rfl rfl (pr_cell wr _ (PR.mk r.R (.slice ah r.R.ts.length ch) r.bs (.slice ab r.bs.length cb))) (pr_one _ _ _ _ _ _ _ _) (by unfold maxLen;omega) (by omega) (by simp;omega) ?_;intro v5 w5 aL dh dr;clear dr;obtain⟨a5,gF,rfl⟩:=own_slice aL;have mr:=hide ((ad HI).append aL dh);clear aL dh))
    go_roundg (rs.length-(k+1))
    case measure=>omega
    case rel=>
     refine⟨k+1,by omega,rfl,by go_num,?_⟩;rw[ad gh,<-ad oh,ad HQ,if_pos rfl,ad Il];exact ad mr
   | false=>
    have Av:¬ ((S r.R.pd:Int)=s):=(by have:S r.R.pd≠s:=(by simpa[bH] using hq);omega);have HQ:=hide hq;have HI:=hide hI;clear hI hq;go_wp2_with (at_lookup;refine wp_look _ rfl _ _ 73 rfl 9 185 Tryz.underlying9 Tryz.underlying73 (Tryz.zeroValue185 _) tb n (stV ps S) rfl nH r.R.pd rfl du _ hu ?_);go_roundg (rs.length-(k+1))
    case measure=>omega
    case rel=>
     refine⟨k+1,by omega,rfl,by go_num,?_⟩;rw[ad gh,<-ad oh,ad HQ,if_neg (by decide),List.append_nil];exact ad HI
  ·have e:(rs.take k).filter (bH S s)=rs.filter (bH S s):=(by rw[List.take_of_length_le (by omega)]);rw[e] at hinv ⊢;have HI:=hide hinv;clear hinv;go_wp2_with fail;go_ret;have hI:=ad HI
   exact⟨_,_,rfl,hI.below,⟨ax hI.row hb,λ r hr=>by
    have ak:=(ad H).each r (List.mem_filter.1 hr).1
    exact⟨own_below ak.hd hI.below (λ g e=>(ak.hd.lt g e).2),ak.bo.below hI.below,ak.eq⟩⟩⟩
end
end Go.Proofs.YtldkpahaocjdpaaGreat
