/-
  The program's table of predicates: add, ground.
-/
import Derived.Test.YtldkpahaocjdpaaGreatE23
set_option maxHeartbeats 16000000
set_option maxRecDepth 1000000
namespace Go.Proofs.YtldkpahaocjdpaaGreat
section
open Go.RowKit Go.Maps
def stV (ps:P9)(S:B8->Nat):B8->Option Value:=λ k=>(yX ps k).map λ n=>Value.agg #[.string k,.int .i64 (S k),.int .i64 n]
variable {n:Nat}
theorem zjb {ps:P9}{nm:B8}(h:iJ ps nm n=true)(k:B8):yX (qW ps nm n) k=if k=nm then some n else yX ps k:=by
 rw[za6] at h;rw[zr1]
 by_cases e:k=nm
 ·subst e;rw[if_pos rfl]
  cases hn:yX ps k with
  | none=>rw[if_pos (by rfl),zkl,hn];simp
  | some m=>
   rw[hn] at h;simp at h;rw[if_neg (by simp),hn,h]
 ·rw[if_neg e]
  cases hn:yX ps nm with
  | none=>
   rw[if_pos (by rfl),zkl];have:¬ (nm.toList==k.toList)=true:=λ h=>e ((xO.1 h).symm)
   cases yX ps k with
   | none=>simp only[if_neg this]
   | some m=>rfl
  | some m=>rw[if_neg (by simp)]
theorem ycb (ps:P9)(nm:B8)(n:Nat)(h:iJ ps nm n=true):z0b (stV ps (λ _=>0)) nm (.agg #[.string nm,.int .i64 0,.int .i64 n])=stV (qW ps nm n) (λ _=>0):=by
 funext k
 unfold stV;rw[zjb h]
 by_cases e:k=nm
 ·subst e;rw[zbc,if_pos rfl];rfl
 ·rw[qB e,if_neg e]
structure CK (w:W8)(b n:Nat)(V:B8->Option Value)(wr:W8):Prop where
 map:dE Tryz.prog 9 wr b n V
 kept:zK [b] w wr
variable {wr w:W8} {V:B8->Option Value} {b:Nat}
theorem CK.alloc (h:CK w b n V wr)(o:Obj):CK w b n V (wr.alloc o):=⟨h.map.alloc o,h.kept.alloc o⟩
theorem CK.put {m:Nat}{V':B8->Option Value}{w1:W8}(h:CK w b n V wr)(hm:dE Tryz.prog 9 w1 b m V')(hg:wr.grownBy w1 (some b)):CK w b m V' w1:=
 ⟨hm,h.kept.trans ⟨hg.os,hg.tape,hg.output,hg.size,λ k hk hn=>hg.block k hk (by simp at hn ⊢;exact hn)⟩⟩
theorem z02 (w:W8)(b n:Nat)(ps:P9)(pd:B8)(a:O8)(nt c:Nat)(h:dE Tryz.prog 9 w b n (stV ps (λ _=>0)))(hn:n<=100000)(hp:pd.size<=800)(hb:iJ ps pd nt=true):
  Calls Tryz.prog 97 #[.map (some b),.agg #[.string pd,.slice a nt c]] w λ e w'=>e=.returned (.tuple #[])/\dE Tryz.prog 9 w' b (n+1) (stV (qW ps pd nt) (λ _=>0))/\zK [b] w w':=by
 have h0:CK w b n (stV ps (λ _=>0)) (w.alloc (.cells #[.string pd,.slice a nt c] 79)):=CK.alloc ⟨h,zK.refl _ _⟩ _;have dI:=h0.map;have dF:pd.size<=maxLen:=by unfold maxLen;omega
 have HT:=zC h0;have HP:=zC (ycb ps pd nt hb);clear h h0 hb;go_enter Tryz.func97,Tryz.ntmps97;go_wp2_with (at_mapUpdate;refine zox _ rfl _ _ _ 73 rfl 9 185 Tryz.underlying9 Tryz.underlying73 b n (stV ps (λ _=>0)) rfl dI (by unfold maxLen;omega) pd (.agg #[.string pd,.int .i64 0,.int .i64 nt]) (by rfl) (by rfl) dF ?_);intro w2 dD fL;have FQ:=(zA HT).put dD fL;rw[zA HP] at FQ;have uN:=zC FQ;clear HT dD fL dI FQ;go_wp2_with fail;go_end0;exact⟨rfl,(zA uN).map,(zA uN).kept⟩
def jN (R:vY):P9:=(R.pd,R.ts.length)::R.body.map λ l=>(l.pd,l.ts.length)
def iK:P9->P9->P9
 | [],ps=>ps
 | x::r,ps=>iK r (qW ps x.1 x.2)
def zbh:P9->P9->Prop
 | [],_=>True
 | x::r,ps=>iJ ps x.1 x.2=true/\zbh r (qW ps x.1 x.2)
theorem zdd (m:P9):∀ (l ps:P9),iK (l++m) ps=iK m (iK l ps)
 | [],_=>rfl
 | _::r,_=>zdd m r _
theorem zeg (m:P9):∀ (l ps:P9),zbh (l++m) ps↔zbh l ps/\zbh m (iK l ps)
 | [],ps=>by simp[zbh,iK]
 | x::r,ps=>by rw[List.cons_append,zbh,zbh,zeg m r,iK,and_assoc]
def zcc (ls:List (vK × Value)):P9:=ls.map λ x=>(x.1.pd,x.1.ts.length)
theorem z36 {r:PR}{base:Nat}(h:uh w base r):jN r.R=(r.R.pd,r.R.ts.length)::zcc r.bs:=by
 unfold jN zcc;rw[<-h.eq,List.map_map];rfl
theorem zyj (w:W8)(base:Nat)(ar:O8)(cr:Nat)(rs:List PR)(h:iq w base (.slice ar rs.length cr) rs)(nH:rs.length<=30)(cI:∀ r∈rs,r.bs.length<=3)(jk:∀ r∈rs,r.R.pd.size<=800)(Db:∀ r∈rs,∀ x∈r.bs,x.1.pd.size<=800)(xg:zbh ((rs.map (·.R)).flatMap jN) []):
  Calls Tryz.prog 55 #[.slice ar rs.length cr] w λ e w'=>e=.returned (.map (some w.heap.size))/\w.heap.size<w'.heap.size/\Below w.heap.size w w'/\dE Tryz.prog 9 w' w.heap.size (4*rs.length) (stV (iK ((rs.map (·.R)).flatMap jN) []) (λ _=>0)):=by
 have nx:=@run_makeMap Tryz.prog;have h0:dE Tryz.prog 9 (w.alloc (.map #[] 0)) w.heap.size 0 (stV [] (λ _=>0)):=dE.made _ _ w;have b0:Below w.heap.size w (w.alloc (.map #[] 0)):=B9.alloc L9 _;have HR:=zC h;have VA:=zC xg;clear h xg;go_enter Tryz.func55,Tryz.ntmps55;go_wp2_with fail
 go_loopg [11] rs.length (λ gg i wr=>∃ k:Nat,k<=rs.length/\gg=rs.length-k/\i=.int .i64 k/\Below w.heap.size w wr/\w.heap.size<wr.heap.size/\dE Tryz.prog 9 wr w.heap.size (4*k) (stV (iK (((rs.map (·.R)).take k).flatMap jN) []) (λ _=>0)))
 exact⟨0,Nat.zero_le _,rfl,rfl,b0,by simp,h0⟩
 case round=>
  clear h0 b0;obtain⟨k,hk,eD,rfl,hB,bj,hm⟩:=hrel
  by_cases aF:k<rs.length
  ·have CN:=(zA HR).below hB;obtain⟨gr,dz,AS,CX,C6,De,C2,nk⟩:=vX zsm CN.row k aF;injection AS with h4 h5 h6
   subst h4 h6;have ax:=(zA HR).each _ (List.getElem_mem aF);obtain⟨ah,ch,zn⟩:=zD ax.hd;obtain⟨ab,cb,mu⟩:=zD ax.bo.row;have r0:=nk 0 (by omega);have r1:=nk 1 (by omega);have r2:=nk 2 (by omega);simp only[PR.cells,zn,mu,Nat.add_zero,List.getElem?_cons_zero,List.getElem?_cons_succ] at r0 r1 r2;have iz:=ax.bo;rw[mu] at iz;have I0:=zC iz;have ft:=jk _ (List.getElem_mem aF);have dK:=cI _ (List.getElem_mem aF);have Ge:=Db _ (List.getElem_mem aF);have sZ:((rs.map (·.R)).take (k+1)).flatMap jN=((rs.map (·.R)).take k).flatMap jN++((rs[k].R.pd,rs[k].R.ts.length)::zcc rs[k].bs):=by
    rw[zjd aF,List.flatMap_append];simp[z36 ax]
   have Kb:zbh (((rs.map (·.R)).take k).flatMap jN++((rs[k].R.pd,rs[k].R.ts.length)::zcc rs[k].bs)) []:=by
    have:=zA VA;rw[<-List.take_append_drop (k+1) (rs.map (·.R)),List.flatMap_append,zeg,sZ] at this;exact this.1
   rw[zeg,zbh] at Kb;obtain⟨_,Kc,Kd⟩:=Kb;have Sx:=zC (congrArg (λ l=>iK l []) sZ);generalize pF:iK (((rs.map (·.R)).take k).flatMap jN) []=ps at *;have OO:=zC (show iK (((rs.map (·.R)).take (k+1)).flatMap jN) []=iK (zcc rs[k].bs) (qW ps rs[k].R.pd rs[k].R.ts.length) by rw[show iK (((rs.map (·.R)).take (k+1)).flatMap jN) []=_ from zA Sx,zdd,pF];rfl);have bA:=(Below.refl wr.heap.size wr).alloc L9 (.cells #[.string rs[k].R.pd,.slice ah rs[k].R.ts.length ch,.slice ab rs[k].bs.length cb] 123);have Ch:(wr.alloc (.cells #[.string rs[k].R.pd,.slice ah rs[k].R.ts.length ch,.slice ab rs[k].bs.length cb] 123)).heap[wr.heap.size]?=_:=heap_alloc_new wr _;have gz:=hB.trans (bA.mono (by omega));have dH:=hm.alloc (.cells #[.string rs[k].R.pd,.slice ah rs[k].R.ts.length ch,.slice ab rs[k].bs.length cb] 123);have IT:=zC Kd;clear nk ax zn mu iz CN sZ Sx hB hm bA Kd pF;go_wp2_with fail;refine (z02 _ w.heap.size (4*k) ps rs[k].R.pd ah rs[k].R.ts.length ch dH (by omega) ft Kc).mono ?_;rintro e w2 ⟨rfl,dD,bn⟩;have AE:=yK Ch bn (by simp;omega);have bg:=bn.size;rw[World.size_alloc] at bg;have lu:=zY gz bn (by simp;omega) (by simp);obtain⟨x2,Me⟩:=zB AE 2;clear Ch bn gz dH r0 r1 r2 Kc;generalize qW ps rs[k].R.pd rs[k].R.ts.length=ps1 at *;generalize ia:wr.heap.size=n1 at *;go_wp2_with fail
   go_loopg [22] rs[k].bs.length (λ gg2 j wj=>∃ (jj:Nat),jj<=rs[k].bs.length/\gg2=rs[k].bs.length-jj/\j=.int .i64 jj/\Below w.heap.size w wj/\n1<wj.heap.size/\dE Tryz.prog 9 wj w.heap.size (4*k+1+jj) (stV (iK ((zcc rs[k].bs).take jj) ps1) (λ _=>0))/\zbh ((zcc rs[k].bs).drop jj) (iK ((zcc rs[k].bs).take jj) ps1))
   exact⟨0,Nat.zero_le _,rfl,rfl,lu,by omega,dD,by simpa[iK] using zA IT⟩
   case round=>
    clear lu dD AE x2 Me IT;obtain⟨j,hj,xj,rfl,hB,te,hm,xg⟩:=hrel
    by_cases fp:j<rs[k].bs.length
    ·have eo:=(zA I0).below hB;obtain⟨g,cap,hv,iF,aZ,bO,bQ,hc⟩:=vX zwx eo.row j fp;injection hv with h1 h2 h3
     subst h1 h3;obtain⟨br,dL,fo⟩:=zD (eo.each _ (List.getElem_mem fp));have q0:=hc 0 (by omega);have q1:=hc 1 (by omega);have q2:=hc 2 (by omega);simp only[vK.cells,fo,Nat.add_zero,List.getElem?_cons_zero,List.getElem?_cons_succ] at q0 q1 q2;have KC:(zcc rs[k].bs).drop j=(rs[k].bs[j].1.pd,rs[k].bs[j].1.ts.length)::(zcc rs[k].bs).drop (j+1):=by
      rw[List.drop_eq_getElem_cons (by simpa[zcc] using fp)];simp[zcc]
     have nz:(zcc rs[k].bs).take (j+1)=(zcc rs[k].bs).take j++[(rs[k].bs[j].1.pd,rs[k].bs[j].1.ts.length)]:=by
      rw[List.take_succ_eq_append_getElem (by simpa[zcc] using fp)];simp[zcc]
     rw[KC,zbh] at xg;obtain⟨Ke,Kf⟩:=xg;have Uk:=Ge _ (List.getElem_mem fp);have N1:=zC (show zbh ((zcc rs[k].bs).drop (j+1)) (iK ((zcc rs[k].bs).take (j+1)) ps1) by rw[nz,zdd];exact Kf);have oy:=zC (show qW (iK ((zcc rs[k].bs).take j) ps1) rs[k].bs[j].1.pd rs[k].bs[j].1.ts.length=iK ((zcc rs[k].bs).take (j+1)) ps1 by rw[nz,zdd];rfl);have bA:=(Below.refl wr.heap.size wr).alloc L9 (.cells #[.bool rs[k].bs[j].1.neg,.string rs[k].bs[j].1.pd,.slice br rs[k].bs[j].1.ts.length dL] 183);have gz:=hB.trans (bA.mono (by omega));have dH:=hm.alloc (.cells #[.bool rs[k].bs[j].1.neg,.string rs[k].bs[j].1.pd,.slice br rs[k].bs[j].1.ts.length dL] 183);clear hc fo eo KC nz Kf hB hm bA;go_wp2_with fail;refine (z02 _ w.heap.size (4*k+1+j) (iK ((zcc rs[k].bs).take j) ps1) rs[k].bs[j].1.pd br rs[k].bs[j].1.ts.length dL dH (by omega) Uk Ke).mono ?_;rintro e w3 ⟨rfl,fq,eE⟩;have A4:=eE.size;rw[World.size_alloc] at A4;have kn:=zY gz eE (by simp;omega) (by simp);rw[zA oy] at fq;have yn:=zC fq;clear eE gz dH q0 q1 q2 Ke fq;go_wp2_with fail;go_roundg (rs[k].bs.length-(j+1));exact⟨j+1,by omega,rfl,by go_num,kn,by omega,zA yn,zA N1⟩;omega
    ·have nz:(zcc rs[k].bs).take j=zcc rs[k].bs:=List.take_of_length_le (by simp[zcc];omega);rw[nz] at hm;have HM:=zC (hm.mono (m:=4*(k+1)) (by omega));clear hm nz xg;go_wp2_with fail;go_roundg (rs.length-(k+1));exact⟨k+1,by omega,rfl,by go_num,hB,by omega,by rw[zA OO];exact zA HM⟩;omega
  ·have e:(rs.map (·.R)).take k=rs.map (·.R):=List.take_of_length_le (by simp;omega);have ek:k=rs.length:=(by omega);rw[e,ek] at hm;have HM:=zC hm;clear hm e;go_wp2_with fail;go_ret;exact⟨rfl,bj,hB,zA HM⟩
end
section
open Go.RowKit Go.Maps
def zqp (S:B8->Nat):List vK->Nat->Nat
 | [],m=>m
 | l::r,m=>zqp S r (max m (S l.pd+if l.neg then 1 else 0))
open Classical in
noncomputable def yca (S:B8->Nat)(k:B8)(v:Nat):B8->Nat:=λ x=>if x=k then v else S x
theorem zft (S:B8->Nat)(k:B8)(v:Nat):yca S k v k=v:=by simp[yca]
variable {S:B8->Nat}
theorem zgf {k x:B8}{v:Nat}(h:x≠k):yca S k v x=S x:=by simp[yca,h]
noncomputable def zgw (S:B8->Nat)(R:vY):B8->Nat:=yca S R.pd (zqp S R.body (S R.pd))
variable {m:Nat}
theorem z5p {ls:List (vK × Value)}{k:Nat}(h:k<ls.length):zqp S ((ls.map (·.1)).drop k) m=zqp S ((ls.map (·.1)).drop (k+1)) (max m (S ls[k].1.pd+if ls[k].1.neg then 1 else 0)):=by
 rw[List.drop_eq_getElem_cons (by simpa using h),zqp];simp
theorem ycc (ps:P9)(S:B8->Nat)(nm:B8)(n v:Nat)(h:yX ps nm=some n):z0b (stV ps S) nm (.agg #[.string nm,.int .i64 v,.int .i64 n])=stV ps (yca S nm v):=by
 funext k
 unfold stV
 by_cases e:k=nm
 ·subst e;rw[zbc,h,zft];rfl
 ·rw[qB e,zgf e]
variable {n:Nat}
theorem z94 {ps:P9}{nm:B8}(S:B8->Nat)(h:yX ps nm=some n):(stV ps S nm).getD (.agg #[.string { data:=#[] },.int .i64 0,.int .i64 0])=.agg #[.string nm,.int .i64 (S nm),.int .i64 n]:=by
 unfold stV;rw[h];rfl
theorem zqd (S:B8->Nat):∀ (l:List vK) (m:Nat),m<=zqp S l m
 | [],_=>Nat.le_refl _
 | _::r,_=>Nat.le_trans (Nat.le_max_left _ _) (zqd S r _)
theorem z5o {S:B8->Nat}{c:Nat}:∀ (l:List vK) (m:Nat),m<=c->(∀ x∈l,(S x.pd+if x.neg then 1 else 0)<=c)->zqp S l m<=c
 | [],_,h,_=>h
 | x::r,_,h,hl=>z5o r _ (Nat.max_le.2 ⟨h,hl x List.mem_cons_self⟩) (λ y hy=>hl y (List.mem_cons_of_mem _ hy))
theorem zxk {S:B8->Nat}:∀ (l:List vK) (m:Nat),∀ x∈l,(S x.pd+if x.neg then 1 else 0)<=zqp S l m
 | [],_,_,hx=>by cases hx
 | _::r,_,x,hx=>by
  rcases List.mem_cons.1 hx with rfl | hx
  ·exact Nat.le_trans (Nat.le_max_right _ _) (zqd S r _)
  ·exact zxk r _ x hx
theorem zpd (x y z:Value)(w:W8):Sem.run Tryz.prog (Instr.field 185 (.agg #[x,y,z]) 1) w=.ok y w:=by kernel_rfl
structure NW (w:W8)(b n:Nat)(V:B8->Option Value)(pd:B8)(nt m:Nat)(wr:W8):Prop where
 map:dE Tryz.prog 9 wr b n V
 below:Below w.heap.size w wr
 size:w.heap.size+1<wr.heap.size
 Pc:wr.heap[w.heap.size+1]?=some (.cells #[.string pd,.int .i64 m,.int .i64 nt] 185 (0,0))
theorem NW.next {w:W8}{b:Nat}{V:B8->Option Value}{pd:B8}{nt:Nat}{wr:W8}(h:NW w b n V pd nt m wr)(hb:b<w.heap.size)(x:Int)(m':Nat)(hx:x=m')(o:Obj):
  NW w b n V pd nt m' ((wr.setCell ⟨w.heap.size+1,1,none⟩ (.int .i64 x)).alloc o):=by
 subst hx;refine⟨(h.map.block (Below.heap_setCell _ _ _ _ (by simp;omega))).alloc o,(h.below.setCell (by simp) _).alloc ?_ o,?_,?_⟩
 ·have:=h.size;simp[World.setCell];omega
 ·have:=h.size;rw[World.size_alloc];simp[World.setCell];omega
 ·have:=h.size;rw[Below.heap_alloc _ _ _ (by simp[World.setCell];omega),heap_setCell_same _ _ _ _ _ _ h.Pc];rfl
theorem z4p (w:W8)(b n base:Nat)(ps:P9)(S:B8->Nat)(pd:B8)(ah:O8)(nh ch:Nat)(ab:O8)(cb:Nat)(ls:List (vK × Value))(h:dE Tryz.prog 9 w b n (stV ps S))(hL:iL w base (.slice ab ls.length cb) ls)(hn:n<=1000000000)(hp:pd.size<=800)(nt:Nat)(Iv:yX ps pd=some nt)(Db:∀ x∈ls,x.1.pd.size<=800/\∃ m,yX ps x.1.pd=some m)(hS:∀ k,S k<=100000)(oG:ls.length<=1000):
  Calls Tryz.prog 56 #[.map (some b),.agg #[.string pd,.slice ah nh ch,.slice ab ls.length cb]] w λ e w'=>e=.returned (.bool (decide (S pd<zqp S (ls.map (·.1)) (S pd))))/\dE Tryz.prog 9 w' b (n+1) (stV ps (yca S pd (zqp S (ls.map (·.1)) (S pd))))/\zK [b] w w':=by
 have uZ:=h.lt;have bA:=(Below.refl w.heap.size w).alloc L9 (.cells #[.string pd,.slice ah nh ch,.slice ab ls.length cb] 123);have dI:=h.alloc (.cells #[.string pd,.slice ah nh ch,.slice ab ls.length cb] 123);have dF:pd.size<=maxLen:=by unfold maxLen;omega
 have hu:=z94 S Iv;have Es:=dI.alloc (.cells #[.string pd,.int .i64 (S pd),.int .i64 nt] 185);have bB:=bA.alloc (by simp) (.cells #[.string pd,.int .i64 (S pd),.int .i64 nt] 185);have qn:((w.alloc (.cells #[.string pd,.slice ah nh ch,.slice ab ls.length cb] 123)).alloc (.cells #[.string pd,.int .i64 (S pd),.int .i64 nt] 185)).heap[w.heap.size+1]?=some (.cells #[.string pd,.int .i64 (S pd),.int .i64 nt] 185 (0,0)):=by
  have:=heap_alloc_new (w.alloc (.cells #[.string pd,.slice ah nh ch,.slice ab ls.length cb] 123)) (.cells #[.string pd,.int .i64 (S pd),.int .i64 nt] 185);rw[World.size_alloc] at this;exact this
 have hSp:=hS pd;have HL:=zC hL;clear h hL;have KI:=zpd;go_enter Tryz.func56,Tryz.ntmps56;go_wp2_with (at_lookup;refine zfw _ rfl _ _ 73 rfl 9 185 Tryz.underlying9 Tryz.underlying73 (Tryz.zeroValue185 _) b n (stV ps S) rfl dI pd rfl dF _ hu ?_);clear dI bA
 go_loopg [20] ls.length (λ gg i wr=>∃ (k m:Nat),k<=ls.length/\gg=ls.length-k/\i=.int .i64 k/\NW w b n (stV ps S) pd nt m wr/\S pd<=m/\m<=100001/\zqp S ((ls.map (·.1)).drop k) m=zqp S (ls.map (·.1)) (S pd))
 exact⟨0,S pd,Nat.zero_le _,rfl,rfl,⟨Es,bB,by simp,qn⟩,Nat.le_refl _,by omega,rfl⟩
 case round=>
  clear Es bB qn;obtain⟨k,m,hk,eD,rfl,hR,hSm,dD,sk⟩:=hrel;have hm:=hR.map;have hB:=hR.below;have bj:=hR.size;have qn:=hR.Pc;have HR:=zC hR;clear hR;obtain⟨x0,uE⟩:=zB qn 0;obtain⟨x1,mZ⟩:=zB qn 1;obtain⟨x2,Me⟩:=zB qn 2
  by_cases aF:k<ls.length
  ·have aP:=z5p (S:=S) (m:=m) aF;have HU:=zC (aP.symm.trans sk);clear aP sk;have SR:=(zA HL).below hB;obtain⟨g,cap,hv,iF,aZ,bO,bQ,hc⟩:=vX zwx SR.row k aF;injection hv with h1 h2 h3
   subst h1 h3;obtain⟨br,dL,fo⟩:=zD (SR.each _ (List.getElem_mem aF));have q0:=hc 0 (by omega);have q1:=hc 1 (by omega);have q2:=hc 2 (by omega);simp only[vK.cells,fo,Nat.add_zero,List.getElem?_cons_zero,List.getElem?_cons_succ] at q0 q1 q2;obtain⟨Uk,mq,Yq⟩:=Db _ (List.getElem_mem aF);have Ev:ls[k].1.pd.size<=maxLen:=(by unfold maxLen;omega);have Uv:=z94 S Yq;have hSq:=hS ls[k].1.pd;have Ce:=hm.alloc (.cells #[.bool ls[k].1.neg,.string ls[k].1.pd,.slice br ls[k].1.ts.length dL] 183);clear hc fo SR hm hB qn
   cases hneg:ls[k].1.neg with
   | true=>
    rw[hneg] at q0 Ce HU;go_wp2_with (at_lookup;refine zfw _ rfl _ _ 73 rfl 9 185 Tryz.underlying9 Tryz.underlying73 (Tryz.zeroValue185 _) b n (stV ps S) rfl Ce ls[k].1.pd rfl Ev _ Uv ?_);have hN:=(zA HR).next uZ (max (m:Int) ((S ls[k].1.pd:Int)+1)) (max m (S ls[k].1.pd+1)) (by omega) (.cells #[.bool true,.string ls[k].1.pd,.slice br ls[k].1.ts.length dL] 183);go_roundg (ls.length-(k+1));exact⟨k+1,max m (S ls[k].1.pd+1),by omega,rfl,by go_num,hN,by omega,by omega,by simpa using zA HU⟩;omega
   | false=>
    rw[hneg] at q0 Ce HU;go_wp2_with (at_lookup;refine zfw _ rfl _ _ 73 rfl 9 185 Tryz.underlying9 Tryz.underlying73 (Tryz.zeroValue185 _) b n (stV ps S) rfl Ce ls[k].1.pd rfl Ev _ Uv ?_);have hN:=(zA HR).next uZ (max (m:Int) (S ls[k].1.pd:Int)) (max m (S ls[k].1.pd)) (by omega) (.cells #[.bool false,.string ls[k].1.pd,.slice br ls[k].1.ts.length dL] 183);go_roundg (ls.length-(k+1));exact⟨k+1,max m (S ls[k].1.pd),by omega,rfl,by go_num,hN,by omega,by omega,by simpa using zA HU⟩;omega
  ·have hd:(ls.map (·.1)).drop k=[]:=List.drop_eq_nil_of_le (by simp;omega);rw[hd,zqp] at sk;have MM:=zC sk;have dB:=zC (ycc ps S pd nt m Iv);clear hd sk hu qn;go_wp2_with (at_mapUpdate;refine zox _ rfl _ _ _ 73 rfl 9 185 Tryz.underlying9 Tryz.underlying73 b n (stV ps S) rfl hm (by unfold maxLen;omega) pd (.agg #[.string pd,.int .i64 m,.int .i64 nt]) (by rfl) (by rfl) dF ?_);intro w2 dD fL;have FQ:=CK.put ⟨hm,(zK.refl _ _).ak hB⟩ dD fL;rw[zA dB,zA MM] at FQ;have uN:=zC FQ;have Ee:w2.heap[w.heap.size+1]?=some (.cells #[.string pd,.int .i64 m,.int .i64 nt] 185 (0,0)):=by
    rw[fL.block _ bj (by simp;omega)];exact (zA HR).Pc
   obtain⟨y1,Hh⟩:=zB Ee 1;clear dD fL FQ hm hB Ee x0 x1 x2 uE mZ Me;go_wp2_with fail;go_ret;exact⟨by rw[zA MM];rfl,(zA uN).map,(zA uN).kept⟩
end
section
open Go.RowKit Go.Maps
def z0j (f:B8->Nat)(R:vY):Prop:=∀ l∈R.body,(f l.pd+if l.neg then 1 else 0)<=f R.pd
def zd0 (rs:List vY)(f:B8->Nat):Prop:=∀ R∈rs,z0j f R
def z52 (rs:List vY)(S:B8->Nat):Prop:=∀ f,zd0 rs f->∀ k,S k<=f k
theorem zsn (S:B8->Nat)(R:vY)(k:B8):S k<=zgw S R k:=by
 unfold zgw
 by_cases e:k=R.pd
 ·subst e;rw[zft];exact zqd _ _ _
 ·rw[zgf e];exact Nat.le_refl _
variable {R:vY} {S:B8->Nat} {rs:List vY}
theorem z3e (h:z52 rs S)(hR:R∈rs):z52 rs (zgw S R):=by
 intro f hf k;unfold zgw
 by_cases e:k=R.pd
 ·subst e;rw[zft];refine z5o _ _ (h f hf _) λ x hx=>?_
  have h1:=h f hf x.pd;have h2:=hf R hR x hx;omega
 ·rw[zgf e];exact h f hf k
theorem zuy (h:¬ S R.pd<zqp S R.body (S R.pd)):z0j S R/\zgw S R=S:=by
 have h2:zqp S R.body (S R.pd)=S R.pd:=Nat.le_antisymm (Nat.not_lt.1 h) (zqd _ _ _);refine⟨λ l hl=>?_,?_⟩
 ·have:=zxk R.body (S R.pd) (S:=S) l hl
  rwa [h2] at this
 ·funext k
  unfold zgw
  by_cases e:k=R.pd
  ·subst e;rw[zft,h2]
  ·rw[zgf e]
def zs1 (S:B8->Nat):P9->Nat
 | []=>0
 | p::r=>S p.1+zs1 S r
theorem zp7 {S T:B8->Nat}(h:∀ k,S k<=T k):∀ ps,zs1 S ps<=zs1 T ps
 | []=>Nat.le_refl _
 | p::r=>Nat.add_le_add (h p.1) (zp7 h r)
theorem z46 {S T:B8->Nat}(h:∀ k,S k<=T k){p:B8 × Nat}(hp:S p.1<T p.1):∀ ps,p∈ps->zs1 S ps<zs1 T ps
 | [],hm=>by cases hm
 | q::r,hm=>by
  rcases List.mem_cons.1 hm with rfl | hm
  ·exact Nat.add_lt_add_of_lt_of_le hp (zp7 h r)
  ·exact Nat.add_lt_add_of_le_of_lt (h q.1) (z46 h hp r hm)
theorem zop {S:B8->Nat}{c:Nat}(h:∀ k,S k<=c):∀ ps,zs1 S ps<=c*ps.length
 | []=>Nat.zero_le _
 | p::r=>by
  have:=zop h r;have h1:=h p.1;simp only[zs1,List.length_cons,Nat.mul_add,Nat.mul_one];omega
theorem zr7 {nm:B8}{n:Nat}:∀ {ps:P9},yX ps nm=some n->∃ p∈ps,p.1=nm
 | [],h=>by simp[yX] at h
 | p::r,h=>by
  rw[yX] at h
  split at h
  ·rename_i e;exact⟨p,List.mem_cons_self,xO.1 e⟩
  ·obtain⟨q,hq,e⟩:=zr7 h;exact⟨q,List.mem_cons_of_mem _ hq,e⟩
structure Mg (rs:List vY)(ps:P9)(S0:B8->Nat)(k:Nat)(b:Bool)(S:B8->Nat):Prop where
 low:z52 rs S
 ge:zs1 S0 ps<=zs1 S ps
 up:b=true->zs1 S0 ps<zs1 S ps
 keeps:b=false->∀ R∈rs.take k,z0j S R
theorem Mg.next {ps:P9}{S0:B8->Nat}{k:Nat}{b:Bool}(h:Mg rs ps S0 k b S)(hk:k<rs.length){n:Nat}(hn:yX ps rs[k].pd=some n):Mg rs ps S0 (k+1) (if decide (S rs[k].pd<zqp S rs[k].body (S rs[k].pd)) then true else b) (zgw S rs[k]):=by
 have qu:=zp7 (zsn S rs[k]) ps
 by_cases hu:S rs[k].pd<zqp S rs[k].body (S rs[k].pd)
 ·obtain⟨p,hp,e⟩:=zr7 hn;have aH:zs1 S ps<zs1 (zgw S rs[k]) ps:=z46 (zsn S rs[k]) (p:=p) (by rw[e,zgw,zft];exact hu) ps hp;simp only[hu,decide_true,if_true];exact⟨z3e h.low (List.getElem_mem hk),Nat.le_trans h.ge qu,λ _=>Nat.lt_of_le_of_lt h.ge aH,λ e=>by cases e⟩
 ·obtain⟨h1,h2⟩:=zuy hu;simp only[hu,decide_false,h2];refine⟨h.low,h.ge,by simpa using h.up,λ e R hR=>?_⟩;rw[List.take_succ_eq_append_getElem hk,List.mem_append] at hR;rcases hR with hR | hR
  ·exact h.keeps (by simpa using e) R hR
  ·rw[List.mem_singleton.1 hR];exact h1
theorem ydp (w:W8)(base:Nat)(ar:O8)(cr:Nat)(rs:List PR)(ps:P9)(h:iq w base (.slice ar rs.length cr) rs)(nH:rs.length<=30)(cI:∀ r∈rs,r.bs.length<=3)(jk:∀ r∈rs,r.R.pd.size<=800)(Db:∀ r∈rs,∀ x∈r.bs,x.1.pd.size<=800)(xg:zbh ((rs.map (·.R)).flatMap jN) [])(pF:iK ((rs.map (·.R)).flatMap jN) []=ps)(bt:ps.length<=1000)(ax:∀ r∈rs,(∃ n,yX ps r.R.pd=some n)/\∀ x∈r.bs,∃ n,yX ps x.1.pd=some n)(f0:B8->Nat)(uw:zd0 (rs.map (·.R)) f0)(me:∀ k,f0 k<=1000):
  Calls Tryz.prog 35 #[.slice ar rs.length cr] w λ e w'=>e=.returned (.map (some w.heap.size))/\w.heap.size<w'.heap.size/\Below w.heap.size w w'/\∃ (S:B8->Nat) (n:Nat),dE Tryz.prog 9 w' w.heap.size n (stV ps S)/\n<=1000000000/\zd0 (rs.map (·.R)) S/\z52 (rs.map (·.R)) S:=by
 have HR:=zC h;have hsf:=zop me ps;go_enter Tryz.func35,Tryz.ntmps35;go_wp2_with fail;refine (zyj w base ar cr rs h nH cI jk Db xg).mono ?_;rintro e w1 ⟨rfl,aY,aL,dH⟩;rw[pF] at dH;clear h xg pF;go_wp2_with fail
 go_loopg [4] (zs1 f0 ps+1) (λ gg r wr=>∃ (b:Bool) (S:B8->Nat) (n:Nat),r=.bool b/\(b=true->zs1 f0 ps-zs1 S ps+1<=gg)/\n+30*gg<=120+30*(zs1 f0 ps+1)/\Below w.heap.size w wr/\w.heap.size<wr.heap.size/\dE Tryz.prog 9 wr w.heap.size n (stV ps S)/\z52 (rs.map (·.R)) S/\(b=false->zd0 (rs.map (·.R)) S))
 exact⟨true,λ _=>0,4*rs.length,rfl,λ _=>by omega,by omega,aL,aY,dH,λ _ _ _=>Nat.zero_le _,λ e=>by cases e⟩
 case round=>
  clear aL aY dH;obtain⟨b,S0,n0,rfl,bS,Cf,hB,bj,hm,bc,dA⟩:=hrel
  cases b with
  | false=>
   have HV:=zC (dA rfl);have sy:=zC bc;clear bc dA;go_wp2_with fail;go_ret;exact⟨rfl,bj,hB,S0,n0,hm,by omega,zA HV,zA sy⟩
  | true=>
   have eD:=bS rfl;generalize jg:gk=g1 at *;have h0:Mg (rs.map (·.R)) ps S0 0 false S0:=⟨bc,Nat.le_refl _,(λ e=>by cases e),λ _ R hR=>by simp at hR⟩;clear bS dA bc;go_wp2_with fail
   go_loopg [4,12] rs.length (λ gg2 r j wj=>∃ (b:Bool) (S:B8->Nat) (k:Nat),r=.bool b/\k<=rs.length/\gg2=rs.length-k/\j=.int .i64 k/\Below w.heap.size w wj/\w.heap.size<wj.heap.size/\dE Tryz.prog 9 wj w.heap.size (n0+k) (stV ps S)/\Mg (rs.map (·.R)) ps S0 k b S)
   exact⟨false,S0,0,rfl,Nat.zero_le _,rfl,rfl,hB,bj,hm,h0⟩
   case round=>
    clear hB hm h0;obtain⟨b,S,k,rfl,hk,KJ,rfl,hB,bj,hm,kT⟩:=hrel
    by_cases aF:k<rs.length
    ·have CN:=(zA HR).below hB;obtain⟨gr,dz,AS,CX,C6,De,C2,nk⟩:=vX zsm CN.row k aF;injection AS with h4 h5 h6
     subst h4 h6;have rZ:=(zA HR).each _ (List.getElem_mem aF);obtain⟨ah,ch,zn⟩:=zD rZ.hd;obtain⟨ab,cb,mu⟩:=zD rZ.bo.row;have r0:=nk 0 (by omega);have r1:=nk 1 (by omega);have r2:=nk 2 (by omega);simp only[PR.cells,zn,mu,Nat.add_zero,List.getElem?_cons_zero,List.getElem?_cons_succ] at r0 r1 r2;have ft:=jk _ (List.getElem_mem aF);obtain⟨⟨nt,oJ⟩,vh⟩:=ax _ (List.getElem_mem aF);have Ge:=Db _ (List.getElem_mem aF);have XF:=cI _ (List.getElem_mem aF);have dH:=hm.alloc (.cells #[.string rs[k].R.pd,.slice ah rs[k].R.ts.length ch,.slice ab rs[k].bs.length cb] 123);have gz:=hB.alloc (by omega) (.cells #[.string rs[k].R.pd,.slice ah rs[k].R.ts.length ch,.slice ab rs[k].bs.length cb] 123);have iz:iL (wr.alloc (.cells #[.string rs[k].R.pd,.slice ah rs[k].R.ts.length ch,.slice ab rs[k].bs.length cb] 123)) base (.slice ab rs[k].bs.length cb) rs[k].bs:=by
      have:=rZ.bo.below gz
      rwa [mu] at this
     have QE:=kT.next (by simpa using aF) (n:=nt) (by simpa using oJ);have En:∀ x,S x<=100000:=λ x=>Nat.le_trans (Nat.le_trans (kT.low f0 uw x) (me x)) (by omega)
     simp only[List.getElem_map] at QE;have heq:=rZ.eq;have wW:=zC QE;clear nk rZ zn mu CN QE kT hB hm;go_wp2_with fail;refine (z4p _ w.heap.size (n0+k) base ps S rs[k].R.pd ah rs[k].R.ts.length ch ab cb rs[k].bs dH iz (by omega) ft nt oJ (λ x hx=>⟨Ge x hx,vh x hx⟩) En (by omega)).mono ?_;rintro e w3 ⟨rfl,fq,eE⟩;have A4:=eE.size;rw[World.size_alloc] at A4;have kn:=zY gz eE (by simp;omega) (by simp);rw[heq] at fq ⊢;have yn:Hid (dE Tryz.prog 9 w3 w.heap.size (n0+(k+1)) (stV ps (zgw S rs[k].R))):=zC fq;clear fq eE gz dH iz r0 r1 r2 En heq;generalize decide (S rs[k].R.pd<zqp S rs[k].R.body (S rs[k].R.pd))=c at wW ⊢
     cases c with
     | true=>
      go_wp2_with fail;go_roundg (rs.length-(k+1));exact⟨true,_,k+1,rfl,by omega,rfl,by go_num,kn,by omega,zA yn,zA wW⟩;omega
     | false=>
      go_wp2_with fail;go_roundg (rs.length-(k+1));exact⟨b,_,k+1,rfl,by omega,rfl,by go_num,kn,by omega,zA yn,zA wW⟩;omega
    ·have dF:k=rs.length:=(by omega);have qu:=kT.ge;have sk:=kT.up;have Dc:=zp7 (kT.low f0 uw) ps;have Sr:=zC kT;have MM:=zC sk;clear kT sk;go_wp2_with fail;go_roundg (g1-1);exact⟨b,S,n0+k,rfl,λ e=>by have:=zA MM e;omega,by omega,hB,bj,hm,(zA Sr).low,λ e R hR=>(zA Sr).keeps e R (by rwa [List.take_of_length_le (by simp;omega)])⟩;omega
end
end Go.Proofs.YtldkpahaocjdpaaGreat
