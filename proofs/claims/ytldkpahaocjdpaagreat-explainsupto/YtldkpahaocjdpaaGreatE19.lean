/-
  The program's Fault and Load: at every text the answer is the plain text's.
-/
import Derived.Test.YtldkpahaocjdpaaGreatE18
set_option maxHeartbeats 16000000
set_option maxRecDepth 1000000
namespace Go.Proofs.YtldkpahaocjdpaaGreat
section
open Go.RowKit Go.Maps
noncomputable def zfj (rs:List vY)(ms:List xU):Int × Int:=
 if 0<=zck ms [] then (3,zck ms []) else if 0<=jQ rs ms then (4,jQ rs ms) else if 0<=zah rs ms then (5,zah rs ms) else (0,0)
theorem z14 (w:W8)(base:Nat)(ar:O8)(cr:Nat)(rs:List PR)(am:O8)(cm:Nat)(ms:List (xU × Value))(h:ig w base (.slice ar rs.length cr) rs)(h':ew w base (.slice am ms.length cm) ms)(hf:Few rs ms):
  Calls Tryz.prog 46 #[.agg #[.slice ar rs.length cr,.slice am ms.length cm]] w λ e w'=>e=.returned (.tuple #[.int .i64 (zfj (rs.map (·.R)) (ms.map (·.1))).1,.int .i64 (zfj (rs.map (·.R)) (ms.map (·.1))).2])/\Below w.heap.size w w':=by
 have h0:=zv.start h h';have hF:zfj (rs.map (·.R)) (ms.map (·.1))=_:=zfj.eq_1 (rs.map (·.R)) (ms.map (·.1));have HF:=zC hF;clear h h' hF;go_enter Tryz.func46,Tryz.ntmps46;go_wp2_with fail;refine (zzl _ base ar rs.length cr am cm ms h0.eK hf.Ky hf.VD).mono ?_;rintro e w1 ⟨he,aL⟩;have h1:=h0.next aL;obtain⟨x0,uu⟩:=zB h1.box 0;obtain⟨x1,mL⟩:=zB h1.box 1;have DA:=h1.sz;clear h0 aL
 by_cases c1:0<=zck (ms.map (·.1)) []
 ·have fw:=zC ((zA HF).trans (if_pos c1));have lW:e=.returned (.tuple #[.int .i64 (zck (ms.map (·.1)) []),.bool true]):=by rw[he];unfold zix;rw[if_pos c1];simp[c1]
  subst lW;have HB:=zC h1.below;clear HF he c1 h1;go_wp2_with fail
  go_ret2
  exact⟨by rw[zA fw];rfl,zA HB⟩
 ·have fw:=zC ((zA HF).trans (if_neg c1));have lW:e=.returned (.tuple #[.int .i64 0,.bool false]):=by rw[he];unfold zix;rw[if_neg c1];simp[c1]
  subst lW;clear HF he c1;go_wp2_with fail;refine (zuz _ base ar cr rs am cm ms h1.rules h1.eK hf.Ky hf.XQ (λ r hr=>by have:=hf.b3 r hr;omega)).mono ?_;rintro e w2 ⟨he,aK⟩;have h2:=h1.next aK;clear h1 aK x0 x1 uu mL;obtain⟨x0,uu⟩:=zB h2.box 0;obtain⟨x1,mL⟩:=zB h2.box 1;have sx:=h2.sz
  by_cases c2:0<=jQ (rs.map (·.R)) (ms.map (·.1))
  ·have aC:=zC ((zA fw).trans (if_pos c2));have lW:e=.returned (.tuple #[.int .i64 (jQ (rs.map (·.R)) (ms.map (·.1))),.bool true]):=(by rw[he];unfold zix;rw[if_pos c2];simp[c2]);subst lW;have HB:=zC h2.below;clear fw he c2 h2;go_wp2_with fail
   go_ret2
   exact⟨by rw[zA aC];rfl,zA HB⟩
  ·have aC:=zC ((zA fw).trans (if_neg c2));have lW:e=.returned (.tuple #[.int .i64 0,.bool false]):=(by rw[he];unfold zix;rw[if_neg c2];simp[c2]);subst lW;clear fw he c2;go_wp2_with fail;refine (zuh _ base ar cr rs am cm ms h2.rules h2.eK hf).mono ?_;rintro e w3 ⟨he,cI⟩;have h3:=h2.next cI;have HB:=zC h3.below;clear h2 cI x0 x1 uu mL h3
   by_cases c3:0<=zah (rs.map (·.R)) (ms.map (·.1))
   ·have aP:=zC ((zA aC).trans (if_pos c3));have lW:e=.returned (.tuple #[.int .i64 (zah (rs.map (·.R)) (ms.map (·.1))),.bool true]):=(by rw[he];unfold zix;rw[if_pos c3];simp[c3]);subst lW;clear aC he c3;go_wp2_with fail
    go_ret2
    exact⟨by rw[zA aP];rfl,zA HB⟩
   ·have aP:=zC ((zA aC).trans (if_neg c3));have lW:e=.returned (.tuple #[.int .i64 0,.bool false]):=(by rw[he];unfold zix;rw[if_neg c3];simp[c3]);subst lW;clear aC he c3;go_wp2_with fail
    go_ret2
    exact⟨by rw[zA aP];rfl,zA HB⟩
noncomputable def z1f (s:B8):Bool × Int × Int:=
 if 800<s.size then (false,1,0)
 else if (yM s).1=false then (false,2,(zF s (yM s).2.1).2.1)
 else if (zfj (yM s).2.2.1 (yM s).2.2.2).1≠0 then (false,(zfj (yM s).2.2.1 (yM s).2.2.2).1,(zfj (yM s).2.2.1 (yM s).2.2.2).2)
 else (true,0,0)
def wh (w:W8)(base b:Nat)(rs:List PR):Prop:=∃ (a:O8) (c:Nat),w.heap[b]?=some (.cells #[.slice a rs.length c] 106 (0,0))/\base<=b/\ig w base (.slice a rs.length c) rs
def z7u (w:W8)(P:Bool × Int × Int)(rules:List vY)(e:Ending)(w':W8):Prop:=
 Below w.heap.size w w'/\(P.1=false->e=.returned (.tuple #[.pointer none,.int .i64 P.2.1,.int .i64 P.2.2])) /\
 (P.1=true->∃ (b:Nat) (rs:List PR),e=.returned (.tuple #[.pointer (some ⟨b,0,none⟩),.int .i64 P.2.1,.int .i64 P.2.2])/\wh w' w.heap.size b rs/\rs.map (·.R)=rules)
theorem z3o (w:W8)(s:B8)(hs:s.size<=maxLen):
  Calls Tryz.prog 30 #[.string s] w (z7u w (z1f s) (yM s).2.2.1):=by
 have hP:z1f s=_:=z1f.eq_1 s;have HP:=zC hP;clear hP;unfold maxLen at hs
 by_cases c0:800<s.size
 ·have Y6:800<(s.size:Int):=by omega
  have tr:=zC ((zA HP).trans (if_pos c0));clear HP c0;go_enter Tryz.func30,Tryz.ntmps30;go_wp2_with fail
  go_ret3
  rw[zA tr];exact⟨Below.refl _ _,λ _=>rfl,λ e=>by cases e⟩
 ·have Y6:¬ 800<(s.size:Int):=by omega
  have tr:=zC ((zA HP).trans (if_neg c0));have zx:s.size<=800:=by omega
  clear HP c0;go_enter Tryz.func30,Tryz.ntmps30;go_wp2_with fail;refine (zzo _ s (by omega)).mono ?_;rintro e w1 ⟨aL,aW,kN⟩
  cases c1:(yM s).1 with
  | false=>
   have mC:=zC ((zA tr).trans (if_pos c1));have he:=aW c1;subst he;clear aW kN tr c1;go_wp2_with fail
   go_ret3
   rw[zA mC];exact⟨aL.alloc aL.size _,λ _=>rfl,λ e=>by cases e⟩
  | true=>
   have mC:=zC ((zA tr).trans (if_neg (by rw[c1];decide)));obtain⟨a,n,c,a',n',c',rs,ms,rfl,hR,BA,hM,gT,DD,Mo⟩:=kN c1;obtain⟨ar,cr,im⟩:=zD hR.row;obtain⟨am,cm,Dk⟩:=zD hM.row;injection im with h1 h2 h3
   injection Dk with h4 h5 h6
   subst h1 h2 h3 h4 h5 h6;obtain⟨o1,o2⟩:=znt s zx c1;rw[<-BA] at o1 o2;rw[<-gT] at o2;rw[<-BA,<-gT] at mC;have DZ:=zC BA;have hf:Few rs ms:=by
    refine⟨DD,by omega,λ r hr=>?_,λ r hr=>(o1 _ (List.mem_map_of_mem hr)).1,λ R hR l hl=>(o1 R hR).2.2 l hl,λ x hx=>(o2 _ (List.mem_map_of_mem hx)).1,λ x hx=>?_⟩
    ·have h1:=(o1 _ (List.mem_map_of_mem hr)).2.1;have h2:=(hR.each r hr).eq;rw[<-h2] at h1;simpa using h1
    ·obtain⟨_,h2,h3⟩:=o2 _ (List.mem_map_of_mem hx);exact⟨by simpa using h3,h2⟩
   have kA:=(Below.refl w1.heap.size w1).alloc L9 (.cells #[.slice a rs.length c,.slice a' ms.length c'] 100);have vd:=hR.below kA;have NP:=hM.below kA;have dn:(w1.alloc (.cells #[.slice a rs.length c,.slice a' ms.length c'] 100)).heap[w1.heap.size]?=_:=heap_alloc_new w1 _;have dX:=aL.size;have rf:=aL.trans (kA.mono dX);clear aW kN tr c1 hR hM BA gT o1 o2 kA;go_wp2_with fail;refine (z14 _ w.heap.size a c rs a' c' ms vd NP hf).mono ?_;rintro e w2 ⟨rfl,aK⟩;have bf:=aK.size;rw[World.size_alloc] at bf;have Co:=vd.below aK;have mH:=(aK.block w1.heap.size (by simp)).trans dn;have lu:=rf.trans (aK.mono (by simp;omega));obtain⟨x0,uu⟩:=zB mH 0;clear vd NP dn mH aK rf
   by_cases c2:(zfj (rs.map (·.R)) (ms.map (·.1))).1≠0
   ·have Za:((zfj (rs.map (·.R)) (ms.map (·.1))).1 != 0)=true:=(by simpa using c2);have tH:=zC ((zA mC).trans (if_pos c2));clear mC c2;go_wp2_with fail
    go_ret3
    rw[zA tH];exact⟨lu,λ _=>rfl,λ e=>by cases e⟩
   ·have Za:((zfj (rs.map (·.R)) (ms.map (·.1))).1 != 0)=false:=(by simpa using c2);have tH:=zC ((zA mC).trans (if_neg c2));clear mC c2;go_wp2_with fail
    go_ret3
    rw[zA tH];have kB:=(Below.refl w2.heap.size w2).alloc L9 (.cells #[.slice a rs.length c] 106);exact⟨lu.trans (kB.mono (by omega)),λ e=>(by cases e),λ _=>⟨w2.heap.size,rs,rfl,⟨a,c,heap_alloc_new w2 _,by omega,Co.below kB⟩,zA DZ⟩⟩
end
section
open Go.RowKit Go.Maps
def stV (ps:P9)(S:B8->Nat):B8->Option Value:=λ k=>(yY ps k).map λ n=>Value.agg #[.string k,.int .i64 (S k),.int .i64 n]
variable {n:Nat}
theorem zi5 {ps:P9}{nm:B8}(h:iD ps nm n=true)(k:B8):yY (qW ps nm n) k=if k=nm then some n else yY ps k:=by
 rw[za8] at h;rw[zsf]
 by_cases e:k=nm
 ·subst e;rw[if_pos rfl]
  cases hn:yY ps k with
  | none=>rw[if_pos (by rfl),zkd,hn];simp
  | some m=>
   rw[hn] at h;simp at h;rw[if_neg (by simp),hn,h]
 ·rw[if_neg e]
  cases hn:yY ps nm with
  | none=>
   rw[if_pos (by rfl),zkd];have:¬ (nm.toList==k.toList)=true:=λ h=>e ((xO.1 h).symm)
   cases yY ps k with
   | none=>simp only[if_neg this]
   | some m=>rfl
  | some m=>rw[if_neg (by simp)]
theorem ybm (ps:P9)(nm:B8)(n:Nat)(h:iD ps nm n=true):z0b (stV ps (λ _=>0)) nm (.agg #[.string nm,.int .i64 0,.int .i64 n])=stV (qW ps nm n) (λ _=>0):=by
 funext k
 unfold stV;rw[zi5 h]
 by_cases e:k=nm
 ·subst e;rw[za4,if_pos rfl];rfl
 ·rw[qC e,if_neg e]
structure Cz (w:W8)(b n:Nat)(V:B8->Option Value)(wr:W8):Prop where
 map:dE Tryz.prog 9 wr b n V
 kept:zK [b] w wr
variable {wr w:W8} {V:B8->Option Value} {b:Nat}
theorem Cz.alloc (h:Cz w b n V wr)(o:Obj):Cz w b n V (wr.alloc o):=⟨h.map.alloc o,h.kept.alloc o⟩
theorem Cz.put {m:Nat}{V':B8->Option Value}{w1:W8}(h:Cz w b n V wr)(hm:dE Tryz.prog 9 w1 b m V')(hg:wr.grownBy w1 (some b)):Cz w b m V' w1:=
 ⟨hm,h.kept.trans ⟨hg.os,hg.tape,hg.output,hg.size,λ k hk hn=>hg.block k hk (by simp at hn ⊢;exact hn)⟩⟩
theorem z1m (w:W8)(b n:Nat)(ps:P9)(pd:B8)(a:O8)(nt c:Nat)(h:dE Tryz.prog 9 w b n (stV ps (λ _=>0)))(hn:n<=100000)(hp:pd.size<=800)(hb:iD ps pd nt=true):
  Calls Tryz.prog 97 #[.map (some b),.agg #[.string pd,.slice a nt c]] w λ e w'=>e=.returned (.tuple #[])/\dE Tryz.prog 9 w' b (n+1) (stV (qW ps pd nt) (λ _=>0))/\zK [b] w w':=by
 have h0:Cz w b n (stV ps (λ _=>0)) (w.alloc (.cells #[.string pd,.slice a nt c] 79)):=Cz.alloc ⟨h,zK.refl _ _⟩ _;have dH:=h0.map;have dF:pd.size<=maxLen:=by unfold maxLen;omega
 have HT:=zC h0;have HP:=zC (ybm ps pd nt hb);clear h h0 hb;go_enter Tryz.func97,Tryz.ntmps97;go_wp2_with (at_mapUpdate;refine znz _ rfl _ _ _ 73 rfl 9 185 Tryz.underlying9 Tryz.underlying73 b n (stV ps (λ _=>0)) rfl dH (by unfold maxLen;omega) pd (.agg #[.string pd,.int .i64 0,.int .i64 nt]) (by rfl) (by rfl) dF ?_);intro w2 dC fK;have FP:=(zA HT).put dC fK;rw[zA HP] at FP;have wg:=zC FP;clear HT dC fK dH FP;go_wp2_with fail;go_end0;exact⟨rfl,(zA wg).map,(zA wg).kept⟩
def jO (R:vY):P9:=(R.pd,R.ts.length)::R.body.map λ l=>(l.pd,l.ts.length)
def iE:P9->P9->P9
 | [],ps=>ps
 | x::r,ps=>iE r (qW ps x.1 x.2)
def zbh:P9->P9->Prop
 | [],_=>True
 | x::r,ps=>iD ps x.1 x.2=true/\zbh r (qW ps x.1 x.2)
theorem zdd (m:P9):∀ (l ps:P9),iE (l++m) ps=iE m (iE l ps)
 | [],_=>rfl
 | _::r,_=>zdd m r _
theorem zex (m:P9):∀ (l ps:P9),zbh (l++m) ps↔zbh l ps/\zbh m (iE l ps)
 | [],ps=>by simp[zbh,iE]
 | x::r,ps=>by rw[List.cons_append,zbh,zbh,zex m r,iE,and_assoc]
def zcd (ls:List (vK × Value)):P9:=ls.map λ x=>(x.1.pd,x.1.ts.length)
theorem z0v {r:PR}{base:Nat}(h:sM w base r):jO r.R=(r.R.pd,r.R.ts.length)::zcd r.bs:=by
 unfold jO zcd;rw[<-h.eq,List.map_map];rfl
theorem zx0 (w:W8)(base:Nat)(ar:O8)(cr:Nat)(rs:List PR)(h:ig w base (.slice ar rs.length cr) rs)(nM:rs.length<=30)(cI:∀ r∈rs,r.bs.length<=3)(iU:∀ r∈rs,r.R.pd.size<=800)(Dr:∀ r∈rs,∀ x∈r.bs,x.1.pd.size<=800)(yd:zbh ((rs.map (·.R)).flatMap jO) []):
  Calls Tryz.prog 55 #[.slice ar rs.length cr] w λ e w'=>e=.returned (.map (some w.heap.size))/\w.heap.size<w'.heap.size/\Below w.heap.size w w'/\dE Tryz.prog 9 w' w.heap.size (4*rs.length) (stV (iE ((rs.map (·.R)).flatMap jO) []) (λ _=>0)):=by
 have np:=@run_makeMap Tryz.prog;have h0:dE Tryz.prog 9 (w.alloc (.map #[] 0)) w.heap.size 0 (stV [] (λ _=>0)):=dE.made _ _ w;have b0:Below w.heap.size w (w.alloc (.map #[] 0)):=B9.alloc L9 _;have HR:=zC h;have Wr:=zC yd;clear h yd;go_enter Tryz.func55,Tryz.ntmps55;go_wp2_with fail
 go_loopg [11] rs.length (λ gg i wr=>∃ k:Nat,k<=rs.length/\gg=rs.length-k/\i=.int .i64 k/\Below w.heap.size w wr/\w.heap.size<wr.heap.size/\dE Tryz.prog 9 wr w.heap.size (4*k) (stV (iE (((rs.map (·.R)).take k).flatMap jO) []) (λ _=>0)))
 exact⟨0,Nat.zero_le _,rfl,rfl,b0,by simp,h0⟩
 case round=>
  clear h0 b0;obtain⟨k,hk,eA,rfl,hB,bj,hm⟩:=hrel
  by_cases aF:k<rs.length
  ·have C9:=(zA HR).below hB;obtain⟨gr,dA,BO,CW,Cu,Dz,Cr,nk⟩:=vU zq3 C9.row k aF;injection BO with h4 h5 h6
   subst h4 h6;have ax:=(zA HR).each _ (List.getElem_mem aF);obtain⟨ah,ch,Bk⟩:=zD ax.hd;obtain⟨ab,cb,my⟩:=zD ax.bo.row;have r0:=nk 0 (by omega);have r1:=nk 1 (by omega);have r2:=nk 2 (by omega);simp only[PR.cells,Bk,my,Nat.add_zero,List.getElem?_cons_zero,List.getElem?_cons_succ] at r0 r1 r2;have iu:=ax.bo;rw[my] at iu;have KN:=zC iu;have fl:=iU _ (List.getElem_mem aF);have dK:=cI _ (List.getElem_mem aF);have Fo:=Dr _ (List.getElem_mem aF);have sH:((rs.map (·.R)).take (k+1)).flatMap jO=((rs.map (·.R)).take k).flatMap jO++((rs[k].R.pd,rs[k].R.ts.length)::zcd rs[k].bs):=by
    rw[zi1 aF,List.flatMap_append];simp[z0v ax]
   have JV:zbh (((rs.map (·.R)).take k).flatMap jO++((rs[k].R.pd,rs[k].R.ts.length)::zcd rs[k].bs)) []:=by
    have:=zA Wr;rw[<-List.take_append_drop (k+1) (rs.map (·.R)),List.flatMap_append,zex,sH] at this;exact this.1
   rw[zex,zbh] at JV;obtain⟨_,I5,J1⟩:=JV;have Td:=zC (congrArg (λ l=>iE l []) sH);generalize pO:iE (((rs.map (·.R)).take k).flatMap jO) []=ps at *;have Rr:=zC (show iE (((rs.map (·.R)).take (k+1)).flatMap jO) []=iE (zcd rs[k].bs) (qW ps rs[k].R.pd rs[k].R.ts.length) by rw[show iE (((rs.map (·.R)).take (k+1)).flatMap jO) []=_ from zA Td,zdd,pO];rfl);have bA:=(Below.refl wr.heap.size wr).alloc L9 (.cells #[.string rs[k].R.pd,.slice ah rs[k].R.ts.length ch,.slice ab rs[k].bs.length cb] 123);have Cj:(wr.alloc (.cells #[.string rs[k].R.pd,.slice ah rs[k].R.ts.length ch,.slice ab rs[k].bs.length cb] 123)).heap[wr.heap.size]?=_:=heap_alloc_new wr _;have gA:=hB.trans (bA.mono (by omega));have dJ:=hm.alloc (.cells #[.string rs[k].R.pd,.slice ah rs[k].R.ts.length ch,.slice ab rs[k].bs.length cb] 123);have K6:=zC J1;clear nk ax Bk my iu C9 sH Td hB hm bA J1 pO;go_wp2_with fail;refine (z1m _ w.heap.size (4*k) ps rs[k].R.pd ah rs[k].R.ts.length ch dJ (by omega) fl I5).mono ?_;rintro e w2 ⟨rfl,dC,bn⟩;have Ae:=yL Cj bn (by simp;omega);have bf:=bn.size;rw[World.size_alloc] at bf;have lu:=zY gA bn (by simp;omega) (by simp);obtain⟨x2,Lj⟩:=zB Ae 2;clear Cj bn gA dJ r0 r1 r2 I5;generalize qW ps rs[k].R.pd rs[k].R.ts.length=ps1 at *;generalize gW:wr.heap.size=n1 at *;go_wp2_with fail
   go_loopg [22] rs[k].bs.length (λ gg2 j wj=>∃ (jj:Nat),jj<=rs[k].bs.length/\gg2=rs[k].bs.length-jj/\j=.int .i64 jj/\Below w.heap.size w wj/\n1<wj.heap.size/\dE Tryz.prog 9 wj w.heap.size (4*k+1+jj) (stV (iE ((zcd rs[k].bs).take jj) ps1) (λ _=>0))/\zbh ((zcd rs[k].bs).drop jj) (iE ((zcd rs[k].bs).take jj) ps1))
   exact⟨0,Nat.zero_le _,rfl,rfl,lu,by omega,dC,by simpa[iE] using zA K6⟩
   case round=>
    clear lu dC Ae x2 Lj K6;obtain⟨j,hj,xu,rfl,hB,sx,hm,yd⟩:=hrel
    by_cases fu:j<rs[k].bs.length
    ·have eo:=(zA KN).below hB;obtain⟨g,cap,hv,iG,aZ,bO,bP,hc⟩:=vU zxo eo.row j fu;injection hv with h1 h2 h3
     subst h1 h3;obtain⟨br,dL,fp⟩:=zD (eo.each _ (List.getElem_mem fu));have q0:=hc 0 (by omega);have q1:=hc 1 (by omega);have q2:=hc 2 (by omega);simp only[vK.cells,fp,Nat.add_zero,List.getElem?_cons_zero,List.getElem?_cons_succ] at q0 q1 q2;have Ma:(zcd rs[k].bs).drop j=(rs[k].bs[j].1.pd,rs[k].bs[j].1.ts.length)::(zcd rs[k].bs).drop (j+1):=by
      rw[List.drop_eq_getElem_cons (by simpa[zcd] using fu)];simp[zcd]
     have ni:(zcd rs[k].bs).take (j+1)=(zcd rs[k].bs).take j++[(rs[k].bs[j].1.pd,rs[k].bs[j].1.ts.length)]:=by
      rw[List.take_succ_eq_append_getElem (by simpa[zcd] using fu)];simp[zcd]
     rw[Ma,zbh] at yd;obtain⟨Lr,J6⟩:=yd;have S4:=Fo _ (List.getElem_mem fu);have OG:=zC (show zbh ((zcd rs[k].bs).drop (j+1)) (iE ((zcd rs[k].bs).take (j+1)) ps1) by rw[ni,zdd];exact J6);have oV:=zC (show qW (iE ((zcd rs[k].bs).take j) ps1) rs[k].bs[j].1.pd rs[k].bs[j].1.ts.length=iE ((zcd rs[k].bs).take (j+1)) ps1 by rw[ni,zdd];rfl);have bA:=(Below.refl wr.heap.size wr).alloc L9 (.cells #[.bool rs[k].bs[j].1.neg,.string rs[k].bs[j].1.pd,.slice br rs[k].bs[j].1.ts.length dL] 183);have gA:=hB.trans (bA.mono (by omega));have dJ:=hm.alloc (.cells #[.bool rs[k].bs[j].1.neg,.string rs[k].bs[j].1.pd,.slice br rs[k].bs[j].1.ts.length dL] 183);clear hc fp eo Ma ni J6 hB hm bA;go_wp2_with fail;refine (z1m _ w.heap.size (4*k+1+j) (iE ((zcd rs[k].bs).take j) ps1) rs[k].bs[j].1.pd br rs[k].bs[j].1.ts.length dL dJ (by omega) S4 Lr).mono ?_;rintro e w3 ⟨rfl,fm,eE⟩;have ze:=eE.size;rw[World.size_alloc] at ze;have kh:=zY gA eE (by simp;omega) (by simp);rw[zA oV] at fm;have Bw:=zC fm;clear eE gA dJ q0 q1 q2 Lr fm;go_wp2_with fail;go_roundg (rs[k].bs.length-(j+1));exact⟨j+1,by omega,rfl,by go_num,kh,by omega,zA Bw,zA OG⟩;omega
    ·have ni:(zcd rs[k].bs).take j=zcd rs[k].bs:=List.take_of_length_le (by simp[zcd];omega);rw[ni] at hm;have HM:=zC (hm.mono (m:=4*(k+1)) (by omega));clear hm ni yd;go_wp2_with fail;go_roundg (rs.length-(k+1));exact⟨k+1,by omega,rfl,by go_num,hB,by omega,by rw[zA Rr];exact zA HM⟩;omega
  ·have e:(rs.map (·.R)).take k=rs.map (·.R):=List.take_of_length_le (by simp;omega);have ek:k=rs.length:=(by omega);rw[e,ek] at hm;have HM:=zC hm;clear hm e;go_wp2_with fail;go_ret;exact⟨rfl,bj,hB,zA HM⟩
end
section
open Go.RowKit Go.Maps
def zqn (S:B8->Nat):List vK->Nat->Nat
 | [],m=>m
 | l::r,m=>zqn S r (max m (S l.pd+if l.neg then 1 else 0))
open Classical in
noncomputable def yah (S:B8->Nat)(k:B8)(v:Nat):B8->Nat:=λ x=>if x=k then v else S x
theorem ze6 (S:B8->Nat)(k:B8)(v:Nat):yah S k v k=v:=by simp[yah]
variable {S:B8->Nat}
theorem zf6 {k x:B8}{v:Nat}(h:x≠k):yah S k v x=S x:=by simp[yah,h]
noncomputable def zgo (S:B8->Nat)(R:vY):B8->Nat:=yah S R.pd (zqn S R.body (S R.pd))
variable {m:Nat}
theorem z1r {ls:List (vK × Value)}{k:Nat}(h:k<ls.length):zqn S ((ls.map (·.1)).drop k) m=zqn S ((ls.map (·.1)).drop (k+1)) (max m (S ls[k].1.pd+if ls[k].1.neg then 1 else 0)):=by
 rw[List.drop_eq_getElem_cons (by simpa using h),zqn];simp
theorem yab (ps:P9)(S:B8->Nat)(nm:B8)(n v:Nat)(h:yY ps nm=some n):z0b (stV ps S) nm (.agg #[.string nm,.int .i64 v,.int .i64 n])=stV ps (yah S nm v):=by
 funext k
 unfold stV
 by_cases e:k=nm
 ·subst e;rw[za4,h,ze6];rfl
 ·rw[qC e,zf6 e]
variable {n:Nat}
theorem z93 {ps:P9}{nm:B8}(S:B8->Nat)(h:yY ps nm=some n):(stV ps S nm).getD (.agg #[.string { data:=#[] },.int .i64 0,.int .i64 0])=.agg #[.string nm,.int .i64 (S nm),.int .i64 n]:=by
 unfold stV;rw[h];rfl
theorem zpo (S:B8->Nat):∀ (l:List vK) (m:Nat),m<=zqn S l m
 | [],_=>Nat.le_refl _
 | _::r,_=>Nat.le_trans (Nat.le_max_left _ _) (zpo S r _)
theorem z2q {S:B8->Nat}{c:Nat}:∀ (l:List vK) (m:Nat),m<=c->(∀ x∈l,(S x.pd+if x.neg then 1 else 0)<=c)->zqn S l m<=c
 | [],_,h,_=>h
 | x::r,_,h,hl=>z2q r _ (Nat.max_le.2 ⟨h,hl x List.mem_cons_self⟩) (λ y hy=>hl y (List.mem_cons_of_mem _ hy))
theorem zwc {S:B8->Nat}:∀ (l:List vK) (m:Nat),∀ x∈l,(S x.pd+if x.neg then 1 else 0)<=zqn S l m
 | [],_,_,hx=>by cases hx
 | _::r,_,x,hx=>by
  rcases List.mem_cons.1 hx with rfl | hx
  ·exact Nat.le_trans (Nat.le_max_right _ _) (zpo S r _)
  ·exact zwc r _ x hx
theorem zpd (x y z:Value)(w:W8):Sem.run Tryz.prog (Instr.field 185 (.agg #[x,y,z]) 1) w=.ok y w:=by kernel_rfl
structure M7 (w:W8)(b n:Nat)(V:B8->Option Value)(pd:B8)(nt m:Nat)(wr:W8):Prop where
 map:dE Tryz.prog 9 wr b n V
 below:Below w.heap.size w wr
 size:w.heap.size+1<wr.heap.size
 OQ:wr.heap[w.heap.size+1]?=some (.cells #[.string pd,.int .i64 m,.int .i64 nt] 185 (0,0))
theorem M7.next {w:W8}{b:Nat}{V:B8->Option Value}{pd:B8}{nt:Nat}{wr:W8}(h:M7 w b n V pd nt m wr)(hb:b<w.heap.size)(x:Int)(m':Nat)(hx:x=m')(o:Obj):
  M7 w b n V pd nt m' ((wr.setCell ⟨w.heap.size+1,1,none⟩ (.int .i64 x)).alloc o):=by
 subst hx;refine⟨(h.map.block (Below.heap_setCell _ _ _ _ (by simp;omega))).alloc o,(h.below.setCell (by simp) _).alloc ?_ o,?_,?_⟩
 ·have:=h.size;simp[World.setCell];omega
 ·have:=h.size;rw[World.size_alloc];simp[World.setCell];omega
 ·have:=h.size;rw[Below.heap_alloc _ _ _ (by simp[World.setCell];omega),heap_setCell_same _ _ _ _ _ _ h.OQ];rfl
theorem z1g (w:W8)(b n base:Nat)(ps:P9)(S:B8->Nat)(pd:B8)(ah:O8)(nh ch:Nat)(ab:O8)(cb:Nat)(ls:List (vK × Value))(h:dE Tryz.prog 9 w b n (stV ps S))(hL:iK w base (.slice ab ls.length cb) ls)(hn:n<=1000000000)(hp:pd.size<=800)(nt:Nat)(Hv:yY ps pd=some nt)(Dr:∀ x∈ls,x.1.pd.size<=800/\∃ m,yY ps x.1.pd=some m)(hS:∀ k,S k<=100000)(ot:ls.length<=1000):
  Calls Tryz.prog 56 #[.map (some b),.agg #[.string pd,.slice ah nh ch,.slice ab ls.length cb]] w λ e w'=>e=.returned (.bool (decide (S pd<zqn S (ls.map (·.1)) (S pd))))/\dE Tryz.prog 9 w' b (n+1) (stV ps (yah S pd (zqn S (ls.map (·.1)) (S pd))))/\zK [b] w w':=by
 have uN:=h.lt;have bA:=(Below.refl w.heap.size w).alloc L9 (.cells #[.string pd,.slice ah nh ch,.slice ab ls.length cb] 123);have dH:=h.alloc (.cells #[.string pd,.slice ah nh ch,.slice ab ls.length cb] 123);have dF:pd.size<=maxLen:=by unfold maxLen;omega
 have hu:=z93 S Hv;have DX:=dH.alloc (.cells #[.string pd,.int .i64 (S pd),.int .i64 nt] 185);have bB:=bA.alloc (by simp) (.cells #[.string pd,.int .i64 (S pd),.int .i64 nt] 185);have qf:((w.alloc (.cells #[.string pd,.slice ah nh ch,.slice ab ls.length cb] 123)).alloc (.cells #[.string pd,.int .i64 (S pd),.int .i64 nt] 185)).heap[w.heap.size+1]?=some (.cells #[.string pd,.int .i64 (S pd),.int .i64 nt] 185 (0,0)):=by
  have:=heap_alloc_new (w.alloc (.cells #[.string pd,.slice ah nh ch,.slice ab ls.length cb] 123)) (.cells #[.string pd,.int .i64 (S pd),.int .i64 nt] 185);rw[World.size_alloc] at this;exact this
 have hSp:=hS pd;have HL:=zC hL;clear h hL;have Lo:=zpd;go_enter Tryz.func56,Tryz.ntmps56;go_wp2_with (at_lookup;refine zfk _ rfl _ _ 73 rfl 9 185 Tryz.underlying9 Tryz.underlying73 (Tryz.zeroValue185 _) b n (stV ps S) rfl dH pd rfl dF _ hu ?_);clear dH bA
 go_loopg [20] ls.length (λ gg i wr=>∃ (k m:Nat),k<=ls.length/\gg=ls.length-k/\i=.int .i64 k/\M7 w b n (stV ps S) pd nt m wr/\S pd<=m/\m<=100001/\zqn S ((ls.map (·.1)).drop k) m=zqn S (ls.map (·.1)) (S pd))
 exact⟨0,S pd,Nat.zero_le _,rfl,rfl,⟨DX,bB,by simp,qf⟩,Nat.le_refl _,by omega,rfl⟩
 case round=>
  clear DX bB qf;obtain⟨k,m,hk,eA,rfl,hR,hSm,dC,rT⟩:=hrel;have hm:=hR.map;have hB:=hR.below;have bj:=hR.size;have qf:=hR.OQ;have HR:=zC hR;clear hR;obtain⟨x0,uu⟩:=zB qf 0;obtain⟨x1,mL⟩:=zB qf 1;obtain⟨x2,Lj⟩:=zB qf 2
  by_cases aF:k<ls.length
  ·have aO:=z1r (S:=S) (m:=m) aF;have HU:=zC (aO.symm.trans rT);clear aO rT;have Ch:=(zA HL).below hB;obtain⟨g,cap,hv,iG,aZ,bO,bP,hc⟩:=vU zxo Ch.row k aF;injection hv with h1 h2 h3
   subst h1 h3;obtain⟨br,dL,fp⟩:=zD (Ch.each _ (List.getElem_mem aF));have q0:=hc 0 (by omega);have q1:=hc 1 (by omega);have q2:=hc 2 (by omega);simp only[vK.cells,fp,Nat.add_zero,List.getElem?_cons_zero,List.getElem?_cons_succ] at q0 q1 q2;obtain⟨S4,mq,Zt⟩:=Dr _ (List.getElem_mem aF);have EI:ls[k].1.pd.size<=maxLen:=(by unfold maxLen;omega);have Ue:=z93 S Zt;have hSq:=hS ls[k].1.pd;have Cn:=hm.alloc (.cells #[.bool ls[k].1.neg,.string ls[k].1.pd,.slice br ls[k].1.ts.length dL] 183);clear hc fp Ch hm hB qf
   cases hneg:ls[k].1.neg with
   | true=>
    rw[hneg] at q0 Cn HU;go_wp2_with (at_lookup;refine zfk _ rfl _ _ 73 rfl 9 185 Tryz.underlying9 Tryz.underlying73 (Tryz.zeroValue185 _) b n (stV ps S) rfl Cn ls[k].1.pd rfl EI _ Ue ?_);have hN:=(zA HR).next uN (max (m:Int) ((S ls[k].1.pd:Int)+1)) (max m (S ls[k].1.pd+1)) (by omega) (.cells #[.bool true,.string ls[k].1.pd,.slice br ls[k].1.ts.length dL] 183);go_roundg (ls.length-(k+1));exact⟨k+1,max m (S ls[k].1.pd+1),by omega,rfl,by go_num,hN,by omega,by omega,by simpa using zA HU⟩;omega
   | false=>
    rw[hneg] at q0 Cn HU;go_wp2_with (at_lookup;refine zfk _ rfl _ _ 73 rfl 9 185 Tryz.underlying9 Tryz.underlying73 (Tryz.zeroValue185 _) b n (stV ps S) rfl Cn ls[k].1.pd rfl EI _ Ue ?_);have hN:=(zA HR).next uN (max (m:Int) (S ls[k].1.pd:Int)) (max m (S ls[k].1.pd)) (by omega) (.cells #[.bool false,.string ls[k].1.pd,.slice br ls[k].1.ts.length dL] 183);go_roundg (ls.length-(k+1));exact⟨k+1,max m (S ls[k].1.pd),by omega,rfl,by go_num,hN,by omega,by omega,by simpa using zA HU⟩;omega
  ·have hd:(ls.map (·.1)).drop k=[]:=List.drop_eq_nil_of_le (by simp;omega);rw[hd,zqn] at rT;have Mx:=zC rT;have dD:=zC (yab ps S pd nt m Hv);clear hd rT hu qf;go_wp2_with (at_mapUpdate;refine znz _ rfl _ _ _ 73 rfl 9 185 Tryz.underlying9 Tryz.underlying73 b n (stV ps S) rfl hm (by unfold maxLen;omega) pd (.agg #[.string pd,.int .i64 m,.int .i64 nt]) (by rfl) (by rfl) dF ?_);intro w2 dC fK;have FP:=Cz.put ⟨hm,(zK.refl _ _).ak hB⟩ dC fK;rw[zA dD,zA Mx] at FP;have wg:=zC FP;have EM:w2.heap[w.heap.size+1]?=some (.cells #[.string pd,.int .i64 m,.int .i64 nt] 185 (0,0)):=by
    rw[fK.block _ bj (by simp;omega)];exact (zA HR).OQ
   obtain⟨y1,Fq⟩:=zB EM 1;clear dC fK FP hm hB EM x0 x1 x2 uu mL Lj;go_wp2_with fail;go_ret;exact⟨by rw[zA Mx];rfl,(zA wg).map,(zA wg).kept⟩
end
section
open Go.RowKit Go.Maps
def z34 (f:B8->Nat)(R:vY):Prop:=∀ l∈R.body,(f l.pd+if l.neg then 1 else 0)<=f R.pd
def zd1 (rs:List vY)(f:B8->Nat):Prop:=∀ R∈rs,z34 f R
def z56 (rs:List vY)(S:B8->Nat):Prop:=∀ f,zd1 rs f->∀ k,S k<=f k
theorem ztg (S:B8->Nat)(R:vY)(k:B8):S k<=zgo S R k:=by
 unfold zgo
 by_cases e:k=R.pd
 ·subst e;rw[ze6];exact zpo _ _ _
 ·rw[zf6 e];exact Nat.le_refl _
variable {R:vY} {S:B8->Nat} {rs:List vY}
theorem z4m (h:z56 rs S)(hR:R∈rs):z56 rs (zgo S R):=by
 intro f hf k;unfold zgo
 by_cases e:k=R.pd
 ·subst e;rw[ze6];refine z2q _ _ (h f hf _) λ x hx=>?_
  have h1:=h f hf x.pd;have h2:=hf R hR x hx;omega
 ·rw[zf6 e];exact h f hf k
theorem zt4 (h:¬ S R.pd<zqn S R.body (S R.pd)):z34 S R/\zgo S R=S:=by
 have h2:zqn S R.body (S R.pd)=S R.pd:=Nat.le_antisymm (Nat.not_lt.1 h) (zpo _ _ _);refine⟨λ l hl=>?_,?_⟩
 ·have:=zwc R.body (S R.pd) (S:=S) l hl
  rwa [h2] at this
 ·funext k
  unfold zgo
  by_cases e:k=R.pd
  ·subst e;rw[ze6,h2]
  ·rw[zf6 e]
def zsr (S:B8->Nat):P9->Nat
 | []=>0
 | p::r=>S p.1+zsr S r
theorem zpq {S T:B8->Nat}(h:∀ k,S k<=T k):∀ ps,zsr S ps<=zsr T ps
 | []=>Nat.le_refl _
 | p::r=>Nat.add_le_add (h p.1) (zpq h r)
theorem z0m {S T:B8->Nat}(h:∀ k,S k<=T k){p:B8 × Nat}(hp:S p.1<T p.1):∀ ps,p∈ps->zsr S ps<zsr T ps
 | [],hm=>by cases hm
 | q::r,hm=>by
  rcases List.mem_cons.1 hm with rfl | hm
  ·exact Nat.add_lt_add_of_lt_of_le hp (zpq h r)
  ·exact Nat.add_lt_add_of_le_of_lt (h q.1) (z0m h hp r hm)
theorem zn5 {S:B8->Nat}{c:Nat}(h:∀ k,S k<=c):∀ ps,zsr S ps<=c*ps.length
 | []=>Nat.zero_le _
 | p::r=>by
  have:=zn5 h r;have h1:=h p.1;simp only[zsr,List.length_cons,Nat.mul_add,Nat.mul_one];omega
theorem zrw {nm:B8}{n:Nat}:∀ {ps:P9},yY ps nm=some n->∃ p∈ps,p.1=nm
 | [],h=>by simp[yY] at h
 | p::r,h=>by
  rw[yY] at h
  split at h
  ·rename_i e;exact⟨p,List.mem_cons_self,xO.1 e⟩
  ·obtain⟨q,hq,e⟩:=zrw h;exact⟨q,List.mem_cons_of_mem _ hq,e⟩
structure Kg (rs:List vY)(ps:P9)(S0:B8->Nat)(k:Nat)(b:Bool)(S:B8->Nat):Prop where
 low:z56 rs S
 ge:zsr S0 ps<=zsr S ps
 up:b=true->zsr S0 ps<zsr S ps
 keeps:b=false->∀ R∈rs.take k,z34 S R
theorem Kg.next {ps:P9}{S0:B8->Nat}{k:Nat}{b:Bool}(h:Kg rs ps S0 k b S)(hk:k<rs.length){n:Nat}(hn:yY ps rs[k].pd=some n):Kg rs ps S0 (k+1) (if decide (S rs[k].pd<zqn S rs[k].body (S rs[k].pd)) then true else b) (zgo S rs[k]):=by
 have qq:=zpq (ztg S rs[k]) ps
 by_cases hu:S rs[k].pd<zqn S rs[k].body (S rs[k].pd)
 ·obtain⟨p,hp,e⟩:=zrw hn;have aH:zsr S ps<zsr (zgo S rs[k]) ps:=z0m (ztg S rs[k]) (p:=p) (by rw[e,zgo,ze6];exact hu) ps hp;simp only[hu,decide_true,if_true];exact⟨z4m h.low (List.getElem_mem hk),Nat.le_trans h.ge qq,λ _=>Nat.lt_of_le_of_lt h.ge aH,λ e=>by cases e⟩
 ·obtain⟨h1,h2⟩:=zt4 hu;simp only[hu,decide_false,h2];refine⟨h.low,h.ge,by simpa using h.up,λ e R hR=>?_⟩;rw[List.take_succ_eq_append_getElem hk,List.mem_append] at hR;rcases hR with hR | hR
  ·exact h.keeps (by simpa using e) R hR
  ·rw[List.mem_singleton.1 hR];exact h1
theorem yd0 (w:W8)(base:Nat)(ar:O8)(cr:Nat)(rs:List PR)(ps:P9)(h:ig w base (.slice ar rs.length cr) rs)(nM:rs.length<=30)(cI:∀ r∈rs,r.bs.length<=3)(iU:∀ r∈rs,r.R.pd.size<=800)(Dr:∀ r∈rs,∀ x∈r.bs,x.1.pd.size<=800)(yd:zbh ((rs.map (·.R)).flatMap jO) [])(pO:iE ((rs.map (·.R)).flatMap jO) []=ps)(bt:ps.length<=1000)(ax:∀ r∈rs,(∃ n,yY ps r.R.pd=some n)/\∀ x∈r.bs,∃ n,yY ps x.1.pd=some n)(f0:B8->Nat)(uo:zd1 (rs.map (·.R)) f0)(lR:∀ k,f0 k<=1000):
  Calls Tryz.prog 35 #[.slice ar rs.length cr] w λ e w'=>e=.returned (.map (some w.heap.size))/\w.heap.size<w'.heap.size/\Below w.heap.size w w'/\∃ (S:B8->Nat) (n:Nat),dE Tryz.prog 9 w' w.heap.size n (stV ps S)/\n<=1000000000/\zd1 (rs.map (·.R)) S/\z56 (rs.map (·.R)) S:=by
 have HR:=zC h;have hsf:=zn5 lR ps;go_enter Tryz.func35,Tryz.ntmps35;go_wp2_with fail;refine (zx0 w base ar cr rs h nM cI iU Dr yd).mono ?_;rintro e w1 ⟨rfl,aY,aL,dJ⟩;rw[pO] at dJ;clear h yd pO;go_wp2_with fail
 go_loopg [4] (zsr f0 ps+1) (λ gg r wr=>∃ (b:Bool) (S:B8->Nat) (n:Nat),r=.bool b/\(b=true->zsr f0 ps-zsr S ps+1<=gg)/\n+30*gg<=120+30*(zsr f0 ps+1)/\Below w.heap.size w wr/\w.heap.size<wr.heap.size/\dE Tryz.prog 9 wr w.heap.size n (stV ps S)/\z56 (rs.map (·.R)) S/\(b=false->zd1 (rs.map (·.R)) S))
 exact⟨true,λ _=>0,4*rs.length,rfl,λ _=>by omega,by omega,aL,aY,dJ,λ _ _ _=>Nat.zero_le _,λ e=>by cases e⟩
 case round=>
  clear aL aY dJ;obtain⟨b,S0,n0,rfl,bS,BZ,hB,bj,hm,bc,dz⟩:=hrel
  cases b with
  | false=>
   have HV:=zC (dz rfl);have tG:=zC bc;clear bc dz;go_wp2_with fail;go_ret;exact⟨rfl,bj,hB,S0,n0,hm,by omega,zA HV,zA tG⟩
  | true=>
   have eA:=bS rfl;generalize iS:gk=g1 at *;have h0:Kg (rs.map (·.R)) ps S0 0 false S0:=⟨bc,Nat.le_refl _,(λ e=>by cases e),λ _ R hR=>by simp at hR⟩;clear bS dz bc;go_wp2_with fail
   go_loopg [4,12] rs.length (λ gg2 r j wj=>∃ (b:Bool) (S:B8->Nat) (k:Nat),r=.bool b/\k<=rs.length/\gg2=rs.length-k/\j=.int .i64 k/\Below w.heap.size w wj/\w.heap.size<wj.heap.size/\dE Tryz.prog 9 wj w.heap.size (n0+k) (stV ps S)/\Kg (rs.map (·.R)) ps S0 k b S)
   exact⟨false,S0,0,rfl,Nat.zero_le _,rfl,rfl,hB,bj,hm,h0⟩
   case round=>
    clear hB hm h0;obtain⟨b,S,k,rfl,hk,L6,rfl,hB,bj,hm,kT⟩:=hrel
    by_cases aF:k<rs.length
    ·have C9:=(zA HR).below hB;obtain⟨gr,dA,BO,CW,Cu,Dz,Cr,nk⟩:=vU zq3 C9.row k aF;injection BO with h4 h5 h6
     subst h4 h6;have rZ:=(zA HR).each _ (List.getElem_mem aF);obtain⟨ah,ch,Bk⟩:=zD rZ.hd;obtain⟨ab,cb,my⟩:=zD rZ.bo.row;have r0:=nk 0 (by omega);have r1:=nk 1 (by omega);have r2:=nk 2 (by omega);simp only[PR.cells,Bk,my,Nat.add_zero,List.getElem?_cons_zero,List.getElem?_cons_succ] at r0 r1 r2;have fl:=iU _ (List.getElem_mem aF);obtain⟨⟨nt,oH⟩,uV⟩:=ax _ (List.getElem_mem aF);have Fo:=Dr _ (List.getElem_mem aF);have WK:=cI _ (List.getElem_mem aF);have dJ:=hm.alloc (.cells #[.string rs[k].R.pd,.slice ah rs[k].R.ts.length ch,.slice ab rs[k].bs.length cb] 123);have gA:=hB.alloc (by omega) (.cells #[.string rs[k].R.pd,.slice ah rs[k].R.ts.length ch,.slice ab rs[k].bs.length cb] 123);have iu:iK (wr.alloc (.cells #[.string rs[k].R.pd,.slice ah rs[k].R.ts.length ch,.slice ab rs[k].bs.length cb] 123)) base (.slice ab rs[k].bs.length cb) rs[k].bs:=by
      have:=rZ.bo.below gA
      rwa [my] at this
     have PQ:=kT.next (by simpa using aF) (n:=nt) (by simpa using oH);have EX:∀ x,S x<=100000:=λ x=>Nat.le_trans (Nat.le_trans (kT.low f0 uo x) (lR x)) (by omega)
     simp only[List.getElem_map] at PQ;have heq:=rZ.eq;have xa:=zC PQ;clear nk rZ Bk my C9 PQ kT hB hm;go_wp2_with fail;refine (z1g _ w.heap.size (n0+k) base ps S rs[k].R.pd ah rs[k].R.ts.length ch ab cb rs[k].bs dJ iu (by omega) fl nt oH (λ x hx=>⟨Fo x hx,uV x hx⟩) EX (by omega)).mono ?_;rintro e w3 ⟨rfl,fm,eE⟩;have ze:=eE.size;rw[World.size_alloc] at ze;have kh:=zY gA eE (by simp;omega) (by simp);rw[heq] at fm ⊢;have Bw:Hid (dE Tryz.prog 9 w3 w.heap.size (n0+(k+1)) (stV ps (zgo S rs[k].R))):=zC fm;clear fm eE gA dJ iu r0 r1 r2 EX heq;generalize decide (S rs[k].R.pd<zqn S rs[k].R.body (S rs[k].R.pd))=c at xa ⊢
     cases c with
     | true=>
      go_wp2_with fail;go_roundg (rs.length-(k+1));exact⟨true,_,k+1,rfl,by omega,rfl,by go_num,kh,by omega,zA Bw,zA xa⟩;omega
     | false=>
      go_wp2_with fail;go_roundg (rs.length-(k+1));exact⟨b,_,k+1,rfl,by omega,rfl,by go_num,kh,by omega,zA Bw,zA xa⟩;omega
    ·have dF:k=rs.length:=(by omega);have qq:=kT.ge;have rT:=kT.up;have DH:=zpq (kT.low f0 uo) ps;have TK:=zC kT;have Mx:=zC rT;clear kT rT;go_wp2_with fail;go_roundg (g1-1);exact⟨b,S,n0+k,rfl,λ e=>by have:=zA Mx e;omega,by omega,hB,bj,hm,(zA TK).low,λ e R hR=>(zA TK).keeps e R (by rwa [List.take_of_length_le (by simp;omega)])⟩;omega
end
end Go.Proofs.YtldkpahaocjdpaaGreat
