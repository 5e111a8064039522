/-
  The reference's Explain, at every atom and limit.
-/
import Derived.Test.YtldkpahaocjdpaaGreatE47
set_option maxHeartbeats 16000000
set_option maxRecDepth 1000000
namespace Go.Proofs.YtldkpahaocjdpaaGreat
section
open Go.RowKit Go.Maps
theorem zw2 (w:W8)(o:Nat)(rs:List RR)(ps:P9)(rv pv tv:Value)(gs:Nat)(S:Nat->Nat)(hC:Ck w o rs ps rv pv tv gs S)(hS:∀ i,i<ps.length->S i<=1000000)(s:B8)(bN:s.size<=maxLen)(limit:Int)(hlen:(zcr ps s&&qD (zN s))=true->(jG (zN s)).length<=1000000000)(Ad:1<=limit->limit<=50->∀ l,zkk ps S (rs.map (·.R)) limit.toNat (lQ S ps.length) 0 [] (some l)->∀ f∈l,f.fr.length<=3/\∀ x∈f.fr,x<l.length):
  Calls Tryz.prog 91 #[.pointer (some ⟨o,0,none⟩),.string s,.int .i64 limit] w (yci w ps S (rs.map (·.R)) s limit):=by
 have HC:=zC hC;have HS:=zC hS;have xj:=zC Ad;have ry:=zC hlen;have k0:Below w.heap.size w (w.alloc (.cells #[.int .i64 0,.int .i64 0,.slice none 0 0] 49)):=B9.alloc L9 _;have v0:WV (w.alloc (.cells #[.int .i64 0,.int .i64 0,.slice none 0 0] 49)) w.heap.size (.int .i64 0) (.int .i64 0) (.slice none 0 0):=heap_alloc_new w _;have s0:(w.alloc (.cells #[.int .i64 0,.int .i64 0,.slice none 0 0] 49)).heap.size=w.heap.size+1:=by simp
 clear hC hS Ad hlen;go_enter Tryz.func91,Tryz.ntmps91;go_upto_region 1 with fail;generalize (w.alloc (.cells #[.int .i64 0,.int .i64 0,.slice none 0 0] 49))=w0 at *;obtain⟨z0,z1,z2,zf⟩:=v0.zero;have mW:=zf 0;have sl:=zf 1;have pF:=zf 2;have IT:=zC ((zA HC).below k0);have PY:=zC v0;have dr:=zC k0;have mj:=zC s0;clear k0 v0 s0 zf
 by_cases h1:limit<1\/50<limit
 ·have HL:=zC h1
  by_cases h2:limit<1
  ·clear h1;go_wp2_with fail;obtain⟨q0,q1,q2⟩:=zi6 z0 z1 z2 (.int .i64 0) (.int .i64 0) (.slice none 0 0);refine bodyPost_ret (v:=.tuple #[zir 0 0 (.slice none 0 0),.int .i64 8]) (by simp[zir,results,Tryz.results91,go_sem,q0,q1,q2]) rfl ?_;exact⟨_,8,rfl,.arg (zA HL),(((zA dr).setCell L9 _).setCell L9 _).setCell L9 _⟩
  ·have h3:50<limit:=(by omega);clear h1;go_wp2_with fail;obtain⟨q0,q1,q2⟩:=zi6 z0 z1 z2 (.int .i64 0) (.int .i64 0) (.slice none 0 0);refine bodyPost_ret (v:=.tuple #[zir 0 0 (.slice none 0 0),.int .i64 8]) (by simp[zir,results,Tryz.results91,go_sem,q0,q1,q2]) rfl ?_;exact⟨_,8,rfl,.arg (zA HL),(((zA dr).setCell L9 _).setCell L9 _).setCell L9 _⟩
 ·obtain⟨k,rfl⟩:∃ k:Nat,limit=k:=⟨limit.toNat,by omega⟩;have g1:1<=(k:Int):=by omega
  have g2:(k:Int)<=50:=by omega
  have g3:¬ 50<(k:Int):=by omega
  have g4:¬ (k:Int)<1:=by omega
  clear h1 z0 z1 z2 mW sl pF;go_upto_region 3 with fail;go_wp2_with fail;refine (ybp w0 o rs ps rv pv tv _ (zA IT).prog s bN).mono ?_;rintro e w1 ⟨v,rfl,oK⟩;obtain⟨aa,ca,rfl⟩:=zD oK.row;have rk:=zA mj;have rf:=oK.below;have E7:=rf.size;have aK:Below w0.heap.size w0 (w1.alloc (.cells #[.string (zN s).pred,.slice aa (zN s).ae.length ca,.bool (zN s).no,.int .i64 (zN s).at_,.int .i64 (zN s).az] 243)):=rf.alloc E7 _;have dv:(w1.alloc (.cells #[.string (zN s).pred,.slice aa (zN s).ae.length ca,.bool (zN s).no,.int .i64 (zN s).at_,.int .i64 (zN s).az] 243)).heap[w1.heap.size]?=some (.cells #[.string (zN s).pred,.slice aa (zN s).ae.length ca,.bool (zN s).no,.int .i64 (zN s).at_,.int .i64 (zN s).az] 243 (0,0)):=heap_alloc_new w1 _;have qx:=oK.row.alloc (.cells #[.string (zN s).pred,.slice aa (zN s).ae.length ca,.bool (zN s).no,.int .i64 (zN s).at_,.int .i64 (zN s).az] 243);have bf:(w1.alloc (.cells #[.string (zN s).pred,.slice aa (zN s).ae.length ca,.bool (zN s).no,.int .i64 (zN s).at_,.int .i64 (zN s).az] 243)).heap.size=w1.heap.size+1:=by simp
  have yy:=zC qx;have ir:=zC aK;have tJ:=zC dv;have NS:=zC (And.intro bf E7);clear oK aK dv qx bf rf E7 rk;unfold zL.val;go_upto_region 4 with fail;generalize (w1.alloc (.cells #[.string (zN s).pred,.slice aa (zN s).ae.length ca,.bool (zN s).no,.int .i64 (zN s).at_,.int .i64 (zN s).az] 243))=W at *;obtain⟨ab,Df⟩:∃ ab,ab=w1.heap.size:=⟨_,rfl⟩;have Zg:=zC Df;rw[<-Df];have td:W.heap[ab]?=some (.cells #[.string (zN s).pred,.slice aa (zN s).ae.length ca,.bool (zN s).no,.int .i64 (zN s).at_,.int .i64 (zN s).az] 243 (0,0)):=by rw[Df];exact zA tJ
  have a0:=(zB td 0).1;have a1:=(zB td 1).1;have a2:=(zB td 2).1;have a3:=(zB td 3).1;have a4:=(zB td 4).1;simp only[List.getElem?_toArray,List.getElem?_cons_zero,List.getElem?_cons_succ] at a0 a1 a2 a3 a4;have LA:=zC td;clear Df td;go_wp2_with fail;refine (z16 W _ (zN s) aa ca (zA yy)).mono ?_;rintro e w2 ⟨rfl,cI⟩;have rk:=zA mj;have IN:=zA NS;have ze:=cI.size;have kh:Below w0.heap.size w0 w2:=(zA ir).trans (cI.mono (zA ir).size);have Ud:Below w.heap.size w w2:=(zA dr).trans (kh.mono (by omega));have v3:WV w2 w.heap.size (.int .i64 0) (.int .i64 0) (.slice none 0 0):=(kh.block _ (by omega)).trans (zA PY);have zj:=(zA IT).below kh;have KW:=(cI.block ab (Array.getElem?_eq_some_iff.1 (zA LA)).1).trans (zA LA);have lP:=zJ (zA yy) cI (λ g e=>((zA yy).lt g e).2);have BL:=zC kh;have wk:=zC Ud;have T7:=zC v3;have Hx:=zC zj;have Jg:=zC KW;have D4:=zC lP;have mi:=zC (show w.heap.size+1=w0.heap.size/\w0.heap.size<=ab/\ab+1<=w2.heap.size from by have:=zA Zg;omega);obtain⟨z0,z1,z2,zf⟩:=v3.zero;have mW:=zf 0;have sl:=zf 1;have pF:=zf 2;clear kh Ud v3 zj KW lP cI rk IN ze zf a0 a1 a2 a3 a4
  cases bQ:zcr ps s with
  | false=>
   have iX:=zC (show (zcr ps s&&qD (zN s))=false by rw[bQ];rfl);clear bQ;go_wp2_with fail;obtain⟨q0,q1,q2⟩:=zi6 z0 z1 z2 (.int .i64 0) (.int .i64 0) (.slice none 0 0);refine bodyPost_ret (v:=.tuple #[zir 0 0 (.slice none 0 0),.int .i64 6]) (by simp[zir,results,Tryz.results91,go_sem,q0,q1,q2]) rfl ?_;exact⟨_,6,rfl,.ask g1 g2 (zA iX),(((zA wk).setCell L9 _).setCell L9 _).setCell L9 _⟩
  | true=>
   cases mG:qD (zN s) with
   | false=>
    have iX:=zC (show (zcr ps s&&qD (zN s))=false by rw[mG,Bool.and_false]);clear bQ mG;go_wp2_with fail;obtain⟨q0,q1,q2⟩:=zi6 z0 z1 z2 (.int .i64 0) (.int .i64 0) (.slice none 0 0);refine bodyPost_ret (v:=.tuple #[zir 0 0 (.slice none 0 0),.int .i64 6]) (by simp[zir,results,Tryz.results91,go_sem,q0,q1,q2]) rfl ?_;exact⟨_,6,rfl,.ask g1 g2 (zA iX),(((zA wk).setCell L9 _).setCell L9 _).setCell L9 _⟩
   | true=>
    have iX:=zC (show (zcr ps s&&qD (zN s))=true by rw[bQ,mG];rfl);clear bQ mG z0 z1 z2 mW sl pF;go_upto_region 7 with fail;go_wp2_with fail;refine (zsg w2 o rs ps rv pv tv gs S (zA Hx) (zA HS) k (by omega)).mono ?_;rintro e w3 ⟨v,b,rfl,hO⟩
    cases hO with
    | no bZ hN=>
     have jg:=zC ((zA wk).trans (bZ.mono (zA wk).size));have HN:=zC hN;obtain⟨z0,z1,z2,zf⟩:=((zA T7).below bZ).zero;have mW:=zf 0;have sl:=zf 1;have pF:=zf 2;clear bZ hN zf;go_wp2_with fail;obtain⟨q0,q1,q2⟩:=zi6 z0 z1 z2 (.int .i64 0) (.int .i64 0) (.slice none 0 0);refine bodyPost_ret (v:=.tuple #[zir 0 0 (.slice none 0 0),.int .i64 7]) (by simp[zir,results,Tryz.results91,go_sem,q0,q1,q2]) rfl ?_;exact⟨_,7,rfl,.fF g1 g2 (zA iX) (by simpa using zA HN),(((zA jg).setCell L9 _).setCell L9 _).setCell L9 _⟩
    | yes hI hl hY=>
     rename_i fs;obtain⟨al,cl,rfl⟩:=zD hI.facts.row;have bZ:=hI.below;have sj:=bZ.size;have jg:=zC ((zA wk).trans (bZ.mono (zA wk).size));have JW:=zC ((zA T7).below bZ);have Gd:=zC ((zA Hx).below bZ);have AK:=(bZ.block ab (Array.getElem?_eq_some_iff.1 (zA Jg)).1).trans (zA Jg);have EO:=zJ (zA D4) bZ (λ g e=>((zA D4).lt g e).2);have Cy:=zC (zA xj g1 g2 _ (by simpa using hY));have HY:=zC hY;have HI:=zC hI;have Mf:=zC AK;have Eo:=zC EO;have H8:=zC sj;have iM:=zpk fs.length (by omega);clear hI hY bZ AK EO sj;go_upto_region 11 with fail
     have NW:me w3 fs.length (λ _=>false) (w3.alloc (.cells (madeCells #[.bool false] fs.length) 4)):=⟨B9.alloc L9 _,by
      have h1:fi (w3.alloc (.cells (madeCells #[.bool false] fs.length) 4)) w3.heap.size 4 fs.length (λ _=>.bool false):=fi.start _ _ _ _
      exact⟨h1.lt,λ i hi=>h1.cell hi,λ j=>h1.fz j⟩⟩
     generalize (w3.alloc (.cells (madeCells #[.bool false] fs.length) 4))=w4 at *;clear iM;have bZ:=NW.below;have sj:=zA H8;have bW:=(bZ.block ab (Array.getElem?_eq_some_iff.1 (zA Mf)).1).trans (zA Mf);have rK:=zJ (zA Eo) bZ (λ g e=>((zA Eo).lt g e).2);have a0:=(zB bW 0).1;have a1:=(zB bW 1).1;have a2:=(zB bW 2).1;have a3:=(zB bW 3).1;have a4:=(zB bW 4).1;simp only[List.getElem?_toArray,List.getElem?_cons_zero,List.getElem?_cons_succ] at a0 a1 a2 a3 a4;have RE:=zC NW;have Jr:=zC rK;have Md:=zC bW;clear NW bZ bW rK sj;go_wp2_with fail;refine (zrb w4 _ (zN s) aa ca (zA Jr) (zA ry (zA iX))).mono ?_;rintro e w5 ⟨xt,rfl,Um,dB⟩;have EV:me w3 fs.length (λ _=>false) w5:=⟨(zA RE).below.trans (dB.mono (zA RE).below.size),(zA RE).row.below dB⟩;have T0:=(zA HI).facts.below EV.below;have Kv:=(dB.block ab (Array.getElem?_eq_some_iff.1 (zA Md)).1).trans (zA Md);have M0:=zC EV;have OV:=zC Um;have XP:=zC T0;have Rn:=zC Kv;clear EV Um T0 dB Kv a0 a1 a2 a3 a4;go_wp2_with fail;refine (zkc w5 _ al cl fs xt (zA XP).row).mono ?_;rintro e w6 ⟨rfl,hw⟩;have hw:=hw.symm;subst hw
     by_cases hneg:jE (fs.map (·.F)) xt<0
     ·have Gn:=zC hneg;have a0:=(zB (zA Rn) 0).1;simp only[List.getElem?_toArray,List.getElem?_cons_zero] at a0;have T2:=(zA Gd).below (zA M0).below;have CJ:=zC T2;clear T2;go_upto_region 14 with fail;go_wp2_with fail;refine (zcc w5 o rs ps rv pv tv _ (zN s).pred (zA CJ).prog).mono ?_;rintro e w6 ⟨rfl,hw⟩;have hw:=hw.symm;subst hw;clear a0 hneg;have lL:=zC (zA HI).facts
      by_cases hq:0<=zM ps (zN s).pred
      ·have EI:=vM hq;have GF:=zC (show S (zM ps (zN s).pred).toNat+1=(if 0<=zM ps (zN s).pred then S (zM ps (zN s).pred).toNat+1 else 0) by rw[if_pos hq]);obtain⟨q,Ol⟩:∃ q:Nat,zM ps (zN s).pred=q:=⟨(zM ps (zN s).pred).toNat,by omega⟩;rw[Ol] at EI GF hq ⊢;have DO:q<ps.length:=(by simpa using EI);have O9:(q:Int)<ps.length:=(by omega);have p3:=(zA CJ).prog.c3;have sc:=(zA CJ).og.cell q DO;have Mn:=zA HS q DO;have QX:=zC Ol;clear Ol EI;go_wp2_with fail;rw[show ((S q:Nat):Int)+1=((S q+1:Nat):Int) from by omega];refine ydl w3 w5 w2.heap.size (S q+1) al cl fs (zA lL) (by omega) (λ _=>false) (zA M0) ?_;intro w6;intros;rename_i hE6;have Dv:=zC hE6;have Ir:=zC (zt8 w6 w2.heap.size w3.heap.size (S q+1) al cl fs (λ i=>decide (lS (fs.map (·.F)) i<(S q+1))) ((zA lL).below hE6.below) hE6.row (by omega) (λ F hF=>by have:=zA Cy F.F (List.mem_map_of_mem hF);simpa using this));clear hE6;go_wp2_with fail;refine (zA Ir).mono ?_;rintro e w7 ⟨wv,rfl,fy,A7⟩;obtain⟨aw,cw,rfl⟩:=zD fy;generalize hRW:(znp (S q+1) (fs.map (·.F)) (λ i=>decide (lS (fs.map (·.F)) i<(S q+1))))=RW at fy ⊢;have sr:=zC hRW;clear hRW;have xg:=(zA Dv).below.trans (A7.mono (zA Dv).below.size);obtain⟨z0,z1,z2,zf⟩:=((zA JW).below xg).zero;have mW:=zf 0;have sl:=zf 1;have pF:=zf 2;have Qh:=zC ((zA jg).trans (xg.mono (zA jg).size));have uc:w.heap.size<w6.heap.size:=(by have:=zA mi;have:=zA H8;have:=(zA Dv).below.size;omega);have QG:=zC (zda fy uc (.int .i64 2) (.int .i64 0) (.slice aw RW.length cw));have G2:=zC uc;clear fy A7 xg zf uc;go_wp2_with fail;obtain⟨q0,q1,q2⟩:=zi6 z0 z1 z2 (.int .i64 2) (.int .i64 0) (.slice aw RW.length cw);refine bodyPost_ret (v:=.tuple #[zir 2 0 (.slice aw RW.length cw),.int .i64 0]) (by simp[zir,results,Tryz.results91,go_sem,q0,q1,q2]) rfl ?_;have hy:=vh.out (w:=w) (w':=(((w7.setCell ⟨w.heap.size,0,none⟩ (.int .i64 2)).setCell ⟨w.heap.size,1,none⟩ (.int .i64 0)).setCell ⟨w.heap.size,2,none⟩ (.slice aw RW.length cw))) (k:=(S q+1)) (a:=aw) (c:=cw) g1 g2 (zA iX) (by simpa using zA HY) (by simp;omega) (zA OV) (zA Gn) (by rw[zA QX,if_pos (by omega)];rfl) (by rw[zA sr];exact zG (zA QG) (Nat.le_of_lt (zA G2)))
       rw[zA sr] at hy;exact⟨_,0,rfl,hy,(((zA Qh).setCell L9 _).setCell L9 _).setCell L9 _⟩
      ·have WO:=zC hq;have DO:zM ps (zN s).pred<0:=(by omega);generalize JC:zM ps (zN s).pred=pq at *;have P1:=zC JC;clear JC;go_wp2_with fail;refine ydl w3 w5 w2.heap.size 0 al cl fs (zA lL) (by omega) (λ _=>false) (zA M0) ?_;intro w6;intros;rename_i hE6;have Dv:=zC hE6;have Ir:=zC (zt8 w6 w2.heap.size w3.heap.size 0 al cl fs (λ i=>decide (lS (fs.map (·.F)) i<0)) ((zA lL).below hE6.below) hE6.row (by omega) (λ F hF=>by have:=zA Cy F.F (List.mem_map_of_mem hF);simpa using this));clear hE6;go_wp2_with fail;refine (zA Ir).mono ?_;rintro e w7 ⟨wv,rfl,fy,A7⟩;obtain⟨aw,cw,rfl⟩:=zD fy;generalize hRW:(znp 0 (fs.map (·.F)) (λ i=>decide (lS (fs.map (·.F)) i<0)))=RW at fy ⊢;have sr:=zC hRW;clear hRW;have xg:=(zA Dv).below.trans (A7.mono (zA Dv).below.size);obtain⟨z0,z1,z2,zf⟩:=((zA JW).below xg).zero;have mW:=zf 0;have sl:=zf 1;have pF:=zf 2;have Qh:=zC ((zA jg).trans (xg.mono (zA jg).size));have uc:w.heap.size<w6.heap.size:=(by have:=zA mi;have:=zA H8;have:=(zA Dv).below.size;omega);have QG:=zC (zda fy uc (.int .i64 2) (.int .i64 0) (.slice aw RW.length cw));have G2:=zC uc;clear fy A7 xg zf uc;go_wp2_with fail;obtain⟨q0,q1,q2⟩:=zi6 z0 z1 z2 (.int .i64 2) (.int .i64 0) (.slice aw RW.length cw);refine bodyPost_ret (v:=.tuple #[zir 2 0 (.slice aw RW.length cw),.int .i64 0]) (by simp[zir,results,Tryz.results91,go_sem,q0,q1,q2]) rfl ?_;have hy:=vh.out (w:=w) (w':=(((w7.setCell ⟨w.heap.size,0,none⟩ (.int .i64 2)).setCell ⟨w.heap.size,1,none⟩ (.int .i64 0)).setCell ⟨w.heap.size,2,none⟩ (.slice aw RW.length cw))) (k:=0) (a:=aw) (c:=cw) g1 g2 (zA iX) (by simpa using zA HY) (by simp;omega) (zA OV) (zA Gn) (by rw[zA P1,if_neg (by have:=zA WO;omega)]) (by rw[zA sr];exact zG (zA QG) (Nat.le_of_lt (zA G2)));rw[zA sr] at hy;exact⟨_,0,rfl,hy,(((zA Qh).setCell L9 _).setCell L9 _).setCell L9 _⟩
     ·have lL:=zC (zA HI).facts;obtain⟨f,Ey⟩:∃ f:Nat,jE (fs.map (·.F)) xt=f:=⟨(jE (fs.map (·.F)) xt).toNat,by omega⟩;have kn:f<fs.length:=(by obtain⟨h,_⟩:=z15 Ey;simpa using h);have YA:=zC Ey;rw[Ey] at hneg ⊢;have mx:(f:Int)<fs.length:=(by omega);have EV:=zA M0;have Vr:=EV.row.cell f kn;have I3:=EV.row.fz f;have Dv:=zC (EV.set f true kn);have hg:∃ g,al=some ⟨g,0,none⟩:=by
       rcases (zA lL).row.2 with⟨_,h0⟩ | ⟨g,cap,cur,hv,_⟩
       ·omega
       ·injection hv with h1 _ _
        exact⟨g,h1⟩
      obtain⟨g,rfl⟩:=hg;clear Ey EV;go_wp2_with fail;generalize w5.setCell ⟨w3.heap.size,f,none⟩ (.bool true)=w6 at *;refine yem w3 w6 w2.heap.size g f cl fs (zA lL) (by omega) kn (λ F hF x hx=>by have:=(zA Cy F.F (List.mem_map_of_mem hF)).2 x hx;simpa using this) (zbf (λ _=>false) f true) (zA Dv) ?_;intro w7;intros;rename_i xg;have OS:=(zA lL).below xg.below;obtain⟨g',cap,hv,iG,aZ,bO,bP,hc⟩:=zb0 OS.row kn;injection hv with h1 h2 h3
      injection h1 with h1
      injection h1 with h1
      subst h1 h3;have p6:=hc 6 (by omega);have p7:=hc 7 (by omega);simp only[FG.cells,List.getElem?_cons_zero,List.getElem?_cons_succ] at p6 p7;have IL:fs[f].F.s=lS (fs.map (·.F)) f:=(by unfold lS;rw[List.getElem?_map,List.getElem?_eq_getElem kn];rfl);have MN:fs[f].F.h=lH (fs.map (·.F)) f:=(by unfold lH;rw[List.getElem?_map,List.getElem?_eq_getElem kn];rfl);rw[IL] at p6;rw[MN] at p7;have T8:w.heap.size≠g:=by have:=zA mi;omega
      have HA:=zC (λ (V:W8) (hV:∀ i,i<w7.heap.size->i≠w.heap.size->V.heap[i]?=w7.heap[i]?)=>(show V.cell? ⟨g,f*10+6,none⟩=some (.int .i64 (lS (fs.map (·.F)) f:Nat))/\V.cell? ⟨g,f*10+7,none⟩=some (.int .i64 (lH (fs.map (·.F)) f:Nat)) from
       ⟨(World.cell?_of_block (a:=⟨g,f*10+6,none⟩) (hV g aZ (λ e=>T8 e.symm))).trans p6,(World.cell?_of_block (a:=⟨g,f*10+7,none⟩) (hV g aZ (λ e=>T8 e.symm))).trans p7⟩))
      have Ir:=zC (λ (V:W8) (hV:Below w7.heap.size w7 V)=>zt8 V w2.heap.size w3.heap.size (lS (fs.map (·.F)) f) (some ⟨g,0,none⟩) cl fs (zin (fs.map (·.F)) (lS (fs.map (·.F)) f) fs.length (zbf (λ _=>false) f true)) (OS.below hV) (xg.row.below hV) (by omega) (λ F hF=>by have:=zA Cy F.F (List.mem_map_of_mem hF);simpa using this));have En:=zA HA w7.drew (λ i _ _=>rfl);have Rw:=zC xg;clear xg OS hc IL MN h2 p6 p7;generalize hRW:(znp (lS (fs.map (·.F)) f) (fs.map (·.F)) (zin (fs.map (·.F)) (lS (fs.map (·.F)) f) fs.length (zbf (λ _=>false) f true)))=RW at *;have sr:=zC hRW;clear hRW;generalize hLS:lS (fs.map (·.F)) f=LS at *;generalize hLH:lH (fs.map (·.F)) f=LH at *;have MY:=zC hLS;have Zj:=zC hLH;clear hLS hLH;go_upto_region 31 with fail;refine wp_region_held_drew (S:=λ V=>V.cell? ⟨g,f*10+6,none⟩=some (.int .i64 (LS:Nat))/\V.cell? ⟨g,f*10+7,none⟩=some (.int .i64 (LH:Nat))) (by kernel_rfl) En (λ hHeld=>?_);refine K9 0 (.slice (some ⟨g,0,none⟩) fs.length cl) rfl (Or.inl ⟨by rfl,λ V _=>by go_simp⟩) hHeld ?_;refine K9 1 (.int .i64 (f:Nat)) rfl (Or.inl ⟨by rfl,λ V _=>by go_simp⟩) hHeld ?_;refine K9 2 (.pointer (some ⟨g,f*10,none⟩)) rfl (Or.inl ⟨by rfl,λ V _=>by go_simp⟩) hHeld ?_;refine K9 3 (.pointer (some ⟨g,f*10+7,none⟩)) rfl (Or.inl ⟨by rfl,λ V _=>by go_simp⟩) hHeld ?_;refine K9 4 (.int .i64 (LH:Nat)) rfl (Or.inl ⟨by rfl,λ V hV=>by obtain⟨m6,m7⟩:=hV;go_simp⟩) hHeld ?_;refine K9 5 (.slice (some ⟨g,0,none⟩) fs.length cl) rfl (Or.inl ⟨by rfl,λ V _=>by go_simp⟩) hHeld ?_;refine K9 6 (.int .i64 (f:Nat)) rfl (Or.inl ⟨by rfl,λ V _=>by go_simp⟩) hHeld ?_;refine K9 7 (.pointer (some ⟨g,f*10,none⟩)) rfl (Or.inl ⟨by rfl,λ V _=>by go_simp⟩) hHeld ?_;refine K9 8 (.pointer (some ⟨g,f*10+6,none⟩)) rfl (Or.inl ⟨by rfl,λ V _=>by go_simp⟩) hHeld ?_;refine K9 9 (.int .i64 (LS:Nat)) rfl (Or.inl ⟨by rfl,λ V hV=>by obtain⟨m6,m7⟩:=hV;go_simp⟩) hHeld ?_;refine K9 10 (.slice (some ⟨g,0,none⟩) fs.length cl) rfl (Or.inl ⟨by rfl,λ V _=>by go_simp⟩) hHeld ?_;refine K9 11 (.slice (some ⟨w3.heap.size,0,none⟩) fs.length fs.length) rfl (Or.inl ⟨by rfl,λ V _=>by go_simp⟩) hHeld ?_
      refine wpAnyH_ready (rs:=[12]) (by kernel_rfl) (by simp) ?_;refine AllReadyH.cons rfl (λ K hK=>?_) AllReadyH.nil
      go_simp
      refine (zA Ir _ B9.drew).mono ?_;rintro e w8 ⟨wv,rfl,zo,Kq⟩;obtain⟨aw,cw,rfl⟩:=zD zo;have nF:=yA Kq;have Hz:=zA HA w8 (λ i hi _=>nF.block i hi);have Jy:=(zA Rw).below.trans (nF.mono (zA Rw).below.size);obtain⟨z0,z1,z2,zf⟩:=((zA JW).below Jy).zero;have mW:=zf 0;have sl:=zf 1;have pF:=zf 2;have MF:=zC ((zA jg).trans (Jy.mono (zA jg).size));have Gz:w.heap.size<w7.heap.size:=(by have:=zA mi;have:=zA H8;have:=(zA Rw).below.size;omega);have XK:=zC (zda zo Gz (.int .i64 1) (.int .i64 (LH:Nat)) (.slice aw RW.length cw));have Qc:=zC Gz;have Zb:=zC (zA HA (((w8.setCell ⟨w.heap.size,0,none⟩ (.int .i64 1)).setCell ⟨w.heap.size,1,none⟩ (.int .i64 (LH:Nat))).setCell ⟨w.heap.size,2,none⟩ (.slice aw RW.length cw)) (λ i hi hn=>by rw[Below.heap_setCell _ _ _ _ (by simpa using hn),Below.heap_setCell _ _ _ _ (by simpa using hn),Below.heap_setCell _ _ _ _ (by simpa using hn)];exact nF.block i hi));refine hK.out _ _ Hz (λ _=>?_);clear hK K zo Kq Jy zf Gz nF hHeld En HA Ir;refine K9 13 (.agg #[.int .i64 1,.int .i64 (LH:Nat),.slice aw RW.length cw]) rfl (Or.inl ⟨by rfl,λ V _=>by go_simp⟩) Hz ?_;refine wpAnyH_ready (rs:=[14]) (by kernel_rfl) (by simp) ?_;refine AllReadyH.cons rfl (λ K hK=>?_) AllReadyH.nil
      go_simp
      refine hK.out _ _ (zA Zb) (λ hH9=>?_);clear hK K;refine K9 15 (.int .i64 0) rfl (Or.inl ⟨by rfl,λ V _=>by go_simp⟩) hH9 ?_;refine wpAnyH_done (by kernel_rfl) ?_ _;clear hH9 Hz;go_wp2_with fail;obtain⟨q0,q1,q2⟩:=zi6 z0 z1 z2 (.int .i64 1) (.int .i64 (LH:Nat)) (.slice aw RW.length cw);refine bodyPost_ret (v:=.tuple #[zir 1 (LH:Nat) (.slice aw RW.length cw),.int .i64 0]) (by simp[zir,results,Tryz.results91,go_sem,q0,q1,q2]) rfl ?_;have hy:=vh.yes (w:=w) (w':=(((w8.setCell ⟨w.heap.size,0,none⟩ (.int .i64 1)).setCell ⟨w.heap.size,1,none⟩ (.int .i64 (LH:Nat))).setCell ⟨w.heap.size,2,none⟩ (.slice aw RW.length cw))) (f:=f) (a:=aw) (c:=cw) g1 g2 (zA iX) (by simpa using zA HY) (by simp;omega) (zA OV) (zA YA) (by simpa using kn) (by rw[zA MY,List.length_map,zA sr];exact zG (zA XK) (Nat.le_of_lt (zA Qc)));rw[zA MY,List.length_map,zA sr,zA Zj] at hy;exact⟨_,0,rfl,hy,(((zA MF).setCell L9 _).setCell L9 _).setCell L9 _⟩
end
section
open Go.RowKit Go.Maps
def ydg (s:B8)(w:W8)(q:B8)(limit:Int):Ending->W8->Prop:=λ e w'=>∃ rp:List PR,rp.map (·.R)=(yM s).2.2.1/\(∀ r∈rp,r.bs.map (·.1)=r.R.body)/\yx w rp (zT s).2 q limit (ycr (zT s).2 rp) w' e/\Below w.heap.size w w'
def ycw (s:B8)(w:W8)(q:B8)(limit:Int):Ending->W8->Prop:=λ e w'=>∃ (S:Nat->Nat) (v:Value) (n:Nat),e=.returned (.tuple #[v,.int .i64 (n:Nat)])/\zez (zT s).2 (yG s).1 S/\Low (zT s).2 (yG s).1 S/\vh w (zT s).2 S (yG s).1 q limit w' v n/\Below w.heap.size w w'
variable {w:W8}
theorem Calls.some_ {P:Program}{f:FuncId}{args:Array Value}{R:Ending->W8->Prop}(h:Calls P f args w R):∃ e w',R e w':=by
 obtain⟨e,w',_,h1,_⟩:=h [];exact⟨e,w',h1⟩
variable {lo xb yb:Nat} {s:B8}
theorem yao (h:pt s xb yb w lo)(k:Nat)(hk:k<=50):∃ (S:Nat->Nat) (r:Option (List zP)),zez (zT s).2 (yG s).1 S/\Low (zT s).2 (yG s).1 S/\zkk (zT s).2 S (yG s).1 k (lQ S (zT s).2.length) 0 [] r:=by
 obtain⟨rs,rv,pv,tv,gs,S,hC,h7,h5,h6,hS⟩:=z5a h;obtain⟨e,w',v,b,_,hO⟩:=Calls.some_ (zsg w yb rs (zT s).2 rv pv tv gs S hC (λ i _=>hS i) k hk);rw[h7] at hO
 cases hO with
 | no _ hN=>exact⟨S,none,h5,h6,hN⟩
 | yes _ _ hY=>exact⟨S,_,h5,h6,hY⟩
theorem zln (h:pt s xb yb w lo)(q:B8)(hq:q.size<=2000000)(limit:Int):Calls Tryz.prog 26 #[.pointer (some ⟨xb,0,none⟩),.string q,.int .i64 limit] w (ydg s w q limit):=by
 obtain⟨rs,hp,hr⟩:=h.x;have hg:=zhk h.ok;obtain⟨f0,uo,lR⟩:=hg.some_;have ax:∀ r∈rs,r.R∈(yM s).2.2.1:=λ r oC=>by rw[<-hr];exact List.mem_map_of_mem oC
 have iu:∀ r∈rs,r.bs.map (·.1)=r.R.body:=λ r oC=>by
  obtain⟨a,c,_,_,nw⟩:=hp;exact (nw.each r oC).eq
 have MG:∀ r∈rs,∀ x∈r.bs,x.1∈r.R.body:=λ r oC x hx=>by rw[<-iu r oC];exact List.mem_map_of_mem hx
 have hl:rs.length<=30:=by have:=hg.len;rw[<-hr,List.length_map] at this;exact this
 have hR:=zmw h.ok hr iu;have hI:=z4d h.ok hr iu;refine (z6r w lo xb rs (zT s).2 q limit (ycr (zT s).2 rs) hq hp hl (λ r oC=>by have:=hg.body r.R (ax r oC);rw[<-iu r oC,List.length_map] at this;exact this) (λ r oC=>hg.pd r.R (ax r oC)) (λ r oC x hx=>hg.R3 r.R (ax r oC) x.1 (MG r oC x hx)) (by rw[hr];exact hg.agree) (by rw[hr];exact hg.met) (by have:=hg.eJ;omega) (λ r oC=>⟨(hg.named r.R (ax r oC)).1,λ x hx=>(hg.named r.R (ax r oC)).2 x.1 (MG r oC x hx)⟩) f0 (by rw[hr];exact uo) lR (z2w hR.dQ) hR.dQ z7s ?_).mono ?_
 ·intro hL Sp m K CM nD hc aO O hO n9;have BR:=zo3 hL;obtain⟨S,r,hv,bc,Qr⟩:=yao h limit.toNat (by omega);obtain⟨_,l,_,_,hS,hT,hs⟩:=zhv h.ok hr iu hv bc CM nD (by omega) hc Qr aO;obtain⟨rfl,Gk⟩:=zoz hR hI hS hT hs hO n9;exact ybo Gk
 ·rintro e w' ⟨h1,h2⟩;exact⟨rs,hr,iu,h1,h2⟩
theorem zre (h:pt s xb yb w lo)(q:B8)(hq:q.size<=2000000)(limit:Int):Calls Tryz.prog 91 #[.pointer (some ⟨yb,0,none⟩),.string q,.int .i64 limit] w (ycw s w q limit):=by
 obtain⟨rs,rv,pv,tv,gs,S,hC,h7,h5,h6,hS⟩:=z5a h
 by_cases hl:limit.toNat<=50
 ·refine (zw2 w yb rs (zT s).2 rv pv tv gs S hC (λ i _=>hS i) q (by unfold maxLen;omega) limit z50 (λ _ _ l aO=>by rw[h7] at aO;exact yas h.ok hl aO)).mono ?_;rintro e w' ⟨v,n,rfl,h1,h2⟩;rw[h7] at h1;exact⟨S,v,n,rfl,h5,h6,h1,h2⟩
 ·refine (zw2 w yb rs (zT s).2 rv pv tv gs S hC (λ i _=>hS i) q (by unfold maxLen;omega) limit z50 (λ _ Q7=>by omega)).mono ?_;rintro e w' ⟨v,n,rfl,h1,h2⟩;rw[h7] at h1;exact⟨S,v,n,rfl,h5,h6,h1,h2⟩
variable {w':W8} {limit:Int} {ps:P9}
theorem yx.shape {rs:List PR}{rea:(B8->Nat)->List (Th × Nat)->List Pl->Nat->Nat × List Nat}{e:Ending}(h:yx w rs ps s limit rea w' e):∃ (v d:Int) (a:O8) (m c k:Nat),e=.returned (.tuple #[.agg #[.int .i64 v,.int .i64 d,.slice a m c],.int .i64 (k:Nat)]):=by
 cases h with
 | arg _=>exact⟨0,0,none,0,0,8,rfl⟩
 | ask _ _=>exact⟨0,0,none,0,0,6,rfl⟩
 | fF _ _ _ _ _ _=>exact⟨0,0,none,0,0,7,rfl⟩
 | yes _ _ _ _ _ _ _ _ _ _=>exact⟨_,_,_,_,_,0,rfl⟩
variable {n:Nat}
theorem vh.shape {S:Nat->Nat}{rs:List zS}{v:Value}(h:vh w ps S rs s limit w' v n):∃ (x d:Int) (a:O8) (m c:Nat),v=zir x d (.slice a m c):=by
 cases h with
 | arg _=>exact⟨_,_,_,_,_,rfl⟩
 | ask _ _ _=>exact⟨_,_,_,_,_,rfl⟩
 | fF _ _ _ _=>exact⟨_,_,_,_,_,rfl⟩
 | out _ _ _ _ _ _ _ _ _=>exact⟨_,_,_,_,_,rfl⟩
 | yes _ _ _ _ _ _ _ _ _=>exact⟨_,_,_,_,_,rfl⟩
theorem Iz.both {wr B2:W8}{v d x y:Int}{a b:O8}{m c k m' c':Nat}(h:Iz w w' wr B2 (.returned (.tuple #[.agg #[.int .i64 v,.int .i64 d,.slice a m c],.int .i64 (k:Nat)])) (zir x y (.slice b m' c')) n):k=n/\v=x/\d=y/\∃ bs:List Nat,bs.length<=1000/\m=bs.length/\m'=bs.length/\w'.ownsRow w.heap.size 5 1 (.slice a m c) m (bs.map u8c)/\B2.ownsRow wr.heap.size 5 1 (.slice b m' c') m' (bs.map u8c):=by
 generalize he:Ending.returned (.tuple #[.agg #[.int .i64 v,.int .i64 d,.slice a m c],.int .i64 (k:Nat)])=e at h;generalize hv:zir x y (.slice b m' c')=u at h
 cases h with
 | @mk v0 d0 n0 bs a0 b0 c0 e0 hl h1 h2=>
  simp only[Ending.returned.injEq,.tuple.injEq,.agg.injEq,Array.mk.injEq,List.cons.injEq,.slice.injEq,.int.injEq,true_and,and_true] at he;unfold zir at hv;simp only[Value.agg.injEq,Array.mk.injEq,List.cons.injEq,.slice.injEq,.int.injEq,true_and,and_true] at hv;obtain⟨⟨rfl,rfl,rfl,rfl,rfl⟩,hk⟩:=he;obtain⟨rfl,rfl,rfl,rfl,rfl⟩:=hv;exact⟨by omega,rfl,rfl,bs,hl,rfl,rfl,h1,h2⟩
end
section
open Go.RowKit
theorem z01 (m:Value)(k:Nat)(ys:V8)(h:1<=ys.length):(rep [m] k++ys).set k m=rep [m] (k+1)++ys.drop 1:=by
 match ys,h with
 | y0::r,_=>
  have hl:(rep [m] k).length=k:=by rw[Nv];simp
  rw[List.set_append_right _ _ (by omega),hl,zo7];simp[rep]
end
section
open Go.RowKit
theorem z9f (n:Nat):iF n=[.int .u8 (n%251:Nat)]:=rfl
theorem zlk (mk:Nat):∀ u∈iF mk,u.oneCell'=true:=by
 intro u hu;rw[z9f,List.mem_singleton] at hu;subst hu;rfl
theorem z25 (mk:Nat):∀ u∈iF mk++iF mk,u.oneCell'=true:=by
 intro u hu;rcases List.mem_append.1 hu with h | h <;> exact zlk mk u h
structure Lt (wA:W8)(mk:Nat)(a:O8)(n cap k:Nat)(wr:W8):Prop where
 row:∃ ys,ys.length=n-k/\wr.ownsRow 0 5 1 (.slice a n cap) n (rep (iF mk) k++ys)
 kept:zK (Value.slice a n cap).ownBlock.toList wA wr
theorem Lt.step {wA:W8}{mk g n cap k:Nat}{wr:W8}(h:Lt wA mk (some ⟨g,0,none⟩) n cap k wr)(hk:k<n):Lt wA mk (some ⟨g,0,none⟩) n cap (k+1) (wr.setCell ⟨g,k,none⟩ (.int .u8 (mk%251:Nat))):=by
 obtain⟨ys,hy,hr⟩:=h.row;have h1:=vT hr k (.int .u8 (mk%251:Nat));have e:=z01 (.int .u8 (mk%251:Nat)) k ys (by omega);refine⟨⟨ys.drop 1,by rw[List.length_drop,hy];omega,?_⟩,?_⟩
 ·rw[z9f] at h1 ⊢;rw[e] at h1;exact h1
 ·have hm:g∈(Value.slice (some ⟨g,0,none⟩) n cap).ownBlock.toList:=by simp[Value.ownBlock]
  exact h.kept.setCell (p:=⟨g,_,none⟩) (.inl hm) _
theorem zst (w:W8)(a:O8)(n cap mk:Nat)(xs:V8)(h:w.ownsRow 0 5 1 (.slice a n cap) n xs)(hn:n<=1000)(iM:mk<=1000000000):
  Calls Tryz.prog 142 #[.slice a n cap,.int .i64 mk] w (ybh w 5 (iF mk) a n cap mk):=by
 obtain⟨i0,hi,bL,aY,bf⟩:=info_parts zen;have HL:=zC h;have xe:Lt (w.alloc (.cells #[.slice none 0 0,.slice none 0 0,.slice none 0 0,.slice none 0 0,.int .i64 0] 115)) mk a n cap 0 (w.alloc (.cells #[.slice none 0 0,.slice none 0 0,.slice none 0 0,.slice none 0 0,.int .i64 0] 115)):=⟨⟨xs,by have:=h.1;rw[Nat.mul_one] at this;exact this,h.alloc _⟩,zK.refl _ _⟩;have HA:=zC ((zK.refl (Value.slice a n cap).ownBlock.toList w).alloc (.cells #[.slice none 0 0,.slice none 0 0,.slice none 0 0,.slice none 0 0,.int .i64 0] 115));have HR:Hid ((w.alloc (.cells #[.slice none 0 0,.slice none 0 0,.slice none 0 0,.slice none 0 0,.int .i64 0] 115)).heap[w.heap.size]?=some (.cells #[.slice none 0 0,.slice none 0 0,.slice none 0 0,.slice none 0 0,.int .i64 0] 115 (0,0))):=by
  show _=_
  exact heap_alloc_new w _
 clear h;go_enter Tryz.func142,Tryz.ntmps142;go_wp2_with fail;generalize hwA:(w.alloc (.cells #[.slice none 0 0,.slice none 0 0,.slice none 0 0,.slice none 0 0,.int .i64 0] 115))=wA at *;clear hwA
 go_loopg [6] n (λ gg i wr=>∃ k:Nat,k<=n/\gg=n-k/\i=.int .i64 k/\Lt wA mk a n cap k wr)
 exact⟨0,Nat.zero_le _,rfl,rfl,xe⟩
 case round=>
  clear xe;obtain⟨k,hk,eA,rfl,Au⟩:=hrel
  by_cases aF:k<n
  ·obtain⟨ys,hy,aB⟩:=Au.row;obtain⟨g,dp,hv,_,aZ⟩:=aB.form (by omega);injection hv with e1 e2 e3
   subst e1 e3;have C5:=((zA HL).lt g rfl).2;have Ih:=zh5 aB;have cd:=zyh aB;obtain⟨u0,c0⟩:=cd k (by omega);have bO:=z66 aB;have HO:=zC (Au.step aF);have f0:=Ih k;clear aB Au cd Ih hy;go_wp2_with fail;go_roundg (n-(k+1));exact⟨k+1,by omega,rfl,by go_num,zA HO⟩;omega
  ·have Pk:k=n:=(by omega);subst Pk;have JK:Lm wr 0 5 (iF mk) (.slice a k cap) k:=by
    obtain⟨ys,hy,aB⟩:=Au.row;have:ys=[]:=List.eq_nil_of_length_eq_zero (by rw[hy];omega);subst this;rw[List.append_nil] at aB;exact aB
   have MD:=zC JK;have UZ:=zC ((zA HA).trans Au.kept);have fq:=z59 (zA HL) (zA HR) (by omega) Au.kept;have Kr:=(Array.getElem?_eq_some_iff.1 fq).1;have sr:=zC fq;clear JK Au fq HA HR;go_wp2_with (at_builtin;refine za3 _ rfl _ _ 47 rfl 0 5 i0 _ 1 1 Tryz.underlying47 hi bL aY bf rfl (by decide) a k cap (rep (iF mk) k) rfl ((zA MD).alloc _) ⟨wr.heap.size,0,none⟩ 1 1 (iF mk) rfl rfl (World.news_of_block (heap_alloc_new wr _)) (zlk mk) (by decide) (by unfold maxLen;omega) (by omega) (Nat.zero_le _) ?_);intro a1 c1 w1 aN hpart1;have dJ:Lm w1 0 5 (iF mk) (.slice a1 (k+1) c1) (k+1):=(by unfold Lm;rw[z2z];exact aN);have Ng:=((zK.refl [] wr).alloc (Obj.cells #[.int .u8 (mk%251:Nat)] 5));have ye:(wr.alloc (Obj.cells #[.int .u8 (mk%251:Nat)] 5)).heap[w.heap.size]?=_:=(Ng.block _ Kr (by simp)).trans (zA sr);have iN:=z59 (zA HL) ye (by omega) hpart1.kept;have UJ:=hpart1.first (by omega) ((zA MD).kept Ng (by simp)) dJ;have iv:=zC dJ;have tr:=zC hpart1;have fw:=zC UJ;have xy:=zC iN;have Jt:=zC Ng;have Ez:=(Array.getElem?_eq_some_iff.1 iN).1;clear aN hpart1 dJ UJ iN ye Ng sr;go_wp2_with (at_builtin;refine za3 _ rfl _ _ 47 rfl 0 5 i0 _ 1 1 Tryz.underlying47 hi bL aY bf rfl (by decide) a k cap (rep (iF mk) k) rfl ((zA fw).alloc _) ⟨w1.heap.size,0,none⟩ 2 2 (iF mk++iF mk) rfl rfl (World.news_of_block (heap_alloc_new w1 _)) (z25 mk) (by decide) (by unfold maxLen;omega) (by omega) (Nat.zero_le _) ?_);intro a2 c2 w2 ei hpart2;have dC:Lm w2 0 5 (iF mk) (.slice a2 (k+2) c2) (k+2):=(by unfold Lm;rw[yck];exact ei);have wR:=((zK.refl [] w1).alloc (Obj.cells #[.int .u8 (mk%251:Nat),.int .u8 (mk%251:Nat)] 5));have ye:(w1.alloc (Obj.cells #[.int .u8 (mk%251:Nat),.int .u8 (mk%251:Nat)] 5)).heap[w.heap.size]?=_:=(wR.block _ Ez (by simp)).trans (zA xy);have ie:=z59 (zA HL) ye (by omega) hpart2.kept;have pn:=hpart2.first (by omega) ((zA fw).kept wR (by simp)) dC;have xh:=zC dC;have mC:=zC hpart2;have na:=zC ie
   have Dp:=zC wR;have aC:=zC pn;have g0:ur w2 0 5 (iF mk) a k cap 0 (.slice a k cap) w2:=⟨pn,zK.refl _ _,.inl rfl⟩;clear ei hpart2 dC ie ye wR pn xy Kr Ez;go_wp2_with fail;have MC:=zC (λ (a3:O8) (c3:Nat) (w3:W8) (hg:ur w2 0 5 (iF mk) a k cap 64 (.slice a3 (k+64) c3) w3)=>DW.of (zA UZ) (zA MD) (zA Jt) (zA Dp) (zA tr) (zA iv) (zA mC) (zA xh) hg hn iM);clear UZ MD Jt Dp tr iv mC xh
   go_loopg [9,10] 64 (λ gg v3 i wj=>∃ (j:Nat) (a3:O8) (c3:Nat),j<=64/\gg=64-j/\v3=.slice a3 (k+j) c3/\i=.int .i64 j/\ur w2 0 5 (iF mk) a k cap j (.slice a3 (k+j) c3) wj)
   exact⟨0,a,cap,Nat.zero_le _,rfl,rfl,rfl,g0⟩
   case round=>
    clear g0;obtain⟨j,a3,c3,hj,xu,rfl,rfl,mG⟩:=hrel;have hr:=z59 (zA HL) (zA na) (by omega) mG.kept;have HG:=zC mG
    by_cases hlj:j<64
    ·clear hr mG;go_wp2_with (at_builtin;refine za3 _ rfl _ _ 47 rfl 0 5 i0 _ 1 1 Tryz.underlying47 hi bL aY bf rfl (by decide) a3 (k+j) c3 (rep (iF mk) (k+j)) rfl ((zA HG).lm.alloc _) ⟨wr.heap.size,0,none⟩ 1 1 (iF mk) rfl rfl (World.news_of_block (heap_alloc_new wr _)) (zlk mk) (by decide) (by unfold maxLen;omega) (by omega) (Nat.zero_le _) ?_);intro a4 c4 w4 mN hpart4;have rV:Lm w4 0 5 (iF mk) (.slice a4 (k+j+1) c4) (k+j+1):=(by unfold Lm;rw[z2z];exact mN);have Xe:=zC (((zA HG).KS ((zK.refl [] wr).alloc _)).one (zA aC) hpart4 rV);clear mN hpart4 rV;go_wp2_with fail;go_roundg (64-(j+1));exact⟨j+1,a4,c4,by omega,rfl,rfl,by go_num,zA Xe⟩;omega
    ·have QT:j=64:=(by omega);subst QT;have HO:=zC (zA MC a3 c3 wr mG);have HN:=zC (zdj hr (show (115:TypeId)≠5 by decide));obtain⟨r0,TJ⟩:=zB hr 0;obtain⟨r1,Fk⟩:=zB hr 1;obtain⟨r2,R7⟩:=zB hr 2;obtain⟨r3,SB⟩:=zB hr 3;obtain⟨r4,Pe⟩:=zB hr 4;clear hr mG MC HL;go_wp2_with fail;refine bodyPost_ret (v:=.agg #[.slice a k cap,.slice a1 (k+1) c1,.slice a2 (k+2) c2,.slice a3 (k+64) c3,.int .i64 mk]) (by simp[results,Tryz.results142,go_sem,r0,r1,r2,r3,r4]) rfl ?_;refine⟨a1,a2,a3,c1,c2,c3,rfl,(zA HO).dN (x:=w.heap.size) ?_ L9 (zA HN)⟩;have hm:w.heap.size∈[w.heap.size]:=List.mem_singleton.2 rfl;exact (((((zK.refl _ wr).setCell (p:=⟨w.heap.size,0,none⟩) (.inl hm) _).setCell (p:=⟨w.heap.size,1,none⟩) (.inl hm) _).setCell (p:=⟨w.heap.size,2,none⟩) (.inl hm) _).setCell (p:=⟨w.heap.size,3,none⟩) (.inl hm) _).setCell (p:=⟨w.heap.size,4,none⟩) (.inl hm) _
end
section
open Go.RowKit
theorem z29:(Tryz.prog.info? 115).map (λ i=>(i.zero,i.size,i.bytes))=some (some (.agg #[.slice none 0 0,.slice none 0 0,.slice none 0 0,.slice none 0 0,.int .i64 0]),5,104):=by kernel_rfl
theorem zwl (w:W8)(b:Nat)(bz bv tv sv:Value)(ms:List MB)(a:O8)(n cap:Nat)(xs:V8)(hblk:w.heap[b]?=some (.cells #[bz,bv,tv,sv] 69 (0,0)))(hS:jW w (b+1) 115 5 iF bv ms)(h:w.ownsRow 0 5 1 (.slice a n cap) n xs)(hn:n<=1000)(rF:∀ m∈ms,∀ g∈(Value.slice a n cap).ownBlock.toList,g∉m.blocks)(hlen:ms.length<=100000000):
  Calls Tryz.prog 92 #[.pointer (some ⟨b,1,none⟩),.slice a n cap] w (ydd w b (λ v'=>#[bz,v',tv,sv]) 115 5 iF bv ms (.slice a n cap)):=by
 obtain⟨i0,hi,bL,aY,bf⟩:=info_parts z29;obtain⟨ap,cp,rfl⟩:=zD hS.row;obtain⟨x3,EH⟩:=zB hblk 1;have mJ:=zC hblk;have HS:=zC hS;have HF:=zC rF;have HH:=zC h;clear hS rF h hblk;go_enter Tryz.func92,Tryz.ntmps92;go_wp2_with fail;refine (zst w a n cap ms.length xs (zA HH) hn (by omega)).mono ?_;rintro e w1 ⟨a1,a2,a3,c1,c2,c3,rfl,hO⟩;have lO:w1.heap[b]?=some (.cells #[bz,.slice ap ms.length cp,tv,sv] 69 (0,0)):=yL (zA mJ) hO.kept (λ x hx=>.inr (yH (zA HH) (by decide) x hx));have LV:=(zA HS).kept hO.kept (λ x hx=>.inr (yH (zA HH) (by decide) x hx)) (λ x hx=>.inr (λ m hm=>zA HF m hm x hx));have aB:=LV.row;obtain⟨y3,OC⟩:=zB lO 1;have uN:=(Array.getElem?_eq_some_iff.1 lO).1;have kW:zK [] w1 (((w1.alloc (Obj.cells #[.slice a n cap,.slice a1 (n+1) c1,.slice a2 (n+2) c2,.slice a3 (n+64) c3,.int .i64 (ms.length:Nat)] 115)).alloc (Obj.cells #[.slice a n cap,.slice a1 (n+1) c1,.slice a2 (n+2) c2,.slice a3 (n+64) c3,.int .i64 (ms.length:Nat)] 115)).drew):=(((zK.refl [] w1).alloc _).alloc _).drew;have s1:Hid ((((w1.alloc (Obj.cells #[.slice a n cap,.slice a1 (n+1) c1,.slice a2 (n+2) c2,.slice a3 (n+64) c3,.int .i64 (ms.length:Nat)] 115)).alloc (Obj.cells #[.slice a n cap,.slice a1 (n+1) c1,.slice a2 (n+2) c2,.slice a3 (n+64) c3,.int .i64 (ms.length:Nat)] 115)).drew).ownsRow (b+1) 115 5 (.slice ap ms.length cp) ms.length (ms.flatMap MB.cells)):=(aB.alloc _).alloc _;have s2:Hid (∀ j u,([.slice a n cap,.slice a1 (n+1) c1,.slice a2 (n+2) c2,.slice a3 (n+64) c3,.int .i64 (ms.length:Nat)]:V8)[j]?=some u->(((w1.alloc (Obj.cells #[.slice a n cap,.slice a1 (n+1) c1,.slice a2 (n+2) c2,.slice a3 (n+64) c3,.int .i64 (ms.length:Nat)] 115)).alloc (Obj.cells #[.slice a n cap,.slice a1 (n+1) c1,.slice a2 (n+2) c2,.slice a3 (n+64) c3,.int .i64 (ms.length:Nat)] 115)).drew).cell? ((⟨w1.heap.size+1,0,none⟩:Addr).add j)=some u):=by
  have:=heap_alloc_new (w1.alloc (Obj.cells #[.slice a n cap,.slice a1 (n+1) c1,.slice a2 (n+2) c2,.slice a3 (n+64) c3,.int .i64 (ms.length:Nat)] 115)) (Obj.cells #[.slice a n cap,.slice a1 (n+1) c1,.slice a2 (n+2) c2,.slice a3 (n+64) c3,.int .i64 (ms.length:Nat)] 115);rw[World.size_alloc] at this;exact World.news_of_block (w:=((w1.alloc _).alloc _).drew) this
 have s3:Hid (∀ u∈([.slice a n cap,.slice a1 (n+1) c1,.slice a2 (n+2) c2,.slice a3 (n+64) c3,.int .i64 (ms.length:Nat)]:V8),u.oneCell'=true):=by
  show ∀ u∈_,_
  intro u hu;simp at hu;rcases hu with rfl | rfl | rfl | rfl | rfl <;> rfl
 have s4:Hid (ms.length+1<=maxLen):=by show _<=_;unfold maxLen;omega
 have s5:Hid ((ms.length+1)*104<=140737488355328):=by show _<=_;omega
 have s6:Hid (b+1<=(((w1.alloc (Obj.cells #[.slice a n cap,.slice a1 (n+1) c1,.slice a2 (n+2) c2,.slice a3 (n+64) c3,.int .i64 (ms.length:Nat)] 115)).alloc (Obj.cells #[.slice a n cap,.slice a1 (n+1) c1,.slice a2 (n+2) c2,.slice a3 (n+64) c3,.int .i64 (ms.length:Nat)] 115)).drew).heap.size):=by show _<=_;simp;omega
 have s8:=zC (λ (w5:W8) (g dp:Nat) (hg:(((w1.alloc (Obj.cells #[.slice a n cap,.slice a1 (n+1) c1,.slice a2 (n+2) c2,.slice a3 (n+64) c3,.int .i64 (ms.length:Nat)] 115)).alloc (Obj.cells #[.slice a n cap,.slice a1 (n+1) c1,.slice a2 (n+2) c2,.slice a3 (n+64) c3,.int .i64 (ms.length:Nat)] 115)).drew).grownBy w5 (Value.slice ap ms.length cp).ownBlock) (ay:w5.ownsRow (b+1) 115 5 (.slice (some ⟨g,0,none⟩) (ms.length+1) dp) (ms.length+1) (ms.flatMap MB.cells++[.slice a n cap,.slice a1 (n+1) c1,.slice a2 (n+2) c2,.slice a3 (n+64) c3,.int .i64 (ms.length:Nat)])) (dv:(Value.slice ap ms.length cp).ownBlock=some g\/∀ g',(Value.slice (some ⟨g,0,none⟩) (ms.length+1) dp).ownBlock=some g'->(((w1.alloc (Obj.cells #[.slice a n cap,.slice a1 (n+1) c1,.slice a2 (n+2) c2,.slice a3 (n+64) c3,.int .i64 (ms.length:Nat)] 115)).alloc (Obj.cells #[.slice a n cap,.slice a1 (n+1) c1,.slice a2 (n+2) c2,.slice a3 (n+64) c3,.int .i64 (ms.length:Nat)] 115)).drew).heap.size<=g')=>z7w (j:=1) (a':=some ⟨g,0,none⟩) (c':=dp) (m:=⟨.slice a n cap,.slice a1 (n+1) c1,.slice a2 (n+2) c2,.slice a3 (n+64) c3,ms.length⟩) (A':=#[bz,.slice (some ⟨g,0,none⟩) (ms.length+1) dp,tv,sv]) lO LV hO kW hg ay dv (by decide) (by decide) (by decide) (by simp));have QN:=zC hO.eG;clear hO LV aB lO kW mJ HS HF HH x3 EH;go_wp2_with fail
 go_region_law (refine step_append_lies _ rfl (.tmp 16) (.tmp 18) 63 rfl (b+1) 115 i0 (.agg #[.slice none 0 0,.slice none 0 0,.slice none 0 0,.slice none 0 0,.int .i64 0]) 5 104 Tryz.underlying63 hi bL aY bf rfl (by decide) (Value.slice ap ms.length cp) ms.length (ms.flatMap MB.cells) (by simp[Act.eval]) (zA s1) ⟨w1.heap.size+1,0,none⟩ 1 1 [.slice a n cap,.slice a1 (n+1) c1,.slice a2 (n+2) c2,.slice a3 (n+64) c3,.int .i64 (ms.length:Nat)] (by simp[Act.eval]) rfl (zA s2) (zA s3) (by decide) (zA s4) (zA s5) (zA s6) _ rfl ?_;intro g dp w5 aq aU bW hlt5;obtain⟨e1,e2,e3,e4,e5⟩:=zA s8 w5 g dp aU aq (bW.imp id (λ e g' e'=>by rw[<-e];exact Nat.le_of_eq (by simpa[Value.ownBlock] using e')));obtain⟨z0,mW⟩:=zB e5 1)
 all_goals
  have E1:=zC e1;have E2:=zC e2;have E3:=zC e3;have E4:=zC e4;clear s1 s2 s3 s4 s5 s6 s8 e1 e2 e3 e4 e5 aq aU;go_wp2_with fail;go_end0;exact⟨rfl,_,_,zA E2,zA E1,zA E3,zA QN,zA E4⟩
end
section
open Go.RowKit
theorem LW.Oc {w w':W8}{b:Nat}{bz bv tv sv nK:Value}{es:List PE}{mb mt ms xr:List MB}(h:LW w b bz bv tv sv es mb mt ms)(K:zK (b::bv.ownBlock.toList) w w')(hblk:w'.heap[b]?=some (.cells #[bz,nK,tv,sv] 69 (0,0)))(JJ:jW w' (b+1) 115 5 iF nK xr)(NZ:∀ g∈nK.ownBlock.toList,g∈bv.ownBlock.toList\/w.heap.size<=g):LW w' b bz nK tv sv es xr mt ms/\zK (chg b bz bv tv sv) w w':=by
 have sub:∀ x∈b::bv.ownBlock.toList,x∈chg b bz bv tv sv:=λ x hx=>by
  rcases List.mem_cons.1 hx with rfl | hx
  ·exact List.mem_cons_self
  ·exact List.mem_cons_of_mem _ (by simp only[List.mem_append];exact .inl (.inl (.inr hx)))
 have nt:∀ (e:TypeId),69≠e->115≠e->∀ x∈b::bv.ownBlock.toList,dW w e x:=λ e e0 e1 x hx=>by
  rcases List.mem_cons.1 hx with rfl | hx
  ·exact zdj h.bq e0
  ·exact yH h.bs.row e1 x hx
 have DM:∀ c∈chg b bz nK tv sv,c∈chg b bz bv tv sv\/w.heap.size<=c:=λ c hc=>by
  rcases List.mem_cons.1 hc with rfl | hc
  ·exact .inl List.mem_cons_self
  ·simp only[List.mem_append] at hc;have rest:c∈bz.ownBlock.toList\/c∈tv.ownBlock.toList\/c∈sv.ownBlock.toList->c∈chg b bz bv tv sv:=λ hr=>List.mem_cons_of_mem _ (by simp only[List.mem_append];rcases hr with hr | hr | hr <;> simp[hr])
   rcases hc with ((hc | hc) | hc) | hc
   ·exact .inl (rest (.inl hc))
   ·exact (NZ c hc).imp (λ hm=>sub c (List.mem_cons_of_mem _ hm)) id
   ·exact .inl (rest (.inr (.inl hc)))
   ·exact .inl (rest (.inr (.inr hc)))
 exact⟨⟨hblk,xD h.row K (λ x hx=>.inr (nt _ (by decide) (by decide) x hx)),λ p hp=>(h.It p hp).step K (λ d hd=>.inl (sub d hd)) DM,JJ,h.ts.kept K (λ x hx=>.inr (nt _ (by decide) (by decide) x hx)) (λ x hx=>.inl (nt _ (by decide) (by decide) x hx)),h.ss.kept K (λ x hx=>.inr (nt _ (by decide) (by decide) x hx)) (λ x hx=>.inl (nt _ (by decide) (by decide) x hx))⟩,K.mono λ x hx=>.inl (sub x hx)⟩
end
end Go.Proofs.YtldkpahaocjdpaaGreat
