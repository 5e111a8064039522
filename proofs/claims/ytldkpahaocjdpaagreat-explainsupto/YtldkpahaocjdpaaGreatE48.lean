/-
  The reference's Explain, at every atom and limit.
-/
import Derived.Test.YtldkpahaocjdpaaGreatE47
set_option maxHeartbeats 16000000
set_option maxRecDepth 1000000
namespace Go.Proofs.YtldkpahaocjdpaaGreat
section
open Go.RowKit Go.Maps
theorem zv7 (w:W8)(o:Nat)(rs:List RR)(ps:P9)(rv pv tv:Value)(gs:Nat)(S:Nat->Nat)(hC:z53 w o rs ps rv pv tv gs S)(hS:∀ i,i<ps.length->S i<=1000000)(s:B8)(bM:s.size<=maxLen)(limit:Int)(hlen:(zcn ps s&&qE (zN s))=true->(jH (zN s)).length<=1000000000)(Ab:1<=limit->limit<=50->∀ l,zka ps S (rs.map (·.R)) limit.toNat (lQ S ps.length) 0 [] (some l)->∀ f∈l,f.fr.length<=3/\∀ x∈f.fr,x<l.length):
  Calls Tryz.prog 91 #[.pointer (some ⟨o,0,none⟩),.string s,.int .i64 limit] w (z96 w ps S (rs.map (·.R)) s limit):=by
 have HC:=zC hC;have HS:=zC hS;have wO:=zC Ab;have pR:=zC hlen;have k0:Below w.heap.size w (w.alloc (.cells #[.int .i64 0,.int .i64 0,.slice none 0 0] 49)):=B9.alloc L9 _;have v0:WV (w.alloc (.cells #[.int .i64 0,.int .i64 0,.slice none 0 0] 49)) w.heap.size (.int .i64 0) (.int .i64 0) (.slice none 0 0):=heap_alloc_new w _;have s0:(w.alloc (.cells #[.int .i64 0,.int .i64 0,.slice none 0 0] 49)).heap.size=w.heap.size+1:=by simp
 clear hC hS Ab hlen;go_enter Tryz.func91,Tryz.ntmps91;go_upto_region 1 with fail;generalize (w.alloc (.cells #[.int .i64 0,.int .i64 0,.slice none 0 0] 49))=w0 at *;obtain⟨z0,z1,z2,zf⟩:=v0.zero;have na:=zf 0;have sq:=zf 1;have pL:=zf 2;have I4:=zC ((zA HC).below k0);have OX:=zC v0;have dr:=zC k0;have lV:=zC s0;clear k0 v0 s0 zf
 by_cases h1:limit<1\/50<limit
 ·have HL:=zC h1
  by_cases h2:limit<1
  ·clear h1;go_wp2_with fail;obtain⟨q0,q1,q2⟩:=zjg z0 z1 z2 (.int .i64 0) (.int .i64 0) (.slice none 0 0);refine bodyPost_ret (v:=.tuple #[zir 0 0 (.slice none 0 0),.int .i64 8]) (by simp[zir,results,Tryz.results91,go_sem,q0,q1,q2]) rfl ?_;exact⟨_,8,rfl,.arg (zA HL),(((zA dr).setCell L9 _).setCell L9 _).setCell L9 _⟩
  ·have h3:50<limit:=(by omega);clear h1;go_wp2_with fail;obtain⟨q0,q1,q2⟩:=zjg z0 z1 z2 (.int .i64 0) (.int .i64 0) (.slice none 0 0);refine bodyPost_ret (v:=.tuple #[zir 0 0 (.slice none 0 0),.int .i64 8]) (by simp[zir,results,Tryz.results91,go_sem,q0,q1,q2]) rfl ?_;exact⟨_,8,rfl,.arg (zA HL),(((zA dr).setCell L9 _).setCell L9 _).setCell L9 _⟩
 ·obtain⟨k,rfl⟩:∃ k:Nat,limit=k:=⟨limit.toNat,by omega⟩;have g1:1<=(k:Int):=by omega
  have g2:(k:Int)<=50:=by omega
  have g3:¬ 50<(k:Int):=by omega
  have g4:¬ (k:Int)<1:=by omega
  clear h1 z0 z1 z2 na sq pL;go_upto_region 3 with fail;go_wp2_with fail;refine (yao w0 o rs ps rv pv tv _ (zA I4).prog s bM).mono ?_;rintro e w1 ⟨v,rfl,oB⟩;obtain⟨aa,ca,rfl⟩:=zD oB.row;have ri:=zA lV;have ql:=oB.below;have Gx:=ql.size;have aK:Below w0.heap.size w0 (w1.alloc (.cells #[.string (zN s).pred,.slice aa (zN s).ae.length ca,.bool (zN s).no,.int .i64 (zN s).at_,.int .i64 (zN s).az] 243)):=ql.alloc Gx _;have du:(w1.alloc (.cells #[.string (zN s).pred,.slice aa (zN s).ae.length ca,.bool (zN s).no,.int .i64 (zN s).at_,.int .i64 (zN s).az] 243)).heap[w1.heap.size]?=some (.cells #[.string (zN s).pred,.slice aa (zN s).ae.length ca,.bool (zN s).no,.int .i64 (zN s).at_,.int .i64 (zN s).az] 243 (0,0)):=heap_alloc_new w1 _;have rf:=oB.row.alloc (.cells #[.string (zN s).pred,.slice aa (zN s).ae.length ca,.bool (zN s).no,.int .i64 (zN s).at_,.int .i64 (zN s).az] 243);have bg:(w1.alloc (.cells #[.string (zN s).pred,.slice aa (zN s).ae.length ca,.bool (zN s).no,.int .i64 (zN s).at_,.int .i64 (zN s).az] 243)).heap.size=w1.heap.size+1:=by simp
  have yo:=zC rf;have ir:=zC aK;have sx:=zC du;have MP:=zC (And.intro bg Gx);clear oB aK du rf bg ql Gx ri;unfold zL.val;go_upto_region 4 with fail;generalize (w1.alloc (.cells #[.string (zN s).pred,.slice aa (zN s).ae.length ca,.bool (zN s).no,.int .i64 (zN s).at_,.int .i64 (zN s).az] 243))=W at *;obtain⟨ab,CP⟩:∃ ab,ab=w1.heap.size:=⟨_,rfl⟩;have Vz:=zC CP;rw[<-CP];have sK:W.heap[ab]?=some (.cells #[.string (zN s).pred,.slice aa (zN s).ae.length ca,.bool (zN s).no,.int .i64 (zN s).at_,.int .i64 (zN s).az] 243 (0,0)):=by rw[CP];exact zA sx
  have a0:=(zB sK 0).1;have a1:=(zB sK 1).1;have a2:=(zB sK 2).1;have a3:=(zB sK 3).1;have a4:=(zB sK 4).1;simp only[List.getElem?_toArray,List.getElem?_cons_zero,List.getElem?_cons_succ] at a0 a1 a2 a3 a4;have IX:=zC sK;clear CP sK;go_wp2_with fail;refine (z2i W _ (zN s) aa ca (zA yo)).mono ?_;rintro e w2 ⟨rfl,cI⟩;have ri:=zA lV;have IB:=zA MP;have A4:=cI.size;have kn:Below w0.heap.size w0 w2:=(zA ir).trans (cI.mono (zA ir).size);have S7:Below w.heap.size w w2:=(zA dr).trans (kn.mono (by omega));have v3:WV w2 w.heap.size (.int .i64 0) (.int .i64 0) (.slice none 0 0):=(kn.block _ (by omega)).trans (zA OX);have zb:=(zA I4).below kn;have Km:=(cI.block ab (Array.getElem?_eq_some_iff.1 (zA IX)).1).trans (zA IX);have lM:=zJ (zA yo) cI (λ g e=>((zA yo).lt g e).2);have yg:=zC kn;have uK:=zC S7;have SB:=zC v3;have Hp:=zC zb;have IU:=zC Km;have DU:=zC lM;have lW:=zC (show w.heap.size+1=w0.heap.size/\w0.heap.size<=ab/\ab+1<=w2.heap.size from by have:=zA Vz;omega);obtain⟨z0,z1,z2,zf⟩:=v3.zero;have na:=zf 0;have sq:=zf 1;have pL:=zf 2;clear kn S7 v3 zb Km lM cI ri IB A4 zf a0 a1 a2 a3 a4
  cases bR:zcn ps s with
  | false=>
   have iN:=zC (show (zcn ps s&&qE (zN s))=false by rw[bR];rfl);clear bR;go_wp2_with fail;obtain⟨q0,q1,q2⟩:=zjg z0 z1 z2 (.int .i64 0) (.int .i64 0) (.slice none 0 0);refine bodyPost_ret (v:=.tuple #[zir 0 0 (.slice none 0 0),.int .i64 6]) (by simp[zir,results,Tryz.results91,go_sem,q0,q1,q2]) rfl ?_;exact⟨_,6,rfl,.ask g1 g2 (zA iN),(((zA uK).setCell L9 _).setCell L9 _).setCell L9 _⟩
  | true=>
   cases mP:qE (zN s) with
   | false=>
    have iN:=zC (show (zcn ps s&&qE (zN s))=false by rw[mP,Bool.and_false]);clear bR mP;go_wp2_with fail;obtain⟨q0,q1,q2⟩:=zjg z0 z1 z2 (.int .i64 0) (.int .i64 0) (.slice none 0 0);refine bodyPost_ret (v:=.tuple #[zir 0 0 (.slice none 0 0),.int .i64 6]) (by simp[zir,results,Tryz.results91,go_sem,q0,q1,q2]) rfl ?_;exact⟨_,6,rfl,.ask g1 g2 (zA iN),(((zA uK).setCell L9 _).setCell L9 _).setCell L9 _⟩
   | true=>
    have iN:=zC (show (zcn ps s&&qE (zN s))=true by rw[bR,mP];rfl);clear bR mP z0 z1 z2 na sq pL;go_upto_region 7 with fail;go_wp2_with fail;refine (zr4 w2 o rs ps rv pv tv gs S (zA Hp) (zA HS) k (by omega)).mono ?_;rintro e w3 ⟨v,b,rfl,hO⟩
    cases hO with
    | no bZ hN=>
     have iM:=zC ((zA uK).trans (bZ.mono (zA uK).size));have HN:=zC hN;obtain⟨z0,z1,z2,zf⟩:=((zA SB).below bZ).zero;have na:=zf 0;have sq:=zf 1;have pL:=zf 2;clear bZ hN zf;go_wp2_with fail;obtain⟨q0,q1,q2⟩:=zjg z0 z1 z2 (.int .i64 0) (.int .i64 0) (.slice none 0 0);refine bodyPost_ret (v:=.tuple #[zir 0 0 (.slice none 0 0),.int .i64 7]) (by simp[zir,results,Tryz.results91,go_sem,q0,q1,q2]) rfl ?_;exact⟨_,7,rfl,.fG g1 g2 (zA iN) (by simpa using zA HN),(((zA iM).setCell L9 _).setCell L9 _).setCell L9 _⟩
    | yes hI hl hY=>
     rename_i fs;obtain⟨al,cl,rfl⟩:=zD hI.facts.row;have bZ:=hI.below;have sl:=bZ.size;have iM:=zC ((zA uK).trans (bZ.mono (zA uK).size));have Jz:=zC ((zA SB).below bZ);have Fb:=zC ((zA Hp).below bZ);have zl:=(bZ.block ab (Array.getElem?_eq_some_iff.1 (zA IU)).1).trans (zA IU);have Ez:=zJ (zA DU) bZ (λ g e=>((zA DU).lt g e).2);have Cx:=zC (zA wO g1 g2 _ (by simpa using hY));have HY:=zC hY;have HI:=zC hI;have IV:=zC zl;have DV:=zC Ez;have Hz:=zC sl;have ji:=zpn fs.length (by omega);clear hI hY bZ zl Ez sl;go_upto_region 11 with fail
     have MU:lT w3 fs.length (λ _=>false) (w3.alloc (.cells (madeCells #[.bool false] fs.length) 4)):=⟨B9.alloc L9 _,by
      have h1:fj (w3.alloc (.cells (madeCells #[.bool false] fs.length) 4)) w3.heap.size 4 fs.length (λ _=>.bool false):=fj.start _ _ _ _
      exact⟨h1.lt,λ i hi=>h1.cell hi,λ j=>h1.fz j⟩⟩
     generalize (w3.alloc (.cells (madeCells #[.bool false] fs.length) 4))=w4 at *;clear ji;have bZ:=MU.below;have sl:=zA Hz;have bW:=(bZ.block ab (Array.getElem?_eq_some_iff.1 (zA IV)).1).trans (zA IV);have rh:=zJ (zA DV) bZ (λ g e=>((zA DV).lt g e).2);have a0:=(zB bW 0).1;have a1:=(zB bW 1).1;have a2:=(zB bW 2).1;have a3:=(zB bW 3).1;have a4:=(zB bW 4).1;simp only[List.getElem?_toArray,List.getElem?_cons_zero,List.getElem?_cons_succ] at a0 a1 a2 a3 a4;have Oc:=zC MU;have Jq:=zC rh;have IW:=zC bW;clear MU bZ bW rh sl;go_wp2_with fail;refine (zst w4 _ (zN s) aa ca (zA Jq) (zA pR (zA iN))).mono ?_;rintro e w5 ⟨xt,rfl,UG,dC⟩;have Eb:lT w3 fs.length (λ _=>false) w5:=⟨(zA Oc).below.trans (dC.mono (zA Oc).below.size),(zA Oc).row.below dC⟩;have TO:=(zA HI).facts.below Eb.below;have Kn:=(dC.block ab (Array.getElem?_eq_some_iff.1 (zA IW)).1).trans (zA IW);have Mv:=zC Eb;have O0:=zC UG;have VM:=zC TO;have N4:=zC Kn;clear Eb UG TO dC Kn a0 a1 a2 a3 a4;go_wp2_with fail;refine (zkg w5 _ al cl fs xt (zA VM).row).mono ?_;rintro e w6 ⟨rfl,hw⟩;have hw:=hw.symm;subst hw
     by_cases hneg:jE (fs.map (·.F)) xt<0
     ·have Ft:=zC hneg;have a0:=(zB (zA N4) 0).1;simp only[List.getElem?_toArray,List.getElem?_cons_zero] at a0;have Ta:=(zA Fb).below (zA Mv).below;have Cs:=zC Ta;clear Ta;go_upto_region 14 with fail;go_wp2_with fail;refine (zcd w5 o rs ps rv pv tv _ (zN s).pred (zA Cs).prog).mono ?_;rintro e w6 ⟨rfl,hw⟩;have hw:=hw.symm;subst hw;clear a0 hneg;have lJ:=zC (zA HI).facts
      by_cases hq:0<=zM ps (zN s).pred
      ·have Ev:=vP hq;have Fl:=zC (show S (zM ps (zN s).pred).toNat+1=(if 0<=zM ps (zN s).pred then S (zM ps (zN s).pred).toNat+1 else 0) by rw[if_pos hq]);obtain⟨q,QN⟩:∃ q:Nat,zM ps (zN s).pred=q:=⟨(zM ps (zN s).pred).toNat,by omega⟩;rw[QN] at Ev Fl hq ⊢;have Di:q<ps.length:=(by simpa using Ev);have QO:(q:Int)<ps.length:=(by omega);have p3:=(zA Cs).prog.c3;have sc:=(zA Cs).og.cell q Di;have Lx:=zA HS q Di;have OI:=zC QN;clear QN Ev;go_wp2_with fail;rw[show ((S q:Nat):Int)+1=((S q+1:Nat):Int) from by omega];refine ydc w3 w5 w2.heap.size (S q+1) al cl fs (zA lJ) (by omega) (λ _=>false) (zA Mv) ?_;intro w6;intros;rename_i hE6;have Cv:=zC hE6;have Hy:=zC (zvg w6 w2.heap.size w3.heap.size (S q+1) al cl fs (λ i=>decide (lS (fs.map (·.F)) i<(S q+1))) ((zA lJ).below hE6.below) hE6.row (by omega) (λ F hF=>by have:=zA Cx F.F (List.mem_map_of_mem hF);simpa using this));clear hE6;go_wp2_with fail;refine (zA Hy).mono ?_;rintro e w7 ⟨wv,rfl,fF,zm⟩;obtain⟨aw,cw,rfl⟩:=zD fF;generalize hRW:(znp (S q+1) (fs.map (·.F)) (λ i=>decide (lS (fs.map (·.F)) i<(S q+1))))=RW at fF ⊢;have rS:=zC hRW;clear hRW;have xd:=(zA Cv).below.trans (zm.mono (zA Cv).below.size);obtain⟨z0,z1,z2,zf⟩:=((zA Jz).below xd).zero;have na:=zf 0;have sq:=zf 1;have pL:=zf 2;have N6:=zC ((zA iM).trans (xd.mono (zA iM).size));have sS:w.heap.size<w6.heap.size:=(by have:=zA lW;have:=zA Hz;have:=(zA Cv).below.size;omega);have OJ:=zC (zde fF sS (.int .i64 2) (.int .i64 0) (.slice aw RW.length cw));have Fs:=zC sS;clear fF zm xd zf sS;go_wp2_with fail;obtain⟨q0,q1,q2⟩:=zjg z0 z1 z2 (.int .i64 2) (.int .i64 0) (.slice aw RW.length cw);refine bodyPost_ret (v:=.tuple #[zir 2 0 (.slice aw RW.length cw),.int .i64 0]) (by simp[zir,results,Tryz.results91,go_sem,q0,q1,q2]) rfl ?_;have hy:=wJ.out (w:=w) (w':=(((w7.setCell ⟨w.heap.size,0,none⟩ (.int .i64 2)).setCell ⟨w.heap.size,1,none⟩ (.int .i64 0)).setCell ⟨w.heap.size,2,none⟩ (.slice aw RW.length cw))) (k:=(S q+1)) (a:=aw) (c:=cw) g1 g2 (zA iN) (by simpa using zA HY) (by simp;omega) (zA O0) (zA Ft) (by rw[zA OI,if_pos (by omega)];rfl) (by rw[zA rS];exact zG (zA OJ) (Nat.le_of_lt (zA Fs)))
       rw[zA rS] at hy;exact⟨_,0,rfl,hy,(((zA N6).setCell L9 _).setCell L9 _).setCell L9 _⟩
      ·have Wy:=zC hq;have Di:zM ps (zN s).pred<0:=(by omega);generalize Lq:zM ps (zN s).pred=pq at *;have OG:=zC Lq;clear Lq;go_wp2_with fail;refine ydc w3 w5 w2.heap.size 0 al cl fs (zA lJ) (by omega) (λ _=>false) (zA Mv) ?_;intro w6;intros;rename_i hE6;have Cv:=zC hE6;have Hy:=zC (zvg w6 w2.heap.size w3.heap.size 0 al cl fs (λ i=>decide (lS (fs.map (·.F)) i<0)) ((zA lJ).below hE6.below) hE6.row (by omega) (λ F hF=>by have:=zA Cx F.F (List.mem_map_of_mem hF);simpa using this));clear hE6;go_wp2_with fail;refine (zA Hy).mono ?_;rintro e w7 ⟨wv,rfl,fF,zm⟩;obtain⟨aw,cw,rfl⟩:=zD fF;generalize hRW:(znp 0 (fs.map (·.F)) (λ i=>decide (lS (fs.map (·.F)) i<0)))=RW at fF ⊢;have rS:=zC hRW;clear hRW;have xd:=(zA Cv).below.trans (zm.mono (zA Cv).below.size);obtain⟨z0,z1,z2,zf⟩:=((zA Jz).below xd).zero;have na:=zf 0;have sq:=zf 1;have pL:=zf 2;have N6:=zC ((zA iM).trans (xd.mono (zA iM).size));have sS:w.heap.size<w6.heap.size:=(by have:=zA lW;have:=zA Hz;have:=(zA Cv).below.size;omega);have OJ:=zC (zde fF sS (.int .i64 2) (.int .i64 0) (.slice aw RW.length cw));have Fs:=zC sS;clear fF zm xd zf sS;go_wp2_with fail;obtain⟨q0,q1,q2⟩:=zjg z0 z1 z2 (.int .i64 2) (.int .i64 0) (.slice aw RW.length cw);refine bodyPost_ret (v:=.tuple #[zir 2 0 (.slice aw RW.length cw),.int .i64 0]) (by simp[zir,results,Tryz.results91,go_sem,q0,q1,q2]) rfl ?_;have hy:=wJ.out (w:=w) (w':=(((w7.setCell ⟨w.heap.size,0,none⟩ (.int .i64 2)).setCell ⟨w.heap.size,1,none⟩ (.int .i64 0)).setCell ⟨w.heap.size,2,none⟩ (.slice aw RW.length cw))) (k:=0) (a:=aw) (c:=cw) g1 g2 (zA iN) (by simpa using zA HY) (by simp;omega) (zA O0) (zA Ft) (by rw[zA OG,if_neg (by have:=zA Wy;omega)]) (by rw[zA rS];exact zG (zA OJ) (Nat.le_of_lt (zA Fs)));rw[zA rS] at hy;exact⟨_,0,rfl,hy,(((zA N6).setCell L9 _).setCell L9 _).setCell L9 _⟩
     ·have lJ:=zC (zA HI).facts;obtain⟨f,Eg⟩:∃ f:Nat,jE (fs.map (·.F)) xt=f:=⟨(jE (fs.map (·.F)) xt).toNat,by omega⟩;have ko:f<fs.length:=(by obtain⟨h,_⟩:=z2b Eg;simpa using h);have VO:=zC Eg;rw[Eg] at hneg ⊢;have mx:(f:Int)<fs.length:=(by omega);have Eb:=zA Mv;have TF:=Eb.row.cell f ko;have LQ:=Eb.row.fz f;have Cv:=zC (Eb.set f true ko);have hg:∃ g,al=some ⟨g,0,none⟩:=by
       rcases (zA lJ).row.2 with⟨_,h0⟩ | ⟨g,cap,cur,hv,_⟩
       ·omega
       ·injection hv with h1 _ _
        exact⟨g,h1⟩
      obtain⟨g,rfl⟩:=hg;clear Eg Eb;go_wp2_with fail;generalize w5.setCell ⟨w3.heap.size,f,none⟩ (.bool true)=w6 at *;refine yed w3 w6 w2.heap.size g f cl fs (zA lJ) (by omega) ko (λ F hF x hx=>by have:=(zA Cx F.F (List.mem_map_of_mem hF)).2 x hx;simpa using this) (zbg (λ _=>false) f true) (zA Cv) ?_;intro w7;intros;rename_i xd;have PU:=(zA lJ).below xd.below;obtain⟨g',cap,hv,iF,aZ,bO,bQ,hc⟩:=zb1 PU.row ko;injection hv with h1 h2 h3
      injection h1 with h1
      injection h1 with h1
      subst h1 h3;have p6:=hc 6 (by omega);have p7:=hc 7 (by omega);simp only[FG.cells,List.getElem?_cons_zero,List.getElem?_cons_succ] at p6 p7;have Ir:fs[f].F.s=lS (fs.map (·.F)) f:=(by unfold lS;rw[List.getElem?_map,List.getElem?_eq_getElem ko];rfl);have Ng:fs[f].F.h=lH (fs.map (·.F)) f:=(by unfold lH;rw[List.getElem?_map,List.getElem?_eq_getElem ko];rfl);rw[Ir] at p6;rw[Ng] at p7;have UB:w.heap.size≠g:=by have:=zA lW;omega
      have HA:=zC (λ (V:W8) (hV:∀ i,i<w7.heap.size->i≠w.heap.size->V.heap[i]?=w7.heap[i]?)=>(show V.cell? ⟨g,f*10+6,none⟩=some (.int .i64 (lS (fs.map (·.F)) f:Nat))/\V.cell? ⟨g,f*10+7,none⟩=some (.int .i64 (lH (fs.map (·.F)) f:Nat)) from
       ⟨(World.cell?_of_block (a:=⟨g,f*10+6,none⟩) (hV g aZ (λ e=>UB e.symm))).trans p6,(World.cell?_of_block (a:=⟨g,f*10+7,none⟩) (hV g aZ (λ e=>UB e.symm))).trans p7⟩))
      have Hy:=zC (λ (V:W8) (hV:Below w7.heap.size w7 V)=>zvg V w2.heap.size w3.heap.size (lS (fs.map (·.F)) f) (some ⟨g,0,none⟩) cl fs (zh7 (fs.map (·.F)) (lS (fs.map (·.F)) f) fs.length (zbg (λ _=>false) f true)) (PU.below hV) (xd.row.below hV) (by omega) (λ F hF=>by have:=zA Cx F.F (List.mem_map_of_mem hF);simpa using this));have D8:=zA HA w7.drew (λ i _ _=>rfl);have Od:=zC xd;clear xd PU hc Ir Ng h2 p6 p7;generalize hRW:(znp (lS (fs.map (·.F)) f) (fs.map (·.F)) (zh7 (fs.map (·.F)) (lS (fs.map (·.F)) f) fs.length (zbg (λ _=>false) f true)))=RW at *;have rS:=zC hRW;clear hRW;generalize hLS:lS (fs.map (·.F)) f=LS at *;generalize hLH:lH (fs.map (·.F)) f=LH at *;have MA:=zC hLS;have Wa:=zC hLH;clear hLS hLH;go_upto_region 31 with fail;refine wp_region_held_drew (S:=λ V=>V.cell? ⟨g,f*10+6,none⟩=some (.int .i64 (LS:Nat))/\V.cell? ⟨g,f*10+7,none⟩=some (.int .i64 (LH:Nat))) (by kernel_rfl) D8 (λ hHeld=>?_);refine K9 0 (.slice (some ⟨g,0,none⟩) fs.length cl) rfl (Or.inl ⟨by rfl,λ V _=>by go_simp⟩) hHeld ?_;refine K9 1 (.int .i64 (f:Nat)) rfl (Or.inl ⟨by rfl,λ V _=>by go_simp⟩) hHeld ?_;refine K9 2 (.pointer (some ⟨g,f*10,none⟩)) rfl (Or.inl ⟨by rfl,λ V _=>by go_simp⟩) hHeld ?_;refine K9 3 (.pointer (some ⟨g,f*10+7,none⟩)) rfl (Or.inl ⟨by rfl,λ V _=>by go_simp⟩) hHeld ?_;refine K9 4 (.int .i64 (LH:Nat)) rfl (Or.inl ⟨by rfl,λ V hV=>by obtain⟨m6,m7⟩:=hV;go_simp⟩) hHeld ?_;refine K9 5 (.slice (some ⟨g,0,none⟩) fs.length cl) rfl (Or.inl ⟨by rfl,λ V _=>by go_simp⟩) hHeld ?_;refine K9 6 (.int .i64 (f:Nat)) rfl (Or.inl ⟨by rfl,λ V _=>by go_simp⟩) hHeld ?_;refine K9 7 (.pointer (some ⟨g,f*10,none⟩)) rfl (Or.inl ⟨by rfl,λ V _=>by go_simp⟩) hHeld ?_;refine K9 8 (.pointer (some ⟨g,f*10+6,none⟩)) rfl (Or.inl ⟨by rfl,λ V _=>by go_simp⟩) hHeld ?_;refine K9 9 (.int .i64 (LS:Nat)) rfl (Or.inl ⟨by rfl,λ V hV=>by obtain⟨m6,m7⟩:=hV;go_simp⟩) hHeld ?_;refine K9 10 (.slice (some ⟨g,0,none⟩) fs.length cl) rfl (Or.inl ⟨by rfl,λ V _=>by go_simp⟩) hHeld ?_;refine K9 11 (.slice (some ⟨w3.heap.size,0,none⟩) fs.length fs.length) rfl (Or.inl ⟨by rfl,λ V _=>by go_simp⟩) hHeld ?_
      refine wpAnyH_ready (rs:=[12]) (by kernel_rfl) (by simp) ?_;refine AllReadyH.cons rfl (λ K hK=>?_) AllReadyH.nil
      go_simp
      refine (zA Hy _ B9.drew).mono ?_;rintro e w8 ⟨wv,rfl,AI,Kq⟩;obtain⟨aw,cw,rfl⟩:=zD AI;have nD:=yA Kq;have Ih:=zA HA w8 (λ i hi _=>nD.block i hi);have J3:=(zA Od).below.trans (nD.mono (zA Od).below.size);obtain⟨z0,z1,z2,zf⟩:=((zA Jz).below J3).zero;have na:=zf 0;have sq:=zf 1;have pL:=zf 2;have Mp:=zC ((zA iM).trans (J3.mono (zA iM).size));have Gf:w.heap.size<w7.heap.size:=(by have:=zA lW;have:=zA Hz;have:=(zA Od).below.size;omega);have WA:=zC (zde AI Gf (.int .i64 1) (.int .i64 (LH:Nat)) (.slice aw RW.length cw));have Ox:=zC Gf;have WD:=zC (zA HA (((w8.setCell ⟨w.heap.size,0,none⟩ (.int .i64 1)).setCell ⟨w.heap.size,1,none⟩ (.int .i64 (LH:Nat))).setCell ⟨w.heap.size,2,none⟩ (.slice aw RW.length cw)) (λ i hi hn=>by rw[Below.heap_setCell _ _ _ _ (by simpa using hn),Below.heap_setCell _ _ _ _ (by simpa using hn),Below.heap_setCell _ _ _ _ (by simpa using hn)];exact nD.block i hi));refine hK.out _ _ Ih (λ _=>?_);clear hK K AI Kq J3 zf Gf nD hHeld D8 HA Hy;refine K9 13 (.agg #[.int .i64 1,.int .i64 (LH:Nat),.slice aw RW.length cw]) rfl (Or.inl ⟨by rfl,λ V _=>by go_simp⟩) Ih ?_;refine wpAnyH_ready (rs:=[14]) (by kernel_rfl) (by simp) ?_;refine AllReadyH.cons rfl (λ K hK=>?_) AllReadyH.nil
      go_simp
      refine hK.out _ _ (zA WD) (λ hH9=>?_);clear hK K;refine K9 15 (.int .i64 0) rfl (Or.inl ⟨by rfl,λ V _=>by go_simp⟩) hH9 ?_;refine wpAnyH_done (by kernel_rfl) ?_ _;clear hH9 Ih;go_wp2_with fail;obtain⟨q0,q1,q2⟩:=zjg z0 z1 z2 (.int .i64 1) (.int .i64 (LH:Nat)) (.slice aw RW.length cw);refine bodyPost_ret (v:=.tuple #[zir 1 (LH:Nat) (.slice aw RW.length cw),.int .i64 0]) (by simp[zir,results,Tryz.results91,go_sem,q0,q1,q2]) rfl ?_;have hy:=wJ.yes (w:=w) (w':=(((w8.setCell ⟨w.heap.size,0,none⟩ (.int .i64 1)).setCell ⟨w.heap.size,1,none⟩ (.int .i64 (LH:Nat))).setCell ⟨w.heap.size,2,none⟩ (.slice aw RW.length cw))) (f:=f) (a:=aw) (c:=cw) g1 g2 (zA iN) (by simpa using zA HY) (by simp;omega) (zA O0) (zA VO) (by simpa using ko) (by rw[zA MA,List.length_map,zA rS];exact zG (zA WA) (Nat.le_of_lt (zA Ox)));rw[zA MA,List.length_map,zA rS,zA Wa] at hy;exact⟨_,0,rfl,hy,(((zA Mp).setCell L9 _).setCell L9 _).setCell L9 _⟩
end
section
open Go.RowKit Go.Maps
def yc3 (s:B8)(w:W8)(q:B8)(limit:Int):Ending->W8->Prop:=λ e w'=>∃ rp:List PR,rp.map (·.R)=(yL s).2.2.1/\(∀ r∈rp,r.bs.map (·.1)=r.R.body)/\BT w rp (zT s).2 q limit (ycv (zT s).2 rp) w' e/\Below w.heap.size w w'
def yc4 (s:B8)(w:W8)(q:B8)(limit:Int):Ending->W8->Prop:=λ e w'=>∃ (S:Nat->Nat) (v:Value) (n:Nat),e=.returned (.tuple #[v,.int .i64 (n:Nat)])/\zef (zT s).2 (yG s).1 S/\Low (zT s).2 (yG s).1 S/\wJ w (zT s).2 S (yG s).1 q limit w' v n/\Below w.heap.size w w'
variable {w:W8}
theorem Calls.some_ {P:Program}{f:FuncId}{args:Array Value}{R:Ending->W8->Prop}(h:Calls P f args w R):∃ e w',R e w':=by
 obtain⟨e,w',_,h1,_⟩:=h [];exact⟨e,w',h1⟩
variable {lo xb yb:Nat} {s:B8}
theorem yay (h:pt s xb yb w lo)(k:Nat)(hk:k<=50):∃ (S:Nat->Nat) (r:Option (List zP)),zef (zT s).2 (yG s).1 S/\Low (zT s).2 (yG s).1 S/\zka (zT s).2 S (yG s).1 k (lQ S (zT s).2.length) 0 [] r:=by
 obtain⟨rs,rv,pv,tv,gs,S,hC,h7,h5,h6,hS⟩:=z12 h;obtain⟨e,w',v,b,_,hO⟩:=Calls.some_ (zr4 w yb rs (zT s).2 rv pv tv gs S hC (λ i _=>hS i) k hk);rw[h7] at hO
 cases hO with
 | no _ hN=>exact⟨S,none,h5,h6,hN⟩
 | yes _ _ hY=>exact⟨S,_,h5,h6,hY⟩
theorem zk9 (h:pt s xb yb w lo)(q:B8)(hq:q.size<=2000000)(limit:Int):Calls Tryz.prog 26 #[.pointer (some ⟨xb,0,none⟩),.string q,.int .i64 limit] w (yc3 s w q limit):=by
 obtain⟨rs,hp,hr⟩:=h.x;have hg:=zha h.ok;obtain⟨f0,uw,me⟩:=hg.some_;have ax:∀ r∈rs,r.R∈(yL s).2.2.1:=λ r oK=>by rw[<-hr];exact List.mem_map_of_mem oK
 have iz:∀ r∈rs,r.bs.map (·.1)=r.R.body:=λ r oK=>by
  obtain⟨a,c,_,_,ny⟩:=hp;exact (ny.each r oK).eq
 have M6:∀ r∈rs,∀ x∈r.bs,x.1∈r.R.body:=λ r oK x hx=>by rw[<-iz r oK];exact List.mem_map_of_mem hx
 have hl:rs.length<=30:=by have:=hg.len;rw[<-hr,List.length_map] at this;exact this
 have hR:=zmr h.ok hr iz;have hI:=z2w h.ok hr iz;refine (z71 w lo xb rs (zT s).2 q limit (ycv (zT s).2 rs) hq hp hl (λ r oK=>by have:=hg.body r.R (ax r oK);rw[<-iz r oK,List.length_map] at this;exact this) (λ r oK=>hg.pd r.R (ax r oK)) (λ r oK x hx=>hg.UT r.R (ax r oK) x.1 (M6 r oK x hx)) (by rw[hr];exact hg.agree) (by rw[hr];exact hg.met) (by have:=hg.eJ;omega) (λ r oK=>⟨(hg.named r.R (ax r oK)).1,λ x hx=>(hg.named r.R (ax r oK)).2 x.1 (M6 r oK x hx)⟩) f0 (by rw[hr];exact uw) me (z1s hR.dM) hR.dM z6n ?_).mono ?_
 ·intro hL Sp m K Dt nG hc aP O hO oa;have An:=zpl hL;obtain⟨S,r,hv,bc,QW⟩:=yay h limit.toNat (by omega);obtain⟨_,l,_,_,hS,hT,hs⟩:=zim h.ok hr iz hv bc Dt nG (by omega) hc QW aP;obtain⟨rfl,FO⟩:=zqb hR hI hS hT hs hO oa;exact yb5 FO
 ·rintro e w' ⟨h1,h2⟩;exact⟨rs,hr,iz,h1,h2⟩
theorem zre (h:pt s xb yb w lo)(q:B8)(hq:q.size<=2000000)(limit:Int):Calls Tryz.prog 91 #[.pointer (some ⟨yb,0,none⟩),.string q,.int .i64 limit] w (yc4 s w q limit):=by
 obtain⟨rs,rv,pv,tv,gs,S,hC,h7,h5,h6,hS⟩:=z12 h
 by_cases hl:limit.toNat<=50
 ·refine (zv7 w yb rs (zT s).2 rv pv tv gs S hC (λ i _=>hS i) q (by unfold maxLen;omega) limit z07 (λ _ _ l aP=>by rw[h7] at aP;exact ycj h.ok hl aP)).mono ?_;rintro e w' ⟨v,n,rfl,h1,h2⟩;rw[h7] at h1;exact⟨S,v,n,rfl,h5,h6,h1,h2⟩
 ·refine (zv7 w yb rs (zT s).2 rv pv tv gs S hC (λ i _=>hS i) q (by unfold maxLen;omega) limit z07 (λ _ Pj=>by omega)).mono ?_;rintro e w' ⟨v,n,rfl,h1,h2⟩;rw[h7] at h1;exact⟨S,v,n,rfl,h5,h6,h1,h2⟩
variable {w':W8} {limit:Int} {ps:P9}
theorem BT.shape {rs:List PR}{rea:(B8->Nat)->List (Th × Nat)->List Pl->Nat->Nat × List Nat}{e:Ending}(h:BT w rs ps s limit rea w' e):∃ (v d:Int) (a:O8) (m c k:Nat),e=.returned (.tuple #[.agg #[.int .i64 v,.int .i64 d,.slice a m c],.int .i64 (k:Nat)]):=by
 cases h with
 | arg _=>exact⟨0,0,none,0,0,8,rfl⟩
 | ask _ _=>exact⟨0,0,none,0,0,6,rfl⟩
 | fG _ _ _ _ _ _=>exact⟨0,0,none,0,0,7,rfl⟩
 | yes _ _ _ _ _ _ _ _ _ _=>exact⟨_,_,_,_,_,0,rfl⟩
variable {n:Nat}
theorem wJ.shape {S:Nat->Nat}{rs:List zS}{v:Value}(h:wJ w ps S rs s limit w' v n):∃ (x d:Int) (a:O8) (m c:Nat),v=zir x d (.slice a m c):=by
 cases h with
 | arg _=>exact⟨_,_,_,_,_,rfl⟩
 | ask _ _ _=>exact⟨_,_,_,_,_,rfl⟩
 | fG _ _ _ _=>exact⟨_,_,_,_,_,rfl⟩
 | out _ _ _ _ _ _ _ _ _=>exact⟨_,_,_,_,_,rfl⟩
 | yes _ _ _ _ _ _ _ _ _=>exact⟨_,_,_,_,_,rfl⟩
theorem IQ.both {wr Cl:W8}{v d x y:Int}{a b:O8}{m c k m' c':Nat}(h:IQ w w' wr Cl (.returned (.tuple #[.agg #[.int .i64 v,.int .i64 d,.slice a m c],.int .i64 (k:Nat)])) (zir x y (.slice b m' c')) n):k=n/\v=x/\d=y/\∃ bs:List Nat,bs.length<=1000/\m=bs.length/\m'=bs.length/\w'.ownsRow w.heap.size 5 1 (.slice a m c) m (bs.map u8c)/\Cl.ownsRow wr.heap.size 5 1 (.slice b m' c') m' (bs.map u8c):=by
 generalize he:Ending.returned (.tuple #[.agg #[.int .i64 v,.int .i64 d,.slice a m c],.int .i64 (k:Nat)])=e at h;generalize hv:zir x y (.slice b m' c')=u at h
 cases h with
 | @mk v0 d0 n0 bs a0 b0 c0 e0 hl h1 h2=>
  simp only[Ending.returned.injEq,.tuple.injEq,.agg.injEq,Array.mk.injEq,List.cons.injEq,.slice.injEq,.int.injEq,true_and,and_true] at he;unfold zir at hv;simp only[Value.agg.injEq,Array.mk.injEq,List.cons.injEq,.slice.injEq,.int.injEq,true_and,and_true] at hv;obtain⟨⟨rfl,rfl,rfl,rfl,rfl⟩,hk⟩:=he;obtain⟨rfl,rfl,rfl,rfl,rfl⟩:=hv;exact⟨by omega,rfl,rfl,bs,hl,rfl,rfl,h1,h2⟩
end
section
open Go.RowKit
theorem z3i (m:Value)(k:Nat)(ys:V8)(h:1<=ys.length):(rep [m] k++ys).set k m=rep [m] (k+1)++ys.drop 1:=by
 match ys,h with
 | y0::r,_=>
  have hl:(rep [m] k).length=k:=by rw[NZ];simp
  rw[List.set_append_right _ _ (by omega),hl,zpz];simp[rep]
end
section
open Go.RowKit
theorem z9v (n:Nat):iI n=[.int .u8 (n%251:Nat)]:=rfl
theorem zl4 (mk:Nat):∀ u∈iI mk,u.oneCell'=true:=by
 intro u hu;rw[z9v,List.mem_singleton] at hu;subst hu;rfl
theorem z3h (mk:Nat):∀ u∈iI mk++iI mk,u.oneCell'=true:=by
 intro u hu;rcases List.mem_append.1 hu with h | h <;> exact zl4 mk u h
structure Mh (wA:W8)(mk:Nat)(a:O8)(n cap k:Nat)(wr:W8):Prop where
 row:∃ ys,ys.length=n-k/\wr.ownsRow 0 5 1 (.slice a n cap) n (rep (iI mk) k++ys)
 kept:zK (Value.slice a n cap).ownBlock.toList wA wr
theorem Mh.step {wA:W8}{mk g n cap k:Nat}{wr:W8}(h:Mh wA mk (some ⟨g,0,none⟩) n cap k wr)(hk:k<n):Mh wA mk (some ⟨g,0,none⟩) n cap (k+1) (wr.setCell ⟨g,k,none⟩ (.int .u8 (mk%251:Nat))):=by
 obtain⟨ys,hy,hr⟩:=h.row;have h1:=vW hr k (.int .u8 (mk%251:Nat));have e:=z3i (.int .u8 (mk%251:Nat)) k ys (by omega);refine⟨⟨ys.drop 1,by rw[List.length_drop,hy];omega,?_⟩,?_⟩
 ·rw[z9v] at h1 ⊢;rw[e] at h1;exact h1
 ·have hm:g∈(Value.slice (some ⟨g,0,none⟩) n cap).ownBlock.toList:=by simp[Value.ownBlock]
  exact h.kept.setCell (p:=⟨g,_,none⟩) (.inl hm) _
theorem zsc (w:W8)(a:O8)(n cap mk:Nat)(xs:V8)(h:w.ownsRow 0 5 1 (.slice a n cap) n xs)(hn:n<=1000)(ji:mk<=1000000000):
  Calls Tryz.prog 142 #[.slice a n cap,.int .i64 mk] w (yae w 5 (iI mk) a n cap mk):=by
 obtain⟨i0,hi,bL,aY,bg⟩:=info_parts zeo;have HL:=zC h;have xa:Mh (w.alloc (.cells #[.slice none 0 0,.slice none 0 0,.slice none 0 0,.slice none 0 0,.int .i64 0] 115)) mk a n cap 0 (w.alloc (.cells #[.slice none 0 0,.slice none 0 0,.slice none 0 0,.slice none 0 0,.int .i64 0] 115)):=⟨⟨xs,by have:=h.1;rw[Nat.mul_one] at this;exact this,h.alloc _⟩,zK.refl _ _⟩;have HA:=zC ((zK.refl (Value.slice a n cap).ownBlock.toList w).alloc (.cells #[.slice none 0 0,.slice none 0 0,.slice none 0 0,.slice none 0 0,.int .i64 0] 115));have HR:Hid ((w.alloc (.cells #[.slice none 0 0,.slice none 0 0,.slice none 0 0,.slice none 0 0,.int .i64 0] 115)).heap[w.heap.size]?=some (.cells #[.slice none 0 0,.slice none 0 0,.slice none 0 0,.slice none 0 0,.int .i64 0] 115 (0,0))):=by
  show _=_
  exact heap_alloc_new w _
 clear h;go_enter Tryz.func142,Tryz.ntmps142;go_wp2_with fail;generalize hwA:(w.alloc (.cells #[.slice none 0 0,.slice none 0 0,.slice none 0 0,.slice none 0 0,.int .i64 0] 115))=wA at *;clear hwA
 go_loopg [6] n (λ gg i wr=>∃ k:Nat,k<=n/\gg=n-k/\i=.int .i64 k/\Mh wA mk a n cap k wr)
 exact⟨0,Nat.zero_le _,rfl,rfl,xa⟩
 case round=>
  clear xa;obtain⟨k,hk,eD,rfl,AB⟩:=hrel
  by_cases aF:k<n
  ·obtain⟨ys,hy,aB⟩:=AB.row;obtain⟨g,dn,hv,_,aZ⟩:=aB.form (by omega);injection hv with e1 e2 e3
   subst e1 e3;have C8:=((zA HL).lt g rfl).2;have Im:=zif aB;have cd:=zy0 aB;obtain⟨u0,c0⟩:=cd k (by omega);have bO:=z8f aB;have HO:=zC (AB.step aF);have f0:=Im k;clear aB AB cd Im hy;go_wp2_with fail;go_roundg (n-(k+1));exact⟨k+1,by omega,rfl,by go_num,zA HO⟩;omega
  ·have P8:k=n:=(by omega);subst P8;have KT:Lm wr 0 5 (iI mk) (.slice a k cap) k:=by
    obtain⟨ys,hy,aB⟩:=AB.row;have:ys=[]:=List.eq_nil_of_length_eq_zero (by rw[hy];omega);subst this;rw[List.append_nil] at aB;exact aB
   have Mz:=zC KT;have Sc:=zC ((zA HA).trans AB.kept);have fu:=z8r (zA HL) (zA HR) (by omega) AB.kept;have Lu:=(Array.getElem?_eq_some_iff.1 fu).1;have rS:=zC fu;clear KT AB fu HA HR;go_wp2_with (at_builtin;refine zbd _ rfl _ _ 47 rfl 0 5 i0 _ 1 1 Tryz.underlying47 hi bL aY bg rfl (by decide) a k cap (rep (iI mk) k) rfl ((zA Mz).alloc _) ⟨wr.heap.size,0,none⟩ 1 1 (iI mk) rfl rfl (World.news_of_block (heap_alloc_new wr _)) (zl4 mk) (by decide) (by unfold maxLen;omega) (by omega) (Nat.zero_le _) ?_);intro a1 c1 w1 aN hpart1;have dH:Lm w1 0 5 (iI mk) (.slice a1 (k+1) c1) (k+1):=(by unfold Lm;rw[z4t];exact aN);have Nz:=((zK.refl [] wr).alloc (Obj.cells #[.int .u8 (mk%251:Nat)] 5));have xn:(wr.alloc (Obj.cells #[.int .u8 (mk%251:Nat)] 5)).heap[w.heap.size]?=_:=(Nz.block _ Lu (by simp)).trans (zA rS);have jm:=z8r (zA HL) xn (by omega) hpart1.kept;have TN:=hpart1.first (by omega) ((zA Mz).kept Nz (by simp)) dH;have iu:=zC dH;have sC:=zC hpart1;have fw:=zC TN;have wY:=zC jm;have Jf:=zC Nz;have Ew:=(Array.getElem?_eq_some_iff.1 jm).1;clear aN hpart1 dH TN jm xn Nz rS;go_wp2_with (at_builtin;refine zbd _ rfl _ _ 47 rfl 0 5 i0 _ 1 1 Tryz.underlying47 hi bL aY bg rfl (by decide) a k cap (rep (iI mk) k) rfl ((zA fw).alloc _) ⟨w1.heap.size,0,none⟩ 2 2 (iI mk++iI mk) rfl rfl (World.news_of_block (heap_alloc_new w1 _)) (z3h mk) (by decide) (by unfold maxLen;omega) (by omega) (Nat.zero_le _) ?_);intro a2 c2 w2 ep hpart2;have dD:Lm w2 0 5 (iI mk) (.slice a2 (k+2) c2) (k+2):=(by unfold Lm;rw[yb6];exact ep);have xu:=((zK.refl [] w1).alloc (Obj.cells #[.int .u8 (mk%251:Nat),.int .u8 (mk%251:Nat)] 5));have xn:(w1.alloc (Obj.cells #[.int .u8 (mk%251:Nat),.int .u8 (mk%251:Nat)] 5)).heap[w.heap.size]?=_:=(xu.block _ Ew (by simp)).trans (zA wY);have ik:=z8r (zA HL) xn (by omega) hpart2.kept;have oE:=hpart2.first (by omega) ((zA fw).kept xu (by simp)) dD;have wU:=zC dD;have mE:=zC hpart2;have mG:=zC ik
   have Cz:=zC xu;have aC:=zC oE;have g0:uI w2 0 5 (iI mk) a k cap 0 (.slice a k cap) w2:=⟨oE,zK.refl _ _,.inl rfl⟩;clear ep hpart2 dD ik xn xu oE wY Lu Ew;go_wp2_with fail;have ME:=zC (λ (a3:O8) (c3:Nat) (w3:W8) (hg:uI w2 0 5 (iI mk) a k cap 64 (.slice a3 (k+64) c3) w3)=>E6.of (zA Sc) (zA Mz) (zA Jf) (zA Cz) (zA sC) (zA iu) (zA mE) (zA wU) hg hn ji);clear Sc Mz Jf Cz sC iu mE wU
   go_loopg [9,10] 64 (λ gg v3 i wj=>∃ (j:Nat) (a3:O8) (c3:Nat),j<=64/\gg=64-j/\v3=.slice a3 (k+j) c3/\i=.int .i64 j/\uI w2 0 5 (iI mk) a k cap j (.slice a3 (k+j) c3) wj)
   exact⟨0,a,cap,Nat.zero_le _,rfl,rfl,rfl,g0⟩
   case round=>
    clear g0;obtain⟨j,a3,c3,hj,xj,rfl,rfl,mP⟩:=hrel;have hr:=z8r (zA HL) (zA mG) (by omega) mP.kept;have HG:=zC mP
    by_cases hlj:j<64
    ·clear hr mP;go_wp2_with (at_builtin;refine zbd _ rfl _ _ 47 rfl 0 5 i0 _ 1 1 Tryz.underlying47 hi bL aY bg rfl (by decide) a3 (k+j) c3 (rep (iI mk) (k+j)) rfl ((zA HG).lm.alloc _) ⟨wr.heap.size,0,none⟩ 1 1 (iI mk) rfl rfl (World.news_of_block (heap_alloc_new wr _)) (zl4 mk) (by decide) (by unfold maxLen;omega) (by omega) (Nat.zero_le _) ?_);intro a4 c4 w4 mV hpart4;have rX:Lm w4 0 5 (iI mk) (.slice a4 (k+j+1) c4) (k+j+1):=(by unfold Lm;rw[z4t];exact mV);have VT:=zC (((zA HG).LX ((zK.refl [] wr).alloc _)).one (zA aC) hpart4 rX);clear mV hpart4 rX;go_wp2_with fail;go_roundg (64-(j+1));exact⟨j+1,a4,c4,by omega,rfl,rfl,by go_num,zA VT⟩;omega
    ·have P4:j=64:=(by omega);subst P4;have HO:=zC (zA ME a3 c3 wr mP);have HN:=zC (zds hr (show (115:TypeId)≠5 by decide));obtain⟨r0,U5⟩:=zB hr 0;obtain⟨r1,GM⟩:=zB hr 1;obtain⟨r2,U6⟩:=zB hr 2;obtain⟨r3,U7⟩:=zB hr 3;obtain⟨r4,Rq⟩:=zB hr 4;clear hr mP ME HL;go_wp2_with fail;refine bodyPost_ret (v:=.agg #[.slice a k cap,.slice a1 (k+1) c1,.slice a2 (k+2) c2,.slice a3 (k+64) c3,.int .i64 mk]) (by simp[results,Tryz.results142,go_sem,r0,r1,r2,r3,r4]) rfl ?_;refine⟨a1,a2,a3,c1,c2,c3,rfl,(zA HO).dQ (x:=w.heap.size) ?_ L9 (zA HN)⟩;have hm:w.heap.size∈[w.heap.size]:=List.mem_singleton.2 rfl;exact (((((zK.refl _ wr).setCell (p:=⟨w.heap.size,0,none⟩) (.inl hm) _).setCell (p:=⟨w.heap.size,1,none⟩) (.inl hm) _).setCell (p:=⟨w.heap.size,2,none⟩) (.inl hm) _).setCell (p:=⟨w.heap.size,3,none⟩) (.inl hm) _).setCell (p:=⟨w.heap.size,4,none⟩) (.inl hm) _
end
section
open Go.RowKit
theorem z2n:(Tryz.prog.info? 115).map (λ i=>(i.zero,i.size,i.bytes))=some (some (.agg #[.slice none 0 0,.slice none 0 0,.slice none 0 0,.slice none 0 0,.int .i64 0]),5,104):=by kernel_rfl
theorem zvv (w:W8)(b:Nat)(bz bv tv sv:Value)(ms:List MB)(a:O8)(n cap:Nat)(xs:V8)(hblk:w.heap[b]?=some (.cells #[bz,bv,tv,sv] 69 (0,0)))(hS:jS w (b+1) 115 5 iI bv ms)(h:w.ownsRow 0 5 1 (.slice a n cap) n xs)(hn:n<=1000)(qp:∀ m∈ms,∀ g∈(Value.slice a n cap).ownBlock.toList,g∉m.blocks)(hlen:ms.length<=100000000):
  Calls Tryz.prog 92 #[.pointer (some ⟨b,1,none⟩),.slice a n cap] w (yc6 w b (λ v'=>#[bz,v',tv,sv]) 115 5 iI bv ms (.slice a n cap)):=by
 obtain⟨i0,hi,bL,aY,bg⟩:=info_parts z2n;obtain⟨ap,cp,rfl⟩:=zD hS.row;obtain⟨x3,ER⟩:=zB hblk 1;have mD:=zC hblk;have HS:=zC hS;have HF:=zC qp;have HH:=zC h;clear hS qp h hblk;go_enter Tryz.func92,Tryz.ntmps92;go_wp2_with fail;refine (zsc w a n cap ms.length xs (zA HH) hn (by omega)).mono ?_;rintro e w1 ⟨a1,a2,a3,c1,c2,c3,rfl,hO⟩;have lK:w1.heap[b]?=some (.cells #[bz,.slice ap ms.length cp,tv,sv] 69 (0,0)):=yK (zA mD) hO.kept (λ x hx=>.inr (yH (zA HH) (by decide) x hx));have J7:=(zA HS).kept hO.kept (λ x hx=>.inr (yH (zA HH) (by decide) x hx)) (λ x hx=>.inr (λ m hm=>zA HF m hm x hx));have aB:=J7.row;obtain⟨y3,RJ⟩:=zB lK 1;have uZ:=(Array.getElem?_eq_some_iff.1 lK).1;have kW:zK [] w1 (((w1.alloc (Obj.cells #[.slice a n cap,.slice a1 (n+1) c1,.slice a2 (n+2) c2,.slice a3 (n+64) c3,.int .i64 (ms.length:Nat)] 115)).alloc (Obj.cells #[.slice a n cap,.slice a1 (n+1) c1,.slice a2 (n+2) c2,.slice a3 (n+64) c3,.int .i64 (ms.length:Nat)] 115)).drew):=(((zK.refl [] w1).alloc _).alloc _).drew;have s1:Hid ((((w1.alloc (Obj.cells #[.slice a n cap,.slice a1 (n+1) c1,.slice a2 (n+2) c2,.slice a3 (n+64) c3,.int .i64 (ms.length:Nat)] 115)).alloc (Obj.cells #[.slice a n cap,.slice a1 (n+1) c1,.slice a2 (n+2) c2,.slice a3 (n+64) c3,.int .i64 (ms.length:Nat)] 115)).drew).ownsRow (b+1) 115 5 (.slice ap ms.length cp) ms.length (ms.flatMap MB.cells)):=(aB.alloc _).alloc _;have s2:Hid (∀ j u,([.slice a n cap,.slice a1 (n+1) c1,.slice a2 (n+2) c2,.slice a3 (n+64) c3,.int .i64 (ms.length:Nat)]:V8)[j]?=some u->(((w1.alloc (Obj.cells #[.slice a n cap,.slice a1 (n+1) c1,.slice a2 (n+2) c2,.slice a3 (n+64) c3,.int .i64 (ms.length:Nat)] 115)).alloc (Obj.cells #[.slice a n cap,.slice a1 (n+1) c1,.slice a2 (n+2) c2,.slice a3 (n+64) c3,.int .i64 (ms.length:Nat)] 115)).drew).cell? ((⟨w1.heap.size+1,0,none⟩:Addr).add j)=some u):=by
  have:=heap_alloc_new (w1.alloc (Obj.cells #[.slice a n cap,.slice a1 (n+1) c1,.slice a2 (n+2) c2,.slice a3 (n+64) c3,.int .i64 (ms.length:Nat)] 115)) (Obj.cells #[.slice a n cap,.slice a1 (n+1) c1,.slice a2 (n+2) c2,.slice a3 (n+64) c3,.int .i64 (ms.length:Nat)] 115);rw[World.size_alloc] at this;exact World.news_of_block (w:=((w1.alloc _).alloc _).drew) this
 have s3:Hid (∀ u∈([.slice a n cap,.slice a1 (n+1) c1,.slice a2 (n+2) c2,.slice a3 (n+64) c3,.int .i64 (ms.length:Nat)]:V8),u.oneCell'=true):=by
  show ∀ u∈_,_
  intro u hu;simp at hu;rcases hu with rfl | rfl | rfl | rfl | rfl <;> rfl
 have s4:Hid (ms.length+1<=maxLen):=by show _<=_;unfold maxLen;omega
 have s5:Hid ((ms.length+1)*104<=140737488355328):=by show _<=_;omega
 have s6:Hid (b+1<=(((w1.alloc (Obj.cells #[.slice a n cap,.slice a1 (n+1) c1,.slice a2 (n+2) c2,.slice a3 (n+64) c3,.int .i64 (ms.length:Nat)] 115)).alloc (Obj.cells #[.slice a n cap,.slice a1 (n+1) c1,.slice a2 (n+2) c2,.slice a3 (n+64) c3,.int .i64 (ms.length:Nat)] 115)).drew).heap.size):=by show _<=_;simp;omega
 have s8:=zC (λ (w5:W8) (g dn:Nat) (hg:(((w1.alloc (Obj.cells #[.slice a n cap,.slice a1 (n+1) c1,.slice a2 (n+2) c2,.slice a3 (n+64) c3,.int .i64 (ms.length:Nat)] 115)).alloc (Obj.cells #[.slice a n cap,.slice a1 (n+1) c1,.slice a2 (n+2) c2,.slice a3 (n+64) c3,.int .i64 (ms.length:Nat)] 115)).drew).grownBy w5 (Value.slice ap ms.length cp).ownBlock) (ay:w5.ownsRow (b+1) 115 5 (.slice (some ⟨g,0,none⟩) (ms.length+1) dn) (ms.length+1) (ms.flatMap MB.cells++[.slice a n cap,.slice a1 (n+1) c1,.slice a2 (n+2) c2,.slice a3 (n+64) c3,.int .i64 (ms.length:Nat)])) (du:(Value.slice ap ms.length cp).ownBlock=some g\/∀ g',(Value.slice (some ⟨g,0,none⟩) (ms.length+1) dn).ownBlock=some g'->(((w1.alloc (Obj.cells #[.slice a n cap,.slice a1 (n+1) c1,.slice a2 (n+2) c2,.slice a3 (n+64) c3,.int .i64 (ms.length:Nat)] 115)).alloc (Obj.cells #[.slice a n cap,.slice a1 (n+1) c1,.slice a2 (n+2) c2,.slice a3 (n+64) c3,.int .i64 (ms.length:Nat)] 115)).drew).heap.size<=g')=>z6s (j:=1) (a':=some ⟨g,0,none⟩) (c':=dn) (m:=⟨.slice a n cap,.slice a1 (n+1) c1,.slice a2 (n+2) c2,.slice a3 (n+64) c3,ms.length⟩) (A':=#[bz,.slice (some ⟨g,0,none⟩) (ms.length+1) dn,tv,sv]) lK J7 hO kW hg ay du (by decide) (by decide) (by decide) (by simp));have Oi:=zC hO.eI;clear hO J7 aB lK kW mD HS HF HH x3 ER;go_wp2_with fail
 go_region_law (refine step_append_lies _ rfl (.tmp 16) (.tmp 18) 63 rfl (b+1) 115 i0 (.agg #[.slice none 0 0,.slice none 0 0,.slice none 0 0,.slice none 0 0,.int .i64 0]) 5 104 Tryz.underlying63 hi bL aY bg rfl (by decide) (Value.slice ap ms.length cp) ms.length (ms.flatMap MB.cells) (by simp[Act.eval]) (zA s1) ⟨w1.heap.size+1,0,none⟩ 1 1 [.slice a n cap,.slice a1 (n+1) c1,.slice a2 (n+2) c2,.slice a3 (n+64) c3,.int .i64 (ms.length:Nat)] (by simp[Act.eval]) rfl (zA s2) (zA s3) (by decide) (zA s4) (zA s5) (zA s6) _ rfl ?_;intro g dn w5 aq aU bW hlt5;obtain⟨e1,e2,e3,e4,e5⟩:=zA s8 w5 g dn aU aq (bW.imp id (λ e g' e'=>by rw[<-e];exact Nat.le_of_eq (by simpa[Value.ownBlock] using e')));obtain⟨z0,na⟩:=zB e5 1)
 all_goals
  have E1:=zC e1;have E2:=zC e2;have E3:=zC e3;have E4:=zC e4;clear s1 s2 s3 s4 s5 s6 s8 e1 e2 e3 e4 e5 aq aU;go_wp2_with fail;go_end0;exact⟨rfl,_,_,zA E2,zA E1,zA E3,zA Oi,zA E4⟩
end
section
open Go.RowKit
theorem LW.O5 {w w':W8}{b:Nat}{bz bv tv sv nC:Value}{es:List PE}{mb mt ms xw:List MB}(h:LW w b bz bv tv sv es mb mt ms)(K:zK (b::bv.ownBlock.toList) w w')(hblk:w'.heap[b]?=some (.cells #[bz,nC,tv,sv] 69 (0,0)))(Ks:jS w' (b+1) 115 5 iI nC xw)(Nq:∀ g∈nC.ownBlock.toList,g∈bv.ownBlock.toList\/w.heap.size<=g):LW w' b bz nC tv sv es xw mt ms/\zK (chg b bz bv tv sv) w w':=by
 have sub:∀ x∈b::bv.ownBlock.toList,x∈chg b bz bv tv sv:=λ x hx=>by
  rcases List.mem_cons.1 hx with rfl | hx
  ·exact List.mem_cons_self
  ·exact List.mem_cons_of_mem _ (by simp only[List.mem_append];exact .inl (.inl (.inr hx)))
 have nt:∀ (e:TypeId),69≠e->115≠e->∀ x∈b::bv.ownBlock.toList,dW w e x:=λ e e0 e1 x hx=>by
  rcases List.mem_cons.1 hx with rfl | hx
  ·exact zds h.bp e0
  ·exact yH h.bs.row e1 x hx
 have DA:∀ c∈chg b bz nC tv sv,c∈chg b bz bv tv sv\/w.heap.size<=c:=λ c hc=>by
  rcases List.mem_cons.1 hc with rfl | hc
  ·exact .inl List.mem_cons_self
  ·simp only[List.mem_append] at hc;have rest:c∈bz.ownBlock.toList\/c∈tv.ownBlock.toList\/c∈sv.ownBlock.toList->c∈chg b bz bv tv sv:=λ hr=>List.mem_cons_of_mem _ (by simp only[List.mem_append];rcases hr with hr | hr | hr <;> simp[hr])
   rcases hc with ((hc | hc) | hc) | hc
   ·exact .inl (rest (.inl hc))
   ·exact (Nq c hc).imp (λ hm=>sub c (List.mem_cons_of_mem _ hm)) id
   ·exact .inl (rest (.inr (.inl hc)))
   ·exact .inl (rest (.inr (.inr hc)))
 exact⟨⟨hblk,xF h.row K (λ x hx=>.inr (nt _ (by decide) (by decide) x hx)),λ p hp=>(h.Ia p hp).step K (λ d hd=>.inl (sub d hd)) DA,Ks,h.ts.kept K (λ x hx=>.inr (nt _ (by decide) (by decide) x hx)) (λ x hx=>.inl (nt _ (by decide) (by decide) x hx)),h.ss.kept K (λ x hx=>.inr (nt _ (by decide) (by decide) x hx)) (λ x hx=>.inl (nt _ (by decide) (by decide) x hx))⟩,K.mono λ x hx=>.inl (sub x hx)⟩
end
end Go.Proofs.YtldkpahaocjdpaaGreat
