/-
  The reference's Ask.
-/
import Derived.Sort.Walk0
import Derived.Test.YtldkpahaocjdpaaGreatE45
set_option maxHeartbeats 16000000
set_option maxRecDepth 1000000
namespace Go.Proofs.YtldkpahaocjdpaaGreat
section
open Go.RowKit
def zN (s:B8):zL:=⟨(tok s 0).text,(zH s 0 (-1)).1,false,(tok s 0).at_,0⟩
def zhw (s:B8):Bool:=decide ((zH s 0 (-1)).2.2<0)&&(tok s (zH s 0 (-1)).2.1).kind==46
def zcn (ps:P9)(s:B8):Bool:=zhw s&&iJ ps (tok s 0).text (zH s 0 (-1)).1.length
structure ycw (w:W8)(s:B8)(v:Value)(w':W8):Prop where
 below:Below w.heap.size w w'
 row:w'.ownsRow w.heap.size 317 3 v (zN s).ae.length (cellsOf (zN s).ae)
def z6f (w:W8)(ps:P9)(s:B8)(e:Ending)(w':W8):Prop:=
 ∃ v,e=.returned (.tuple #[(zN s).val v,.bool (zcn ps s)])/\ycw w s v w'
variable {w:W8} {s:B8}
theorem z08 {w1:W8}(aL:Below (w.alloc (Obj.cells #[.string s,.int .u8 0,.string { data:=#[] },.int .i64 0,.int .i64 0,.int .i64 (-1)] 235)).heap.size (w.alloc (Obj.cells #[.string s,.int .u8 0,.string { data:=#[] },.int .i64 0,.int .i64 0,.int .i64 (-1)] 235)) w1):
  dS ((((w1.setCell ⟨w.heap.size,1,none⟩ (.int .u8 (tok s 0).kind)).setCell ⟨w.heap.size,2,none⟩ (.string (tok s 0).text)).setCell ⟨w.heap.size,3,none⟩ (.int .i64 (tok s 0).at_)).setCell ⟨w.heap.size,4,none⟩ (.int .i64 (tok s 0).to)) w.heap.size s 0 (-1)/\Below w.heap.size w ((((w1.setCell ⟨w.heap.size,1,none⟩ (.int .u8 (tok s 0).kind)).setCell ⟨w.heap.size,2,none⟩ (.string (tok s 0).text)).setCell ⟨w.heap.size,3,none⟩ (.int .i64 (tok s 0).at_)).setCell ⟨w.heap.size,4,none⟩ (.int .i64 (tok s 0).to)):=by
 have hz:=aL.size;simp at hz;have x:∀ j,w1.cell? ⟨w.heap.size,j,none⟩=#[.string s,.int .u8 0,.string { data:=#[] },.int .i64 0,.int .i64 0,.int .i64 (-1)][j]?:=λ j=>(aL.cell (p:=⟨w.heap.size,j,none⟩) (by simp)).trans (by rw[World.cell?_alloc_at _ _ _ _ rfl])
 have xf:∀ j,w1.frozen? ⟨w.heap.size,j,none⟩=false:=λ j=>(aL.frozen (p:=⟨w.heap.size,j,none⟩) (by simp)).trans (by rw[World.frozen?_alloc_at _ _ _ _ rfl])
 have x0:w1.cell? ⟨w.heap.size,0,none⟩=some (.string s):=x 0;have x1:w1.cell? ⟨w.heap.size,1,none⟩=some (.int .u8 0):=x 1;have x2:w1.cell? ⟨w.heap.size,2,none⟩=some (.string { data:=#[] }):=x 2;have x3:w1.cell? ⟨w.heap.size,3,none⟩=some (.int .i64 0):=x 3;have x4:w1.cell? ⟨w.heap.size,4,none⟩=some (.int .i64 0):=x 4;have x5:w1.cell? ⟨w.heap.size,5,none⟩=some (.int .i64 (-1)):=x 5;clear x;have kk:=zl0 w1 w.heap.size (.int .u8 (tok s 0).kind) (.string (tok s 0).text) (.int .i64 (tok s 0).at_) (.int .i64 (tok s 0).to);have mu:Below w.heap.size w w1:=(B9.alloc L9 _).trans (aL.mono (by simp));refine⟨?_,zY mu kk mu.size (λ b hm=>by simp at hm;omega)⟩;refine⟨by simp;omega,?_,?_,?_,?_,?_,?_,?_⟩
 all_goals go_simp
theorem yap {w2 w':W8}{v:Value}{n:Nat}(hn:w.heap.size<n)(ay:w2.ownsRow n 317 3 v (zN s).ae.length (cellsOf (zN s).ae))(hb:Below w.heap.size w w2)(k:zK [w.heap.size] w2 w'):ycw w s v w':=by
 refine⟨zY hb k hb.size (λ b hm=>by simp at hm;omega),?_⟩;refine⟨ay.1,?_⟩;rcases ay.2 with hn | ⟨g,cap,cur,rfl,gj,bS,rest⟩
 ·exact .inl hn
 ·refine .inr ⟨g,cap,cur,rfl,by omega,?_,rest⟩;rw[k.block g (Array.getElem?_eq_some_iff.1 bS).1 (by simp;omega)];exact bS
theorem yao (w:W8)(o:Nat)(rs:List RR)(ps:P9)(rv pv tv sv:Value)(h:znv w o rs ps rv pv tv sv)(s:B8)(bM:s.size<=maxLen):
  Calls Tryz.prog 130 #[.pointer (some ⟨o,0,none⟩),.string s] w (z6f w ps s):=by
 have QF:=h.lt;have F2:∀ {ix g cap:Nat},ix<ps.length->tv=.slice (some ⟨g,0,none⟩) ps.length cap->g<w.heap.size:=λ hi he=>by subst he;exact (h.ae.lt _ rfl).2
 have H:=zC h;clear h;go_enter Tryz.func130,Tryz.ntmps130;go_wp2_with fail;refine (zo8 s 0 (Nat.zero_le _) bM _).mono ?_;rintro e w1 ⟨rfl,aL⟩;obtain⟨r1,r2⟩:=zmc aL;have hz:w.heap.size<w1.heap.size:=by have:=aL.size;simp at this;omega
 have aP:=z08 aL;rw[show (w.alloc (Obj.cells #[.string { data:=#[] },.slice none 0 0,.bool false,.int .i64 0,.int .i64 0] 243)).heap.size=w.heap.size+1 by simp] at aP;have dB:=zC aP.1;have B5:=zC (((Below.refl w.heap.size w).alloc L9 _).trans (aP.2.mono (Nat.le_succ _)));have Fv:=zC aP.2;clear aP;go_wp2_with fail;clear r1 r2 aL;generalize hW:(((w1.setCell ⟨w.heap.size+1,1,none⟩ (.int .u8 (tok s 0).kind)).setCell ⟨w.heap.size+1,2,none⟩ (.string (tok s 0).text)).setCell ⟨w.heap.size+1,3,none⟩ (.int .i64 (tok s 0).at_)).setCell ⟨w.heap.size+1,4,none⟩ (.int .i64 (tok s 0).to)=W at *;clear hW;refine (Mn s 0 (-1) (w.heap.size+1) W (zA dB) (Nat.zero_le _) bM).mono ?_;rintro e w2 ⟨v,rfl,bn,eZ,lh,ep⟩;have xr:=(zA B5).size;have dK:Below w.heap.size w w2:=zY (zA B5) bn xr (λ b hm=>by simp at hm;omega);have ay:=zG ep xr;obtain⟨av,cv,rfl⟩:=zD ay;have dg:=(zA H).kept ((zK.refl [] _).ak dK) (by simp);obtain⟨KX,c0,c1,c2,c3,c4,c5,fz⟩:=eZ;have hA:∀ j,w2.cell? ⟨w.heap.size,j,none⟩=#[.string { data:=#[] },.slice none 0 0,.bool false,.int .i64 0,.int .i64 0][j]?:=λ j=>((bn.cell (p:=⟨w.heap.size,j,none⟩) (by show w.heap.size<_;have:=(zA dB).lt;omega) (by simp)).trans ((zA Fv).cell (p:=⟨w.heap.size,j,none⟩) (by simp))).trans (by rw[World.cell?_alloc_at _ _ _ _ rfl])
 have fA:∀ j,w2.frozen? ⟨w.heap.size,j,none⟩=false:=λ j=>((bn.frozen (p:=⟨w.heap.size,j,none⟩) (by show w.heap.size<_;have:=(zA dB).lt;omega) (by simp)).trans ((zA Fv).frozen (p:=⟨w.heap.size,j,none⟩) (by simp))).trans (by rw[World.frozen?_alloc_at _ _ _ _ rfl])
 have a0:=hA 0;have a1:=hA 1;have a2:=hA 2;have a3:=hA 3;have a4:=hA 4;have aE:=λ (w':W8) (k:zK [w.heap.size] w2 w')=>yap (s:=s) (show w.heap.size<W.heap.size by have:=(zA dB).lt;omega) ep dK k
 have Cw:=zC aE;have HP:=zC dg;have aH:w.heap.size<w2.heap.size:=by omega
 have ni:=zC (λ (nm:B8) (wr:W8) (hb:Below w2.heap.size w2 wr)=>zcd wr o rs ps _ _ _ _ nm (dg.kept ((zK.refl [] _).ak hb) (by simp)));clear hA ay ep dg dK bn Fv B5 dB c0 c2 c3 c4 fz xr aE H;simp only[List.getElem?_toArray,List.getElem?_cons_zero,List.getElem?_cons_succ] at a0 a1 a2 a3 a4
 by_cases hbad:0<=(zH s 0 (-1)).2.2
 ·have iN:=zC (show zcn ps s=false by unfold zcn zhw;simp;omega);go_wp2_with fail;obtain⟨q0,q1,q2,q3,q4⟩:=z8l a0 a1 a2 a3 a4 (.string (tok s 0).text) (.slice av (zH s 0 (-1)).fst.length cv) (.bool false) (.int .i64 (tok s 0).at_) (.int .i64 0);have k5:=zpi w2 w.heap.size (.string (tok s 0).text) (.slice av (zH s 0 (-1)).fst.length cv) (.bool false) (.int .i64 (tok s 0).at_) (.int .i64 0);have q0:=qY q0;have q1:=qY q1;have q2:=qY q2;have q3:=qY q3;have q4:=qY q4;refine bodyPost_ret (v:=.tuple #[(zN s).val (.slice av (zH s 0 (-1)).fst.length cv),.bool false]) (by simp[results,Tryz.results130,go_sem,zN,zL.val,q0,q1,q2,q3,q4]) rfl ⟨_,by rw[zA iN],zA Cw _ (k5.alloc _)⟩
 ·cases hk:(tok s (zH s 0 (-1)).2.1).kind==46 with
  | false=>
   have iN:=zC (show zcn ps s=false by unfold zcn zhw;simp[hk]);have bn:((tok s (zH s 0 (-1)).2.1).kind != 46)=true:=(by simp[bne,hk]);go_wp2_with fail;obtain⟨q0,q1,q2,q3,q4⟩:=z8l a0 a1 a2 a3 a4 (.string (tok s 0).text) (.slice av (zH s 0 (-1)).fst.length cv) (.bool false) (.int .i64 (tok s 0).at_) (.int .i64 0);have k5:=zpi w2 w.heap.size (.string (tok s 0).text) (.slice av (zH s 0 (-1)).fst.length cv) (.bool false) (.int .i64 (tok s 0).at_) (.int .i64 0);have q0:=qY q0;have q1:=qY q1;have q2:=qY q2;have q3:=qY q3;have q4:=qY q4;refine bodyPost_ret (v:=.tuple #[(zN s).val (.slice av (zH s 0 (-1)).fst.length cv),.bool false]) (by simp[results,Tryz.results130,go_sem,zN,zL.val,q0,q1,q2,q3,q4]) rfl ⟨_,by rw[zA iN],zA Cw _ (k5.alloc _)⟩
  | true=>
   have bn:((tok s (zH s 0 (-1)).2.1).kind != 46)=false:=(by simp[bne,hk]);have iN:=zC (show zcn ps s=iJ ps (tok s 0).text (zH s 0 (-1)).1.length by unfold zcn zhw;simp[hk];omega);go_wp2_with fail;refine (zA ni (tok s 0).text _ (B9.alloc L9 _)).mono ?_;rintro e w3 ⟨rfl,xo⟩;subst xo;have k3:=(zK.refl [] w2).alloc (.cells #[.string (tok s 0).text,.slice av (zH s 0 (-1)).fst.length cv,.bool false,.int .i64 (tok s 0).at_,.int .i64 0] 243);have sD:=zC ((zA HP).kept k3 (by simp));have DT:=zC (λ (w':W8) (k:zK [w.heap.size] (w2.alloc (.cells #[.string (tok s 0).text,.slice av (zH s 0 (-1)).fst.length cv,.bool false,.int .i64 (tok s 0).at_,.int .i64 0] 243)) w')=>zA Cw w' ((k3.mono (by simp)).trans k));have b0:=λ j=>vM w2 (.string (tok s 0).text) (.slice av (zH s 0 (-1)).fst.length cv) (.bool false) (.int .i64 (tok s 0).at_) (.int .i64 0) 243 j
   have a0:=(k3.cell (p:=⟨w.heap.size,0,none⟩) aH (by simp)).trans a0;have a1:=(k3.cell (p:=⟨w.heap.size,1,none⟩) aH (by simp)).trans a1;have a2:=(k3.cell (p:=⟨w.heap.size,2,none⟩) aH (by simp)).trans a2;have a3:=(k3.cell (p:=⟨w.heap.size,3,none⟩) aH (by simp)).trans a3;have a4:=(k3.cell (p:=⟨w.heap.size,4,none⟩) aH (by simp)).trans a4;have fA:=λ j=>(k3.frozen (p:=⟨w.heap.size,j,none⟩) aH (by simp)).trans (fA j)
   have bj:w2.heap.size<(w2.alloc (.cells #[.string (tok s 0).text,.slice av (zH s 0 (-1)).fst.length cv,.bool false,.int .i64 (tok s 0).at_,.int .i64 0] 243)).heap.size:=(by simp);generalize w2.alloc (.cells #[.string (tok s 0).text,.slice av (zH s 0 (-1)).fst.length cv,.bool false,.int .i64 (tok s 0).at_,.int .i64 0] 243)=wr at *;have b00:wr.cell? ⟨w2.heap.size,0,none⟩=some (.string (tok s 0).text):=b0 0;have b01:wr.cell? ⟨w2.heap.size,1,none⟩=some (.slice av (zH s 0 (-1)).fst.length cv):=b0 1;have b02:wr.cell? ⟨w2.heap.size,2,none⟩=some (.bool false):=b0 2;have JL:wr.cell? ⟨w2.heap.size,3,none⟩=some (.int .i64 (tok s 0).at_):=b0 3;have b04:wr.cell? ⟨w2.heap.size,4,none⟩=some (.int .i64 0):=b0 4;have hoW:o<w.heap.size:=QF;clear b0 k3 HP Cw c1 c5
   by_cases np:zM ps (tok s 0).text<0
   ·have HM:=zC (show iJ ps (tok s 0).text (zH s 0 (-1)).1.length=true by simp[iJ,np]);clear ni sD F2;go_wp2_with fail
    go_region
    go_wp2_with fail;obtain⟨q0,q1,q2,q3,q4⟩:=z8l a0 a1 a2 a3 a4 (.string (tok s 0).text) (.slice av (zH s 0 (-1)).fst.length cv) (.bool false) (.int .i64 (tok s 0).at_) (.int .i64 0);have k5:=zpi wr w.heap.size (.string (tok s 0).text) (.slice av (zH s 0 (-1)).fst.length cv) (.bool false) (.int .i64 (tok s 0).at_) (.int .i64 0);refine bodyPost_ret (v:=.tuple #[(zN s).val (.slice av (zH s 0 (-1)).fst.length cv),.bool true]) (by simp[results,Tryz.results130,go_sem,zN,zL.val,q0,q1,q2,q3,q4]) rfl ⟨_,by rw[zA iN,zA HM],zA DT _ k5.drew⟩
   ·obtain⟨ix,F8⟩:∃ ix:Nat,zM ps (tok s 0).text=(ix:Int):=⟨_,(Int.toNat_of_nonneg (by omega)).symm⟩;have vf:ix<ps.length:=(by have:=vP (show 0<=zM ps (tok s 0).text by omega);rw[F8] at this;simpa using this);have HM:=zC (show iJ ps (tok s 0).text (zH s 0 (-1)).1.length=((ps[ix].2:Int)==(zH s 0 (-1)).1.length) by unfold iJ;rw[if_neg np,F8];simp[List.getD_eq_getElem?_getD,vf]);rw[F8];have nS:=(zA sD).c2;obtain⟨g,cap,hv,XR,bO,bQ,hc⟩:=zce (zA sD).ae (by omega);have Ca:=hc ix vf;rw[List.getElem?_map,List.getElem?_eq_getElem vf] at Ca;simp only[Option.map_some] at Ca;have aZ:=World.block_lt_of_cell? wr _ Ca;simp only at aZ;have C8:g<w.heap.size:=F2 vf hv;clear F2;subst hv;have Yg:(ix:Int)<ps.length:=(by omega);unfold maxLen at bQ;clear ni sD hc;go_wp2_with fail;have n1:w.heap.size≠o:=(by omega);have n2:w.heap.size≠g:=(by omega);have n3:w.heap.size≠w2.heap.size:=by omega
    go_region_held3 (λ w'=>w'.cell? ⟨o,2,none⟩=some (.slice (some ⟨g,0,none⟩) ps.length cap)/\w'.cell? ⟨g,ix,none⟩=some (.int .i64 (ps[ix].2:Nat))/\w'.cell? ⟨w2.heap.size,0,none⟩=some (.string (tok s 0).text)/\w'.cell? ⟨w2.heap.size,1,none⟩=some (.slice av (zH s 0 (-1)).fst.length cv)/\w'.cell? ⟨w2.heap.size,2,none⟩=some (.bool false)/\w'.cell? ⟨w2.heap.size,3,none⟩=some (.int .i64 (tok s 0).at_)/\w'.cell? ⟨w2.heap.size,4,none⟩=some (.int .i64 0)) (go_keep) (fail)
    go_wp2_with fail;obtain⟨q0,q1,q2,q3,q4⟩:=z8l a0 a1 a2 a3 a4 (.string (tok s 0).text) (.slice av (zH s 0 (-1)).fst.length cv) (.bool false) (.int .i64 (tok s 0).at_) (.int .i64 0);have k5:=zpi wr w.heap.size (.string (tok s 0).text) (.slice av (zH s 0 (-1)).fst.length cv) (.bool false) (.int .i64 (tok s 0).at_) (.int .i64 0);refine bodyPost_ret (v:=.tuple #[(zN s).val (.slice av (zH s 0 (-1)).fst.length cv),.bool ((ps[ix].2:Int)==(zH s 0 (-1)).1.length)]) (by simp[results,Tryz.results130,go_sem,zN,zL.val,q0,q1,q2,q3,q4];intro h;omega) rfl ⟨_,by rw[zA iN,zA HM],zA DT _ k5.drew⟩
end
section
open Go.RowKit Go.Maps
theorem z53.below {w:W8}{o:Nat}{rs:List RR}{ps:P9}{rv pv tv:Value}{gs:Nat}{S:Nat->Nat}{w':W8}(h:z53 w o rs ps rv pv tv gs S)(hb:Below w.heap.size w w'):z53 w' o rs ps rv pv tv gs S:=
 ⟨h.prog.kept ((zK.refl [] _).ak hb) (by simp),h.og.kept ((zK.refl [] _).ak hb),h.body,h.atoms,h.Ny⟩
end
section
theorem zr9:∀ (L ps:P9),zbh L ps->(∀ k n,yX ps k=some n->yX (iK L ps) k=some n)/\∀ x∈L,yX (iK L ps) x.1=some x.2
 | [],ps,_=>⟨λ _ _ h=>h,by simp⟩
 | x::r,ps,h=>by
  obtain⟨h1,h2⟩:=h;obtain⟨i1,i2⟩:=zr9 r (qW ps x.1 x.2) h2;rw[iK];have hx:yX (qW ps x.1 x.2) x.1=some x.2:=by rw[zjb h1,if_pos rfl]
  refine⟨λ k n hk=>i1 k n ?_,λ y hy=>?_⟩
  ·rw[zjb h1]
   by_cases e:k=x.1
   ·rw[if_pos e];rw[za6] at h1;rw[e] at hk;rw[hk] at h1;have h3:n=x.2:=(by simpa using h1);rw[h3]
   ·rw[if_neg e];exact hk
  ·rcases List.mem_cons.1 hy with rfl | hy
   ·exact i1 _ _ hx
   ·exact i2 y hy
theorem zu4 {body:List zL}:∀ (ts:List xD),xC body ts<0->∀ t∈ts,t.isVar=true->zbf t.text body=true
 | [],_,t,ht,_=>by cases ht
 | u::r,h,t,ht,hv=>by
  rw[xC] at h
  split at h
  ·omega
  ·rename_i c;rcases List.mem_cons.1 ht with rfl | ht
   ·simp only[hv,Bool.true_and,Bool.not_eq_true',Bool.not_eq_false] at c;exact c
   ·exact zu4 r h t ht hv
theorem zn8 {body:List zL}:∀ (l:List zL),xE body l<0->∀ A∈l,A.no=true->xC body A.ae<0
 | [],_,A,hA,_=>by cases hA
 | B::r,h,A,hA,hn=>by
  rw[xE] at h
  by_cases c:0<=(if B.no then xC body B.ae else -1)
  ·rw[if_pos c] at h
   by_cases hb:B.no=true
   ·rw[if_pos hb] at c;omega
   ·rw[if_neg hb] at c;omega
  ·rw[if_neg c] at h;rcases List.mem_cons.1 hA with rfl | hA
   ·rw[if_pos hn] at c;omega
   ·exact zn8 r h A hA hn
theorem zm5:∀ (rs:List zS),yT rs<0->∀ R∈rs,xC R.body R.head.ae<0/\xE R.body R.body<0
 | [],_,R,hR=>by cases hR
 | Q::r,h,R,hR=>by
  rw[yT] at h
  split at h
  ·omega
  ·rename_i c;rcases List.mem_cons.1 hR with rfl | hR
   ·unfold qN at c
    split at c
    ·omega
    ·constructor <;> omega
   ·exact zm5 r h R hR
theorem zw3 {body:List zL}{v:B8}(h:zbf v body=true):∃ a∈zqn body,((true,v):zdy)∈a.ts:=by
 unfold zbf at h;obtain⟨A,hA,h⟩:=List.any_eq_true.1 h;unfold zzm at h;simp only[Bool.and_eq_true,List.any_eq_true] at h;obtain⟨hn,u,hu,hx⟩:=h;unfold Co at hx;simp only[Bool.and_eq_true] at hx;have e:u.text=v:=xO.1 hx.2;refine⟨pa A,List.mem_map.2 ⟨A,List.mem_filter.2 ⟨hA,hn⟩,rfl⟩,List.mem_map.2 ⟨u,hu,?_⟩⟩;unfold ed;rw[hx.1,e]
variable {s:B8}
theorem yb8 (h:(yY s).1=true):yT (yG s).1<0:=by
 unfold yY at h
 by_cases c0:800<s.size
 ·rw[if_pos c0] at h;cases h
 rw[if_neg c0] at h
 by_cases c1:0<=(yG s).2.2
 ·rw[if_pos c1] at h;cases h
 rw[if_neg c1] at h
 by_cases c2:0<=(zT s).1
 ·rw[if_pos c2] at h;cases h
 rw[if_neg c2] at h
 by_cases c3:0<=yT (yG s).1
 ·rw[if_pos c3] at h;cases h
 omega
theorem zmr (h:(yY s).1=true){rp:List PR}(oN:rp.map (·.R)=(yL s).2.2.1)(ly:∀ r∈rp,r.bs.map (·.1)=r.R.body):zax (zT s).2 (yG s).1 rp:=by
 have g:=zha h;have Un:=g.rules;have EA:=zm5 _ (yb8 h);have lC:∀ x∈(yL s).2.2.1.flatMap jN,yX (zT s).2 x.1=some x.2:=by
  have:=(zr9 _ _ g.agree).2;rw[g.met] at this;exact this
 have Ku:∀ r∈rp,∃ R∈(yG s).1,ue R r:=λ r hr=>by
  have:r.R∈(yG s).1.map yO:=by rw[<-Un,<-oN];exact List.mem_map.2 ⟨r,hr,rfl⟩
  obtain⟨R,hR,e⟩:=List.mem_map.1 this;exact⟨R,hR,e.symm,ly r hr⟩
 refine⟨λ R hR=>?_,Ku,λ r hr=>?_⟩
 ·have:yO R∈rp.map (·.R):=by rw[oN,Un];exact List.mem_map.2 ⟨R,hR,rfl⟩
  obtain⟨r,hr,e⟩:=List.mem_map.1 this;exact⟨r,hr,e,ly r hr⟩
 ·obtain⟨R,hR,hrel⟩:=Ku r hr;have ax:r.R∈(yL s).2.2.1:=by rw[<-oN];exact List.mem_map.2 ⟨r,hr,rfl⟩
  have hw:=zjv s r.R ax;have hb:=g.body r.R ax;have vh:∀ x∈r.bs,x.1∈r.R.body:=λ x hx=>by rw[<-ly r hr];exact List.mem_map.2 ⟨x,hx,rfl⟩
  refine⟨?_,⟨hw.1,lC (r.R.pd,r.R.ts.length) (List.mem_flatMap.2 ⟨r.R,ax,by simp[jN]⟩)⟩,λ x hx=>⟨hw.2 _ (vh x hx),lC (x.1.pd,x.1.ts.length) (List.mem_flatMap.2 ⟨r.R,ax,?_⟩)⟩,λ t ht hv=>?_,λ x hx t ht hv=>?_⟩
  ·rw[<-ly r hr,List.length_map] at hb;exact hb
  ·simp only[jN,List.mem_cons,List.mem_map];exact .inr ⟨x.1,vh x hx,rfl⟩
  ·rw[hrel.hd] at ht;obtain⟨u,hu,rfl⟩:=List.mem_map.1 ht;have oc:u.isVar=true:=hv;have:=zw3 (zu4 _ (EA R hR).1 u hu oc);rw[hrel.pos];unfold ed;rw[oc];exact this
  ·rw[hrel.neg] at hx;obtain⟨A,hA,rfl⟩:=List.mem_map.1 hx;obtain⟨hA,hn⟩:=List.mem_filter.1 hA;obtain⟨u,hu,rfl⟩:=List.mem_map.1 ht;have oc:u.isVar=true:=hv;have:=zw3 (zu4 _ (zn8 _ (EA R hR).2 A hA hn) u hu oc);rw[hrel.pos];unfold ed;rw[oc];exact this
theorem z32 (q:B8):zhi q=if zhw q then some (pa (zN q)) else none:=by
 have h:=ztu q 0 (-1) (by decide) (Nat.zero_le _);unfold zhi zhw
 cases hP:vD q 0 with
 | no r=>
  rw[hP] at h;have h':(zH q 0 (-1)).2.2=((zF q r).2.1:Int):=h;rw[h',if_neg];simp;intro h;omega
 | yes p pd ts pl=>
  rw[hP] at h;obtain⟨h1,h2,h3,_,h5⟩:=h;rw[h1];have K:=zfh q p h5;have e:(⟨pd,ts⟩:jZ)=pa (zN q):=by rw[h2,h3];rfl
  simp only
  by_cases c:(tok q p).kind=46
  ·rw[if_pos (K.k0.2 c),if_pos (by simp[c]),e]
  ·rw[if_neg (λ h=>c (K.k0.1 h)),if_neg (by simp[c])]
theorem z33 {q:B8}{A:jZ}(h:zhi q=some A):zkq A.p A.ts:=by
 unfold zhi at h
 split at h
 ·cases h
 ·rename_i p pd ts pl hp
  split at h
  ·cases h;exact Mk hp
  ·cases h
theorem zzv (ps:P9)(A:jZ):zil ps A=iJ ps A.p A.ts.length:=by
 unfold zil
 cases hn:yX ps A.p with
 | none=>exact (by rw[za6,hn]:iJ ps A.p A.ts.length=true) ▸ rfl
 | some m=>
  by_cases e:m=A.ts.length
  ·have:iJ ps A.p A.ts.length=true:=by rw[za6,hn,e];simp
   rw[this];simp[e]
  ·have:¬ iJ ps A.p A.ts.length=true:=by rw[za6,hn];simpa using e
   simp[e,this]
theorem z6o (ps:P9)(q:B8):ze1 ps q=if zcn ps q then some (pa (zN q)) else none:=by
 unfold ze1 zcn;rw[z32]
 by_cases c:zhw q=true
 ·rw[if_pos c,c];simp only[Bool.true_and];rw[zzv];have:(pa (zN q)).ts.length=(zH q 0 (-1)).1.length:=by simp[pa,zN]
  rw[this];rfl
 ·rw[if_neg c];have:zhw q=false:=by simpa using c
  rw[this];simp
end
section
open Go.Sort
theorem zwm {S:Nat->Nat}:∀ {n i:Nat},i<n->S i<=lQ S n
 | 0,_,h=>by omega
 | n+1,i,h=>by
  rw[lQ];rcases Nat.lt_or_eq_of_le (Nat.le_of_lt_succ h) with h | rfl
  ·exact Nat.le_trans (zwm h) (Nat.le_max_left _ _)
  ·exact Nat.le_max_right _ _
theorem zwl {S:Nat->Nat}:∀ (n:Nat),n=0\/∃ i,i<n/\lQ S n=S i
 | 0=>.inl rfl
 | n+1=>by
  right
  rw[lQ];rcases Nat.le_total (lQ S n) (S n) with h | h
  ·exact⟨n,by omega,Nat.max_eq_right h⟩
  ·rw[Nat.max_eq_left h];rcases zwl (S:=S) n with h0 | ⟨i,hi,e⟩
   ·refine⟨n,by omega,?_⟩;subst h0;have:lQ S 0=0:=rfl;omega
   ·exact⟨i,by omega,e⟩
variable {ps:P9}
theorem zid {k:B8}:(yX ps k).isSome=true↔0<=zM ps k:=by
 have h:=(zod k ps 0).1;unfold zM
 constructor
 ·intro hk;refine Int.not_lt.1 λ c=>?_
  rw[h.1 c] at hk
  cases hk
 ·intro hk
  cases hn:yX ps k with
  | none=>have:=h.2 hn;omega
  | some n=>rfl
variable {m:Nat} {S:Nat->Nat} {Sp:B8->Nat}
theorem zx2 (ho:z6e ps)(hs:∀ k,0<=zM ps k->Sp k=S (qJ ps k))(hc:ze6 ps Sp m)(bF:ps≠[]):m=lQ S ps.length+1:=by
 have np:∀ (i:Nat) (hi:i<ps.length),0<=zM ps ps[i].1/\qJ ps ps[i].1=i:=λ i hi=>by
  have:=z3x ho i 0 hi;unfold qJ zM;rw[this]
  constructor
  ·omega
  ·simp
 have h1:lQ S ps.length+1<=m:=by
  rcases zwl (S:=S) ps.length with h0 | ⟨i,hi,e⟩
  ·exact absurd (List.length_eq_zero_iff.1 h0) bF
  ·obtain⟨a,b⟩:=np i hi;have:=hc.1 _ (zid.2 a);rw[hs _ a,b] at this;omega
 have h2:m<=lQ S ps.length+1:=by
  rcases hc.2 with h0 | ⟨k,hk,e⟩
  ·omega
  ·have sP:=zid.1 hk;rw[hs k sP] at e;have:=(z2u k ps 0 sP).2;have aH:qJ ps k<ps.length:=(by unfold qJ zM at *;omega);have:=zwm (S:=S) aH;omega
 omega
theorem zu2 {l:List zP}{s n:Nat}{out:List zP}(h:BN ps S [] l s n out):out=[]:=by
 have:=(zw1 h).tk.mem
 cases out with
 | nil=>rfl
 | cons f r=>have:=(this f List.mem_cons_self).1;simp[j4] at this
theorem zu8 {rs:List zS}{rp:List PR}(hR:zax ps rs rp)(ho:z6e ps)(aS:∀ R∈rs,0<=zM ps R.head.pred)(hs:∀ k,0<=zM ps k->Sp k=S (qJ ps k)){limit:Nat}(hl:limit<=50)(hc:ze6 ps Sp m){r:Option (List zP)}{r':Option (List (Th × Nat))}(h:zka ps S rs limit (lQ S ps.length) 0 [] r)(h':zdx rp Sp limit m 0 [] r'):ztp ps limit r r':=by
 by_cases bF:ps=[]
 ·subst bF;have AL:rs=[]:=by
   cases rs with
   | nil=>rfl
   | cons R q=>have:=aS R List.mem_cons_self;simp[zM,xR] at this
  subst AL;have hm:m=0:=by
   rcases hc.2 with h0 | ⟨k,hk,_⟩
   ·exact h0
   ·cases hk
  subst hm;have e':r'=some []:=by
   cases h' with
   | ends _=>rfl
   | gX h2 _=>omega
   | next h2 _ _=>omega
  have e:r=some []:=by
   have h0:lQ S 0=0:=rfl;rw[List.length_nil,h0] at h
   cases h with
   | ends h1=>omega
   | gX _ hc=>
    cases hc with
    | fG hr hb=>rw[zu2 hr] at hb;simp at hb
    | more hr hn _ _=>exact absurd (zu2 hr) hn
   | next _ hc hn=>
    cases hc with
    | done _ _=>
     cases hn with
     | ends _=>rfl
     | gX h1 _=>omega
     | next h1 _ _=>omega
    | more hr hn _ _=>exact absurd (zu2 hr) hn
  exact .inr ⟨[],[],e,e',Vx _,Nat.zero_le _⟩
 ·rw[zx2 ho hs hc bF] at h';exact ydw hR (λ R uY=>hs _ (aS R uY)) hl h [] r' (Vx _) (Nat.zero_le _) h'
end
section
open Go.RowKit Go.Maps
theorem z12 {s:B8}{xb yb:Nat}{w:W8}{lo:Nat}(h:pt s xb yb w lo):∃ (rs:List RR) (rv pv tv:Value) (gs:Nat) (S:Nat->Nat),z53 w yb rs (zT s).2 rv pv tv gs S/\rs.map (·.R)=(yG s).1/\zef (zT s).2 (yG s).1 S/\Low (zT s).2 (yG s).1 S/\∀ i,S i<=1000000:=by
 obtain⟨rs,ps,rv,pv,tv,gs,S,h1,h2,h3,h4,h5,h6,h7,h8,h9⟩:=h.y;have hg:=zha h.ok;subst h8;rw[h7] at h5 h6;have ax:∀ r∈rs,yO r.R∈(yL s).2.2.1:=λ r hr=>by
  rw[hg.rules,<-h7,List.map_map];exact List.mem_map.2 ⟨r,hr,rfl⟩
 have hm:∀ r∈rs,r.R∈(yG s).1:=λ r hr=>by rw[<-h7];exact List.mem_map_of_mem hr
 have du:∀ A:zL,zkq A.pred (A.ae.map ed)->zns A:=λ A hA=>⟨by have:=hA.pd.le;omega,λ t ht=>by
  have:=(hA.ts (ed t) (List.mem_map.2 ⟨t,ht,rfl⟩)).le;have e:(ed t).2=t.text:=rfl;rw[e] at this
  omega,by have:=hA.eJ;rw[List.length_map] at this;exact this⟩
 refine⟨rs,rv,pv,tv,gs,S,⟨h3,h4,λ r hr=>?_,λ r hr a ha=>?_,λ r hr=>?_⟩,h7,h5,h6,λ i=>?_⟩
 ·have hb:=hg.body _ (ax r hr);have e:=(h3.each r hr).eq;simp only[yO] at hb;rw[List.length_map,e,List.length_map] at hb;exact hb
 ·have hw:=zjv s _ (ax r hr);rcases List.mem_cons.1 ha with rfl | ha
  ·exact du _ hw.1
  ·exact du _ (hw.2 (lP a) (List.mem_map.2 ⟨a,ha,rfl⟩))
 ·exact h9 _ (List.mem_flatMap.2 ⟨r.R,hm r hr,List.mem_cons_self⟩)
 ·obtain⟨f,hf,me⟩:=hg.some_;rw[hg.rules] at hf;have:=h6 _ (zxl hf h9) i;have:=me (ycu (zT s).2 i);omega
end
section
open Go.RowKit Go.Maps
theorem ych (A:zL):z55 (pa A)=if qE A then some (bN A) else none:=by
 unfold z55 qE bN pa;simp only[List.any_map,List.map_map];have e:(A.ae.any ((λ x=>x.1) ∘ ed))=!(A.ae.all λ t=>!t.isVar):=by
  induction A.ae with
  | nil=>rfl
  | cons t r ih=>
   rw[List.any_cons,List.all_cons,ih]
   show (t.isVar||_)=_
   cases t.isVar <;> simp
 rw[e]
 cases (A.ae.all λ t=>!t.isVar) with
 | true=>rfl
 | false=>rfl
theorem zxe (ps:P9)(q:B8):zeb ps q=if zcn ps q&&qE (zN q) then some (bN (zN q)) else none:=by
 unfold zeb;rw[z6o]
 cases zcn ps q with
 | false=>rfl
 | true=>
  rw[if_pos rfl,Bool.true_and];exact ych (zN q)
end
section
open Go.RowKit Go.Maps
theorem zjs (t:B8):∀ (l:List zP) (i f:Nat),za1 t l i=(f:Int)->∃ (j:Nat) (h:j<l.length),f=i+j/\l[j].text=t
 | [],i,f,h=>by rw[za1] at h;omega
 | x::r,i,f,h=>by
  rw[za1] at h
  split at h
  ·rename_i hx;refine⟨0,by simp,by omega,?_⟩;rw[xO] at hx;exact hx
  ·obtain⟨j,hj,e,hx⟩:=zjs t r (i+1) f h;exact⟨j+1,by simpa using hj,by omega,by simpa using hx⟩
theorem z2b {l:List zP}{t:B8}{f:Nat}(h:jE l t=(f:Int)):∃ h:f<l.length,l[f].text=t:=by
 obtain⟨j,hj,e,hx⟩:=zjs t l 0 f h;have:f=j:=by omega
 subst this;exact⟨hj,hx⟩
def zir (v h:Int)(wv:Value):Value:=.agg #[.int .i64 v,.int .i64 h,wv]
inductive wJ (w:W8)(ps:P9)(S:Nat->Nat)(rs:List zS)(s:B8)(limit:Int)(w':W8):Value->Nat->Prop
 | arg:limit<1\/50<limit->wJ w ps S rs s limit w' (zir 0 0 (.slice none 0 0)) 8
 | ask:1<=limit->limit<=50->(zcn ps s&&qE (zN s))=false->wJ w ps S rs s limit w' (zir 0 0 (.slice none 0 0)) 6
 | fG:1<=limit->limit<=50->(zcn ps s&&qE (zN s))=true->zka ps S rs limit.toNat (lQ S ps.length) 0 [] none->wJ w ps S rs s limit w' (zir 0 0 (.slice none 0 0)) 7
 | out {l:List zP} {k:Nat} {x:B8} {a:O8} {c:Nat}:1<=limit->limit<=50->(zcn ps s&&qE (zN s))=true->zka ps S rs limit.toNat (lQ S ps.length) 0 [] (some l)->l.length<=50->x.data.toList=jH (zN s)->jE l x<0->k=(if 0<=zM ps (zN s).pred then S (zM ps (zN s).pred).toNat+1 else 0)->w'.ownsRow w.heap.size 5 1 (.slice a (znp k l (λ i=>decide (lS l i<k))).length c) (znp k l (λ i=>decide (lS l i<k))).length ((znp k l (λ i=>decide (lS l i<k))).map u8c)->wJ w ps S rs s limit w' (zir 2 0 (.slice a (znp k l (λ i=>decide (lS l i<k))).length c)) 0
 | yes {l:List zP} {f:Nat} {x:B8} {a:O8} {c:Nat}:1<=limit->limit<=50->(zcn ps s&&qE (zN s))=true->zka ps S rs limit.toNat (lQ S ps.length) 0 [] (some l)->l.length<=50->x.data.toList=jH (zN s)->jE l x=(f:Int)->f<l.length->w'.ownsRow w.heap.size 5 1 (.slice a (znp (lS l f) l (zh7 l (lS l f) l.length (zbg (λ _=>false) f true))).length c) (znp (lS l f) l (zh7 l (lS l f) l.length (zbg (λ _=>false) f true))).length ((znp (lS l f) l (zh7 l (lS l f) l.length (zbg (λ _=>false) f true))).map u8c)->wJ w ps S rs s limit w' (zir 1 (lH l f:Nat) (.slice a (znp (lS l f) l (zh7 l (lS l f) l.length (zbg (λ _=>false) f true))).length c)) 0
def z96 (w:W8)(ps:P9)(S:Nat->Nat)(rs:List zS)(s:B8)(limit:Int)(e:Ending)(w':W8):Prop:=
 ∃ v n,e=.returned (.tuple #[v,.int .i64 (n:Nat)])/\wJ w ps S rs s limit w' v n/\Below w.heap.size w w'
end
end Go.Proofs.YtldkpahaocjdpaaGreat
