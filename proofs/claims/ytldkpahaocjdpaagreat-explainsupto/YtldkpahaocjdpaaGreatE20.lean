/-
  denied: whether a negative literal is said after all.
-/
import Derived.Test.YtldkpahaocjdpaaGreatE19
import Derived.Deep.RegionHeld3
import Derived.RangeFuncBound
import Derived.RangeFuncCalls
import Derived.RangeFuncLeaves
import Derived.Shelf.Abstract
import Derived.Shelf.RegionOpen
import Derived.OwnWalkIn
import Derived.TacticsInMore
import Derived.LoopNIn
import Derived.LoopIn
import Derived.Stop.RegionWithIn
set_option maxHeartbeats 16000000
set_option maxRecDepth 1000000
namespace Go.Proofs.YtldkpahaocjdpaaGreat
section
open Go.RowKit
attribute [local go_sem ↓] zcf zba zxf
attribute [local go_sem] j2 qS zsv
theorem zo4 (x:jZ × Value):(zk1 x).length=2:=rfl
theorem zx5 (No:Nat->Prop)(w:W8)(sb mb l:Nat)(pos neg:List (jZ × Value))(pv nv:Value)(K:List (Th × Nat))(h:Hj No w sb mb l pos neg pv nv K)(e:yR)(hl:e.length<=12)(bR:∀ x∈neg,zdu (xV e x.1)):
  Calls Tryz.prog 248 #[.pointer (some ⟨sb,0,none⟩),zav e] w λ en w'=>en=.returned (.bool (j6 K (neg.map (·.1)) e))/\Below w.heap.size w w':=by
 obtain⟨cs,ij⟩:∃ cs,cs=(yQ e).toArray:=⟨_,rfl⟩;have DS:=zC ij;unfold zav;rw[<-ij];clear ij;obtain⟨base,aB⟩:=h.n.row;obtain⟨an,cn,rfl⟩:=zD aB;have gR:=yU aB;unfold maxLen at gR;have gC:=zC aB;have EC:=(Array.getElem?_eq_some_iff.1 h.s).1;have Jr:=zC EC;have H:=zC h;have iN:=zC bR;have q0:cs.size=25:=by rw[zA DS];rfl
 clear h aB bR EC;go_enter Tryz.func248,Tryz.ntmps248;go_upto_region 1 with fail;generalize bC:World.alloc w _=w0;have k0:Below w.heap.size w w0:=by rw[<-bC];exact (Below.refl w.heap.size w).alloc L9 _
 have x0:w0.heap[w.heap.size]?=some (.cells cs 135 (0,0)):=by rw[<-bC];exact heap_alloc_new w _
 have s0:w.heap.size+1=w0.heap.size:=by rw[<-bC];simp
 have ri:w0.heap[sb]?=some (.cells #[pv,.slice an neg.length cn,.map (some mb),.func (.yield l) #[] #[]] 361 (0,0)):=(k0.block sb (zA Jr)).trans (zA H).s;have fu:=zZ (zA gC) (λ g e=>k0.block g ((zA gC).lt g e).2);clear bC;obtain⟨c1,-⟩:=zB ri 1;have rT:=zC x0;have HS:=zC ri;have dr:=zC k0;have py:=zC fu;clear x0 ri k0 fu;go_wp2_with fail
 go_loopg [14] neg.length (λ gg i wr=>∃ k:Nat,k<=neg.length/\gg=neg.length-k/\i=.int .i64 k/\j6 K ((neg.drop k).map (·.1)) e=j6 K (neg.map (·.1)) e/\Below w0.heap.size w0 wr)
 exact⟨0,Nat.zero_le _,rfl,rfl,rfl,Below.refl _ _⟩
 case round=>
  obtain⟨k,hk,eD,rfl,aE,hb⟩:=hrel;have HF:=zC aE;have HB:=zC hb;have sz:=hb.size;have eo:Below w.heap.size w wr:=(zA dr).trans (hb.mono (by omega));have uK:=zC eo;clear aE hb eo
  by_cases aF:k<neg.length
  ·obtain⟨g,cap,hv,iF,aZ,bO,bQ,hc⟩:=vX zo4 (zA py) k aF;injection hv with h1 h2 h3
   subst h1 h3;have d0:=hc 0 (by omega);have d1:=hc 1 (by omega);have hx:neg[k]∈neg:=List.getElem_mem aF;obtain⟨tb,lN⟩:=(zA H).n.ae _ hx;obtain⟨ta,tc,AR⟩:=zD lN;have kN:=(zA H).n.eJ _ hx;obtain⟨D,hD⟩:∃ D,D=neg[k].1:=⟨_,rfl⟩;have vr:w.ownsRow tb 191 1 (.slice ta D.ts.length tc) D.ts.length (D.ts.map zc3):=(by rw[hD,<-AR];exact lN);have e0:wr.cell? ⟨g,k*2+0,none⟩=some (.string D.p):=by
    rw[hD];exact ((zA HB).cell (p:=⟨g,k*2+0,none⟩) aZ).trans (hc 0 (by omega))
   have e1:wr.cell? ⟨g,k*2+1,none⟩=some (.slice ta D.ts.length tc):=by
    rw[hD,<-AR];exact ((zA HB).cell (p:=⟨g,k*2+1,none⟩) aZ).trans (hc 1 (by omega))
   have Hx:=zC vr;have uk:=zC (show j6 K ((neg.drop k).map (·.1)) e=((yS K (xV e D)).isSome||j6 K ((neg.drop (k+1)).map (·.1)) e) by rw[List.drop_eq_getElem_cons aF,hD];rfl);have Jv:=zC (show zdu (xV e D) by rw[hD];exact zA iN _ hx);rw[<-hD] at kN;have nu:(k:Int)<neg.length:=(by omega);rw[Nat.add_zero] at e0;clear hc d0 d1 lN AR vr hx hD;go_upto_region 4 with fail;generalize xo:World.alloc wr _=w3;have k3:Below wr.heap.size wr w3:=(by rw[<-xo];exact (Below.refl wr.heap.size wr).alloc L9 _);have s3:wr.heap.size+1=w3.heap.size:=(by rw[<-xo];simp);have b3:Below w.heap.size w w3:=(zA uK).trans (k3.mono (by omega));have JL:Below w0.heap.size w0 w3:=(zA HB).trans (k3.mono (by omega));obtain⟨a0,-⟩:=zB (show w3.heap[wr.heap.size]?=some (.cells #[.string D.p,.slice ta D.ts.length tc] 79 (0,0)) by rw[<-xo];exact heap_alloc_new wr _) 0;obtain⟨a1,-⟩:=zB (show w3.heap[wr.heap.size]?=some (.cells #[.string D.p,.slice ta D.ts.length tc] 79 (0,0)) by rw[<-xo];exact heap_alloc_new wr _) 1;obtain⟨a2,-⟩:=zB ((JL.block sb (by have:=zA Jr;omega)).trans (zA HS)) 2;have r0:BV w3 w.heap.size e:=(by unfold BV;rw[<-zA DS];exact (JL.block _ (by omega)).trans (zA rT));have Iq:∀ w':W8,BV w' w.heap.size e->(ztv (.pointer (some ⟨w.heap.size,0,none⟩))).run Tryz.prog w'=.ok (zav e) w':=λ _ h=>h.load
   simp only[List.getElem?_toArray,List.getElem?_cons_zero,List.getElem?_cons_succ] at a0 a1 a2;have Lx:=zA Jr;have CA:=zC (λ (W:W8) (hW:Below w3.heap.size w3 W)=>(zA H).m.block ((hW.block mb (by have:=(zA H).m.lt;omega)).trans (b3.block mb (zA H).m.lt)));have lJ:=zC (λ (W:W8) (hW:Below w3.heap.size w3 W)=>(zmg W tb e D ta tc (zZ (zA Hx) (λ g e1=>(hW.block g (by have:=((zA Hx).lt g e1).2;omega)).trans (b3.block g ((zA Hx).lt g e1).2))) kN hl));have HA:=zC (λ (W:W8) (hW:Below w3.heap.size w3 W)=>(show BV W w.heap.size e/\W.cell? ⟨sb,2,none⟩=some (.map (some mb))/\W.cell? ⟨wr.heap.size,0,none⟩=some (.string D.p)/\W.cell? ⟨wr.heap.size,1,none⟩=some (.slice ta D.ts.length tc) from ⟨r0.below hW,(hW.cell (p:=⟨sb,2,none⟩) (by simp only[];omega)).trans a2,(hW.cell (p:=⟨wr.heap.size,0,none⟩) (by simp only[];omega)).trans a0,(hW.cell (p:=⟨wr.heap.size,1,none⟩) (by simp only[];omega)).trans a1⟩));have yg:=zC b3;have IY:=zC JL;have HS3:=zC s3;clear xo k3 s3 b3 JL e0 e1 c1 q0 s0 sz
   cases hq:(yS K (xV e D)).isSome with
   | true=>
    have HE:=zC (show j6 K (neg.map (·.1)) e=true by rw[<-zA HF,zA uk,hq];rfl);have HQ:=zC hq;have Fp:=zC (λ (W:W8) (hW:Below w3.heap.size w3 W)=>(show (Instr.lookup 82 (.map (some mb)) (thV (xV e D)) true).run Tryz.prog W=.ok (.tuple #[.int .i64 (((yS K (xV e D)).getD 0:Nat):Int),.bool true]) W from by have:=(zA CA W hW).look (t:=xV e D) (zA Jv) Tryz.underlying82;rw[hq] at this;exact this));clear hq
    go_region_held3 (λ w'=>BV w' w.heap.size e/\w'.cell? ⟨sb,2,none⟩=some (.map (some mb))/\w'.cell? ⟨wr.heap.size,0,none⟩=some (.string D.p)/\w'.cell? ⟨wr.heap.size,1,none⟩=some (.slice ta D.ts.length tc)) ((simp[*,z0e])) ((first | (go_at_call 146;refine (zA lJ _ (by exact B9.drew)).mono ?_;rintro en w4 ⟨bZ,rfl⟩;have uu:=zA HA w4 (yA bZ);have Qi:=zA Fp w4 (yA bZ);have iM:=zC (yA bZ);clear bZ)))
    go_wp2_with fail;go_ret;exact⟨by rw[zA HE];rfl,(zA yg).trans ((zA iM).mono (by exact (zA yg).size))⟩
   | false=>
    have HE:=zC (show j6 K ((neg.drop (k+1)).map (·.1)) e=j6 K (neg.map (·.1)) e by rw[<-zA HF,zA uk,hq];rfl);have HQ:=zC hq;have Fp:=zC (λ (W:W8) (hW:Below w3.heap.size w3 W)=>(show (Instr.lookup 82 (.map (some mb)) (thV (xV e D)) true).run Tryz.prog W=.ok (.tuple #[.int .i64 (((yS K (xV e D)).getD 0:Nat):Int),.bool false]) W from by have:=(zA CA W hW).look (t:=xV e D) (zA Jv) Tryz.underlying82;rw[hq] at this;exact this));clear hq
    go_region_held3 (λ w'=>BV w' w.heap.size e/\w'.cell? ⟨sb,2,none⟩=some (.map (some mb))/\w'.cell? ⟨wr.heap.size,0,none⟩=some (.string D.p)/\w'.cell? ⟨wr.heap.size,1,none⟩=some (.slice ta D.ts.length tc)) ((simp[*,z0e])) ((first | (go_at_call 146;refine (zA lJ _ (by exact B9.drew)).mono ?_;rintro en w4 ⟨bZ,rfl⟩;have uu:=zA HA w4 (yA bZ);have Qi:=zA Fp w4 (yA bZ);have iM:=zC (yA bZ);clear bZ)))
    go_wp2_with fail;go_roundg (neg.length-(k+1));exact⟨k+1,by omega,rfl,by go_num,zA HE,(zA IY).trans ((zA iM).mono (zA IY).size)⟩;omega
  ·have HE:=zC (show j6 K (neg.map (·.1)) e=false by rw[<-zA HF,List.drop_of_length_le (by omega)];rfl);go_wp2_with fail;go_ret;exact⟨by rw[zA HE];rfl,zA uK⟩
end
section
open Go.RowKit Go.Shelf
attribute [local go_sem ↓] zcf zba zxf
attribute [local go_sem] j2 qS zsv
def z0z (No:Nat->Prop)(l N:Nat)(Qx:yR->Prop)(J Jx:List yR->W8->Prop):Prop:=
 ∀ (m:Nat) (pre:List yR) (x:yR) (W:W8),Qx x->J pre W->pre.length<N->YieldAt Fence.wide m Tryz.prog l #[zav x] W λ en W'=>
  ∃ c:Bool,en=.returned (.bool c)/\(c=true->J (pre++[x]) W'/\qH No W W')/\(c=false->Jx (pre++[x]) W')
def zvi (No:Nat->Prop)(J Jx:List yR->W8->Prop)(pre ws:List yR)(M:Nat)(w:W8)(en:Ending)(w':W8):Prop:=
 (en=.returned (.bool true)/\∃ ys,(∀ x,x∈ys↔x∈ws)/\ys.length<=M/\J (pre++ys) w'/\qH No w w')\/(en=.returned (.bool false)/\∃ ys,(∀ x∈ys,x∈ws)/\Jx (pre++ys) w')
theorem zap {B:Nat}{J:List yR->W8->Prop}(hJ:AbidesFrom B J){s:List yR}{w w':W8}(h:J s w)(k:Below w.heap.size w w'):J s w':=
 hJ s w w' none h ⟨k.os,k.tape,k.output,k.size,λ i hi _=>k.block i hi⟩ (λ _ e=>by cases e)
theorem z2d (No:Nat->Prop)(w:W8)(sb mb l:Nat)(pos neg:List (jZ × Value))(pv nv:Value)(K:List (Th × Nat))(h:Hj No w sb mb l pos neg pv nv K)(e:yR)(hl:e.length<=12)(bR:∀ x∈neg,zdu (xV e x.1))
  (Qx:yR->Prop) (hq:∀ x∈zbe K (neg.map (·.1)) [] e,Qx x) (J Jx:List yR->W8->Prop) (B N:Nat) (hJ:AbidesFrom B J) (hY:z0z No l N Qx J Jx) (pre:List yR) (hp:J pre w) (hN:pre.length<N) (eY:∀ g,No g->g<w.heap.size):
  Calls Tryz.prog 234 #[.pointer (some ⟨sb,0,none⟩),.int .i64 (pos.length:Nat),zav e] w (zvi No J Jx pre (zbe K (neg.map (·.1)) [] e) 1 w):=by
 obtain⟨base,aB⟩:=h.p.row;obtain⟨an,cn,rfl⟩:=zD aB;have gR:=yU aB;unfold maxLen at gR;have EC:=(Array.getElem?_eq_some_iff.1 h.s).1;have Jr:=zC EC;have H:=zC h;have HP:=zC hp;have HY:=zC hY;have HJ:=zC hJ;have OB:=zC hN;have iN:=zC bR;have B0:=zC eY;have HQ:=zC hq;clear hq;clear h aB EC hp hY hJ hN bR eY;go_enter Tryz.func234,Tryz.ntmps234;go_upto_region 1 with fail;generalize bC:World.alloc w _=w0;have k0:Below w.heap.size w w0:=by rw[<-bC];exact (Below.refl w.heap.size w).alloc L9 _
 have x0:BV w0 w.heap.size e:=by rw[<-bC];exact BV.new w e
 have s0:w.heap.size+1=w0.heap.size:=by rw[<-bC];simp
 have zt:=(zA H).kZ (qH.ak k0);clear bC;obtain⟨c1,-⟩:=zB zt.s 0;have rT:=zC x0;have dr:=zC k0;have I4:=zC zt;have CG:=zC (zap (zA HJ) (zA HP) k0);clear zt x0 k0;go_upto_region 2 with fail;obtain⟨c3,-⟩:=zB (zA I4).s 3;have Iq:∀ w':W8,BV w' w.heap.size e->(ztv (.pointer (some ⟨w.heap.size,0,none⟩))).run Tryz.prog w'=.ok (zav e) w':=λ _ h=>h.load
 have KQ:=Iq w0.drew (zA rT);have HD:=zC (λ (W:W8) (hW:Below w0.heap.size w0 W)=>(zx5 No W sb mb l pos neg _ nv K ((zA I4).kZ (qH.ak hW)) e hl (zA iN)));have Mq:=zC (λ (W:W8) (hW:Below w0.heap.size w0 W)=>Iq W ((zA rT).below hW));have Hp:=zC (λ (W:W8) (hW:Below w0.heap.size w0 W)=>(hW.cell (p:=⟨sb,3,none⟩) (by have:=zA Jr;simp only[];omega)).trans c3);have Sa:=zC (λ (W:W8) (hW:Below w0.heap.size w0 W)=>zap (zA HJ) (zA CG) hW);clear Iq c1 c3
 cases hd:j6 K (neg.map (·.1)) e with
 | true=>
  rw[hd] at HD;have HW:=zC (show zbe K (neg.map (·.1)) [] e=[] by unfold zbe yD;simp[hd]);clear hd
  first | go_region_with (go_at_call 248;refine (zA HD _ (by exact B9.drew)).mono ?_;rintro en w4 ⟨rfl,bZ⟩;have iM:=zC (yA bZ);clear bZ) | fail
  all_goals
   go_wp2_with fail;go_ret;rw[zA HW];exact .inl ⟨rfl,[],λ _=>Iff.rfl,by simp,by rw[List.append_nil];exact zA Sa _ (zA iM),(qH.ak (zA dr)).trans (qH.ak (zA iM))⟩
 | false=>
  rw[hd] at HD;have HW:=zC (show zbe K (neg.map (·.1)) [] e=[e] by unfold zbe yD;simp[hd]);have OI:Qx e:=zA HQ e (by rw[zA HW];exact List.mem_singleton.2 rfl);clear hd;refine (wpIn_wide (n:=2)).1 ?_
  first | gi_region_with (first | (refine⟨trivial,?_⟩;gi_at_call 248;refine (callsIn_wide.2 (zA HD _ (by exact B9.drew))).mono ?_;rintro en w4 ⟨rfl,bZ⟩;have iM:=zC (yA bZ);have l4:=zA Mq w4 (zA iM);have y4:=zA Hp w4 (zA iM);obtain⟨fn,tmps,assign,body,hy,hR⟩:=zA HY 1 pre e w4 OI (zA Sa w4 (zA iM)) (zA OB);clear bZ) | (refine hR.mono ?_;rintro en w5 ⟨c,rfl,h5⟩;have H5:=zC h5;clear h5 hR hy)) | fail
  all_goals
   go_wp2_with fail;go_ret;rw[zA HW]
   cases c with
   | true=>exact .inl ⟨rfl,[e],λ _=>Iff.rfl,by simp,((zA H5).1 rfl).1,((qH.ak (zA dr)).trans (qH.ak (zA iM))).trans ((zA H5).1 rfl).2⟩
   | false=>exact .inr ⟨rfl,[e],λ _ h=>h,(zA H5).2 rfl⟩
end
section
open Go.RowKit Go.Maps
attribute [local go_sem ↓] zcf zba zc1 zbb qQ qP j2 qO
attribute [local go_sem] qS zbo jY jX
def ID (K:List (Th × Nat))(neg:List jZ)(a:jZ)(r:List jZ)(e:yR)(Lf:Th->Prop)(x:yR):Prop:=∃ p∈K,¬ Lf p.1/\∃ e',xG e a p.1=some e'/\x∈zbe K neg r e'
variable {e x:yR} {r neg:List jZ} {a:jZ} {K:List (Th × Nat)}
theorem zl7:x∈zbe K neg (a::r) e↔∃ p∈K,∃ e',xG e a p.1=some e'/\x∈zbe K neg r e':=by
 unfold zbe;rw[List.mem_filter,yD,List.mem_flatMap]
 constructor
 ·rintro⟨⟨p,hp,hx⟩,hd⟩
  cases hm:xG e a p.1 with
  | none=>rw[hm] at hx;cases hx
  | some e'=>rw[hm] at hx;exact⟨p,hp,e',hm,List.mem_filter.2 ⟨hx,hd⟩⟩
 ·rintro⟨p,hp,e',hm,hx⟩;obtain⟨h1,h2⟩:=List.mem_filter.1 hx;exact⟨⟨p,hp,by rw[hm];exact h1⟩,h2⟩
theorem zr2 {e':yR}{p:Th × Nat}(hp:p∈K)(hm:xG e a p.1=some e')(hx:x∈yD K r e'):x∈yD K (a::r) e:=by
 rw[yD,List.mem_flatMap];exact⟨p,hp,by rw[hm];exact hx⟩
theorem ID.step {Lf:Th->Prop}{t:Th}{n:Nat}(ht:(t,n)∈K):ID K neg a r e (λ y=>Lf y/\y≠t) x↔ID K neg a r e Lf x\/∃ e',xG e a t=some e'/\x∈zbe K neg r e':=by
 constructor
 ·rintro⟨p,hp,hn,hx⟩
  by_cases e1:p.1=t
  ·right;rw[e1] at hx;exact hx
  ·left;exact⟨p,hp,λ h=>hn ⟨h,e1⟩,hx⟩
 ·rintro (⟨p,hp,hn,hx⟩ | hx)
  ·exact⟨p,hp,λ h=>hn h.1,hx⟩
  ·exact⟨(t,n),ht,λ h=>h.2 rfl,hx⟩
structure z9c (No:Nat->Prop)(J:List yR->W8->Prop)(w:W8)(mb rb:Nat)(K:List (Th × Nat))(neg:List jZ)(a:jZ)(r:List jZ)(e:yR)(pre:List yR)(M:Nat)(Lf:Th->Prop)(ys:List yR)(eC:Nat)(wr:W8):Prop where
 rg:so wr mb rb K Lf eC
 cn:eC<=K.length
 mem:∀ x,x∈ys↔ID K neg a r e Lf x
 len:ys.length<=(K.length-eC)*M
 j:J (pre++ys) wr
 kp:qH No w wr
 bv:BV wr w.heap.size e
variable {M g d:Nat}
theorem z79 (h0:0<g)(h:g<=M):(M-g)*M ^ d+M ^ d<=M ^ (d+1):=by
 have e1:(M-g)*M ^ d+M ^ d=(M-g+1)*M ^ d:=by rw[Nat.succ_mul]
 rw[e1,Nat.pow_succ,Nat.mul_comm];exact Nat.mul_le_mul_left _ (by omega)
theorem z42 {c:Nat}(h:c<g)(hg:g<=M):(M-g)*M ^ d+M ^ d<=(M-c)*M ^ d:=by
 have e1:(M-g)*M ^ d+M ^ d=(M-g+1)*M ^ d:=by rw[Nat.succ_mul]
 rw[e1];exact Nat.mul_le_mul_right _ (by omega)
theorem z65 (No:Nat->Prop)(sb mb l:Nat)(pos neg:List (jZ × Value))(pv nv:Value)(K:List (Th × Nat))(Qx:yR->Prop)(J Jx:List yR->W8->Prop)(B N:Nat)(hJ:AbidesFrom B J)(hY:z0z No l N Qx J Jx)(Pv:∀ g,No g->g<B)(Vs:List B8)(hV:Vs.length<=12)(Uy:∀ x∈pos,∀ t∈x.1.ts,t.1=true->t.2∈Vs):∀ (d i:Nat) (e:yR) (w:W8) (pre:List yR),i+d=pos.length->Hj No w sb mb l pos neg pv nv K->J pre w->B<=w.heap.size->vZ Vs e->(∀ e'∈yD K ((pos.drop i).map (·.1)) e,∀ x∈neg,zdu (xV e' x.1))->pre.length+K.length ^ d<=N->(∀ x∈zbe K (neg.map (·.1)) ((pos.drop i).map (·.1)) e,Qx x) ->
  Calls Tryz.prog 234 #[.pointer (some ⟨sb,0,none⟩),.int .i64 (i:Nat),zav e] w (zvi No J Jx pre (zbe K (neg.map (·.1)) ((pos.drop i).map (·.1)) e) (K.length ^ d) w):=by
 intro d
 induction d with
 | zero=>
  intro i e w pre hi hC hp hB hl bR hN hq;rw[Nat.add_zero] at hi;subst hi;have hd:(pos.drop pos.length).map (·.1)=([]:List jZ):=by rw[List.drop_length];rfl
  rw[hd] at bR hq ⊢;exact z2d No w sb mb l pos neg pv nv K hC e (by have:=hl.len;omega) (bR e (by simp[yD])) Qx hq J Jx B N hJ hY pre hp (by rw[Nat.pow_zero] at hN;omega) (λ g hg=>by have:=Pv g hg;omega)
 | succ d ih=>
  intro i e w pre hi hC hp hB hl bR hN hq;have HQ:=zC hq;clear hq;have kP:i<pos.length:=by omega
  obtain⟨base,aB⟩:=hC.p.row;obtain⟨an,cn,rfl⟩:=zD aB;have gR:=yU aB;unfold maxLen at gR;have VY:=zC ih;have Ff:=zC hl;have WM:=zC Uy;have H:=zC hC;have HP:=zC hp;have HJ:=zC hJ;have HY:=zC hY;have OB:=zC hN;have iN:=zC bR;have pU:=zC Pv;have HB:=zC hB;have HI:=zC hi;have EC:=(Array.getElem?_eq_some_iff.1 hC.s).1;have bF:(i:Int)≠pos.length:=by omega
  clear ih hC hp hJ hY hN bR Pv hB aB hi hl Uy;go_enter Tryz.func234,Tryz.ntmps234;go_upto_region 1 with fail;generalize bC:World.alloc w _=w0;have k0:Below w.heap.size w w0:=by rw[<-bC];exact (Below.refl w.heap.size w).alloc L9 _
  have x0:BV w0 w.heap.size e:=by rw[<-bC];exact BV.new w e
  have s0:w0.heap.size=w.heap.size+1:=by rw[<-bC];simp
  have zt:=(zA H).kZ (qH.ak k0);clear bC;obtain⟨c0,-⟩:=zB zt.s 0;obtain⟨c2,-⟩:=zB zt.s 2;have Cd:=zt.m;have rT:=zC x0;have dr:=zC k0;have CG:=zC (zap (zA HJ) (zA HP) k0);have lV:=zC s0;clear zt x0 k0 s0;go_wp2_with (first | (at_range;refine znb _ rfl _ 82 rfl Tryz.underlying82 mb K rfl Cd ?_;intro w1 hrg1 jg sg) | go_in)
  try go_frame
  obtain⟨AT,Pm⟩:∃ AT,AT=pos[i].1:=⟨_,rfl⟩;obtain⟨RS,Px⟩:∃ RS,RS=(pos.drop (i+1)).map (·.1):=⟨_,rfl⟩;have KC:(pos.drop i).map (·.1)=AT::RS:=by rw[Pm,Px,List.drop_eq_getElem_cons kP,List.map_cons]
  have h0:z9c No J w mb w0.heap.size K (neg.map (·.1)) AT RS e pre (K.length ^ d) (λ _=>True) [] K.length w1:=by
   have kk:Below w0.heap.size w0 w1:=⟨jg.os,jg.tape,jg.output,jg.size,λ j hj=>jg.block j hj (by simp)⟩;refine⟨hrg1,Nat.le_refl _,λ x=>⟨λ h=>absurd h List.not_mem_nil,λ ⟨p,hp,hn,_⟩=>absurd trivial hn⟩,by simp,?_,(qH.ak (zA dr)).trans (qH.ak kk),(zA rT).below kk⟩;rw[List.append_nil];exact zap (zA HJ) (zA CG) kk
  have Mu:=zC KC;have sx:=zC Pm;have DX:=zC Px;clear hrg1 jg sg Cd c0 c2 KC Pm Px
  go_loopg [] K.length (λ gg wr=>∃ (Lf:Th->Prop) (ys:List yR),z9c No J w mb w0.heap.size K (neg.map (·.1)) AT RS e pre (K.length ^ d) Lf ys gg wr)
  exact⟨_,_,h0⟩
  case round=>
   clear h0;obtain⟨Lf,ys,ax⟩:=hrel;have oL:=ax.rg;have bT:=zC ax;clear ax;go_wp2_with (first | (at_next;refine zqi _ rfl _ rfl mb w0.heap.size K Lf gk rfl oL ?_ ?_) | go_in)
   ·intro dj;have HD:=zC dj;clear dj oL;go_wp2_with fail;go_ret;rw[zA Mu];have ax:=zA bT;refine .inl ⟨rfl,ys,λ x=>?_,?_,ax.j,ax.kp⟩
    ·rw[ax.mem,zl7];exact⟨λ ⟨p,hp,_,h⟩=>⟨p,hp,h⟩,λ ⟨p,hp,h⟩=>⟨p,hp,zA HD p.1.1 p.1.2 p.2 hp,h⟩⟩
    ·refine Nat.le_trans ax.len ?_;rw[Nat.pow_succ,Nat.mul_comm];exact Nat.mul_le_mul_left _ (Nat.sub_le _ _)
   ·intro tp tts n w2 cnt2 nz qx hrg2 gn fL sj hen2;generalize ((tp,tts):Th)=t at *;have ax:=zA bT;have ri:=zA lV;have Rh:qH No w w2:=ax.kp.grown fL (λ r e1=>.inl (by cases e1;omega));have SN:BV w2 w.heap.size e:=(fL.block _ ax.bv.lt (by simp;omega)).trans ax.bv;have TW:J (pre++ys) w2:=zA HJ _ _ _ _ ax.j fL (λ r e1=>by cases e1;exact⟨by have:=zA HB;omega,ax.rg.iter⟩);have J2:=(zA H).kZ Rh;have sF:=zC hrg2;have Oq:=zC Rh;have VZ:=zC TW;have Mr:=zC J2;have I1:=zC SN;have oy:=zC nz;have hlen:=ax.len;have pR:=zC hlen;have M7:=ax.cn;have eD:=gn;have kr:=zC ax.mem;have V9:=zC qx;clear sj oL hrg2 fL Rh SN TW J2 nz hlen ax bT qx ri;go_upto_region 6 with fail;generalize xo:World.alloc w2 _=w3;have k3:Below w2.heap.size w2 w3:=(by rw[<-xo];exact (Below.refl w2.heap.size w2).alloc L9 _);have t3:TV w3 w2.heap.size t:=(by rw[<-xo];exact TV.new w2 t);have s3:w3.heap.size=w2.heap.size+1:=(by rw[<-xo];simp);have b3:BV w3 w.heap.size e:=(zA I1).below k3;have zb:=(zA Mr).kZ (qH.ak k3);obtain⟨a0,-⟩:=zB zb.s 0;obtain⟨JO,lM⟩:=zb.p.row;obtain⟨g,cap,hv,iF,aZ,bO,bQ,hc⟩:=vX zo4 lM i kP;injection hv with h1 h2 h3
    subst h1 h3;have hx:pos[i]∈pos:=List.getElem_mem kP;obtain⟨tb,lN⟩:=zb.p.ae _ hx;obtain⟨ta,tc,AR⟩:=zD lN;have kN:=zb.p.eJ _ hx;rw[<-zA sx] at kN;have e0:w3.cell? ⟨g,i*2,none⟩=some (.string AT.p):=(by have:=hc 0 (by omega);rw[zA sx];exact this);have e1:w3.cell? ⟨g,i*2+1,none⟩=some (.slice ta AT.ts.length tc):=(by have:=hc 1 (by omega);rw[zA sx,<-AR];exact this);have vr:w3.ownsRow tb 191 1 (.slice ta AT.ts.length tc) AT.ts.length (AT.ts.map zc3):=(by rw[zA sx,<-AR];exact lN);have Jy:=zC (show ∀ t∈AT.ts,t.1=true->t.2∈Vs by rw[zA sx];exact zA WM _ hx);have HM:=zC (λ (W:W8) (hW:Below w3.heap.size w3 W)=>zof W tb e AT ta tc t (zZ vr (λ g e1=>hW.block g (vr.lt g e1).2)) kN Vs hV (zA Ff) (zA Jy));have HA:=zC (λ (W:W8) (hW:Below w3.heap.size w3 W)=>(show BV W w.heap.size e/\TV W w2.heap.size t/\W.cell? ⟨sb,0,none⟩=some (.slice (some ⟨g,0,none⟩) pos.length cn)/\W.cell? ⟨g,i*2,none⟩=some (.string AT.p)/\W.cell? ⟨g,i*2+1,none⟩=some (.slice ta AT.ts.length tc) from ⟨b3.below hW,t3.below hW,(hW.cell (p:=⟨sb,0,none⟩) (by have:=(Array.getElem?_eq_some_iff.1 zb.s).1;exact this)).trans a0,(hW.cell (p:=⟨g,i*2,none⟩) aZ).trans e0,(hW.cell (p:=⟨g,i*2+1,none⟩) aZ).trans e1⟩));have Qg:∀ w':W8,BV w' w.heap.size e->(ztv (.pointer (some ⟨w.heap.size,0,none⟩))).run Tryz.prog w'=.ok (zav e) w':=λ _ h=>h.load
    have Qh:∀ w':W8,TV w' w2.heap.size t->(zmx (.pointer (some ⟨w2.heap.size,0,none⟩))).run Tryz.prog w'=.ok (thV t) w':=λ _ h=>h.load
    have Hp:=zC zb;have Je:=zC k3;have Cc:(i:Int)<pos.length:=(by omega);have d1:w.heap.size≠w3.heap.size:=(by have:=b3.lt;omega);have d2:w2.heap.size≠w3.heap.size:=(by omega);have d3:sb≠w3.heap.size:=(by have:=(Array.getElem?_eq_some_iff.1 zb.s).1;omega);have d4:g≠w3.heap.size:=(by omega);clear s3;simp only[List.getElem?_toArray,List.getElem?_cons_zero] at a0;clear xo k3 zb lM hc hx lN AR vr h2;obtain⟨R,hR⟩:∃ R,R=xG e AT t:=⟨_,rfl⟩;rw[<-hR] at HM;have HR:=zC hR;clear hR
    go_cut [8,9] from 37 to 59 (λ p c wc=>∃ nb,p=.pointer (some ⟨nb,0,none⟩)/\c=.bool R.isSome/\BV wc nb (R.getD [])/\Below w3.heap.size w3 wc)
    case first=>
     go_region_held3 (λ w'=>BV w' w.heap.size e/\TV w' w2.heap.size t/\w'.cell? ⟨sb,0,none⟩=some (.slice (some ⟨g,0,none⟩) pos.length cn)/\w'.cell? ⟨g,i*2,none⟩=some (.string AT.p)/\w'.cell? ⟨g,i*2+1,none⟩=some (.slice ta AT.ts.length tc)) ((refine zA HA _ ?_;first | exact dN | exact B9.drew | exact (B9.alloc L9 _).drew | exact dN.alloc dN.size _ | exact xN dN L9 _)) ((go_at_call 62;refine (zA HM _ (by first | exact B9.drew | exact (B9.alloc L9 _).drew)).mono ?_;rintro en w4 ⟨bZ,rfl⟩;have dN:Below w3.heap.size w3 w4:=(by first | exact yA bZ | exact zf3 (B9.alloc L9 _) bZ);first | (have Gw:=((BV.new w3 []).below (yA bZ)).store (R.getD [])) | skip))
     all_goals
      go_wp2_with fail;go_meet
      case rel=>first | exact⟨_,rfl,rfl,BV.new _ _,dN.alloc dN.size _⟩ | exact⟨_,rfl,rfl,setRow_heap _ _ _ _ _ _ ((BV.new w3 []).below (yA bZ)),xN dN L9 _⟩
    case rest=>
     generalize wc=wA at *;obtain⟨nb,rfl,rfl,gT,ql⟩:=hcut;have P6:qH No w2 wA:=(qH.ak (zA Je)).trans (qH.ak ql);have LV:Below w2.heap.size w2 wA:=(zA Je).trans (ql.mono (zA Je).size);have TY:J (pre++ys) wA:=zap (zA HJ) (zA VZ) LV;have Lt:so wA mb w0.heap.size K (λ x=>Lf x/\¬ x=t) cnt2:=(zA sF).blocks (LV.block _ (zA sF).map.lt) (LV.block _ (zA sF).lt);have Tc:=(zA Mr).kZ P6;have Gd:(ztv (.pointer (some ⟨nb,0,none⟩))).run Tryz.prog wA=.ok (zav (R.getD [])) wA:=gT.load;have R9:=zC TY;have CJ:=zC Lt;have I5:=zC Tc;have Fo:=zC ((zA Oq).trans P6);have I2:=zC ((zA I1).below LV);have Vc:=Nat.le_trans (zA Fo).size L9;have OQ:=zC Vc;clear gT ql P6 LV TY Lt Tc Qg Qh t3 b3 e0 e1 a0 d1 d2 d3 d4 HA HM Hp Je Vc aZ iF hen2
     cases hr:R with
     | none=>
      have uL:=zC ((zA HR).symm.trans hr);rw[hr] at Gd;clear hr Gd;go_wp2_with fail;go_roundg cnt2
      case measure=>omega
      case rel=>
       refine⟨_,ys,zA CJ,by omega,λ x=>?_,?_,zA R9,zA Fo,zA I2⟩
       ·rw[zA kr x,ID.step (zA oy)];exact⟨.inl,λ h=>h.elim id λ ⟨e',h1,_⟩=>by rw[zA uL] at h1;cases h1⟩
       ·exact Nat.le_trans (zA pR) (Nat.mul_le_mul_right _ (by omega))
     | some e2=>
      have uL:=zC ((zA HR).symm.trans hr);rw[hr] at Gd;have cJ:=zC (zA VY (i+1) e2 wA (pre++ys) (by have:=zA HI;omega) (zA I5) (zA R9) (Nat.le_trans (zA HB) (zA OQ)) ((zA Ff).matched (zA Jy) (zA uL)) (λ e' ma=>zA iN e' (by rw[zA Mu,zA DX];exact zr2 (zA oy) (zA uL) ma)) (by have h1:=zA pR;have h2:=zA OB;have h3:=z79 (M:=K.length) (g:=gk) (d:=d) (by omega) M7;rw[List.length_append];omega) (λ x hx=>zA HQ x (by rw[zA Mu,zl7];exact⟨(t,n),zA oy,e2,zA uL,by rw[zA DX];exact hx⟩)));clear hr;go_wp2_with (go_at_call 234;refine (zA cJ).mono ?_;rintro en w5 (⟨rfl,h5⟩ | ⟨rfl,h5⟩) <;> (have H5:=zC h5;clear h5))
      ·go_roundg cnt2
       case measure=>omega
       case rel=>
        obtain⟨zs,aY,bg,A4,sl⟩:=zA H5;obtain⟨o,Le,Gq⟩:=(zA CJ).iter;obtain⟨es,ck,dH⟩:=(zA CJ).map.isMap;refine⟨_,ys++zs,(zA CJ).blocks ((sl.same _ _ dH (zA I5).nm (.inr rfl)).trans dH.symm) ((sl.same _ _ Le (λ hn=>by have:=zA pU _ hn;have:=zA HB;have:=zA lV;omega) (.inr Gq)).trans Le.symm),by omega,λ x=>?_,?_,by rw[<-List.append_assoc];exact A4,(zA Fo).trans sl,(zA I2).kZ sl (λ hn=>by have:=zA pU _ hn;have:=zA HB;omega)⟩
        ·rw[List.mem_append,zA kr x,ID.step (zA oy),aY,zA DX];exact⟨λ h=>h.imp id λ h=>⟨e2,zA uL,h⟩,λ h=>h.imp id λ ⟨e',h1,h2⟩=>by rw[zA uL] at h1;cases h1;exact h2⟩
        ·have h1:=zA pR;have h3:=z42 (M:=K.length) (g:=gk) (c:=cnt2) (d:=d) gn M7;rw[List.length_append];omega
      ·go_ret;obtain⟨zs,aY,bg⟩:=zA H5;rw[zA Mu];refine .inr ⟨rfl,ys++zs,λ x hx=>?_,by rw[<-List.append_assoc];exact bg⟩;rw[zl7];rcases List.mem_append.1 hx with hx | hx
       ·obtain⟨p,hp,_,h⟩:=(zA kr x).1 hx;exact⟨p,hp,h⟩
       ·exact⟨(t,n),zA oy,e2,zA uL,by rw[zA DX];exact aY x hx⟩
end
end Go.Proofs.YtldkpahaocjdpaaGreat
