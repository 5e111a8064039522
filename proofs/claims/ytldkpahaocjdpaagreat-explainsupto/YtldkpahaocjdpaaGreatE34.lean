/-
  next: the things of a height.
-/
import Derived.Test.YtldkpahaocjdpaaGreatE33
set_option maxHeartbeats 16000000
set_option maxRecDepth 1000000
namespace Go.Proofs.YtldkpahaocjdpaaGreat
section
open Go.RowKit Go.Maps
attribute [local go_sem ↓] zcf zba zc1 j2 zbb qQ qP qO
attribute [local go_sem] Oper.semAt_some
attribute [local go_sem] qS zbo jY jX
theorem z7q (w:W8)(kb base:Nat)(ar:O8)(cr:Nat)(rs:List PR)(K:List (Th × Nat))(h limit:Nat)(hm:qR w kb K)(hr:iq w base (.slice ar rs.length cr) rs)(bR:∀ r∈rs,z9i K r)(hK:K.length<=limit)(hl:limit<=50):
  Calls Tryz.prog 99 #[.map (some kb),.slice ar rs.length cr,.int .i64 (h:Nat),.int .i64 (limit:Nat)] w (z6d w rs K h limit):=by
 have gR:=yU hr.row;unfold maxLen at gR;have HM:=zC hm;have HR:=zC hr;have iN:=zC bR;have dF:=hm.lt;clear hm hr bR;refine callsIn_wide.1 (callsIn_of_wp_marks (F:=Fence.wide) (n:=5) Tryz.func99 rfl trivial (wpIn_wide.2 ?_) rfl);simp only[Tryz.ntmps99,List.size_toArray,List.length_cons,List.length_nil,Nat.reduceAdd,Nat.reduceSub,Array.replicate_succ,Array.replicate_zero,List.push_toArray,List.append_toArray,List.nil_append,List.cons_append];have nx:=@run_makeMap Tryz.prog;go_wp2_with fail;generalize bC:World.alloc (World.alloc (World.alloc (World.alloc (World.alloc (World.alloc (World.alloc w _) _) _) _) _) _) _=w0;have eY:rP w kb (w.heap.size+1+1+1+1+1) h limit K [] w0:=by
  rw[<-bC];exact rP.start w kb h limit K (zA HM)
 have B0:=zC eY;clear bC eY;refine wp_loop_ghost_k (λ gg a wr=>∃ (k:Nat) (ds:List Nat) (u:Nat->Value) (L:List (Th × Nat)),k<=rs.length/\gg=rs.length-k/\a={ tmps:=#[.map (some kb),.slice ar rs.length cr,.int IntKind.i64 (h:Nat),.int IntKind.i64 (limit:Nat),.pointer (some ⟨w.heap.size,0,none⟩),undef,.pointer (some ⟨w.heap.size+1,0,none⟩),.pointer (some ⟨w.heap.size+1+1,0,none⟩),.pointer (some ⟨w.heap.size+1+1+1,0,none⟩),.pointer (some ⟨w.heap.size+1+1+1+1,0,none⟩),.pointer (some ⟨w.heap.size+1+1+1+1+1+1,0,none⟩),undef,u 12,u 13,u 14,u 15,u 16,.map (some (w.heap.size+1+1+1+1+1)),.slice ar rs.length cr,.int IntKind.i64 (rs.length:Nat),.int IntKind.i64 (k:Nat),u 21,u 22,u 23,u 24,u 25,u 26,u 27,u 28,u 29,u 30,u 31,u 32,u 33,u 34,u 35,u 36,u 37,u 38,u 39,u 40,u 41,u 42,u 43,u 44,u 45,u 46,u 47,u 48,u 49,u 50],defers:=z9n ds }/\rP w kb (w.heap.size+1+1+1+1+1) h limit K L wr/\E5 rs K (rs.take k) ⟨⟨{ data:=#[] },[],[]⟩,undef,[],undef⟩ [] h L/\IK w ds wr/\K.length+L.length<=limit) rs.length ?_ ?_
 ·exact⟨0,[],λ _=>undef,[],Nat.zero_le _,rfl,rfl,zA B0,⟨by simp,by simp,by simp,by simp,by simp⟩,⟨by simp,by simp⟩,by simpa using hK⟩
 ·intro gk a wr hI Jl Kl hJl Te;obtain⟨k,ds,u,L,hk,eD,rfl,eY,bX,ji,hlen⟩:=hI;have B0:=zC eY;have pT:=zC bX;have wV:=zC ji;clear eY bX ji
  by_cases aF:k<rs.length
  ·have eY:=zA B0;obtain⟨r,ny⟩:∃ r,r=rs[k]:=⟨_,rfl⟩;have cg:r∈rs:=(by rw[ny];exact List.getElem_mem aF);have ax:=(zA HR).each r cg;have Ex:=zA iN r cg;obtain⟨ah,ch,sJ⟩:=zD ax.hd;obtain⟨ab,cb,sI⟩:=zD ax.bo.row;obtain⟨g,cap,hv,iF,aZ,bO,bQ,hc⟩:=vX zut (zA HR).row k aF;injection hv with h1 h2 h3
   subst h1 h3;have eo:=eY.bw;have e0:wr.cell? ⟨g,k*3,none⟩=some (.string r.R.pd):=(by rw[ny];exact (eo.cell (p:=⟨g,k*3,none⟩) aZ).trans (hc 0 (by omega)));have e1:wr.cell? ⟨g,k*3+1,none⟩=some (.slice ah r.R.ts.length ch):=(by rw[<-sJ,ny];exact (eo.cell (p:=⟨g,k*3+1,none⟩) aZ).trans (hc 1 (by omega)));have e2:wr.cell? ⟨g,k*3+2,none⟩=some (.slice ab r.bs.length cb):=(by rw[<-sI,ny];exact (eo.cell (p:=⟨g,k*3+2,none⟩) aZ).trans (hc 2 (by omega)));obtain⟨c4,-⟩:=zB eY.k4 0;simp only[List.getElem?_toArray,List.getElem?_cons_zero] at c4;have nu:(k:Int)<rs.length:=(by omega);have xq:w.heap.size<wr.heap.size:=(Array.getElem?_eq_some_iff.1 eY.k4).1;obtain⟨SQ,-⟩:=zB ((Below.heap_alloc wr (.cells #[.string r.R.pd,.slice ah r.R.ts.length ch,.slice ab r.bs.length cb] 123) _ xq).trans eY.k4) 0;have hA:EX (λ i=>i=w.heap.size+1+1+1+1+1) (wr.alloc (.cells #[.string r.R.pd,.slice ah r.R.ts.length ch,.slice ab r.bs.length cb] 123)) kb (.slice ah r.R.ts.length ch) (.slice ab r.bs.length cb) base r.bs K:=by
    have kA:Below w.heap.size w (wr.alloc (.cells #[.string r.R.pd,.slice ah r.R.ts.length ch,.slice ab r.bs.length cb] 123)):=eo.alloc eo.size _;have iz:=ax.bo;rw[sI] at iz;refine⟨iz.below kA,(zA HM).block (kA.block _ dF),by omega,λ x hx g hg=>by have:=((ax.bo.each x hx).lt g hg).2;omega,λ i hi=>by have:=(Array.getElem?_eq_some_iff.1 eY.f10).1;simp;omega,Ex.l3,Ex.t4,_,_,_,rfl⟩
   have HW:=zC (z5x _ _ kb r.R.pd _ _ base r.bs K hA);have bT:=zC ax;have Hv:=zC Ex;have kr:=zC cg;have wZ:=zC ny;have Oe:=zC sJ;simp only[List.getElem?_toArray,List.getElem?_cons_zero] at SQ;clear eY ax Ex cg ny hc hA sI sJ h2 eo;go_wp2_with (go_at_call 145;refine (zA HW).mono ?_;rintro en w1 ⟨rb,xb,eb,rfl,aL,dY⟩;have fN:=zC aL;have OZ:=zC dY;clear aL dY);have aL:=zA fN;have dY:=zA OZ;have eY:=zA B0;have sg:wr.heap.size+1<=w1.heap.size:=(by have:=aL.size;simpa using this);have PT:∀ D∈ds,D<w1.heap.size:=λ D hD=>by have:=(Array.getElem?_eq_some_iff.1 ((zA wV).at_ D hD).2).1;omega
   have KF:=(Array.getElem?_eq_some_iff.1 eY.f10).1;have kw:Below wr.heap.size wr w1:=(B9.alloc L9 _).trans (aL.mono (by simp));have AO:IN w kb h limit K rs (rs.take k) r wr.heap.size ah ab ch cb ds [] L w1:=by
    have hn:=zA pT;refine⟨eY.below kw,⟨hn.hs,hn.nd,hn.new,hn.all,by simp⟩,hlen,⟨(zA wV).nd,λ D hD=>⟨((zA wV).at_ D hD).1,(kw.block D (Array.getElem?_eq_some_iff.1 ((zA wV).at_ D hD).2).1).trans ((zA wV).at_ D hD).2⟩⟩,(aL.block _ (by simp)).trans (heap_alloc_new wr _)⟩
   have dB:=zC AO;have Se:=zC kw;have pP:=zC KF;have Fc:=zC PT;have ox:=zC sg;clear aL eY AO kw KF PT sg e0 e1 e2 c4 SQ xq;refine (wpIn_wide (n:=5)).1 ?_;refine wpIn_rangeFunc_ownH (α:=nO K r.bs []) rfl (by omega) (gf:=233) (lb:=#[.pointer (some ⟨rb,0,none⟩),.pointer (some ⟨xb,0,none⟩),.pointer (some ⟨eb,0,none⟩)]) rfl trivial (enters_of Tryz.func233 (by kernel_rfl) rfl)
    (zm9 _ _ w1 rb xb eb kb r.R.pd _ _ base r.bs K [] dY (zA Hv).neg (vZ.nil _)) (λ h1 h2=>qH.trans h1 h2) (λ W l o o' _ hl hc EI=>zhe W l o o' hl hc EI) B9 (λ _=>rfl)
    (λ (pre:List (nO K r.bs [])) (W:W8)=>∃ L',IN w kb h limit K rs (rs.take k) r wr.heap.size ah ab ch cb ds (pre.map (λ y:nO K r.bs []=>y.1)) L' W/\w1.heap.size<=W.heap.size)
    (λ (c:Code) (_:List (nO K r.bs [])) (W:W8)=>c=.ret/\∃ L',NP w kb h limit K rs ds L' W)
    (λ pre A B row hs hg hr=>let ⟨L',hL,hz⟩:=hs;⟨L',hL.grown hg (λ i e=>(hr i e).1) (by have:=zA pP;have:=zA ox;omega) (by have:=zA ox;omega) (zA Fc),Nat.le_trans hz hg.size⟩)
    (λ c pre A B row hs hg hr=>let ⟨hc,L',hL⟩:=hs;⟨hc,L',hL.grown hg (λ i e=>(hr i e).1) (by have:=zA pP;have:=zA ox;omega) (zA Fc)⟩)
    ⟨L,zA dB,Nat.le_refl _⟩
    (λ (x:nO K r.bs []) (a':Act) (W:W8)=>∃ Bx,w1.heap.size<=Bx/\BV W Bx x.1/\a'={ tmps:=List.toArray ((Value.map (some kb))::(Value.slice (some ⟨g,0,none⟩) rs.length cr)::(Value.int IntKind.i64 (h:Nat))::(Value.int IntKind.i64 (limit:Nat))::(Value.pointer (some ⟨w.heap.size,0,none⟩))::(undef)::(Value.pointer (some ⟨w.heap.size+1,0,none⟩))::(Value.pointer (some ⟨w.heap.size+1+1,0,none⟩))::(Value.pointer (some ⟨w.heap.size+1+1+1,0,none⟩))::(Value.pointer (some ⟨w.heap.size+1+1+1+1,0,none⟩))::(Value.pointer (some ⟨w.heap.size+1+1+1+1+1+1,0,none⟩))::(undef)::(Value.pointer (some ⟨wr.heap.size,0,none⟩))::(Value.pointer (some ⟨Bx,0,none⟩))::(u 14)::(u 15)::(u 16)::(Value.map (some (w.heap.size+1+1+1+1+1)))::(Value.slice (some ⟨g,0,none⟩) rs.length cr)::(Value.int IntKind.i64 (rs.length:Nat))::(Value.int IntKind.i64 (k:Nat))::(Value.bool true)::(Value.pointer (some ⟨g,k*3,none⟩))::(Value.agg #[.string r.R.pd,.slice ah r.R.ts.length ch,.slice ab r.bs.length cb])::(Value.agg #[.string r.R.pd,.slice ah r.R.ts.length ch,.slice ab r.bs.length cb])::(Value.map (some kb))::(Value.func (.func 233) #[] #[.pointer (some ⟨rb,0,none⟩),.pointer (some ⟨xb,0,none⟩),.pointer (some ⟨eb,0,none⟩)])::(zav x.1)::(u 28)::(u 29)::(u 30)::(u 31)::(u 32)::(u 33)::(u 34)::(u 35)::(u 36)::(u 37)::(u 38)::(u 39)::(u 40)::(u 41)::(u 42)::(u 43)::(u 44)::(u 45)::(u 46)::(u 47)::(u 48)::(u 49)::(u 50)::[]),defers:=[] })
    (λ x a' _ A B row hs hg hr=>let ⟨Bx,h1,h2,h3⟩:=hs;⟨Bx,h1,h2.grown hg (λ i e=>(hr i e).2),h3⟩)
    ?assign ?body ?done ?stop
   case assign=>
    intro l pre x W K2 hI ur;obtain⟨L',hL,hz⟩:=hI;have wR:=zC ur;have HL:=zC hL;clear ur hL
    gi_wp2
    exact zA wR _ _ ((KeepsOthers.alloc _ _).from _) ((qH.refl _ _).alloc _) ⟨L',(zA HL).grown (World.grownBy_alloc W _ none) (B:=w1.heap.size) (λ _ e=>by cases e) (by have:=zA pP;have:=zA ox;omega) (by have:=zA ox;omega) (zA Fc),by simp;omega⟩ ⟨W.heap.size,hz,BV.new _ _,rfl⟩
   case body=>
    rintro l pre x a' W T5-⟨L',hL,hz⟩ ⟨Bx,S8,gT,rfl⟩ -;obtain⟨T,M1⟩:∃ T,T=xV x.1 (gw r):=⟨_,rfl⟩;have GD:=(List.mem_filter.1 x.2).1;have hT:zdu T:=(by rw[M1];exact (zA Hv).hd x.1 GD);have Dx:=(zA Hv).len x.1 GD;have Iq:=gT.load;obtain⟨q0,-⟩:=zB hL.rl 0;obtain⟨q1,-⟩:=zB hL.rl 1;simp only[List.getElem?_toArray,List.getElem?_cons_zero,List.getElem?_cons_succ] at q0 q1;have aB:W.ownsRow base 191 1 (.slice ah (gw r).ts.length ch) (gw r).ts.length ((gw r).ts.map zc3):=by
     have:=zJ (zA bT).hd hL.box.bw (λ g e=>((zA bT).hd.lt g e).2);rw[zA Oe] at this;exact this
    have lJ:=zC (zmg W base x.1 (gw r) ah ch aB (zA Hv).h4 Dx);rw[<-M1] at lJ;have HL:=zC hL;have Ju:=zC M1;have HT:=zC hT;have Ho:=zC gT;clear hL M1 hT gT aB GD Dx
    have Oz:=zC (λ (w4:W8) (bZ:Below W.heap.size W w4)=>(show IN w kb h limit K rs (rs.take k) r wr.heap.size ah ab ch cb ds (pre.map (λ y:nO K r.bs []=>y.1)) L' (w4.alloc (.cells (zV T).toArray 88))/\Below W.heap.size W (w4.alloc (.cells (zV T).toArray 88)) from by
     have kk:Below W.heap.size W (w4.alloc (.cells (zV T).toArray 88)):=bZ.alloc bZ.size _
     exact⟨(zA HL).grown (row:=none) ⟨kk.os,kk.tape,kk.output,kk.size,λ i hi _=>kk.block i hi⟩ (B:=w1.heap.size) (λ _ e=>by cases e) (by have:=zA pP;have:=zA ox;omega) (by have:=zA ox;omega) (zA Fc),kk⟩))
    have Fb:=zC (λ (V:W8) (L2:List (Th × Nat)) (hV:rP w kb (w.heap.size+1+1+1+1+1) h limit K L2 V)=>(show V.cell? ⟨w.heap.size,0,none⟩=some (.map (some kb))/\V.cell? ⟨w.heap.size+1,0,none⟩=some (.int .i64 (h:Nat))/\V.cell? ⟨w.heap.size+1+1,0,none⟩=some (.int .i64 (limit:Nat))/\V.cell? ⟨w.heap.size+1+1+1+1+1+1,0,none⟩=some (.map (some (w.heap.size+1+1+1+1+1))) from ⟨(zB hV.k4 0).1,(zB hV.h6 0).1,(zB hV.l7 0).1,(zB hV.f10 0).1⟩));have Fa:=zC (show w.heap.size+1+1+1+1+1+1<w1.heap.size by have:=zA pP;have:=zA ox;omega)
    cases ho:(yS K T).isSome with
    | true=>
     gi_wp2_with (refine⟨trivial,?_⟩;gi_at_call 146;refine (CallsIn.inRound l (callsIn_wide.2 (zA lJ))).mono ?_;rintro en w4 ⟨bZ,rfl⟩;obtain⟨n5,b5⟩:=zA Oz w4 bZ;obtain⟨m0,m1,m2,m3⟩:=zA Fb _ _ n5.box;have t5:=(TV.new w4 T).load;have LZ:=n5.box.mK.look (zA HT) Tryz.underlying83;rw[ho] at LZ;have HN:=zC n5;have ov:=zC b5;clear n5 b5 bZ)
     refine⟨(KeepsOthers.of_grownBy (row:=none) ⟨(zA ov).os,(zA ov).tape,(zA ov).output,(zA ov).size,λ i hi _=>(zA ov).block i hi⟩ (λ _ _ e=>by cases e)).from _,qH.ak (zA ov),L',?_,Nat.le_trans hz (zA ov).size⟩;have n5:=zA HN;refine⟨n5.box,?_,n5.len,n5.oQ,n5.rl⟩;rw[List.map_append];exact n5.new.old (by rw[<-zA Ju];exact ho)
    | false=>
     have aX:yS K T=none:=(by simpa using ho);have pU:=zC aX;clear aX;have lh:=zml L' T h;have mf:(zjw L' T h).length<=L'.length+1:=(by rw[lh];split <;> omega);have hZ:=(zA HL).len;have Hs:=zC lh;clear lh;have mu:=zA Fa
     by_cases AB:limit<K.length+(zjw L' T h).length
     ·have Yy:(limit:Int)<(K.length:Int)+((zjw L' T h).length:Int):=by omega
      gi_wp2_with (refine⟨trivial,?_⟩;gi_at_call 146;refine (CallsIn.inRound l (callsIn_wide.2 (zA lJ))).mono ?_;rintro en w4 ⟨bZ,rfl⟩;obtain⟨n5,b5⟩:=zA Oz w4 bZ;obtain⟨m0,m1,m2,m3⟩:=zA Fb _ _ n5.box;have t5:=(TV.new w4 T).load;have LZ:=n5.box.mK.look (zA HT) Tryz.underlying83;rw[ho] at LZ;obtain⟨w6,jl,Ep,Gy⟩:=n5.box.mF.put (zA HT) h (by unfold maxLen;omega) Tryz.underlying83;have n6:=n5.box.oS Gy.grown Ep;obtain⟨p0,p1,p2,p3⟩:=zA Fb _ _ n6;have Y1:=n6.mK.len Tryz.underlying83;have Y2:=n6.mF.len Tryz.underlying83;have HN:=zC n5;have ov:=zC b5;have Ht:=zC n6;have OS:=zC Gy.grown;obtain⟨v8,z8⟩:=zB n6.r8 0;obtain⟨v9,z9⟩:=zB n6.o9 0;simp only[List.getElem?_toArray,List.getElem?_cons_zero] at v8 v9;clear n5 b5 bZ n6 Gy Ep)
      have n5:=zA HN;have b5:=zA ov;have n6:=zA Ht;have g6:=zA OS;have Nb:KeepsFrom w1.heap.size W w6:=((KeepsOthers.of_grownBy (row:=none) ⟨b5.os,b5.tape,b5.output,b5.size,λ i hi _=>b5.block i hi⟩ (λ _ _ e=>by cases e)).from _).trans (KeepsFrom.of_grownBy g6 (λ j e=>by cases e;omega));rw[zoo n6.r8 rfl,zoo n6.o9 rfl];have Ix:=n5.new.put (e:=x.1) (zA kr) x.2 (by rw[<-zA Ju];exact zA pU);rw[<-zA Ju] at Ix;exact⟨Nb,rfl,zjw L' T h,n6,Ix.nd,Ix.new,AB,⟨n5.oQ.nd,λ D hD=>⟨(n5.oQ.at_ D hD).1,(g6.block D (Array.getElem?_eq_some_iff.1 (n5.oQ.at_ D hD).2).1 (λ e=>by cases e;have:=(n5.oQ.at_ _ hD).1;omega)).trans (n5.oQ.at_ D hD).2⟩⟩⟩
     ·have Yy:¬ ((limit:Int)<(K.length:Int)+((zjw L' T h).length:Int)):=by omega
      gi_wp2_with (refine⟨trivial,?_⟩;gi_at_call 146;refine (CallsIn.inRound l (callsIn_wide.2 (zA lJ))).mono ?_;rintro en w4 ⟨bZ,rfl⟩;obtain⟨n5,b5⟩:=zA Oz w4 bZ;obtain⟨m0,m1,m2,m3⟩:=zA Fb _ _ n5.box;have t5:=(TV.new w4 T).load;have LZ:=n5.box.mK.look (zA HT) Tryz.underlying83;rw[ho] at LZ;obtain⟨w6,jl,Ep,Gy⟩:=n5.box.mF.put (zA HT) h (by unfold maxLen;omega) Tryz.underlying83;have n6:=n5.box.oS Gy.grown Ep;obtain⟨p0,p1,p2,p3⟩:=zA Fb _ _ n6;have Y1:=n6.mK.len Tryz.underlying83;have Y2:=n6.mF.len Tryz.underlying83;have HN:=zC n5;have ov:=zC b5;have Ht:=zC n6;have OS:=zC Gy.grown;clear n5 b5 bZ n6 Gy Ep)
      have n5:=zA HN;have b5:=zA ov;have n6:=zA Ht;have g6:=zA OS;have Nb:KeepsFrom w1.heap.size W w6:=((KeepsOthers.of_grownBy (row:=none) ⟨b5.os,b5.tape,b5.output,b5.size,λ i hi _=>b5.block i hi⟩ (λ _ _ e=>by cases e)).from _).trans (KeepsFrom.of_grownBy g6 (λ j e=>by cases e;omega));refine⟨Nb,(qH.ak b5).trans ((qH.refl _ _).grown g6 (λ r e=>.inr (by cases e;rfl))),zjw L' T h,?_,Nat.le_trans hz Nb.size⟩;have PT:=zA Fc;refine⟨n6,?_,by omega,⟨n5.oQ.nd,λ D hD=>⟨(n5.oQ.at_ D hD).1,(g6.block D (Array.getElem?_eq_some_iff.1 (n5.oQ.at_ D hD).2).1 (λ e=>by cases e;have:=(n5.oQ.at_ _ hD).1;omega)).trans (n5.oQ.at_ D hD).2⟩⟩,(g6.block _ (Array.getElem?_eq_some_iff.1 n5.rl).1 (λ e=>by injection e with e;have:=zA pP;omega)).trans n5.rl⟩;rw[List.map_append];have:=n5.new.put (e:=x.1) (zA kr) x.2 (by rw[<-zA Ju];exact zA pU);rw[<-zA Ju] at this;exact this
   case done=>
    rintro D xs W hD hS ⟨L',hL,hz⟩ kL;have HL:=zC hL;have HD:=zC hD;have HS:=zC hS;have yi:=zC kL;have V1:=zC hJl;clear hL hD hS kL hJl;go_wp2_with fail;have hL:=zA HL;have hD:=zA HD;have ly:w.heap.size+1+1+1+1+1+1<w1.heap.size:=(by have:=zA pP;have:=zA ox;omega);refine Handed.intro (rs.length-(k+1)) (by omega) (zA V1 _ _ _ ⟨k+1,D::ds,λ i=>if i=12 then Value.pointer (some ⟨wr.heap.size,0,none⟩) else if i=21 then Value.bool true else if i=22 then Value.pointer (some ⟨g,k*3,none⟩) else if i=23 then Value.agg #[.string r.R.pd,.slice ah r.R.ts.length ch,.slice ab r.bs.length cb] else if i=24 then Value.agg #[.string r.R.pd,.slice ah r.R.ts.length ch,.slice ab r.bs.length cb] else if i=25 then Value.map (some kb) else if i=26 then Value.func (.func 233) #[] #[.pointer (some ⟨rb,0,none⟩),.pointer (some ⟨xb,0,none⟩),.pointer (some ⟨eb,0,none⟩)] else if i=49 then Value.int IntKind.i64 ((k:Int)+1) else u i,L',by omega,rfl,rfl,hL.box,?_,⟨List.nodup_cons.2 ⟨λ hm=>by have:=zA Fc D hm;omega,hL.oQ.nd⟩,λ E hE=>?_⟩,hL.len⟩)
    ·have hn:=hL.new;refine⟨hn.hs,hn.nd,hn.new,λ q hq e he aX=>?_,by simp⟩;rw[List.take_succ_eq_append_getElem aF] at hq;rcases List.mem_append.1 hq with hq | hq
     ·exact hn.all q hq e he aX
     ·rw[List.mem_singleton.1 hq,<-zA wZ] at he aX ⊢;exact hn.now e (List.mem_map.2 ⟨⟨e,he⟩,zA HS _,rfl⟩) aX
    ·rcases List.mem_cons.1 hE with rfl | hE
     ·exact⟨by omega,zA yi⟩
     ·exact hL.oQ.at_ E hE
   case stop=>
    rintro D c pre W hD-⟨rfl,L',hL⟩ kL;have HL:=zC hL;have HD:=zC hD;have yi:=zC kL;clear hL hD kL
    gi_wp2
    have hL:=zA HL;have hD:=zA HD;have ly:w.heap.size+1+1+1+1+1+1<w1.heap.size:=(by have:=zA pP;have:=zA ox;omega);refine zbm (D::ds) _ (List.nodup_cons.2 ⟨λ hm=>by have:=zA Fc D hm;omega,hL.oQ.nd⟩) (λ E hE=>?_) (λ w' hs=>?_)
    ·rcases List.mem_cons.1 hE with rfl | hE
     ·exact zA yi
     ·exact (hL.oQ.at_ E hE).2
    ·have aX:∀ i,i<=w.heap.size+1+1+1+1+1+1->i∉D::ds:=λ i hi hm=>by
      rcases List.mem_cons.1 hm with rfl | hm
      ·omega
      ·have:=(hL.oQ.at_ i hm).1;omega
     have q8:w'.cell? ⟨w.heap.size+1+1+1,0,none⟩=some (.map none):=(zB ((hs.block (w.heap.size+1+1+1) (aX _ (by omega))).trans hL.box.r8) 0).1;have q9:w'.cell? ⟨w.heap.size+1+1+1+1,0,none⟩=some (.bool false):=(zB ((hs.block (w.heap.size+1+1+1+1) (aX _ (by omega))).trans hL.box.o9) 0).1;refine⟨.tuple #[.map none,.bool false],by simp[results,Tryz.results99,go_sem,q8,q9],?_⟩;refine⟨⟨hs.os.trans hL.box.bw.os,hs.tape.trans hL.box.bw.tape,hs.output.trans hL.box.bw.output,by rw[hs.size];exact hL.box.bw.size,λ i hi=>(hs.block i (aX i (by omega))).trans (hL.box.bw.block i hi)⟩,.inr ⟨rfl,L'.map (·.1),hL.nd,λ t ht=>?_,by rw[List.length_map];exact hL.len⟩⟩;obtain⟨p,hp,rfl⟩:=List.mem_map.1 ht;exact hL.new p hp
  ·have eY:=zA B0;obtain⟨gD,-⟩:=zB eY.f10 0;obtain⟨c8,z8⟩:=zB eY.r8 0;obtain⟨c9,z9⟩:=zB eY.o9 0;simp only[List.getElem?_toArray,List.getElem?_cons_zero] at gD c8 c9;clear eY hJl Te;go_wp2_with fail;refine zbm ds _ (zA wV).nd (λ D hD=>?_) (λ w' hs=>?_)
   ·have:=((zA wV).at_ D hD).1;rw[Below.heap_setCell _ _ _ _ (by simp;omega),Below.heap_setCell _ _ _ _ (by simp;omega)];exact ((zA wV).at_ D hD).2
   ·have aX:∀ i,i<=w.heap.size+1+1+1+1+1+1->i∉ds:=λ i hi hm=>by have:=((zA wV).at_ i hm).1;omega
    have q8:w'.cell? ⟨w.heap.size+1+1+1,0,none⟩=some (.map (some (w.heap.size+1+1+1+1+1))):=by
     rw[World.cell?_of_block (by exact hs.block (w.heap.size+1+1+1) (aX _ (by omega))),World.cell?_setCell_other _ _ _ _ (by simp),World.cell?_setCell_same' _ _ _ (by rw[c8];rfl)]
    have q9:w'.cell? ⟨w.heap.size+1+1+1+1,0,none⟩=some (.bool true):=by
     rw[World.cell?_of_block (by exact hs.block (w.heap.size+1+1+1+1) (aX _ (by omega))),World.cell?_setCell_same' _ _ _ (by rw[World.cell?_setCell_other _ _ _ _ (by simp),c9];rfl)]
    refine⟨.tuple #[.map (some (w.heap.size+1+1+1+1+1)),.bool true],by simp[results,Tryz.results99,go_sem,q8,q9],?_⟩;have eY:=zA B0;have bX:=zA pT;have Kq:∀ i,i<=w.heap.size+1+1+1+1+1+1->i≠w.heap.size+1+1+1->i≠w.heap.size+1+1+1+1->w'.heap[i]?=wr.heap[i]?:=λ i hi h1 h2=>by
     rw[hs.block _ (aX _ hi),Below.heap_setCell _ _ _ _ (by simpa using h2),Below.heap_setCell _ _ _ _ (by simpa using h1)]
    refine⟨⟨hs.os.trans eY.bw.os,hs.tape.trans eY.bw.tape,hs.output.trans eY.bw.output,by rw[hs.size];simp;exact eY.bw.size,λ i hi=>(Kq i (by omega) (by omega) (by omega)).trans (eY.bw.block i hi)⟩,.inl ⟨_,L,rfl,by omega,eY.mF.block (Kq _ (by omega) (by omega) (by omega)),bX.hs,λ t=>?_,hlen⟩⟩
    constructor
    ·intro ht;obtain⟨n,hn⟩:=Option.isSome_iff_exists.1 ht;exact bX.new _ (jV hn)
    ·rintro⟨h1,r,hr,e,he,rfl⟩;exact bX.all r (by rw[List.take_of_length_le (by omega)];exact hr) e he h1
end
section
open Go.RowKit Go.Maps
attribute [local go_sem ↓] zbb qQ qP qO
attribute [local go_sem] jY jX
theorem zru {L:List (Th × Nat)}{t:Th}(h:∀ n,(t,n)∉L):yS L t=none:=by
 cases hl:yS L t with
 | none=>rfl
 | some n=>exact absurd (jV hl) (h n)
structure z9a (w:W8)(db sb rb:Nat)(D S:List (Th × Nat))(Lf:Th->Prop)(S1:List (Th × Nat))(eC:Nat)(wr:W8):Prop where
 rg:so wr sb rb S Lf eC
 m:qR wr db (D++S1)
 mem:∀ p,p∈S1↔p∈S/\¬ Lf p.1
 len:S1.length+eC<=S.length
 k:zK [db] w wr
def z58 (w:W8)(db:Nat)(D S:List (Th × Nat))(en:Ending)(w':W8):Prop:=(∃ v,en=.returned v)/\zK [db] w w'/\∃ S',qR w' db (D++S')/\(∀ p,p∈S'↔p∈S)/\S'.length<=S.length
theorem z6v (w:W8)(db sb:Nat)(D S:List (Th × Nat))(hd:qR w db D)(hs:qR w sb S)(bF:db≠sb)(KB:∀ p∈S,yS D p.1=none)(hl:D.length+S.length<=1000000):
  Calls Tryz.prog 100 #[.map (some db),.map (some sb)] w (z58 w db D S):=by
 have HD:=zC hd;have HS:=zC hs;have Ob:=zC KB;have hdl:=hd.lt;have EC:=hs.lt;clear hd KB;go_enter Tryz.func100,Tryz.ntmps100;go_wp2_with (first | (at_range;refine znb _ rfl _ 83 rfl Tryz.underlying83 sb S rfl hs ?_;intro w1 hrg1 jg sg) | go_in)
 try go_frame
 have h0:z9a w db sb w.heap.size D S (λ _=>True) [] S.length w1:=by
  refine⟨hrg1,by rw[List.append_nil];exact (zA HD).kept jg (by simp),λ p=>⟨λ h=>absurd h List.not_mem_nil,λ h=>absurd trivial h.2⟩,by simp,⟨jg.os,jg.tape,jg.output,jg.size,λ j hj _=>jg.block j hj (by simp)⟩⟩
 clear hrg1 jg sg hs
 go_loopg [] S.length (λ gg wr=>∃ (Lf:Th->Prop) (S1:List (Th × Nat)),z9a w db sb w.heap.size D S Lf S1 gg wr)
 exact⟨_,_,h0⟩
 case round=>
  clear h0;obtain⟨Lf,S1,ax⟩:=hrel;have oL:=ax.rg;have bT:=zC ax;clear ax;go_wp2_with (first | (at_next;refine zqi _ rfl _ rfl sb w.heap.size S Lf gk rfl oL ?_ ?_) | go_in)
  ·intro dj;have Ct:=zC dj;clear dj oL;go_wp2_with fail;go_end0;have ax:=zA bT;exact⟨⟨_,rfl⟩,ax.k,S1,ax.m,λ p=>⟨λ h=>((ax.mem p).1 h).1,λ h=>(ax.mem p).2 ⟨h,zA Ct p.1.1 p.1.2 p.2 h⟩⟩,by have:=ax.len;omega⟩
  ·intro tp tts n w2 cnt2 nz qx hrg2 gn fL sj hen2;generalize ((tp,tts):Th)=t at *;have ax:=zA bT;have dF:=ax.k.size;have hT:zdu t:=ax.rg.map.ok _ nz;have dD:qR w2 db (D++S1):=ax.m.kept fL (by simp;omega);have aX:yS (D++S1) t=none:=zru λ m hm=>by
    rcases List.mem_append.1 hm with hm | hm
    ·exact qV (zA Ob _ nz) m hm
    ·exact ((ax.mem _).1 hm).2 qx
   have jl:zjw (D++S1) t n=D++(S1++[(t,n)]):=(by unfold zjw;rw[aX,List.append_assoc];rfl);have hlen:=ax.len;have HT:=zC hT;have sF:=zC hrg2;have VS:=zC fL;have OH:=zC jl;have oy:=zC nz;have V9:=zC qx;have wU:=zC (dD.alloc (.cells (zV t).toArray 88));have mA:=(TV.new w2 t).load;have hZ:(D++S1).length<maxLen:=(by unfold maxLen;rw[List.length_append];omega);clear sj oL hrg2 fL dD aX jl nz qx ax hT;go_wp2_with (at_mapUpdate;refine z50 _ rfl _ _ _ 83 rfl Tryz.underlying83 db (D++S1) rfl (zA wU) hZ t n rfl rfl (zA HT) ?_;intro w3 fq vq);rw[zA OH] at fq;have yn:=zC fq;have Jt:=zC vq;clear fq vq mA hen2;go_wp2_with fail;go_roundg cnt2
   case measure=>omega
   case rel=>
    have ax:=zA bT;have g2:=zA VS;have g3:=(zA Jt).grown;have gk0:w.heap.size<=wr.heap.size:=dF;refine⟨λ x=>Lf x/\¬ x=t,S1++[(t,n)],⟨?_,zA yn,λ p=>?_,by rw[List.length_append];simp;omega,?_⟩⟩
    ·have r2:=zA sF;refine r2.blocks ?_ ?_
     ·rw[g3.block sb (by have:=r2.map.lt;simp;omega) (by simp;omega),Below.heap_alloc _ _ _ r2.map.lt]
     ·rw[g3.block w.heap.size (by have:=r2.lt;simp;omega) (by simp;omega),Below.heap_alloc _ _ _ r2.lt]
    ·rw[List.mem_append,ax.mem]
     constructor
     ·rintro (⟨h1,h2⟩ | h1)
      ·exact⟨h1,λ h=>h2 h.1⟩
      ·rw[List.mem_singleton.1 h1];exact⟨zA oy,λ h=>h.2 rfl⟩
     ·rintro⟨h1,h2⟩
      by_cases e:p.1=t
      ·right
       have h3:=za5 (ax.rg.map.nodup) h1;have h4:=za5 (ax.rg.map.nodup) (zA oy);have e1:p.2=n:=by
        have:yS S p.1=some n:=by rw[e];exact h4
        exact Option.some.inj (h3.symm.trans this)
       rw[List.mem_singleton,<-e,<-e1]
      ·left
       exact⟨h1,λ h=>h2 ⟨h,e⟩⟩
    ·have k2:zK [db] w w2:=ax.k.grown g2 (λ i e=>by cases e;left;omega);exact (k2.alloc _).grown g3 (λ i e=>by cases e;right;simp)
end
section
open Go.RowKit Go.Maps
def DN (w w':W8):Prop:=∀ (b:Nat) (cs:Array Value) (t:TypeId) (fr:Nat × Nat),w.heap[b]?=some (Obj.cells cs t fr)->w'.heap[b]?=some (Obj.cells cs t fr)
variable {base:Nat} {w w':W8}
theorem DN.row (h:DN w w'){e:TypeId}{size:Nat}{v:Value}{n:Nat}{xs:V8}(hr:w.ownsRow base e size v n xs):w'.ownsRow base e size v n xs:=by
 refine zZ hr λ g hg=>?_
 rcases hr.2 with⟨h0,_⟩ | ⟨g',cap,cur,rfl,hb,nE,_⟩
 ·rw[h0] at hg;cases hg
 ·have e:g'=g:=by simpa[Value.ownBlock] using hg
  subst e;exact (h _ _ _ _ nE).trans nE.symm
theorem DN.Rj (h:DN w w'){bv:Value}{ls:List (vK × Value)}(hr:iL w base bv ls):iL w' base bv ls:=⟨h.row hr.row,λ x hx=>h.row (hr.each x hx)⟩
variable {rs:List PR}
theorem DN.Rs (h:DN w w'){rv:Value}(hr:iq w base rv rs):iq w' base rv rs:=⟨h.row hr.row,λ r hm=>⟨h.row (hr.each r hm).hd,h.Rj (hr.each r hm).bo,(hr.each r hm).eq⟩⟩
variable {K:List (Th × Nat)}
theorem DN.DD {kb:Nat}(hm:qR w kb K)(k:zK [kb] w w'):DN w w':=λ b cs t fr hb=>by
 refine (k.block b (Array.getElem?_eq_some_iff.1 hb).1 ?_).trans hb;simp only[List.mem_singleton];rintro rfl;obtain⟨es,c,h⟩:=hm.isMap;rw[hb] at h;cases h
inductive zgn (rs:List PR)(limit:Nat):Nat->List (Th × Nat)->Option (List (Th × Nat))->Prop
 | fG {h:Nat} {K:List (Th × Nat)} (L:List Th):L.Nodup->(∀ t∈L,ztm rs K t)->limit<K.length+L.length->zgn rs limit h K none
 | done {h:Nat} {K:List (Th × Nat)}:(∀ t,¬ ztm rs K t)->zgn rs limit h K (some K)
 | more {h:Nat} {K L:List (Th × Nat)} {r:Option (List (Th × Nat))}:L≠[]->(L.map (·.1)).Nodup->(∀ p∈L,p.2=h)->(∀ t,(∃ n,(t,n)∈L)↔ztm rs K t)->K.length+L.length<=limit->zgn rs limit (h+1) (K++L) r->zgn rs limit h K r
def DP (rs:List PR)(TI:Th->Prop):Prop:=∀ K:List (Th × Nat),(∀ p∈K,TI p.1)->∀ r∈rs,z9i K r/\∀ e∈yD K (yP r.bs) [],TI (xV e (gw r))
theorem DP.new {TI:Th->Prop}(h:DP rs TI)(hK:∀ p∈K,TI p.1){t:Th}(ht:ztm rs K t):TI t:=by
 obtain⟨_,r,hr,e,he,rfl⟩:=ht;exact (h K hK r hr).2 e (List.mem_filter.1 he).1
structure z0g (w:W8)(kb base:Nat)(rv:Value)(rs:List PR)(limit:Nat)(TI:Th->Prop)(K0:List (Th × Nat))(n:Nat)(K:List (Th × Nat))(wr:W8):Prop where
 m:qR wr kb K
 ti:∀ p∈K,TI p.1
 len:K.length<=limit
 k:zK [kb] w wr
 n0:1<=n
 n1:n<=K.length+1
 rel:∀ r,zgn rs limit n K r->zgn rs limit 1 K0 r
def z0h (w:W8)(kb:Nat)(rs:List PR)(limit:Nat)(TI:Th->Prop)(K:List (Th × Nat))(en:Ending)(w':W8):Prop:=
 ∃ r,zgn rs limit 1 K r/\en=.returned (.bool r.isSome)/\zK [kb] w w'/\∀ K',r=some K'->qR w' kb K'/\(∀ p∈K',TI p.1)/\K'.length<=limit
theorem z1q (w:W8)(kb base:Nat)(ar:O8)(cr:Nat)(rs:List PR)(limit:Nat)(TI:Th->Prop)(K:List (Th × Nat))(hm:qR w kb K)(hr:iq w base (.slice ar rs.length cr) rs)(nT:DP rs TI)(Uu:∀ p∈K,TI p.1)(hK:K.length<=limit)(hl:limit<=50):
  Calls Tryz.prog 60 #[.map (some kb),.slice ar rs.length cr,.int .i64 (limit:Nat)] w (z0h w kb rs limit TI K):=by
 have HM:=zC hm;have HR:=zC hr;have Hq:=zC nT;have h0:z0g w kb base (.slice ar rs.length cr) rs limit TI K 1 K w:=⟨hm,Uu,hK,zK.refl _ _,Nat.le_refl _,by omega,λ _ h=>h⟩;have H0:=zC h0;have dF:=hm.lt;clear hm hr nT Uu hK h0;go_enter Tryz.func60,Tryz.ntmps60;go_wp2_with fail
 go_loopg [7] (limit+1-K.length) (λ gg hv wr=>∃ (n:Nat) (K':List (Th × Nat)),gg=limit+1-K'.length/\hv=.int .i64 (n:Nat)/\z0g w kb base (.slice ar rs.length cr) rs limit TI K n K' wr)
 exact⟨1,K,rfl,rfl,zA H0⟩
 case round=>
  clear H0;obtain⟨n,K',eD,rfl,ax⟩:=hrel;have sP:=ax.len;have ia:=ax.n1;have HN:=zC (z7q wr kb base ar cr rs K' n limit ax.m ((DN.DD (zA HM) ax.k).Rs (zA HR)) (λ r hr=>(zA Hq K' ax.ti r hr).1) ax.len hl);have bT:=zC ax;clear ax;have wV:=zC (λ (w1:W8) (aL:Below wr.heap.size wr w1)=>(zA bT).m.block (aL.block kb (zA bT).m.lt));have Yj:=(zA bT).m.lt;go_wp2_with fail;refine (zA HN).mono ?_;rintro en w1 ⟨aL,⟨fb,L,rfl,me,K4,hh,bX,hlen⟩ | ⟨rfl,L,mT,eY,AB⟩⟩
  ·have nG:=K4.len Tryz.underlying83;have VG:=zC (z6v w1 kb fb K' L (zA wV w1 aL) K4 (by omega) (λ p hp=>((bX p.1).1 (by rw[za5 K4.nodup hp];rfl)).1) (by omega));have fN:=zC aL;have HH:=zC hh;have pT:=zC bX;have We:=zC K4;have dY:=aL.size;clear aL hh bX K4
   cases hL:L with
   | nil=>
    subst hL;go_wp2_with fail;go_ret;have ax:=zA bT;exact⟨some K',ax.rel _ (.done λ t ht=>by have:=(zA pT t).2 ht;cases this),rfl,ax.k.ak (zA fN),λ K2 e=>by cases e;exact⟨zA wV w1 (zA fN),ax.ti,ax.len⟩⟩
   | cons p tl=>
    have hz:(L.length:Int)≠0:=(by rw[hL];simp;omega);have aJ:0<L.length:=(by rw[hL];simp);clear hL;go_wp2_with (go_at_call 100;refine (zA VG).mono ?_;rintro en w2 ⟨⟨v2,rfl⟩,bn,S',dD,sj,lh⟩;have wR:=zC bn;have wU:=zC dD;have DY:=zC sj;clear bn dD sj);have mh:0<S'.length:=by
     cases hS:S' with
     | nil=>
      exfalso
      cases hL:L with
      | nil=>rw[hL] at aJ;simp at aJ
      | cons q tl=>have:=(zA DY q).2 (by rw[hL];exact List.mem_cons_self);rw[hS] at this;cases this
     | cons q tl=>simp
    have bX:∀ t,(∃ m,(t,m)∈S')↔ztm rs K' t:=λ t=>by
     rw[<-zA pT t]
     constructor
     ·rintro⟨m,hm⟩;rw[za5 (zA We).nodup ((zA DY _).1 hm)];rfl
     ·intro h;obtain⟨m,hm⟩:=Option.isSome_iff_exists.1 h;exact⟨m,(zA DY _).2 (jV hm)⟩
    go_roundg (limit+1-(K'++S').length)
    case measure=>rw[List.length_append];omega
    case rel=>
     have ax:=zA bT;refine⟨n+1,K'++S',rfl,by go_num,zA wU,λ q hq=>?_,by rw[List.length_append];omega,(ax.k.ak (zA fN)).trans (zA wR),by omega,by rw[List.length_append];omega,λ r hr=>ax.rel r (.more (λ e=>by rw[e] at mh;simp at mh) (by have mT:=(zA wU).nodup;rw[List.map_append,List.nodup_append] at mT;exact mT.2.1) (λ q hq=>zA HH q ((zA DY q).1 hq)) bX (by omega) hr)⟩;rcases List.mem_append.1 hq with hq | hq
     ·exact ax.ti q hq
     ·exact (zA Hq).new ax.ti ((bX q.1).1 ⟨q.2,hq⟩)
  ·have fN:=zC aL;clear aL;go_wp2_with fail;go_ret;have ax:=zA bT;exact⟨none,ax.rel _ (.fG L mT eY AB),rfl,ax.k.ak (zA fN),λ K2 e=>by cases e⟩
end
end Go.Proofs.YtldkpahaocjdpaaGreat
