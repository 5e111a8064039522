/-
  next: the things of a height.
-/
import Derived.Test.YtldkpahaocjdpaaGreatD20
set_option maxHeartbeats 16000000
set_option maxRecDepth 1000000
namespace Go.Proofs.YtldkpahaocjdpaaGreat
section
open Go.RowKit Go.Maps
attribute [local go_sem ↓] qR jO qP xQ vU xY xX xW
attribute [local go_sem] Oper.semAt_some
attribute [local go_sem] jC qB vD vC
theorem z6w (w:W8)(kb base:Nat)(ar:O8)(cr:Nat)(rs:List PR)(K:List (Th × Nat))(h limit:Nat)(hm:jA w kb K)(hr:aD w base (.slice ar rs.length cr) rs)(bX:∀ r∈rs,zu9 K r)(hK:K.length<=limit)(hl:limit<=50):
  Calls Tryz.prog 99 #[.map (some kb),.slice ar rs.length cr,.int .i64 (h:Nat),.int .i64 (limit:Nat)] w (z48 w rs K h limit):=by
 have mG:=vV hr.row;unfold maxLen at mG;have HM:=zC hm;have HR:=zC hr;have iS:=zC bX;have du:=hm.lt;clear hm hr bX;refine callsIn_wide.1 (callsIn_of_wp_marks (F:=Fence.wide) (n:=5) Tryz.func99 rfl trivial (wpIn_wide.2 ?_) rfl);simp only[Tryz.ntmps99,List.size_toArray,List.length_cons,List.length_nil,Nat.reduceAdd,Nat.reduceSub,Array.replicate_succ,Array.replicate_zero,List.push_toArray,List.append_toArray,List.nil_append,List.cons_append];have bD:=@run_makeMap Tryz.prog;go_wp2_with fail;generalize hw0:World.alloc (World.alloc (World.alloc (World.alloc (World.alloc (World.alloc (World.alloc w _) _) _) _) _) _) _=w0;have dJ:dS w kb (w.heap.size+1+1+1+1+1) h limit K [] w0:=by
  rw[<-hw0];exact dS.start w kb h limit K (zA HM)
 have nW:=zC dJ;clear hw0 dJ;refine wp_loop_ghost_k (λ gg a wr=>∃ (k:Nat) (ds:List Nat) (u:Nat->Value) (L:List (Th × Nat)),k<=rs.length/\gg=rs.length-k/\a={ tmps:=#[Value.map (some kb),.slice ar rs.length cr,.int IntKind.i64 (h:Nat),.int IntKind.i64 (limit:Nat),.pointer (some ⟨w.heap.size,0,none⟩),undef,.pointer (some ⟨w.heap.size+1,0,none⟩),.pointer (some ⟨w.heap.size+1+1,0,none⟩),.pointer (some ⟨w.heap.size+1+1+1,0,none⟩),.pointer (some ⟨w.heap.size+1+1+1+1,0,none⟩),.pointer (some ⟨w.heap.size+1+1+1+1+1+1,0,none⟩),undef,u 12,u 13,u 14,u 15,u 16,Value.map (some (w.heap.size+1+1+1+1+1)),.slice ar rs.length cr,.int IntKind.i64 (rs.length:Nat),.int IntKind.i64 (k:Nat),u 21,u 22,u 23,u 24,u 25,u 26,u 27,u 28,u 29,u 30,u 31,u 32,u 33,u 34,u 35,u 36,u 37,u 38,u 39,u 40,u 41,u 42,u 43,u 44,u 45,u 46,u 47,u 48,u 49,u 50],defers:=z80 ds }/\dS w kb (w.heap.size+1+1+1+1+1) h limit K L wr/\pX rs K (rs.take k) ⟨⟨{ data:=#[] },[],[]⟩,undef,[],undef⟩ [] h L/\KQ w ds wr/\K.length+L.length<=limit) rs.length ?_ ?_
 ·exact⟨0,[],λ _=>undef,[],Nat.zero_le _,rfl,rfl,zA nW,⟨by simp,by simp,by simp,by simp,by simp⟩,⟨by simp,by simp⟩,by simpa using hK⟩
 ·intro gk a wr hI Jl Kl hJl B5;obtain⟨k,ds,u,L,hk,fM,rfl,dJ,eQ,kL,hlen⟩:=hI;have nW:=zC dJ;have oB:=zC eQ;have nU:=zC kL;clear dJ eQ kL
  by_cases aN:k<rs.length
  ·have dJ:=zA nW;obtain⟨r,eI⟩:∃ r,r=rs[k]:=⟨_,rfl⟩;have bC:r∈rs:=(by rw[eI];exact List.getElem_mem aN);have ak:=(zA HR).each r bC;have mM:=zA iS r bC;obtain⟨ah,ch,fs⟩:=zE ak.hd;obtain⟨ab,cb,fi⟩:=zE ak.bo.row;obtain⟨g,cap,hv,iC,dp,dG,dx,hc⟩:=vL zpy (zA HR).row k aN;injection hv with h1 h2 h3
   subst h1 h3;have ei:=dJ.bw;have e0:wr.cell? ⟨g,k*3,none⟩=some (.string r.R.pd):=(by rw[eI];exact (ei.cell (p:=⟨g,k*3,none⟩) dp).trans (hc 0 (by omega)));have e1:wr.cell? ⟨g,k*3+1,none⟩=some (.slice ah r.R.ts.length ch):=(by rw[<-fs,eI];exact (ei.cell (p:=⟨g,k*3+1,none⟩) dp).trans (hc 1 (by omega)));have e2:wr.cell? ⟨g,k*3+2,none⟩=some (.slice ab r.bs.length cb):=(by rw[<-fi,eI];exact (ei.cell (p:=⟨g,k*3+2,none⟩) dp).trans (hc 2 (by omega)));obtain⟨c4,-⟩:=zB dJ.k4 0;simp only[List.getElem?_toArray,List.getElem?_cons_zero] at c4;have gW:(k:Int)<rs.length:=(by omega);have lK:w.heap.size<wr.heap.size:=(Array.getElem?_eq_some_iff.1 dJ.k4).1;obtain⟨EJ,-⟩:=zB ((Below.heap_alloc wr (.cells #[.string r.R.pd,.slice ah r.R.ts.length ch,.slice ab r.bs.length cb] 123) _ lK).trans dJ.k4) 0;have hA:lM (λ i=>i=w.heap.size+1+1+1+1+1) (wr.alloc (.cells #[.string r.R.pd,.slice ah r.R.ts.length ch,.slice ab r.bs.length cb] 123)) kb (.slice ah r.R.ts.length ch) (.slice ab r.bs.length cb) base r.bs K:=by
    have kA:Below w.heap.size w (wr.alloc (.cells #[.string r.R.pd,.slice ah r.R.ts.length ch,.slice ab r.bs.length cb] 123)):=ei.alloc ei.size _;have eL:=ak.bo;rw[fi] at eL;refine⟨eL.below kA,(zA HM).block (kA.block _ du),by omega,λ x hx g hg=>by have:=((ak.bo.each x hx).lt g hg).2;omega,λ i hi=>by have:=(Array.getElem?_eq_some_iff.1 dJ.f10).1;simp;omega,mM.l3,mM.t4,_,_,_,rfl⟩
   have HW:=zC (zs5 _ _ kb r.R.pd _ _ base r.bs K hA);have bt:=zC ak;have ly:=zC mM;have iR:=zC bC;have lR:=zC eI;have A3:=zC fs;simp only[List.getElem?_toArray,List.getElem?_cons_zero] at EJ;clear dJ ak mM bC eI hc hA fi fs h2 ei;go_wp2_with (go_at_call 145;refine (zA HW).mono ?_;rintro en w1 ⟨rb,xb,eb,rfl,aT,bq⟩;have cR:=zC aT;have xr:=zC bq;clear aT bq);have aT:=zA cR;have bq:=zA xr;have dJ:=zA nW;have js:wr.heap.size+1<=w1.heap.size:=(by have:=aT.size;simpa using this);have Cx:∀ D∈ds,D<w1.heap.size:=λ D hD=>by have:=(Array.getElem?_eq_some_iff.1 ((zA nU).at_ D hD).2).1;omega
   have Ly:=(Array.getElem?_eq_some_iff.1 dJ.f10).1;have kw:Below wr.heap.size wr w1:=(B9.alloc L9 _).trans (aT.mono (by simp));have pG:KR w kb h limit K rs (rs.take k) r wr.heap.size ah ab ch cb ds [] L w1:=by
    have hn:=zA oB;refine⟨dJ.below kw,⟨hn.hs,hn.nd,hn.new,hn.all,by simp⟩,hlen,⟨(zA nU).nd,λ D hD=>⟨((zA nU).at_ D hD).1,(kw.block D (Array.getElem?_eq_some_iff.1 ((zA nU).at_ D hD).2).1).trans ((zA nU).at_ D hD).2⟩⟩,(aT.block _ (by simp)).trans (heap_alloc_new wr _)⟩
   have fT:=zC pG;have Mw:=zC kw;have kt:=zC Ly;have tm:=zC Cx;have ni:=zC js;clear aT dJ pG kw Ly Cx js e0 e1 e2 c4 EJ lK;refine (wpIn_wide (n:=5)).1 ?_;refine wpIn_rangeFunc_ownH (α:=jN K r.bs []) rfl (by omega) (gf:=233) (lb:=#[.pointer (some ⟨rb,0,none⟩),.pointer (some ⟨xb,0,none⟩),.pointer (some ⟨eb,0,none⟩)]) rfl trivial (enters_of Tryz.func233 (by kernel_rfl) rfl)
    (zg8 _ _ w1 rb xb eb kb r.R.pd _ _ base r.bs K [] bq (zA ly).neg (xN.nil _)) (λ h1 h2=>jQ.trans h1 h2) (λ W l o o' _ hl hc hwk=>zds W l o o' hl hc hwk) B9 (λ _=>rfl)
    (λ (pre:List (jN K r.bs [])) (W:W8)=>∃ L',KR w kb h limit K rs (rs.take k) r wr.heap.size ah ab ch cb ds (pre.map (λ y:jN K r.bs []=>y.1)) L' W/\w1.heap.size<=W.heap.size)
    (λ (c:Code) (_:List (jN K r.bs [])) (W:W8)=>c=.ret/\∃ L',MJ w kb h limit K rs ds L' W)
    (λ pre A B row hs hg hr=>let ⟨L',hL,hz⟩:=hs;⟨L',hL.grown hg (λ i e=>(hr i e).1) (by have:=zA kt;have:=zA ni;omega) (by have:=zA ni;omega) (zA tm),Nat.le_trans hz hg.size⟩)
    (λ c pre A B row hs hg hr=>let ⟨hc,L',hL⟩:=hs;⟨hc,L',hL.grown hg (λ i e=>(hr i e).1) (by have:=zA kt;have:=zA ni;omega) (zA tm)⟩)
    ⟨L,zA fT,Nat.le_refl _⟩
    (λ (x:jN K r.bs []) (a':Act) (W:W8)=>∃ Bx,w1.heap.size<=Bx/\BV W Bx x.1/\a'={ tmps:=List.toArray ((Value.map (some kb))::(Value.slice (some ⟨g,0,none⟩) rs.length cr)::(Value.int IntKind.i64 (h:Nat))::(Value.int IntKind.i64 (limit:Nat))::(Value.pointer (some ⟨w.heap.size,0,none⟩))::(undef)::(Value.pointer (some ⟨w.heap.size+1,0,none⟩))::(Value.pointer (some ⟨w.heap.size+1+1,0,none⟩))::(Value.pointer (some ⟨w.heap.size+1+1+1,0,none⟩))::(Value.pointer (some ⟨w.heap.size+1+1+1+1,0,none⟩))::(Value.pointer (some ⟨w.heap.size+1+1+1+1+1+1,0,none⟩))::(undef)::(Value.pointer (some ⟨wr.heap.size,0,none⟩))::(Value.pointer (some ⟨Bx,0,none⟩))::(u 14)::(u 15)::(u 16)::(Value.map (some (w.heap.size+1+1+1+1+1)))::(Value.slice (some ⟨g,0,none⟩) rs.length cr)::(Value.int IntKind.i64 (rs.length:Nat))::(Value.int IntKind.i64 (k:Nat))::(Value.bool true)::(Value.pointer (some ⟨g,k*3,none⟩))::(Value.agg #[.string r.R.pd,.slice ah r.R.ts.length ch,.slice ab r.bs.length cb])::(Value.agg #[.string r.R.pd,.slice ah r.R.ts.length ch,.slice ab r.bs.length cb])::(Value.map (some kb))::(Value.func (.func 233) #[] #[.pointer (some ⟨rb,0,none⟩),.pointer (some ⟨xb,0,none⟩),.pointer (some ⟨eb,0,none⟩)])::(jD x.1)::(u 28)::(u 29)::(u 30)::(u 31)::(u 32)::(u 33)::(u 34)::(u 35)::(u 36)::(u 37)::(u 38)::(u 39)::(u 40)::(u 41)::(u 42)::(u 43)::(u 44)::(u 45)::(u 46)::(u 47)::(u 48)::(u 49)::(u 50)::[]),defers:=[] })
    (λ x a' _ A B row hs hg hr=>let ⟨Bx,h1,h2,h3⟩:=hs;⟨Bx,h1,h2.grown hg (λ i e=>(hr i e).2),h3⟩)
    ?assign ?body ?done ?stop
   case assign=>
    intro l pre x W K2 hI bM;obtain⟨L',hL,hz⟩:=hI;have ky:=zC bM;have HL:=zC hL;clear bM hL
    gi_wp2
    exact zA ky _ _ ((KeepsOthers.alloc _ _).from _) ((jQ.refl _ _).alloc _) ⟨L',(zA HL).grown (World.grownBy_alloc W _ none) (B:=w1.heap.size) (λ _ e=>by cases e) (by have:=zA kt;have:=zA ni;omega) (by have:=zA ni;omega) (zA tm),by simp;omega⟩ ⟨W.heap.size,hz,BV.new _ _,rfl⟩
   case body=>
    rintro l pre x a' W CP-⟨L',hL,hz⟩ ⟨Bx,B3,kf,rfl⟩ -;obtain⟨T,ko⟩:∃ T,T=zT x.1 (vJ r):=⟨_,rfl⟩;have pK:=(List.mem_filter.1 x.2).1;have hT:zbj T:=(by rw[ko];exact (zA ly).hd x.1 pK);have nO:=(zA ly).len x.1 pK;have qi:=kf.load;obtain⟨q0,-⟩:=zB hL.rl 0;obtain⟨q1,-⟩:=zB hL.rl 1;simp only[List.getElem?_toArray,List.getElem?_cons_zero,List.getElem?_cons_succ] at q0 q1;have aE:W.ownsRow base 191 1 (.slice ah (vJ r).ts.length ch) (vJ r).ts.length ((vJ r).ts.map zaz):=by
     have:=zG (zA bt).hd hL.box.bw (λ g e=>((zA bt).hd.lt g e).2);rw[zA A3] at this;exact this
    have nT:=zC (zc8 W base x.1 (vJ r) ah ch aE (zA ly).h4 nO);rw[<-ko] at nT;have HL:=zC hL;have rT:=zC ko;have HT:=zC hT;have vj:=zC kf;clear hL ko hT kf aE pK nO
    have Bg:=zC (λ (w4:W8) (bQ:Below W.heap.size W w4)=>(show KR w kb h limit K rs (rs.take k) r wr.heap.size ah ab ch cb ds (pre.map (λ y:jN K r.bs []=>y.1)) L' (w4.alloc (.cells (zJ T).toArray 88))/\Below W.heap.size W (w4.alloc (.cells (zJ T).toArray 88)) from by
     have kk:Below W.heap.size W (w4.alloc (.cells (zJ T).toArray 88)):=bQ.alloc bQ.size _
     exact⟨(zA HL).grown (row:=none) ⟨kk.os,kk.tape,kk.output,kk.size,λ i hi _=>kk.block i hi⟩ (B:=w1.heap.size) (λ _ e=>by cases e) (by have:=zA kt;have:=zA ni;omega) (by have:=zA ni;omega) (zA tm),kk⟩))
    have pY:=zC (λ (V:W8) (L2:List (Th × Nat)) (hV:dS w kb (w.heap.size+1+1+1+1+1) h limit K L2 V)=>(show V.cell? ⟨w.heap.size,0,none⟩=some (.map (some kb))/\V.cell? ⟨w.heap.size+1,0,none⟩=some (.int .i64 (h:Nat))/\V.cell? ⟨w.heap.size+1+1,0,none⟩=some (.int .i64 (limit:Nat))/\V.cell? ⟨w.heap.size+1+1+1+1+1+1,0,none⟩=some (.map (some (w.heap.size+1+1+1+1+1))) from ⟨(zB hV.k4 0).1,(zB hV.h6 0).1,(zB hV.l7 0).1,(zB hV.f10 0).1⟩));have dm:=zC (show w.heap.size+1+1+1+1+1+1<w1.heap.size by have:=zA kt;have:=zA ni;omega)
    cases ho:(z7 K T).isSome with
    | true=>
     gi_wp2_with (refine⟨trivial,?_⟩;gi_at_call 146;refine (CallsIn.inRound l (callsIn_wide.2 (zA nT))).mono ?_;rintro en w4 ⟨bQ,rfl⟩;obtain⟨n5,b5⟩:=zA Bg w4 bQ;obtain⟨m0,m1,m2,m3⟩:=zA pY _ _ n5.box;have t5:=(TV.new w4 T).load;have L6:=n5.box.mK.look (zA HT) Tryz.underlying83;rw[ho] at L6;have HN:=zC n5;have ox:=zC b5;clear n5 b5 bQ)
     refine⟨(KeepsOthers.of_grownBy (row:=none) ⟨(zA ox).os,(zA ox).tape,(zA ox).output,(zA ox).size,λ i hi _=>(zA ox).block i hi⟩ (λ _ _ e=>by cases e)).from _,jQ.aF (zA ox),L',?_,Nat.le_trans hz (zA ox).size⟩;have n5:=zA HN;refine⟨n5.box,?_,n5.len,n5.cX,n5.rl⟩;rw[List.map_append];exact n5.new.old (by rw[<-zA rT];exact ho)
    | false=>
     have cP:z7 K T=none:=(by simpa using ho);have mX:=zC cP;clear cP;have lG:=zlz L' T h;have sr:(zia L' T h).length<=L'.length+1:=(by rw[lG];split <;> omega);have ik:=(zA HL).len;have p7:=zC lG;clear lG;have iB:=zA dm
     by_cases Dg:limit<K.length+(zia L' T h).length
     ·have JT:(limit:Int)<(K.length:Int)+((zia L' T h).length:Int):=by omega
      gi_wp2_with (refine⟨trivial,?_⟩;gi_at_call 146;refine (CallsIn.inRound l (callsIn_wide.2 (zA nT))).mono ?_;rintro en w4 ⟨bQ,rfl⟩;obtain⟨n5,b5⟩:=zA Bg w4 bQ;obtain⟨m0,m1,m2,m3⟩:=zA pY _ _ n5.box;have t5:=(TV.new w4 T).load;have L6:=n5.box.mK.look (zA HT) Tryz.underlying83;rw[ho] at L6;obtain⟨w6,fX,pj,uT⟩:=n5.box.mF.put (zA HT) h (by unfold maxLen;omega) Tryz.underlying83;have n6:=n5.box.mi uT.grown pj;obtain⟨p0,p1,p2,p3⟩:=zA pY _ _ n6;have Kz:=n6.mK.len Tryz.underlying83;have KA:=n6.mF.len Tryz.underlying83;have HN:=zC n5;have ox:=zC b5;have vv:=zC n6;have BG:=zC uT.grown;obtain⟨v8,z8⟩:=zB n6.r8 0;obtain⟨v9,z9⟩:=zB n6.o9 0;simp only[List.getElem?_toArray,List.getElem?_cons_zero] at v8 v9;clear n5 b5 bQ n6 uT pj)
      have n5:=zA HN;have b5:=zA ox;have n6:=zA vv;have g6:=zA BG;have om:KeepsFrom w1.heap.size W w6:=((KeepsOthers.of_grownBy (row:=none) ⟨b5.os,b5.tape,b5.output,b5.size,λ i hi _=>b5.block i hi⟩ (λ _ _ e=>by cases e)).from _).trans (KeepsFrom.of_grownBy g6 (λ j e=>by cases e;omega));rw[zi5 n6.r8 rfl,zi5 n6.o9 rfl];have sG:=n5.new.put (e:=x.1) (zA iR) x.2 (by rw[<-zA rT];exact zA mX);rw[<-zA rT] at sG;exact⟨om,rfl,zia L' T h,n6,sG.nd,sG.new,Dg,⟨n5.cX.nd,λ D hD=>⟨(n5.cX.at_ D hD).1,(g6.block D (Array.getElem?_eq_some_iff.1 (n5.cX.at_ D hD).2).1 (λ e=>by cases e;have:=(n5.cX.at_ _ hD).1;omega)).trans (n5.cX.at_ D hD).2⟩⟩⟩
     ·have JT:¬ ((limit:Int)<(K.length:Int)+((zia L' T h).length:Int)):=by omega
      gi_wp2_with (refine⟨trivial,?_⟩;gi_at_call 146;refine (CallsIn.inRound l (callsIn_wide.2 (zA nT))).mono ?_;rintro en w4 ⟨bQ,rfl⟩;obtain⟨n5,b5⟩:=zA Bg w4 bQ;obtain⟨m0,m1,m2,m3⟩:=zA pY _ _ n5.box;have t5:=(TV.new w4 T).load;have L6:=n5.box.mK.look (zA HT) Tryz.underlying83;rw[ho] at L6;obtain⟨w6,fX,pj,uT⟩:=n5.box.mF.put (zA HT) h (by unfold maxLen;omega) Tryz.underlying83;have n6:=n5.box.mi uT.grown pj;obtain⟨p0,p1,p2,p3⟩:=zA pY _ _ n6;have Kz:=n6.mK.len Tryz.underlying83;have KA:=n6.mF.len Tryz.underlying83;have HN:=zC n5;have ox:=zC b5;have vv:=zC n6;have BG:=zC uT.grown;clear n5 b5 bQ n6 uT pj)
      have n5:=zA HN;have b5:=zA ox;have n6:=zA vv;have g6:=zA BG;have om:KeepsFrom w1.heap.size W w6:=((KeepsOthers.of_grownBy (row:=none) ⟨b5.os,b5.tape,b5.output,b5.size,λ i hi _=>b5.block i hi⟩ (λ _ _ e=>by cases e)).from _).trans (KeepsFrom.of_grownBy g6 (λ j e=>by cases e;omega));refine⟨om,(jQ.aF b5).trans ((jQ.refl _ _).grown g6 (λ r e=>.inr (by cases e;rfl))),zia L' T h,?_,Nat.le_trans hz om.size⟩;have Cx:=zA tm;refine⟨n6,?_,by omega,⟨n5.cX.nd,λ D hD=>⟨(n5.cX.at_ D hD).1,(g6.block D (Array.getElem?_eq_some_iff.1 (n5.cX.at_ D hD).2).1 (λ e=>by cases e;have:=(n5.cX.at_ _ hD).1;omega)).trans (n5.cX.at_ D hD).2⟩⟩,(g6.block _ (Array.getElem?_eq_some_iff.1 n5.rl).1 (λ e=>by injection e with e;have:=zA kt;omega)).trans n5.rl⟩;rw[List.map_append];have:=n5.new.put (e:=x.1) (zA iR) x.2 (by rw[<-zA rT];exact zA mX);rw[<-zA rT] at this;exact this
   case done=>
    rintro D xs W hD hS ⟨L',hL,hz⟩ eF;have HL:=zC hL;have HD:=zC hD;have HS:=zC hS;have lO:=zC eF;have rK:=zC hJl;clear hL hD hS eF hJl;go_wp2_with fail;have hL:=zA HL;have hD:=zA HD;have cT:w.heap.size+1+1+1+1+1+1<w1.heap.size:=(by have:=zA kt;have:=zA ni;omega);refine Handed.intro (rs.length-(k+1)) (by omega) (zA rK _ _ _ ⟨k+1,D::ds,λ i=>if i=12 then Value.pointer (some ⟨wr.heap.size,0,none⟩) else if i=21 then Value.bool true else if i=22 then Value.pointer (some ⟨g,k*3,none⟩) else if i=23 then Value.agg #[.string r.R.pd,.slice ah r.R.ts.length ch,.slice ab r.bs.length cb] else if i=24 then Value.agg #[.string r.R.pd,.slice ah r.R.ts.length ch,.slice ab r.bs.length cb] else if i=25 then Value.map (some kb) else if i=26 then Value.func (.func 233) #[] #[.pointer (some ⟨rb,0,none⟩),.pointer (some ⟨xb,0,none⟩),.pointer (some ⟨eb,0,none⟩)] else if i=49 then Value.int IntKind.i64 ((k:Int)+1) else u i,L',by omega,rfl,rfl,hL.box,?_,⟨List.nodup_cons.2 ⟨λ hm=>by have:=zA tm D hm;omega,hL.cX.nd⟩,λ E hE=>?_⟩,hL.len⟩)
    ·have hn:=hL.new;refine⟨hn.hs,hn.nd,hn.new,λ q hq e he cP=>?_,by simp⟩;rw[List.take_succ_eq_append_getElem aN] at hq;rcases List.mem_append.1 hq with hq | hq
     ·exact hn.all q hq e he cP
     ·rw[List.mem_singleton.1 hq,<-zA lR] at he cP ⊢;exact hn.now e (List.mem_map.2 ⟨⟨e,he⟩,zA HS _,rfl⟩) cP
    ·rcases List.mem_cons.1 hE with rfl | hE
     ·exact⟨by omega,zA lO⟩
     ·exact hL.cX.at_ E hE
   case stop=>
    rintro D c pre W hD-⟨rfl,L',hL⟩ eF;have HL:=zC hL;have HD:=zC hD;have lO:=zC eF;clear hL hD eF
    gi_wp2
    have hL:=zA HL;have hD:=zA HD;have cT:w.heap.size+1+1+1+1+1+1<w1.heap.size:=(by have:=zA kt;have:=zA ni;omega);refine j4 (D::ds) _ (List.nodup_cons.2 ⟨λ hm=>by have:=zA tm D hm;omega,hL.cX.nd⟩) (λ E hE=>?_) (λ w' hs=>?_)
    ·rcases List.mem_cons.1 hE with rfl | hE
     ·exact zA lO
     ·exact (hL.cX.at_ E hE).2
    ·have cP:∀ i,i<=w.heap.size+1+1+1+1+1+1->i∉D::ds:=λ i hi hm=>by
      rcases List.mem_cons.1 hm with rfl | hm
      ·omega
      ·have:=(hL.cX.at_ i hm).1;omega
     have q8:w'.cell? ⟨w.heap.size+1+1+1,0,none⟩=some (.map none):=(zB ((hs.block (w.heap.size+1+1+1) (cP _ (by omega))).trans hL.box.r8) 0).1;have q9:w'.cell? ⟨w.heap.size+1+1+1+1,0,none⟩=some (.bool false):=(zB ((hs.block (w.heap.size+1+1+1+1) (cP _ (by omega))).trans hL.box.o9) 0).1;refine⟨.tuple #[.map none,.bool false],by simp[results,Tryz.results99,go_sem,q8,q9],?_⟩;refine⟨⟨hs.os.trans hL.box.bw.os,hs.tape.trans hL.box.bw.tape,hs.output.trans hL.box.bw.output,by rw[hs.size];exact hL.box.bw.size,λ i hi=>(hs.block i (cP i (by omega))).trans (hL.box.bw.block i hi)⟩,.inr ⟨rfl,L'.map (·.1),hL.nd,λ t ht=>?_,by rw[List.length_map];exact hL.len⟩⟩;obtain⟨p,hp,rfl⟩:=List.mem_map.1 ht;exact hL.new p hp
  ·have dJ:=zA nW;obtain⟨K6,-⟩:=zB dJ.f10 0;obtain⟨c8,z8⟩:=zB dJ.r8 0;obtain⟨c9,z9⟩:=zB dJ.o9 0;simp only[List.getElem?_toArray,List.getElem?_cons_zero] at K6 c8 c9;clear dJ hJl B5;go_wp2_with fail;refine j4 ds _ (zA nU).nd (λ D hD=>?_) (λ w' hs=>?_)
   ·have:=((zA nU).at_ D hD).1;rw[Below.heap_setCell _ _ _ _ (by simp;omega),Below.heap_setCell _ _ _ _ (by simp;omega)];exact ((zA nU).at_ D hD).2
   ·have cP:∀ i,i<=w.heap.size+1+1+1+1+1+1->i∉ds:=λ i hi hm=>by have:=((zA nU).at_ i hm).1;omega
    have q8:w'.cell? ⟨w.heap.size+1+1+1,0,none⟩=some (.map (some (w.heap.size+1+1+1+1+1))):=by
     rw[World.cell?_of_block (by exact hs.block (w.heap.size+1+1+1) (cP _ (by omega))),World.cell?_setCell_other _ _ _ _ (by simp),World.cell?_setCell_same' _ _ _ (by rw[c8];rfl)]
    have q9:w'.cell? ⟨w.heap.size+1+1+1+1,0,none⟩=some (.bool true):=by
     rw[World.cell?_of_block (by exact hs.block (w.heap.size+1+1+1+1) (cP _ (by omega))),World.cell?_setCell_same' _ _ _ (by rw[World.cell?_setCell_other _ _ _ _ (by simp),c9];rfl)]
    refine⟨.tuple #[.map (some (w.heap.size+1+1+1+1+1)),.bool true],by simp[results,Tryz.results99,go_sem,q8,q9],?_⟩;have dJ:=zA nW;have eQ:=zA oB;have ue:∀ i,i<=w.heap.size+1+1+1+1+1+1->i≠w.heap.size+1+1+1->i≠w.heap.size+1+1+1+1->w'.heap[i]?=wr.heap[i]?:=λ i hi h1 h2=>by
     rw[hs.block _ (cP _ hi),Below.heap_setCell _ _ _ _ (by simpa using h2),Below.heap_setCell _ _ _ _ (by simpa using h1)]
    refine⟨⟨hs.os.trans dJ.bw.os,hs.tape.trans dJ.bw.tape,hs.output.trans dJ.bw.output,by rw[hs.size];simp;exact dJ.bw.size,λ i hi=>(ue i (by omega) (by omega) (by omega)).trans (dJ.bw.block i hi)⟩,.inl ⟨_,L,rfl,by omega,dJ.mF.block (ue _ (by omega) (by omega) (by omega)),eQ.hs,λ t=>?_,hlen⟩⟩
    constructor
    ·intro ht;obtain⟨n,hn⟩:=Option.isSome_iff_exists.1 ht;exact eQ.new _ (vP hn)
    ·rintro⟨h1,r,hr,e,he,rfl⟩;exact eQ.all r (by rw[List.take_of_length_le (by omega)];exact hr) e he h1
end
end Go.Proofs.YtldkpahaocjdpaaGreat
