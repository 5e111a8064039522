/-
  from: the positive literals are matched one after another.
-/
import Derived.Test.YtldkpahaocjdpaaGreatD13
import Derived.Laws.EntriesVeiled
set_option maxHeartbeats 16000000
set_option maxRecDepth 1000000
namespace Go.Proofs.YtldkpahaocjdpaaGreat
section
open Go.RowKit Go.Maps
attribute [local go_sem ↓] qR jO qP vU xY xX xQ xW
attribute [local go_sem] jC qB vD vC
def J5 (K:List (Th × Nat))(neg:List yY)(a:yY)(r:List yY)(e:zX)(Lf:Th->Prop)(x:zX):Prop:=∃ p∈K,¬ Lf p.1/\∃ e',zV e a p.1=some e'/\x∈qO K neg r e'
variable {e x:zX} {r neg:List yY} {a:yY} {K:List (Th × Nat)}
theorem zlh:x∈qO K neg (a::r) e↔∃ p∈K,∃ e',zV e a p.1=some e'/\x∈qO K neg r e':=by
 unfold qO;rw[List.mem_filter,zQ,List.mem_flatMap]
 constructor
 ·rintro⟨⟨p,hp,hx⟩,hd⟩
  cases hm:zV e a p.1 with
  | none=>rw[hm] at hx;cases hx
  | some e'=>rw[hm] at hx;exact⟨p,hp,e',hm,List.mem_filter.2 ⟨hx,hd⟩⟩
 ·rintro⟨p,hp,e',hm,hx⟩;obtain⟨h1,h2⟩:=List.mem_filter.1 hx;exact⟨⟨p,hp,by rw[hm];exact h1⟩,h2⟩
theorem zrs {e':zX}{p:Th × Nat}(hp:p∈K)(hm:zV e a p.1=some e')(hx:x∈zQ K r e'):x∈zQ K (a::r) e:=by
 rw[zQ,List.mem_flatMap];exact⟨p,hp,by rw[hm];exact hx⟩
theorem J5.step {Lf:Th->Prop}{t:Th}{n:Nat}(ht:(t,n)∈K):J5 K neg a r e (λ y=>Lf y/\y≠t) x↔J5 K neg a r e Lf x\/∃ e',zV e a t=some e'/\x∈qO K neg r e':=by
 constructor
 ·rintro⟨p,hp,hn,hx⟩
  by_cases e1:p.1=t
  ·right;rw[e1] at hx;exact hx
  ·left;exact⟨p,hp,λ h=>hn ⟨h,e1⟩,hx⟩
 ·rintro (⟨p,hp,hn,hx⟩ | hx)
  ·exact⟨p,hp,λ h=>hn h.1,hx⟩
  ·exact⟨(t,n),ht,λ h=>h.2 rfl,hx⟩
structure z8s (No:Nat->Prop)(J:List zX->W8->Prop)(w:W8)(mb rb:Nat)(K:List (Th × Nat))(neg:List yY)(a:yY)(r:List yY)(e:zX)(pre:List zX)(M:Nat)(Lf:Th->Prop)(ys:List zX)(dF:Nat)(wr:W8):Prop where
 rg:dq wr mb rb K Lf dF
 cn:dF<=K.length
 mem:∀ x,x∈ys↔J5 K neg a r e Lf x
 len:ys.length<=(K.length-dF)*M
 j:J (pre++ys) wr
 kp:jQ No w wr
 bv:BV wr w.heap.size e
variable {M g d:Nat}
theorem z7f (h0:0<g)(h:g<=M):(M-g)*M ^ d+M ^ d<=M ^ (d+1):=by
 have e1:(M-g)*M ^ d+M ^ d=(M-g+1)*M ^ d:=by rw[Nat.succ_mul]
 rw[e1,Nat.pow_succ,Nat.mul_comm];exact Nat.mul_le_mul_left _ (by omega)
theorem z3u {c:Nat}(h:c<g)(hg:g<=M):(M-g)*M ^ d+M ^ d<=(M-c)*M ^ d:=by
 have e1:(M-g)*M ^ d+M ^ d=(M-g+1)*M ^ d:=by rw[Nat.succ_mul]
 rw[e1];exact Nat.mul_le_mul_right _ (by omega)
theorem z6d (No:Nat->Prop)(sb mb l:Nat)(pos neg:List (yY × Value))(pv nv:Value)(K:List (Th × Nat))(Qx:zX->Prop)(J Jx:List zX->W8->Prop)(B N:Nat)(hJ:AbidesFrom B J)(hY:zzy No l N Qx J Jx)(Cd:∀ g,No g->g<B)(Vs:List B8)(hV:Vs.length<=12)(uX:∀ x∈pos,∀ t∈x.1.ts,t.1=true->t.2∈Vs):∀ (d i:Nat) (e:zX) (w:W8) (pre:List zX),i+d=pos.length->ud No w sb mb l pos neg pv nv K->J pre w->B<=w.heap.size->xN Vs e->(∀ e'∈zQ K ((pos.drop i).map (·.1)) e,∀ x∈neg,zbj (zT e' x.1))->pre.length+K.length ^ d<=N->(∀ x∈qO K (neg.map (·.1)) ((pos.drop i).map (·.1)) e,Qx x) ->
  Calls Tryz.prog 234 #[.pointer (some ⟨sb,0,none⟩),.int .i64 (i:Nat),jD e] w (zu7 No J Jx pre (qO K (neg.map (·.1)) ((pos.drop i).map (·.1)) e) (K.length ^ d) w):=by
 intro d
 induction d with
 | zero=>
  intro i e w pre hi hC hp hB hl bX hN hq;rw[Nat.add_zero] at hi;subst hi;have hd:(pos.drop pos.length).map (·.1)=([]:List yY):=by rw[List.drop_length];rfl
  rw[hd] at bX hq ⊢;exact z06 No w sb mb l pos neg pv nv K hC e (by have:=hl.len;omega) (bX e (by simp[zQ])) Qx hq J Jx B N hJ hY pre hp (by rw[Nat.pow_zero] at hN;omega) (λ g hg=>by have:=Cd g hg;omega)
 | succ d ih=>
  intro i e w pre hi hC hp hB hl bX hN hq;have HQ:=zC hq;clear hq;have qj:i<pos.length:=by omega
  obtain⟨base,aE⟩:=hC.p.row;obtain⟨an,cn,rfl⟩:=zE aE;have mG:=vV aE;unfold maxLen at mG;have Hg:=zC ih;have tr:=zC hl;have xq:=zC uX;have H:=zC hC;have HP:=zC hp;have HJ:=zC hJ;have HY:=zC hY;have qz:=zC hN;have iS:=zC bX;have mX:=zC Cd;have HB:=zC hB;have HI:=zC hi;have lJ:=(Array.getElem?_eq_some_iff.1 hC.s).1;have bG:(i:Int)≠pos.length:=by omega
  clear ih hC hp hJ hY hN bX Cd hB aE hi hl uX;go_enter Tryz.func234,Tryz.ntmps234;go_upto_region 1 with fail;generalize hw0:World.alloc w _=w0;have k0:Below w.heap.size w w0:=by rw[<-hw0];exact (Below.refl w.heap.size w).alloc L9 _
  have x0:BV w0 w.heap.size e:=by rw[<-hw0];exact BV.new w e
  have s0:w0.heap.size=w.heap.size+1:=by rw[<-hw0];simp
  have oW:=(zA H).gH (jQ.aF k0);clear hw0;obtain⟨c0,-⟩:=zB oW.s 0;obtain⟨c2,-⟩:=zB oW.s 2;have uD:=oW.m;have mo:=zC x0;have cq:=zC k0;have tG:=zC (qU (zA HJ) (zA HP) k0);have fH:=zC s0;clear oW x0 k0 s0;go_wp2_with (first | (at_range;refine zh8 _ rfl _ 82 rfl Tryz.underlying82 mb K rfl uD ?_;intro w1 hrg1 eP js) | go_in)
  try go_frame
  obtain⟨AT,nu⟩:∃ AT,AT=pos[i].1:=⟨_,rfl⟩;obtain⟨RS,Ch⟩:∃ RS,RS=(pos.drop (i+1)).map (·.1):=⟨_,rfl⟩;have Lw:(pos.drop i).map (·.1)=AT::RS:=by rw[nu,Ch,List.drop_eq_getElem_cons qj,List.map_cons]
  have h0:z8s No J w mb w0.heap.size K (neg.map (·.1)) AT RS e pre (K.length ^ d) (λ _=>True) [] K.length w1:=by
   have kk:Below w0.heap.size w0 w1:=⟨eP.os,eP.tape,eP.output,eP.size,λ j hj=>eP.block j hj (by simp)⟩;refine⟨hrg1,Nat.le_refl _,λ x=>⟨λ h=>absurd h List.not_mem_nil,λ ⟨p,hp,hn,_⟩=>absurd trivial hn⟩,by simp,?_,(jQ.aF (zA cq)).trans (jQ.aF kk),(zA mo).below kk⟩;rw[List.append_nil];exact qU (zA HJ) (zA tG) kk
  have Mv:=zC Lw;have tf:=zC nu;have p9:=zC Ch;clear hrg1 eP js uD c0 c2 Lw nu Ch
  go_loopg [] K.length (λ gg wr=>∃ (Lf:Th->Prop) (ys:List zX),z8s No J w mb w0.heap.size K (neg.map (·.1)) AT RS e pre (K.length ^ d) Lf ys gg wr)
  exact⟨_,_,h0⟩
  case round=>
   clear h0;obtain⟨Lf,ys,ak⟩:=hrel;have jf:=ak.rg;have bt:=zC ak;clear ak;go_wp2_with (first | (at_next;refine zkh _ rfl _ rfl mb w0.heap.size K Lf gk rfl jf ?_ ?_) | go_in)
   ·intro cF;have HD:=zC cF;clear cF jf;go_wp2_with fail;go_ret;rw[zA Mv];have ak:=zA bt;refine .inl ⟨rfl,ys,λ x=>?_,?_,ak.j,ak.kp⟩
    ·rw[ak.mem,zlh];exact⟨λ ⟨p,hp,_,h⟩=>⟨p,hp,h⟩,λ ⟨p,hp,h⟩=>⟨p,hp,zA HD p.1.1 p.1.2 p.2 hp,h⟩⟩
    ·refine Nat.le_trans ak.len ?_;rw[Nat.pow_succ,Nat.mul_comm];exact Nat.mul_le_mul_left _ (Nat.sub_le _ _)
   ·intro tp tts n w2 cnt2 gZ kV hrg2 gX dd lj hen2;generalize ((tp,tts):Th)=t at *;have ak:=zA bt;have nI:=zA fH;have DE:jQ No w w2:=ak.kp.grown dd (λ r e1=>.inl (by cases e1;omega));have EG:BV w2 w.heap.size e:=(dd.block _ ak.bv.lt (by simp;omega)).trans ak.bv;have FB:J (pre++ys) w2:=zA HJ _ _ _ _ ak.j dd (λ r e1=>by cases e1;exact⟨by have:=zA HB;omega,ak.rg.iter⟩);have EN:=(zA H).gH DE;have iU:=zC hrg2;have Bd:=zC DE;have Hh:=zC FB;have ks:=zC EN;have wk:=zC EG;have fU:=zC gZ;have hlen:=ak.len;have oA:=zC hlen;have Av:=ak.cn;have fM:=gX;have iR:=zC ak.mem;have Ee:=zC kV;clear lj jf hrg2 dd DE EG FB EN gZ hlen ak bt kV nI;go_upto_region 6 with fail;generalize hw3:World.alloc w2 _=w3;have k3:Below w2.heap.size w2 w3:=(by rw[<-hw3];exact (Below.refl w2.heap.size w2).alloc L9 _);have t3:TV w3 w2.heap.size t:=(by rw[<-hw3];exact TV.new w2 t);have s3:w3.heap.size=w2.heap.size+1:=(by rw[<-hw3];simp);have b3:BV w3 w.heap.size e:=(zA wk).below k3;have rY:=(zA ks).gH (jQ.aF k3);obtain⟨a0,-⟩:=zB rY.s 0;obtain⟨xz,lh⟩:=rY.p.row;obtain⟨g,cap,hv,iC,dp,dG,dx,hc⟩:=vL zhf lh i qj;injection hv with h1 h2 h3
    subst h1 h3;have hx:pos[i]∈pos:=List.getElem_mem qj;obtain⟨tb,gl⟩:=rY.p.aS _ hx;obtain⟨ta,tc,ji⟩:=zE gl;have gE:=rY.p.ft _ hx;rw[<-zA tf] at gE;have e0:w3.cell? ⟨g,i*2,none⟩=some (.string AT.p):=(by have:=hc 0 (by omega);rw[zA tf];exact this);have e1:w3.cell? ⟨g,i*2+1,none⟩=some (.slice ta AT.ts.length tc):=(by have:=hc 1 (by omega);rw[zA tf,<-ji];exact this);have ia:w3.ownsRow tb 191 1 (.slice ta AT.ts.length tc) AT.ts.length (AT.ts.map zaz):=(by rw[zA tf,<-ji];exact gl);have xo:=zC (show ∀ t∈AT.ts,t.1=true->t.2∈Vs by rw[zA tf];exact zA xq _ hx);have HM:=zC (λ (W:W8) (hW:Below w3.heap.size w3 W)=>zfs W tb e AT ta tc t (zP ia (λ g e1=>hW.block g (ia.lt g e1).2)) gE Vs hV (zA tr) (zA xo));have HA:=zC (λ (W:W8) (hW:Below w3.heap.size w3 W)=>(show BV W w.heap.size e/\TV W w2.heap.size t/\W.cell? ⟨sb,0,none⟩=some (.slice (some ⟨g,0,none⟩) pos.length cn)/\W.cell? ⟨g,i*2,none⟩=some (.string AT.p)/\W.cell? ⟨g,i*2+1,none⟩=some (.slice ta AT.ts.length tc) from ⟨b3.below hW,t3.below hW,(hW.cell (p:=⟨sb,0,none⟩) (by have:=(Array.getElem?_eq_some_iff.1 rY.s).1;exact this)).trans a0,(hW.cell (p:=⟨g,i*2,none⟩) dp).trans e0,(hW.cell (p:=⟨g,i*2+1,none⟩) dp).trans e1⟩));have CQ:∀ w':W8,BV w' w.heap.size e->(zgp (.pointer (some ⟨w.heap.size,0,none⟩))).run Tryz.prog w'=.ok (jD e) w':=λ _ h=>h.load
    have CR:∀ w':W8,TV w' w2.heap.size t->(zej (.pointer (some ⟨w2.heap.size,0,none⟩))).run Tryz.prog w'=.ok (thV t) w':=λ _ h=>h.load
    have vm:=zC rY;have qy:=zC k3;have LD:(i:Int)<pos.length:=(by omega);have d1:w.heap.size≠w3.heap.size:=(by have:=b3.lt;omega);have d2:w2.heap.size≠w3.heap.size:=(by omega);have d3:sb≠w3.heap.size:=(by have:=(Array.getElem?_eq_some_iff.1 rY.s).1;omega);have d4:g≠w3.heap.size:=(by omega);clear s3;simp only[List.getElem?_toArray,List.getElem?_cons_zero] at a0;clear hw3 k3 rY lh hc hx gl ji ia h2;obtain⟨R,hR⟩:∃ R,R=zV e AT t:=⟨_,rfl⟩;rw[<-hR] at HM;have HR:=zC hR;clear hR
    go_cut [8,9] from 37 to 59 (λ p c wc=>∃ nb,p=.pointer (some ⟨nb,0,none⟩)/\c=.bool R.isSome/\BV wc nb (R.getD [])/\Below w3.heap.size w3 wc)
    case first=>
     go_region_held3 (λ w'=>BV w' w.heap.size e/\TV w' w2.heap.size t/\w'.cell? ⟨sb,0,none⟩=some (.slice (some ⟨g,0,none⟩) pos.length cn)/\w'.cell? ⟨g,i*2,none⟩=some (.string AT.p)/\w'.cell? ⟨g,i*2+1,none⟩=some (.slice ta AT.ts.length tc)) ((refine zA HA _ ?_;first | exact bY | exact B9.drew | exact (B9.alloc L9 _).drew | exact bY.alloc bY.size _ | exact z6 bY L9 _)) ((go_at_call 62;refine (zA HM _ (by first | exact B9.drew | exact (B9.alloc L9 _).drew)).mono ?_;rintro en w4 ⟨bQ,rfl⟩;have bY:Below w3.heap.size w3 w4:=(by first | exact zL bQ | exact zbp (B9.alloc L9 _) bQ);first | (have uO:=((BV.new w3 []).below (zL bQ)).store (R.getD [])) | skip))
     all_goals
      go_wp2_with fail;go_meet
      case rel=>first | exact⟨_,rfl,rfl,BV.new _ _,bY.alloc bY.size _⟩ | exact⟨_,rfl,rfl,setRow_heap _ _ _ _ _ _ ((BV.new w3 []).below (zL bQ)),z6 bY L9 _⟩
    case rest=>
     generalize wc=wA at *;obtain⟨nb,rfl,rfl,kf,fu⟩:=hcut;have o8:jQ No w2 wA:=(jQ.aF (zA qy)).trans (jQ.aF fu);have L5:Below w2.heap.size w2 wA:=(zA qy).trans (fu.mono (zA qy).size);have FC:J (pre++ys) wA:=qU (zA HJ) (zA Hh) L5;have zm:dq wA mb w0.heap.size K (λ x=>Lf x/\¬ x=t) cnt2:=(zA iU).blocks (L5.block _ (zA iU).map.lt) (L5.block _ (zA iU).lt);have EO:=(zA ks).gH o8;have pg:(zgp (.pointer (some ⟨nb,0,none⟩))).run Tryz.prog wA=.ok (jD (R.getD [])) wA:=kf.load;have D7:=zC FC;have iu:=zC zm;have D3:=zC EO;have tC:=zC ((zA Bd).trans o8);have wm:=zC ((zA wk).below L5);have GL:=Nat.le_trans (zA tC).size L9;have BE:=zC GL;clear kf fu o8 L5 FC zm EO CQ CR t3 b3 e0 e1 a0 d1 d2 d3 d4 HA HM vm qy GL dp iC hen2
     cases hr:R with
     | none=>
      have ng:=zC ((zA HR).symm.trans hr);rw[hr] at pg;clear hr pg;go_wp2_with fail;go_roundg cnt2
      case measure=>omega
      case rel=>
       refine⟨_,ys,zA iu,by omega,λ x=>?_,?_,zA D7,zA tC,zA wm⟩
       ·rw[zA iR x,J5.step (zA fU)];exact⟨.inl,λ h=>h.elim id λ ⟨e',h1,_⟩=>by rw[zA ng] at h1;cases h1⟩
       ·exact Nat.le_trans (zA oA) (Nat.mul_le_mul_right _ (by omega))
     | some e2=>
      have ng:=zC ((zA HR).symm.trans hr);rw[hr] at pg;have iQ:=zC (zA Hg (i+1) e2 wA (pre++ys) (by have:=zA HI;omega) (zA D3) (zA D7) (Nat.le_trans (zA HB) (zA BE)) ((zA tr).matched (zA xo) (zA ng)) (λ e' iE=>zA iS e' (by rw[zA Mv,zA p9];exact zrs (zA fU) (zA ng) iE)) (by have h1:=zA oA;have h2:=zA qz;have h3:=z7f (M:=K.length) (g:=gk) (d:=d) (by omega) Av;rw[List.length_append];omega) (λ x hx=>zA HQ x (by rw[zA Mv,zlh];exact⟨(t,n),zA fU,e2,zA ng,by rw[zA p9];exact hx⟩)));clear hr;go_wp2_with (go_at_call 234;refine (zA iQ).mono ?_;rintro en w5 (⟨rfl,h5⟩ | ⟨rfl,h5⟩) <;> (have H5:=zC h5;clear h5))
      ·go_roundg cnt2
       case measure=>omega
       case rel=>
        obtain⟨zs,cB,bZ,pO,ll⟩:=zA H5;obtain⟨o,za,uK⟩:=(zA iu).iter;obtain⟨es,ck,fa⟩:=(zA iu).map.isMap;refine⟨_,ys++zs,(zA iu).blocks ((ll.same _ _ fa (zA D3).nm (.inr rfl)).trans fa.symm) ((ll.same _ _ za (λ hn=>by have:=zA mX _ hn;have:=zA HB;have:=zA fH;omega) (.inr uK)).trans za.symm),by omega,λ x=>?_,?_,by rw[<-List.append_assoc];exact pO,(zA tC).trans ll,(zA wm).gH ll (λ hn=>by have:=zA mX _ hn;have:=zA HB;omega)⟩
        ·rw[List.mem_append,zA iR x,J5.step (zA fU),cB,zA p9];exact⟨λ h=>h.imp id λ h=>⟨e2,zA ng,h⟩,λ h=>h.imp id λ ⟨e',h1,h2⟩=>by rw[zA ng] at h1;cases h1;exact h2⟩
        ·have h1:=zA oA;have h3:=z3u (M:=K.length) (g:=gk) (c:=cnt2) (d:=d) gX Av;rw[List.length_append];omega
      ·go_ret;obtain⟨zs,cB,bZ⟩:=zA H5;rw[zA Mv];refine .inr ⟨rfl,ys++zs,λ x hx=>?_,by rw[<-List.append_assoc];exact bZ⟩;rw[zlh];rcases List.mem_append.1 hx with hx | hx
       ·obtain⟨p,hp,_,h⟩:=(zA iR x).1 hx;exact⟨p,hp,h⟩
       ·exact⟨(t,n),zA fU,e2,zA ng,by rw[zA p9];exact cB x hx⟩
end
section
open Go.RowKit Go.Maps
theorem zjq (w:W8)(base:Nat)(pd:B8)(ah:O8)(nh ch:Nat)(ab:O8)(cb:Nat)(ls:List (yX × Value))(h:aK w base (.slice ab ls.length cb) ls)(hl:ls.length<=1000):
  Calls Tryz.prog 223 #[.agg #[.string pd,.slice ah nh ch,.slice ab ls.length cb]] w λ e w'=>∃ (a:O8) (c:Nat),e=.returned (.slice a (ls.filter (yW true)).length c)/\w'.ownsRow (w.heap.size+1) 79 2 (.slice a (ls.filter (yW true)).length c) (ls.filter (yW true)).length ((ls.filter (yW true)).flatMap xZ)/\Below w.heap.size w w'/\w.heap.size<w'.heap.size:=by
 have b1:=(Below.refl w.heap.size w).alloc L9 (.cells #[.string pd,.slice ah nh ch,.slice ab ls.length cb] 123);have h0:=h.below b1;clear h;go_enter Tryz.func223,Tryz.ntmps223;go_wp2_with fail;refine (zqp _ base pd ah nh ch ab cb ls true h0 hl).mono ?_;rintro e w1 ⟨a,c,rfl,hr,hb,hz⟩;go_wp2_with fail;go_ret;refine⟨a,c,rfl,zI hr (by simp),b1.trans (hb.mono (by simp)),by simp at hz;omega⟩
def zhp (x:yX × Value):yY × Value:=(⟨x.1.pd,x.1.ts⟩,x.2)
def zY (b:Bool)(ls:List (yX × Value)):List (yY × Value):=(ls.filter (yW b)).map zhp
theorem M6 (b:Bool)(ls:List (yX × Value)):(zY b ls).flatMap zen=(ls.filter (yW b)).flatMap xZ:=by
 unfold zY;rw[List.flatMap_map];rfl
theorem Mj (b:Bool)(ls:List (yX × Value)):(zY b ls).length=(ls.filter (yW b)).length:=by unfold zY;simp
variable {w:W8}
theorem zog {No:Nat->Prop}{w':W8}{base base':Nat}{bv v:Value}{ls:List (yX × Value)}{b:Bool}(h:aK w base bv ls)(hk:Below w.heap.size w w')(hr:w'.ownsRow base' 79 2 v (ls.filter (yW b)).length ((ls.filter (yW b)).flatMap xZ))(hb:∀ g,No g->g<base')(ht:∀ x∈ls,∀ g,x.2.ownBlock=some g->¬ No g)(hf:∀ x∈ls,x.1.ts.length<=4):jG No w' v (zY b ls):=by
 have key:∀ x∈zY b ls,∃ y∈ls,x=zhp y:=λ x hx=>by
  obtain⟨y,hy,rfl⟩:=List.mem_map.1 hx;exact⟨y,(List.mem_filter.1 hy).1,rfl⟩
 refine⟨⟨base',by rw[Mj,M6];exact hr⟩,λ x hx=>?_,λ g hg hn=>?_,λ x hx g hg=>?_,λ x hx=>?_⟩
 ·obtain⟨y,hy,rfl⟩:=key x hx;exact⟨base,zG (h.each y hy) hk (λ g e=>((h.each y hy).lt g e).2)⟩
 ·have:=(hr.lt g hg).1;have:=hb g hn;omega
 ·obtain⟨y,hy,rfl⟩:=key x hx;exact ht y hy g hg
 ·obtain⟨y,hy,rfl⟩:=key x hx;exact hf y hy
def SV (w:W8)(b:Nat)(pv nv mv fv:Value):Prop:=w.heap[b]?=some (.cells #[pv,nv,mv,fv] 361 (0,0))
noncomputable def zsp (p v:Value):Sem Unit:=Instr.storeAt 361 p v
noncomputable def z3l (h:Bool)(v:Value):Sem Value:=Instr.alloc 361 h v
theorem z4b (p v:Value):Instr.storeAt 361 p v=zsp p v:=rfl
theorem z4a (h:Bool)(v:Value):Instr.alloc 361 h v=z3l h v:=rfl
theorem zy0 (w:W8)(v:Value):(z3l true v).run Tryz.prog w=.ok (.pointer (some ⟨w.heap.size,0,none⟩)) (w.alloc (.cells #[.slice none 0 0,.slice none 0 0,.map none,.nilFunc] 361)):=by
 unfold z3l;simp[Instr.alloc,newVar,newRow,go_sem]
theorem zx1:(Tryz.prog.info? 361).map (·.size)=some 4:=by kernel_rfl
theorem SV.store {b:Nat}{p0 n0 m0 f0:Value}(h:SV w b p0 n0 m0 f0){pv nv mv fv:Value}(h1:pv.oneCell'=true)(h2:nv.oneCell'=true)(h3:mv.oneCell'=true)(h4:fv.oneCell'=true):(zsp (.pointer (some ⟨b,0,none⟩)) (.agg #[pv,nv,mv,fv])).run Tryz.prog w=.ok () (w.setRow b #[pv,nv,mv,fv]):=by
 unfold zsp Instr.storeAt Instr.sureAddr;simp only[Sem.run_bind,Sem.run_pure,Result.andThen_ok];exact run_storeVar_row w b _ 361 _ _ h (by rw[zx1];rfl) rfl (by simp[h1,h2,h3,h4])
end
section
open Go.RowKit Go.Maps
attribute [local go_sem ↓] qR jO qP xQ z4b z4a
attribute [local go_sem] jC qB zy0
variable {W:W8}
theorem zs9 {m m' l:Nat}{args:Array Value}{R:Ending->W8->Prop}(h:YieldAt Fence.wide m Tryz.prog l args W R):YieldAt Fence.wide m' Tryz.prog l args W R:=by
 obtain⟨fn,tmps,assign,body,hy,hF,hR⟩:=h;exact⟨fn,tmps,assign,body,hy,hF,λ c cs _=>hR c cs (room_wide _)⟩
structure Kt (No:Nat->Prop)(w:W8)(rb xb eb mb:Nat)(pd:B8)(hv bv:Value)(base:Nat)(ls:List (yX × Value))(K:List (Th × Nat))(e:zX):Prop where
 r:w.heap[rb]?=some (.cells #[.string pd,hv,bv] 123 (0,0))
 x:w.heap[xb]?=some (.cells #[.map (some mb)] 82 (0,0))
 b:BV w eb e
 l:aK w base bv ls
 m:jA w mb K
 nm:¬ No mb
 nt:∀ x∈ls,∀ g,x.2.ownBlock=some g->¬ No g
 no:∀ g,No g->g<w.heap.size
 l3:ls.length<=3
 t4:∀ x∈ls,x.1.ts.length<=4
 h:∃ a n c,hv=.slice a n c
theorem Kt.below {No:Nat->Prop}{w w':W8}{rb xb eb mb:Nat}{pd:B8}{hv bv:Value}{base:Nat}{ls:List (yX × Value)}{K:List (Th × Nat)}{e:zX}(h:Kt No w rb xb eb mb pd hv bv base ls K e)(k:Below w.heap.size w w'):Kt No w' rb xb eb mb pd hv bv base ls K e:=
 ⟨(k.block _ (Array.getElem?_eq_some_iff.1 h.r).1).trans h.r,(k.block _ (Array.getElem?_eq_some_iff.1 h.x).1).trans h.x,h.b.below k,h.l.below k,h.m.block (k.block _ h.m.lt),h.nm,h.nt,λ g hg=>by have:=h.no g hg;have:=k.size;omega,h.l3,h.t4,h.h⟩
theorem SV.new (w:W8)(pv nv mv fv:Value):SV (w.alloc (.cells #[pv,nv,mv,fv] 361)) w.heap.size pv nv mv fv:=heap_alloc_new w _
variable {pv nv:Value} {w w':W8}
theorem SV.below {b:Nat}{mv fv:Value}(h:SV w b pv nv mv fv)(k:Below w.heap.size w w'):SV w' b pv nv mv fv:=(k.block b (Array.getElem?_eq_some_iff.1 h).1).trans h
theorem SV.put {b:Nat}{p0 n0 m0 f0:Value}(h:SV w b p0 n0 m0 f0)(a a':O8)(n n' c c' m l:Nat):(zsp (.pointer (some ⟨b,0,none⟩)) (.agg #[.slice a n c,.slice a' n' c',.map (some m),.func (.yield l) #[] #[]])).run Tryz.prog w=.ok () (w.setRow b #[.slice a n c,.slice a' n' c',.map (some m),.func (.yield l) #[] #[]]):=h.store rfl rfl rfl rfl
theorem zy1 (w:W8)(p0 n0 m0 f0:Value)(a a':O8)(n n' c c' m l:Nat):(zsp (.pointer (some ⟨w.heap.size,0,none⟩)) (.agg #[.slice a n c,.slice a' n' c',.map (some m),.func (.yield l) #[] #[]])).run Tryz.prog (w.alloc (.cells #[p0,n0,m0,f0] 361))=.ok () (w.alloc (.cells #[.slice a n c,.slice a' n' c',.map (some m),.func (.yield l) #[] #[]] 361)):=by
 rw[(SV.new w p0 n0 m0 f0).put,World.setRow_alloc_new]
variable {sb:Nat} {As:List (yY × Value)} {v:Value} {No:Nat->Prop}
theorem jG.setRow (h:jG No w v As)(cs:Array Value)(h1:∀ g,v.ownBlock=some g->g≠sb)(h2:∀ x∈As,∀ g,x.2.ownBlock=some g->g≠sb):jG No (w.setRow sb cs) v As:=
 ⟨let ⟨b,hb⟩:=h.row;⟨b,zP hb (λ g hg=>setRow_other w sb g cs (h1 g hg))⟩,λ x hx=>let ⟨b,hb⟩:=h.aS x hx;⟨b,zP hb (λ g hg=>setRow_other w sb g cs (h2 x hx g hg))⟩,h.ap,h.BP,h.ft⟩
theorem jG.below (h:jG No w v As)(k:Below w.heap.size w w'):jG No w' v As:=h.gH (jQ.aF k)
structure Nf (No:Nat->Prop)(W:W8)(ls:List (yX × Value))(sb:Nat)(pv nv:Value)(V:W8):Prop where
 p:jG No V pv (zY false ls)
 n:jG No V nv (zY true ls)
 pb:∀ g,pv.ownBlock=some g->g≠sb
 nb:∀ g,nv.ownBlock=some g->g≠sb
 tb:∀ x∈ls,∀ g,x.2.ownBlock=some g->g<W.heap.size
 k:Below W.heap.size W V
variable {ls:List (yX × Value)}
theorem zc1 {b:Bool}{x:yY × Value}(hx:x∈zY b ls):∃ y∈ls,x=zhp y:=by
 obtain⟨y,hy,rfl⟩:=List.mem_map.1 hx;exact⟨y,(List.mem_filter.1 hy).1,rfl⟩
theorem Nf.set {V:W8}(h:Nf No W ls sb pv nv V)(hs:W.heap.size<=sb)(cs:Array Value):jG No (V.setRow sb cs) pv (zY false ls)/\jG No (V.setRow sb cs) nv (zY true ls)/\Below W.heap.size W (V.setRow sb cs):=
 ⟨h.p.setRow cs h.pb (λ x hx g hg=>by obtain⟨y,hy,rfl⟩:=zc1 hx;have:=h.tb y hy g hg;omega),h.n.setRow cs h.nb (λ x hx g hg=>by obtain⟨y,hy,rfl⟩:=zc1 hx;have:=h.tb y hy g hg;omega),z6 h.k hs cs⟩
theorem zum {w5:W8}{rb xb eb mb:Nat}{pd:B8}{hv bv:Value}{base:Nat}{K:List (Th × Nat)}{e:zX}(h:Kt No W rb xb eb mb pd hv bv base ls K e)(hB:Below W.heap.size W w5){V4 V5:Nat}(hp:w5.ownsRow (V4+1) 79 2 pv (ls.filter (yW false)).length ((ls.filter (yW false)).flatMap xZ))(hn:w5.ownsRow (V5+1) 79 2 nv (ls.filter (yW true)).length ((ls.filter (yW true)).flatMap xZ))(h4:W.heap.size<=V4)(h5:W.heap.size<=V5)(sb:Nat)(pb:∀ g,pv.ownBlock=some g->g≠sb)(nb:∀ g,nv.ownBlock=some g->g≠sb):Nf No W ls sb pv nv w5:=
 ⟨zog h.l hB hp (λ g hg=>by have:=h.no g hg;omega) h.nt h.t4,zog h.l hB hn (λ g hg=>by have:=h.no g hg;omega) h.nt h.t4,pb,nb,λ x hx g hg=>((h.l.each x hx).lt g hg).2,hB⟩
def zK (ls:List (yX × Value)):List yY:=(zY false ls).map (·.1)
def xU (ls:List (yX × Value)):List yY:=(zY true ls).map (·.1)
abbrev jN (K:List (Th × Nat))(ls:List (yX × Value))(e:zX):={ x:zX // x∈qO K (xU ls) (zK ls) e }
def zb5 (ls:List (yX × Value)):List B8:=(zK ls).flatMap λ x=>x.ts.map (·.2)
theorem zd2 {x:yY}(hx:x∈zK ls){t:zb8}(ht:t∈x.ts):t.2∈zb5 ls:=List.mem_flatMap.2 ⟨x,hx,List.mem_map_of_mem ht⟩
theorem zk5 {α β:Type}{f:α->List β}{n:Nat}:∀ (l:List α),(∀ x∈l,(f x).length<=n)->(l.flatMap f).length<=n*l.length
 | [],_=>by simp
 | x::l,h=>by
  have h1:=h x List.mem_cons_self;have h2:=zk5 l (λ y hy=>h y (List.mem_cons_of_mem _ hy));rw[List.flatMap_cons,List.length_append,List.length_cons,Nat.mul_succ];omega
theorem zd1 (h3:ls.length<=3)(h4:∀ x∈ls,x.1.ts.length<=4):(zb5 ls).length<=12:=by
 have h1:=zk5 (n:=4) (f:=λ x:yY=>x.ts.map (·.2)) (zK ls) (λ x hx=>by
  obtain⟨y,hy,rfl⟩:=List.mem_map.1 hx;obtain⟨z,hz,rfl⟩:=zc1 hy;rw[List.length_map]
  exact h4 z hz)
 have h2:(zK ls).length<=3:=by unfold zK;rw[List.length_map,Mj];exact Nat.le_trans (List.length_filter_le _ _) h3
 unfold zb5;omega
theorem zg8 (No:Nat->Prop)(n:Nat)(w:W8)(rb xb eb mb:Nat)(pd:B8)(hv bv:Value)(base:Nat)(ls:List (yX × Value))(K:List (Th × Nat))(e:zX)(h:Kt No w rb xb eb mb pd hv bv base ls K e)(bX:∀ e'∈zQ K (zK ls) e,∀ x∈xU ls,zbj (zT e' x))(oj:xN (zb5 ls) e):
  SeqStopsK Fence.wide n Tryz.prog 233 #[.pointer (some ⟨rb,0,none⟩),.pointer (some ⟨xb,0,none⟩),.pointer (some ⟨eb,0,none⟩)] (λ x:jN K ls e=>#[jD x.1]) (jQ No) (λ xs=>∀ x,x∈xs) (λ _=>True) (K.length ^ (zK ls).length) w:=by
 intro l J' EC W hW Al hJx' hY sZ;have hI:=h.below hW;obtain⟨J,C9⟩:∃ J:List zX->W8->Prop,J=λ pre V=>∃ pV:List (jN K ls e),pV.map (·.1)=pre/\J' pV V:=⟨_,rfl⟩
 obtain⟨Jx,tY⟩:∃ Jx:List zX->W8->Prop,Jx=λ pre V=>∃ pV:List (jN K ls e),pV.map (·.1)=pre/\EC pV V:=⟨_,rfl⟩
 have hJ:AbidesFrom W.heap.size J:=λ s A B row hs hg hr=>by
  rw[C9] at hs ⊢;obtain⟨p',h1,h2⟩:=hs;exact⟨p',h1,Al p' A B row h2 hg hr⟩
 have h0:J [] W:=by rw[C9];exact⟨[],rfl,sZ⟩
 have hR:zzy No l (K.length ^ (zK ls).length) (λ x=>x∈qO K (xU ls) (zK ls) e) J Jx:=λ m pre x W1 hx h1 h2=>by
  rw[C9] at h1;obtain⟨p',rf,h1⟩:=h1;refine zs9 (YieldAt.mono (hY p' ⟨x,hx⟩ W1 h1 (by rw[<-rf,List.length_map] at h2;exact h2)) ?_);rintro en W' (⟨rfl,h3,h4⟩ | ⟨rfl,h3⟩)
  ·exact⟨true,rfl,λ _=>⟨by rw[C9];exact⟨p'++[⟨x,hx⟩],by simp[rf],h3⟩,h4⟩,λ h=>by cases h⟩
  ·exact⟨false,rfl,(λ h=>by cases h),λ _=>by rw[tY];exact⟨p'++[⟨x,hx⟩],by simp[rf],h3⟩⟩
 have Hi:=zC C9;have Ba:=zC tY;refine callsIn_wide.2 ?_;obtain⟨ab,cb,rfl⟩:=zE h.l.row;obtain⟨ah,nh,ch,rfl⟩:=h.h;obtain⟨c0,-⟩:=zB hI.r 0;obtain⟨c1,-⟩:=zB hI.r 1;obtain⟨c2,-⟩:=zB hI.r 2;obtain⟨d0,-⟩:=zB hI.x 0;have l3:=hI.l3;have iG:=(Array.getElem?_eq_some_iff.1 hI.r).1;have LY:=(Array.getElem?_eq_some_iff.1 hI.x).1;have HI:=zC hI;have HJ:=zC hJ;have HR:=zC hR;have A8:=zC h0;have iS:=zC bX;have tr:=zC oj;simp only[List.getElem?_toArray,List.getElem?_cons_zero,List.getElem?_cons_succ] at c0 c1 c2 d0;have HP:=zC (λ (V:W8) (hV:Below W.heap.size W V)=>za7 V base pd ah nh ch ab cb ls (hI.l.below hV) (by omega));have HN:=zC (λ (V:W8) (hV:Below W.heap.size W V)=>zjq V base pd ah nh ch ab cb ls (hI.l.below hV) (by omega));have HA:=zC (λ (V:W8) (hV:Below W.heap.size W V)=>(show V.cell? ⟨rb,0,none⟩=some (.string pd)/\V.cell? ⟨rb,1,none⟩=some (.slice ah nh ch)/\V.cell? ⟨rb,2,none⟩=some (.slice ab ls.length cb)/\V.cell? ⟨xb,0,none⟩=some (.map (some mb)) from ⟨(hV.cell (p:=⟨rb,0,none⟩) iG).trans c0,(hV.cell (p:=⟨rb,1,none⟩) iG).trans c1,(hV.cell (p:=⟨rb,2,none⟩) iG).trans c2,(hV.cell (p:=⟨xb,0,none⟩) LY).trans d0⟩));clear h hI hR hJ Al hJx' hY h0 sZ bX oj hW C9 tY;go_enter Tryz.func233,Tryz.ntmps233;go_upto_region 0 with fail
 go_cut [5] from 6 to 15 (λ p wc=>∃ sb pv nv,p=.pointer (some ⟨sb,0,none⟩)/\W.heap.size<=sb/\SV wc sb pv nv (.map (some mb)) (.func (.yield l) #[] #[])/\jG No wc pv (zY false ls)/\jG No wc nv (zY true ls)/\Below W.heap.size W wc)
 case first=>
  have sM:=zy1
  go_region_held3 (λ V=>V.cell? ⟨rb,0,none⟩=some (.string pd)/\V.cell? ⟨rb,1,none⟩=some (.slice ah nh ch)/\V.cell? ⟨rb,2,none⟩=some (.slice ab ls.length cb)/\V.cell? ⟨xb,0,none⟩=some (.map (some mb))) ((refine zA HA _ ?_;first | exact B9.drew | exact (B9.alloc L9 _).drew | exact bY | exact bY.alloc bY.size _ | exact gi | exact gi.alloc gi.size _ | exact z6 gi L9 _ | exact z6 gi bY.size _)) ((first
   | (go_at_call 164;refine (zA HP _ (by first | exact B9.drew | exact (B9.alloc L9 _).drew)).mono ?_;rintro en w4 ⟨a4,c4,rfl,eY,bQ,ll⟩;have bY:Below W.heap.size W w4:=(by first | exact zL bQ | exact zbp (B9.alloc L9 _) bQ);have nY:=zC eY;clear eY)
   | (go_at_call 223;refine (zA HN _ (by first | exact bY | exact bY.alloc bY.size _)).mono ?_;rintro en w5 ⟨a5,c5,rfl,ri,eO,u6⟩;have gi:Below W.heap.size W w5:=(by first | exact bY.trans (eO.mono bY.size) | exact (bY.alloc bY.size _).trans (eO.mono (by simp;have:=bY.size;omega)));have tJ:=zC ri;clear ri;first | (have Dl:=(((SV.new W _ _ _ _).below (zL bQ)).below eO).put a4 a5 (ls.filter (yW false)).length (ls.filter (yW true)).length c4 c5 mb l) | (have Dl:=((SV.new w4 _ _ _ _).below eO).put a4 a5 (ls.filter (yW false)).length (ls.filter (yW true)).length c4 c5 mb l) | skip)))
  all_goals
   go_wp2_with fail;go_meet
   case rel=>
    have IC:=zA tJ
    first
     | (have ql:=zG (zA nY) eO (λ g e=>((zA nY).lt g e).2);have hR:=zum (zA HI) gi ql IC L9 bY.size w5.heap.size (λ g hg=>by have:=(ql.lt g hg).2;omega) (λ g hg=>by have:=(IC.lt g hg).2;omega);exact⟨_,_,_,rfl,gi.size,SV.new _ _ _ _ _,hR.p.below (B9.alloc L9 _),hR.n.below (B9.alloc L9 _),gi.alloc gi.size _⟩)
     | (have ql:=zG (zA nY) ((((Below.refl _ w4).alloc L9 _)).trans (eO.mono (by simp))) (λ g e=>((zA nY).lt g e).2);have hR:=zum (zA HI) gi ql IC L9 (by simp;have:=bY.size;omega) w4.heap.size (λ g hg=>by have:=((zA nY).lt g hg).2;omega) (λ g hg=>by have:=(IC.lt g hg).1;simp at this;omega);obtain⟨q1,q2,q3⟩:=hR.set bY.size #[.slice a4 (ls.filter (yW false)).length c4,.slice a5 (ls.filter (yW true)).length c5,.map (some mb),.func (.yield l) #[] #[]];exact⟨_,_,_,rfl,bY.size,setRow_heap _ _ _ _ _ _ ((SV.new w4 _ _ _ _).below eO),q1,q2,q3⟩)
     | (have ql:=zG (zA nY) eO (λ g e=>((zA nY).lt g e).2);have hR:=zum (zA HI) gi ql IC (by simp) bY.size W.heap.size (λ g hg=>by have:=(ql.lt g hg).1;simp at this;omega) (λ g hg=>by have:=(IC.lt g hg).1;have:=bY.size;omega);obtain⟨q1,q2,q3⟩:=hR.set L9 #[.slice a4 (ls.filter (yW false)).length c4,.slice a5 (ls.filter (yW true)).length c5,.map (some mb),.func (.yield l) #[] #[]];exact⟨_,_,_,rfl,Nat.le_refl _,setRow_heap _ _ _ _ _ _ (((SV.new W _ _ _ _).below (zL bQ)).below eO),q1,q2,q3⟩)
 case rest=>
  obtain⟨sb,pv,nv,rfl,F7,lk,oP,ya,ei⟩:=hcut;have dw:=(zA HI).below ei;have cP:=(zA HI).no;have hC:ud No wc sb mb l (zY false ls) (zY true ls) pv nv K:=⟨lk,λ hn=>by have:=cP _ hn;omega,oP,ya,dw.m,dw.nm,by rw[Mj];exact Nat.le_trans (List.length_filter_le _ _) dw.l3⟩;have dP:(zK ls).length=(zY false ls).length:=by unfold zK;simp
  have HF:=zC (z6d No sb mb l (zY false ls) (zY true ls) pv nv K (λ x=>x∈qO K (xU ls) (zK ls) e) J Jx W.heap.size (K.length ^ (zK ls).length) (zA HJ) (zA HR) cP (zb5 ls) (zd1 (zA HI).l3 (zA HI).t4) (λ x hx t ht _=>zd2 (List.mem_map_of_mem hx) ht) (zY false ls).length 0 e wc [] (Nat.zero_add _) hC (qU (zA HJ) (zA A8) ei) ei.size (zA tr) (λ e' iE x hx=>zA iS e' iE x.1 (List.mem_map_of_mem hx)) (by rw[dP];simp) (λ x hx=>hx));have qi:=dw.b.load;clear dw hC lk oP ya;go_wp2_with (go_at_call 234;refine (zA HF).mono ?_;rintro en w6 (⟨rfl,h6⟩ | ⟨rfl,h6⟩) <;> (have H6:=zC h6;clear h6))
  ·go_end0;obtain⟨ys,h1,_,h3,_⟩:=zA H6;rw[List.nil_append,zA Hi] at h3;obtain⟨AS,hy,h3⟩:=h3;refine⟨⟨_,rfl⟩,.inl ⟨AS,λ x=>?_,h3⟩⟩;have h4:x.1∈AS.map (·.1):=(by rw[hy];exact (h1 x.1).2 x.2);obtain⟨y,Kn,Ko⟩:=List.mem_map.1 h4;rw[<-Subtype.ext Ko];exact Kn
  ·go_end0;obtain⟨ys,h1,h3⟩:=zA H6;rw[List.nil_append,zA Ba] at h3;obtain⟨AS,hy,h3⟩:=h3;exact⟨⟨_,rfl⟩,.inr ⟨AS,trivial,h3⟩⟩
end
end Go.Proofs.YtldkpahaocjdpaaGreat
