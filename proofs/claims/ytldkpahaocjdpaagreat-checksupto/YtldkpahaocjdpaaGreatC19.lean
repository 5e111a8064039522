/-
  denied: whether a negative literal is said after all.
-/
import Derived.Test.YtldkpahaocjdpaaGreatC18
import Derived.Deep.RegionHeld3
import Derived.RangeFuncBound
import Derived.RangeFuncCalls
import Derived.RangeFuncLeaves
import Derived.Shelf.Abstract
import Derived.Shelf.RegionOpen
import Derived.OwnWalkIn
import Derived.TacticsInMore
import Derived.LoopNIn
import Derived.LoopIn
import Derived.Stop.RegionWithIn
set_option maxHeartbeats 16000000
set_option maxRecDepth 1000000
namespace Go.Proofs.YtldkpahaocjdpaaGreat
section
open Go.RowKit
attribute [local go_sem ↓] zcw zbe zun
attribute [local go_sem] qB za2 zqm
theorem zi5 (x:j6 × Value):(zd8 x).length=2:=rfl
theorem zve (No:Nat->Prop)(w:W8)(sb mb l:Nat)(pos neg:List (j6 × Value))(pv nv:Value)(K:List (Th × Nat))(h:Ij No w sb mb l pos neg pv nv K)(e:xF)(hl:e.length<=12)(cd:∀ x∈neg,zhm (xZ e x.1)):
  Calls Tryz.prog 248 #[.pointer (some ⟨sb,0,none⟩),jV e] w λ en w'=>en=.returned (.bool (zag K (neg.map (·.1)) e))/\Below w.heap.size w w':=by
 obtain⟨cs,ll⟩:∃ cs,cs=(yF e).toArray:=⟨_,rfl⟩;have CX:=zC ll;unfold jV;rw[<-ll];clear ll;obtain⟨base,aB⟩:=h.n.row;obtain⟨an,cn,rfl⟩:=zD aB;have kX:=yN aB;unfold maxLen at kX;have gL:=zC aB;have vp:=(Array.getElem?_eq_some_iff.1 h.s).1;have ET:=zC vp;have H:=zC h;have gK:=zC cd;have q0:cs.size=25:=by rw[zA CX];rfl
 clear h aB cd vp;go_enter Tryz.func248,Tryz.ntmps248;go_upto_region 1 with fail;generalize dK:World.alloc w _=w0;have k0:Below w.heap.size w w0:=by rw[<-dK];exact (Below.refl w.heap.size w).alloc L9 _
 have x0:w0.heap[w.heap.size]?=some (.cells cs 135 (0,0)):=by rw[<-dK];exact heap_alloc_new w _
 have s0:w.heap.size+1=w0.heap.size:=by rw[<-dK];simp
 have Ck:w0.heap[sb]?=some (.cells #[pv,.slice an neg.length cn,.map (some mb),.func (.yield l) #[] #[]] 361 (0,0)):=(k0.block sb (zA ET)).trans (zA H).s;have pt:=xI (zA gL) (λ g e=>k0.block g ((zA gL).lt g e).2);clear dK;obtain⟨c1,-⟩:=zB Ck 1;have xo:=zC x0;have HS:=zC Ck;have eW:=zC k0;have zh:=zC pt;clear x0 Ck k0 pt;go_wp2_with fail
 go_loopg [14] neg.length (λ gg i wr=>∃ k:Nat,k<=neg.length/\gg=neg.length-k/\i=.int .i64 k/\zag K ((neg.drop k).map (·.1)) e=zag K (neg.map (·.1)) e/\Below w0.heap.size w0 wr)
 exact⟨0,Nat.zero_le _,rfl,rfl,rfl,Below.refl _ _⟩
 case round=>
  obtain⟨k,hk,iZ,rfl,ax,hb⟩:=hrel;have HF:=zC ax;have HB:=zC hb;have sz:=hb.size;have pc:Below w.heap.size w wr:=(zA eW).trans (hb.mono (by omega));have uL:=zC pc;clear ax hb pc
  by_cases aE:k<neg.length
  ·obtain⟨g,cap,hv,oN,bR,cZ,da,hc⟩:=vU zi5 (zA zh) k aE;injection hv with h1 h2 h3
   subst h1 h3;have d0:=hc 0 (by omega);have d1:=hc 1 (by omega);have hx:neg[k]∈neg:=List.getElem_mem aE;obtain⟨tb,mU⟩:=(zA H).n.ae _ hx;obtain⟨ta,tc,sr⟩:=zD mU;have kU:=(zA H).n.gH _ hx;obtain⟨D,hD⟩:∃ D,D=neg[k].1:=⟨_,rfl⟩;have nG:w.ownsRow tb 191 1 (.slice ta D.ts.length tc) D.ts.length (D.ts.map zcb):=(by rw[hD,<-sr];exact mU);have e0:wr.cell? ⟨g,k*2+0,none⟩=some (.string D.p):=by
    rw[hD];exact ((zA HB).cell (p:=⟨g,k*2+0,none⟩) bR).trans (hc 0 (by omega))
   have e1:wr.cell? ⟨g,k*2+1,none⟩=some (.slice ta D.ts.length tc):=by
    rw[hD,<-sr];exact ((zA HB).cell (p:=⟨g,k*2+1,none⟩) bR).trans (hc 1 (by omega))
   have Pc:=zC nG;have xn:=zC (show zag K ((neg.drop k).map (·.1)) e=((j2 K (xZ e D)).isSome||zag K ((neg.drop (k+1)).map (·.1)) e) by rw[List.drop_eq_getElem_cons aE,hD];rfl);have J1:=zC (show zhm (xZ e D) by rw[hD];exact zA gK _ hx);rw[<-hD] at kU;have nC:(k:Int)<neg.length:=(by omega);rw[Nat.add_zero] at e0;clear hc d0 d1 mU sr nG hx hD;go_upto_region 4 with fail;generalize gI:World.alloc wr _=w3;have k3:Below wr.heap.size wr w3:=(by rw[<-gI];exact (Below.refl wr.heap.size wr).alloc L9 _);have s3:wr.heap.size+1=w3.heap.size:=(by rw[<-gI];simp);have b3:Below w.heap.size w w3:=(zA uL).trans (k3.mono (by omega));have Kc:Below w0.heap.size w0 w3:=(zA HB).trans (k3.mono (by omega));obtain⟨a0,-⟩:=zB (show w3.heap[wr.heap.size]?=some (.cells #[.string D.p,.slice ta D.ts.length tc] 79 (0,0)) by rw[<-gI];exact heap_alloc_new wr _) 0;obtain⟨a1,-⟩:=zB (show w3.heap[wr.heap.size]?=some (.cells #[.string D.p,.slice ta D.ts.length tc] 79 (0,0)) by rw[<-gI];exact heap_alloc_new wr _) 1;obtain⟨a2,-⟩:=zB ((Kc.block sb (by have:=zA ET;omega)).trans (zA HS)) 2;have r0:BV w3 w.heap.size e:=(by unfold BV;rw[<-zA CX];exact (Kc.block _ (by omega)).trans (zA xo));have Eb:∀ w':W8,BV w' w.heap.size e->(zfu (.pointer (some ⟨w.heap.size,0,none⟩))).run Tryz.prog w'=.ok (jV e) w':=λ _ h=>h.load
   simp only[List.getElem?_toArray,List.getElem?_cons_zero,List.getElem?_cons_succ] at a0 a1 a2;have I8:=zA ET;have Ge:=zC (λ (W:W8) (hW:Below w3.heap.size w3 W)=>(zA H).m.block ((hW.block mb (by have:=(zA H).m.lt;omega)).trans (b3.block mb (zA H).m.lt)));have oK:=zC (λ (W:W8) (hW:Below w3.heap.size w3 W)=>(zg8 W tb e D ta tc (xI (zA Pc) (λ g e1=>(hW.block g (by have:=((zA Pc).lt g e1).2;omega)).trans (b3.block g ((zA Pc).lt g e1).2))) kU hl));have HA:=zC (λ (W:W8) (hW:Below w3.heap.size w3 W)=>(show BV W w.heap.size e/\W.cell? ⟨sb,2,none⟩=some (.map (some mb))/\W.cell? ⟨wr.heap.size,0,none⟩=some (.string D.p)/\W.cell? ⟨wr.heap.size,1,none⟩=some (.slice ta D.ts.length tc) from ⟨r0.below hW,(hW.cell (p:=⟨sb,2,none⟩) (by simp only[];omega)).trans a2,(hW.cell (p:=⟨wr.heap.size,0,none⟩) (by simp only[];omega)).trans a0,(hW.cell (p:=⟨wr.heap.size,1,none⟩) (by simp only[];omega)).trans a1⟩));have kZ:=zC b3;have Jv:=zC Kc;have HS3:=zC s3;clear gI k3 s3 b3 Kc e0 e1 c1 q0 s0 sz
   cases hq:(j2 K (xZ e D)).isSome with
   | true=>
    have HE:=zC (show zag K (neg.map (·.1)) e=true by rw[<-zA HF,zA xn,hq];rfl);have HQ:=zC hq;have OM:=zC (λ (W:W8) (hW:Below w3.heap.size w3 W)=>(show (Instr.lookup 82 (.map (some mb)) (thV (xZ e D)) true).run Tryz.prog W=.ok (.tuple #[.int .i64 (((j2 K (xZ e D)).getD 0:Nat):Int),.bool true]) W from by have:=(zA Ge W hW).look (t:=xZ e D) (zA J1) Tryz.underlying82;rw[hq] at this;exact this));clear hq
    go_region_held3 (λ w'=>BV w' w.heap.size e/\w'.cell? ⟨sb,2,none⟩=some (.map (some mb))/\w'.cell? ⟨wr.heap.size,0,none⟩=some (.string D.p)/\w'.cell? ⟨wr.heap.size,1,none⟩=some (.slice ta D.ts.length tc)) ((simp[*,zxn])) ((first | (go_at_call 146;refine (zA oK _ (by exact B9.drew)).mono ?_;rintro en w4 ⟨cM,rfl⟩;have Da:=zA HA w4 (zV cM);have Qw:=zA OM w4 (zV cM);have ki:=zC (zV cM);clear cM)))
    go_wp2_with fail;go_ret;exact⟨by rw[zA HE];rfl,(zA kZ).trans ((zA ki).mono (by exact (zA kZ).size))⟩
   | false=>
    have HE:=zC (show zag K ((neg.drop (k+1)).map (·.1)) e=zag K (neg.map (·.1)) e by rw[<-zA HF,zA xn,hq];rfl);have HQ:=zC hq;have OM:=zC (λ (W:W8) (hW:Below w3.heap.size w3 W)=>(show (Instr.lookup 82 (.map (some mb)) (thV (xZ e D)) true).run Tryz.prog W=.ok (.tuple #[.int .i64 (((j2 K (xZ e D)).getD 0:Nat):Int),.bool false]) W from by have:=(zA Ge W hW).look (t:=xZ e D) (zA J1) Tryz.underlying82;rw[hq] at this;exact this));clear hq
    go_region_held3 (λ w'=>BV w' w.heap.size e/\w'.cell? ⟨sb,2,none⟩=some (.map (some mb))/\w'.cell? ⟨wr.heap.size,0,none⟩=some (.string D.p)/\w'.cell? ⟨wr.heap.size,1,none⟩=some (.slice ta D.ts.length tc)) ((simp[*,zxn])) ((first | (go_at_call 146;refine (zA oK _ (by exact B9.drew)).mono ?_;rintro en w4 ⟨cM,rfl⟩;have Da:=zA HA w4 (zV cM);have Qw:=zA OM w4 (zV cM);have ki:=zC (zV cM);clear cM)))
    go_wp2_with fail;go_roundg (neg.length-(k+1));exact⟨k+1,by omega,rfl,by go_num,zA HE,(zA Jv).trans ((zA ki).mono (zA Jv).size)⟩;omega
  ·have HE:=zC (show zag K (neg.map (·.1)) e=false by rw[<-zA HF,List.drop_of_length_le (by omega)];rfl);go_wp2_with fail;go_ret;exact⟨by rw[zA HE];rfl,zA uL⟩
end
section
open Go.RowKit Go.Shelf
attribute [local go_sem ↓] zcw zbe zun
attribute [local go_sem] qB za2 zqm
def zxx (No:Nat->Prop)(l N:Nat)(Qx:xF->Prop)(J Jx:List xF->W8->Prop):Prop:=
 ∀ (m:Nat) (pre:List xF) (x:xF) (W:W8),Qx x->J pre W->pre.length<N->YieldAt Fence.wide m Tryz.prog l #[jV x] W λ en W'=>
  ∃ c:Bool,en=.returned (.bool c)/\(c=true->J (pre++[x]) W'/\iT No W W')/\(c=false->Jx (pre++[x]) W')
def zs0 (No:Nat->Prop)(J Jx:List xF->W8->Prop)(pre ws:List xF)(M:Nat)(w:W8)(en:Ending)(w':W8):Prop:=
 (en=.returned (.bool true)/\∃ ys,(∀ x,x∈ys↔x∈ws)/\ys.length<=M/\J (pre++ys) w'/\iT No w w')\/(en=.returned (.bool false)/\∃ ys,(∀ x∈ys,x∈ws)/\Jx (pre++ys) w')
theorem qX {B:Nat}{J:List xF->W8->Prop}(hJ:AbidesFrom B J){s:List xF}{w w':W8}(h:J s w)(k:Below w.heap.size w w'):J s w':=
 hJ s w w' none h ⟨k.os,k.tape,k.output,k.size,λ i hi _=>k.block i hi⟩ (λ _ e=>by cases e)
theorem zy4 (No:Nat->Prop)(w:W8)(sb mb l:Nat)(pos neg:List (j6 × Value))(pv nv:Value)(K:List (Th × Nat))(h:Ij No w sb mb l pos neg pv nv K)(e:xF)(hl:e.length<=12)(cd:∀ x∈neg,zhm (xZ e x.1))
  (Qx:xF->Prop) (hq:∀ x∈zbq K (neg.map (·.1)) [] e,Qx x) (J Jx:List xF->W8->Prop) (B N:Nat) (hJ:AbidesFrom B J) (hY:zxx No l N Qx J Jx) (pre:List xF) (hp:J pre w) (hN:pre.length<N) (nc:∀ g,No g->g<w.heap.size):
  Calls Tryz.prog 234 #[.pointer (some ⟨sb,0,none⟩),.int .i64 (pos.length:Nat),jV e] w (zs0 No J Jx pre (zbq K (neg.map (·.1)) [] e) 1 w):=by
 obtain⟨base,aB⟩:=h.p.row;obtain⟨an,cn,rfl⟩:=zD aB;have kX:=yN aB;unfold maxLen at kX;have vp:=(Array.getElem?_eq_some_iff.1 h.s).1;have ET:=zC vp;have H:=zC h;have HP:=zC hp;have HY:=zC hY;have HJ:=zC hJ;have DE:=zC hN;have gK:=zC cd;have HNB:=zC nc;have HQ:=zC hq;clear hq;clear h aB vp hp hY hJ hN cd nc;go_enter Tryz.func234,Tryz.ntmps234;go_upto_region 1 with fail;generalize dK:World.alloc w _=w0;have k0:Below w.heap.size w w0:=by rw[<-dK];exact (Below.refl w.heap.size w).alloc L9 _
 have x0:BV w0 w.heap.size e:=by rw[<-dK];exact BV.new w e
 have s0:w.heap.size+1=w0.heap.size:=by rw[<-dK];simp
 have uy:=(zA H).og (iT.ai k0);clear dK;obtain⟨c1,-⟩:=zB uy.s 0;have xo:=zC x0;have eW:=zC k0;have A3:=zC uy;have JT:=zC (qX (zA HJ) (zA HP) k0);clear uy x0 k0;go_upto_region 2 with fail;obtain⟨c3,-⟩:=zB (zA A3).s 3;have Eb:∀ w':W8,BV w' w.heap.size e->(zfu (.pointer (some ⟨w.heap.size,0,none⟩))).run Tryz.prog w'=.ok (jV e) w':=λ _ h=>h.load
 have IX:=Eb w0.drew (zA xo);have HD:=zC (λ (W:W8) (hW:Below w0.heap.size w0 W)=>(zve No W sb mb l pos neg _ nv K ((zA A3).og (iT.ai hW)) e hl (zA gK)));have FZ:=zC (λ (W:W8) (hW:Below w0.heap.size w0 W)=>Eb W ((zA xo).below hW));have Dv:=zC (λ (W:W8) (hW:Below w0.heap.size w0 W)=>(hW.cell (p:=⟨sb,3,none⟩) (by have:=zA ET;simp only[];omega)).trans c3);have SA:=zC (λ (W:W8) (hW:Below w0.heap.size w0 W)=>qX (zA HJ) (zA JT) hW);clear Eb c1 c3
 cases hd:zag K (neg.map (·.1)) e with
 | true=>
  rw[hd] at HD;have HW:=zC (show zbq K (neg.map (·.1)) [] e=[] by unfold zbq yY;simp[hd]);clear hd
  first | go_region_with (go_at_call 248;refine (zA HD _ (by exact B9.drew)).mono ?_;rintro en w4 ⟨rfl,cM⟩;have ki:=zC (zV cM);clear cM) | fail
  all_goals
   go_wp2_with fail;go_ret;rw[zA HW];exact .inl ⟨rfl,[],λ _=>Iff.rfl,by simp,by rw[List.append_nil];exact zA SA _ (zA ki),(iT.ai (zA eW)).trans (iT.ai (zA ki))⟩
 | false=>
  rw[hd] at HD;have HW:=zC (show zbq K (neg.map (·.1)) [] e=[e] by unfold zbq yY;simp[hd]);have OV:Qx e:=zA HQ e (by rw[zA HW];exact List.mem_singleton.2 rfl);clear hd;refine (wpIn_wide (n:=2)).1 ?_
  first | gi_region_with (first | (refine⟨trivial,?_⟩;gi_at_call 248;refine (callsIn_wide.2 (zA HD _ (by exact B9.drew))).mono ?_;rintro en w4 ⟨rfl,cM⟩;have ki:=zC (zV cM);have l4:=zA FZ w4 (zA ki);have y4:=zA Dv w4 (zA ki);obtain⟨fn,tmps,assign,body,hy,hR⟩:=zA HY 1 pre e w4 OV (zA SA w4 (zA ki)) (zA DE);clear cM) | (refine hR.mono ?_;rintro en w5 ⟨c,rfl,h5⟩;have H5:=zC h5;clear h5 hR hy)) | fail
  all_goals
   go_wp2_with fail;go_ret;rw[zA HW]
   cases c with
   | true=>exact .inl ⟨rfl,[e],λ _=>Iff.rfl,by simp,((zA H5).1 rfl).1,((iT.ai (zA eW)).trans (iT.ai (zA ki))).trans ((zA H5).1 rfl).2⟩
   | false=>exact .inr ⟨rfl,[e],λ _ h=>h,(zA H5).2 rfl⟩
end
section
open Go.RowKit Go.Maps
attribute [local go_sem ↓] zcw zbe zdd za9 zau zat qB zas
attribute [local go_sem] za2 zdc zby zbx
def Ji (K:List (Th × Nat))(neg:List j6)(a:j6)(r:List j6)(e:xF)(Lf:Th->Prop)(x:xF):Prop:=∃ p∈K,¬ Lf p.1/\∃ e',jA e a p.1=some e'/\x∈zbq K neg r e'
variable {e x:xF} {r neg:List j6} {a:j6} {K:List (Th × Nat)}
theorem zka:x∈zbq K neg (a::r) e↔∃ p∈K,∃ e',jA e a p.1=some e'/\x∈zbq K neg r e':=by
 unfold zbq;rw[List.mem_filter,yY,List.mem_flatMap]
 constructor
 ·rintro⟨⟨p,hp,hx⟩,hd⟩
  cases hm:jA e a p.1 with
  | none=>rw[hm] at hx;cases hx
  | some e'=>rw[hm] at hx;exact⟨p,hp,e',hm,List.mem_filter.2 ⟨hx,hd⟩⟩
 ·rintro⟨p,hp,e',hm,hx⟩;obtain⟨h1,h2⟩:=List.mem_filter.1 hx;exact⟨⟨p,hp,by rw[hm];exact h1⟩,h2⟩
theorem zpu {e':xF}{p:Th × Nat}(hp:p∈K)(hm:jA e a p.1=some e')(hx:x∈yY K r e'):x∈yY K (a::r) e:=by
 rw[yY,List.mem_flatMap];exact⟨p,hp,by rw[hm];exact hx⟩
theorem Ji.step {Lf:Th->Prop}{t:Th}{n:Nat}(ht:(t,n)∈K):Ji K neg a r e (λ y=>Lf y/\y≠t) x↔Ji K neg a r e Lf x\/∃ e',jA e a t=some e'/\x∈zbq K neg r e':=by
 constructor
 ·rintro⟨p,hp,hn,hx⟩
  by_cases e1:p.1=t
  ·right;rw[e1] at hx;exact hx
  ·left;exact⟨p,hp,λ h=>hn ⟨h,e1⟩,hx⟩
 ·rintro (⟨p,hp,hn,hx⟩ | hx)
  ·exact⟨p,hp,λ h=>hn h.1,hx⟩
  ·exact⟨(t,n),ht,λ h=>h.2 rfl,hx⟩
structure z5s (No:Nat->Prop)(J:List xF->W8->Prop)(w:W8)(mb rb:Nat)(K:List (Th × Nat))(neg:List j6)(a:j6)(r:List j6)(e:xF)(pre:List xF)(M:Nat)(Lf:Th->Prop)(ys:List xF)(kC:Nat)(wr:W8):Prop where
 rg:yr wr mb rb K Lf kC
 cn:kC<=K.length
 mem:∀ x,x∈ys↔Ji K neg a r e Lf x
 len:ys.length<=(K.length-kC)*M
 j:J (pre++ys) wr
 kp:iT No w wr
 bv:BV wr w.heap.size e
variable {M g d:Nat}
theorem z4o (h0:0<g)(h:g<=M):(M-g)*M ^ d+M ^ d<=M ^ (d+1):=by
 have e1:(M-g)*M ^ d+M ^ d=(M-g+1)*M ^ d:=by rw[Nat.succ_mul]
 rw[e1,Nat.pow_succ,Nat.mul_comm];exact Nat.mul_le_mul_left _ (by omega)
theorem z1j {c:Nat}(h:c<g)(hg:g<=M):(M-g)*M ^ d+M ^ d<=(M-c)*M ^ d:=by
 have e1:(M-g)*M ^ d+M ^ d=(M-g+1)*M ^ d:=by rw[Nat.succ_mul]
 rw[e1];exact Nat.mul_le_mul_right _ (by omega)
theorem z3m (No:Nat->Prop)(sb mb l:Nat)(pos neg:List (j6 × Value))(pv nv:Value)(K:List (Th × Nat))(Qx:xF->Prop)(J Jx:List xF->W8->Prop)(B N:Nat)(hJ:AbidesFrom B J)(hY:zxx No l N Qx J Jx)(PQ:∀ g,No g->g<B)(Vs:List B8)(hV:Vs.length<=12)(Ho:∀ x∈pos,∀ t∈x.1.ts,t.1=true->t.2∈Vs):∀ (d i:Nat) (e:xF) (w:W8) (pre:List xF),i+d=pos.length->Ij No w sb mb l pos neg pv nv K->J pre w->B<=w.heap.size->jQ Vs e->(∀ e'∈yY K ((pos.drop i).map (·.1)) e,∀ x∈neg,zhm (xZ e' x.1))->pre.length+K.length ^ d<=N->(∀ x∈zbq K (neg.map (·.1)) ((pos.drop i).map (·.1)) e,Qx x) ->
  Calls Tryz.prog 234 #[.pointer (some ⟨sb,0,none⟩),.int .i64 (i:Nat),jV e] w (zs0 No J Jx pre (zbq K (neg.map (·.1)) ((pos.drop i).map (·.1)) e) (K.length ^ d) w):=by
 intro d
 induction d with
 | zero=>
  intro i e w pre hi hC hp hB hl cd hN hq;rw[Nat.add_zero] at hi;subst hi;have hd:(pos.drop pos.length).map (·.1)=([]:List j6):=by rw[List.drop_length];rfl
  rw[hd] at cd hq ⊢;exact zy4 No w sb mb l pos neg pv nv K hC e (by have:=hl.len;omega) (cd e (by simp[yY])) Qx hq J Jx B N hJ hY pre hp (by rw[Nat.pow_zero] at hN;omega) (λ g hg=>by have:=PQ g hg;omega)
 | succ d ih=>
  intro i e w pre hi hC hp hB hl cd hN hq;have HQ:=zC hq;clear hq;have jb:i<pos.length:=by omega
  obtain⟨base,aB⟩:=hC.p.row;obtain⟨an,cn,rfl⟩:=zD aB;have kX:=yN aB;unfold maxLen at kX;have DB:=zC ih;have Dx:=zC hl;have J4:=zC Ho;have H:=zC hC;have HP:=zC hp;have HJ:=zC hJ;have HY:=zC hY;have DE:=zC hN;have gK:=zC cd;have lz:=zC PQ;have HB:=zC hB;have HI:=zC hi;have vp:=(Array.getElem?_eq_some_iff.1 hC.s).1;have eI:(i:Int)≠pos.length:=by omega
  clear ih hC hp hJ hY hN cd PQ hB aB hi hl Ho;go_enter Tryz.func234,Tryz.ntmps234;go_upto_region 1 with fail;generalize dK:World.alloc w _=w0;have k0:Below w.heap.size w w0:=by rw[<-dK];exact (Below.refl w.heap.size w).alloc L9 _
  have x0:BV w0 w.heap.size e:=by rw[<-dK];exact BV.new w e
  have s0:w0.heap.size=w.heap.size+1:=by rw[<-dK];simp
  have uy:=(zA H).og (iT.ai k0);clear dK;obtain⟨c0,-⟩:=zB uy.s 0;obtain⟨c2,-⟩:=zB uy.s 2;have zy:=uy.m;have xo:=zC x0;have eW:=zC k0;have JT:=zC (qX (zA HJ) (zA HP) k0);have tC:=zC s0;clear uy x0 k0 s0;go_wp2_with (first | (at_range;refine z2f _ rfl _ 82 rfl Tryz.underlying82 mb K rfl zy ?_;intro w1 hrg1 AF L5) | go_in)
  try go_frame
  obtain⟨AT,zk⟩:∃ AT,AT=pos[i].1:=⟨_,rfl⟩;obtain⟨RS,PU⟩:∃ RS,RS=(pos.drop (i+1)).map (·.1):=⟨_,rfl⟩;have Lc:(pos.drop i).map (·.1)=AT::RS:=by rw[zk,PU,List.drop_eq_getElem_cons jb,List.map_cons]
  have h0:z5s No J w mb w0.heap.size K (neg.map (·.1)) AT RS e pre (K.length ^ d) (λ _=>True) [] K.length w1:=by
   have kk:Below w0.heap.size w0 w1:=⟨AF.os,AF.tape,AF.output,AF.size,λ j hj=>AF.block j hj (by simp)⟩;refine⟨hrg1,Nat.le_refl _,λ x=>⟨λ h=>absurd h List.not_mem_nil,λ ⟨p,hp,hn,_⟩=>absurd trivial hn⟩,by simp,?_,(iT.ai (zA eW)).trans (iT.ai kk),(zA xo).below kk⟩;rw[List.append_nil];exact qX (zA HJ) (zA JT) kk
  have MO:=zC Lc;have me:=zC zk;have Aw:=zC PU;clear hrg1 AF L5 zy c0 c2 Lc zk PU
  go_loopg [] K.length (λ gg wr=>∃ (Lf:Th->Prop) (ys:List xF),z5s No J w mb w0.heap.size K (neg.map (·.1)) AT RS e pre (K.length ^ d) Lf ys gg wr)
  exact⟨_,_,h0⟩
  case round=>
   clear h0;obtain⟨Lf,ys,ay⟩:=hrel;have Cg:=ay.rg;have gJ:=zC ay;clear ay;go_wp2_with (first | (at_next;refine z5o _ rfl _ rfl mb w0.heap.size K Lf gk rfl Cg ?_ ?_) | go_in)
   ·intro kv;have HD:=zC kv;clear kv Cg;go_wp2_with fail;go_ret;rw[zA MO];have ay:=zA gJ;refine .inl ⟨rfl,ys,λ x=>?_,?_,ay.j,ay.kp⟩
    ·rw[ay.mem,zka];exact⟨λ ⟨p,hp,_,h⟩=>⟨p,hp,h⟩,λ ⟨p,hp,h⟩=>⟨p,hp,zA HD p.1.1 p.1.2 p.2 hp,h⟩⟩
    ·refine Nat.le_trans ay.len ?_;rw[Nat.pow_succ,Nat.mul_comm];exact Nat.mul_le_mul_left _ (Nat.sub_le _ _)
   ·intro tp tts n w2 cnt2 vt De hrg2 sk nA Af hen2;generalize ((tp,tts):Th)=t at *;have ay:=zA gJ;have Ck:=zA tC;have RH:iT No w w2:=ay.kp.grown nA (λ r e1=>.inl (by cases e1;omega));have S7:BV w2 w.heap.size e:=(nA.block _ ay.bv.lt (by simp;omega)).trans ay.bv;have Ua:J (pre++ys) w2:=zA HJ _ _ _ _ ay.j nA (λ r e1=>by cases e1;exact⟨by have:=zA HB;omega,ay.rg.iter⟩);have Tg:=(zA H).og RH;have Gf:=zC hrg2;have OJ:=zC RH;have VD:=zC Ua;have Iu:=zC Tg;have Jz:=zC S7;have lR:=zC vt;have hlen:=ay.len;have qu:=zC hlen;have Nr:=ay.cn;have iZ:=sk;have kr:=zC ay.mem;have HLF:=zC De;clear Af Cg hrg2 nA RH S7 Ua Tg vt hlen ay gJ De Ck;go_upto_region 6 with fail;generalize gI:World.alloc w2 _=w3;have k3:Below w2.heap.size w2 w3:=(by rw[<-gI];exact (Below.refl w2.heap.size w2).alloc L9 _);have t3:TV w3 w2.heap.size t:=(by rw[<-gI];exact TV.new w2 t);have s3:w3.heap.size=w2.heap.size+1:=(by rw[<-gI];simp);have b3:BV w3 w.heap.size e:=(zA Jz).below k3;have xw:=(zA Iu).og (iT.ai k3);obtain⟨a0,-⟩:=zB xw.s 0;obtain⟨S6,nT⟩:=xw.p.row;obtain⟨g,cap,hv,oN,bR,cZ,da,hc⟩:=vU zi5 nT i jb;injection hv with h1 h2 h3
    subst h1 h3;have hx:pos[i]∈pos:=List.getElem_mem jb;obtain⟨tb,mU⟩:=xw.p.ae _ hx;obtain⟨ta,tc,sr⟩:=zD mU;have kU:=xw.p.gH _ hx;rw[<-zA me] at kU;have e0:w3.cell? ⟨g,i*2,none⟩=some (.string AT.p):=(by have:=hc 0 (by omega);rw[zA me];exact this);have e1:w3.cell? ⟨g,i*2+1,none⟩=some (.slice ta AT.ts.length tc):=(by have:=hc 1 (by omega);rw[zA me,<-sr];exact this);have nG:w3.ownsRow tb 191 1 (.slice ta AT.ts.length tc) AT.ts.length (AT.ts.map zcb):=(by rw[zA me,<-sr];exact mU);have J3:=zC (show ∀ t∈AT.ts,t.1=true->t.2∈Vs by rw[zA me];exact zA J4 _ hx);have HM:=zC (λ (W:W8) (hW:Below w3.heap.size w3 W)=>zlw W tb e AT ta tc t (xI nG (λ g e1=>hW.block g (nG.lt g e1).2)) kU Vs hV (zA Dx) (zA J3));have HA:=zC (λ (W:W8) (hW:Below w3.heap.size w3 W)=>(show BV W w.heap.size e/\TV W w2.heap.size t/\W.cell? ⟨sb,0,none⟩=some (.slice (some ⟨g,0,none⟩) pos.length cn)/\W.cell? ⟨g,i*2,none⟩=some (.string AT.p)/\W.cell? ⟨g,i*2+1,none⟩=some (.slice ta AT.ts.length tc) from ⟨b3.below hW,t3.below hW,(hW.cell (p:=⟨sb,0,none⟩) (by have:=(Array.getElem?_eq_some_iff.1 xw.s).1;exact this)).trans a0,(hW.cell (p:=⟨g,i*2,none⟩) bR).trans e0,(hW.cell (p:=⟨g,i*2+1,none⟩) bR).trans e1⟩));have Qu:∀ w':W8,BV w' w.heap.size e->(zfu (.pointer (some ⟨w.heap.size,0,none⟩))).run Tryz.prog w'=.ok (jV e) w':=λ _ h=>h.load
    have Qv:∀ w':W8,TV w' w2.heap.size t->(zkq (.pointer (some ⟨w2.heap.size,0,none⟩))).run Tryz.prog w'=.ok (thV t) w':=λ _ h=>h.load
    have Dv:=zC xw;have EN:=zC k3;have rF:(i:Int)<pos.length:=(by omega);have d1:w.heap.size≠w3.heap.size:=(by have:=b3.lt;omega);have d2:w2.heap.size≠w3.heap.size:=(by omega);have d3:sb≠w3.heap.size:=(by have:=(Array.getElem?_eq_some_iff.1 xw.s).1;omega);have d4:g≠w3.heap.size:=(by omega);clear s3;simp only[List.getElem?_toArray,List.getElem?_cons_zero] at a0;clear gI k3 xw nT hc hx mU sr nG h2;obtain⟨R,hR⟩:∃ R,R=jA e AT t:=⟨_,rfl⟩;rw[<-hR] at HM;have HR:=zC hR;clear hR
    go_cut [8,9] from 37 to 59 (λ p c wc=>∃ nb,p=.pointer (some ⟨nb,0,none⟩)/\c=.bool R.isSome/\BV wc nb (R.getD [])/\Below w3.heap.size w3 wc)
    case first=>
     go_region_held3 (λ w'=>BV w' w.heap.size e/\TV w' w2.heap.size t/\w'.cell? ⟨sb,0,none⟩=some (.slice (some ⟨g,0,none⟩) pos.length cn)/\w'.cell? ⟨g,i*2,none⟩=some (.string AT.p)/\w'.cell? ⟨g,i*2+1,none⟩=some (.slice ta AT.ts.length tc)) ((refine zA HA _ ?_;first | exact dT | exact B9.drew | exact (B9.alloc L9 _).drew | exact dT.alloc dT.size _ | exact yI dT L9 _)) ((go_at_call 62;refine (zA HM _ (by first | exact B9.drew | exact (B9.alloc L9 _).drew)).mono ?_;rintro en w4 ⟨cM,rfl⟩;have dT:Below w3.heap.size w3 w4:=(by first | exact zV cM | exact zes (B9.alloc L9 _) cM);first | (have Ah:=((BV.new w3 []).below (zV cM)).store (R.getD [])) | skip))
     all_goals
      go_wp2_with fail;go_meet
      case rel=>first | exact⟨_,rfl,rfl,BV.new _ _,dT.alloc dT.size _⟩ | exact⟨_,rfl,rfl,setRow_heap _ _ _ _ _ _ ((BV.new w3 []).below (zV cM)),yI dT L9 _⟩
    case rest=>
     generalize wc=wA at *;obtain⟨nb,rfl,rfl,kN,lE⟩:=hcut;have oP:iT No w2 wA:=(iT.ai (zA EN)).trans (iT.ai lE);have Mn:Below w2.heap.size w2 wA:=(zA EN).trans (lE.mono (zA EN).size);have Ub:J (pre++ys) wA:=qX (zA HJ) (zA VD) Mn;have L2:yr wA mb w0.heap.size K (λ x=>Lf x/\¬ x=t) cnt2:=(zA Gf).blocks (Mn.block _ (zA Gf).map.lt) (Mn.block _ (zA Gf).lt);have Tj:=(zA Iu).og oP;have BR:(zfu (.pointer (some ⟨nb,0,none⟩))).run Tryz.prog wA=.ok (jV (R.getD [])) wA:=kN.load;have Sz:=zC Ub;have DI:=zC L2;have JD:=zC Tj;have Gc:=zC ((zA OJ).trans oP);have JA:=zC ((zA Jz).below Mn);have U9:=Nat.le_trans (zA Gc).size L9;have O4:=zC U9;clear kN lE oP Mn Ub L2 Tj Qu Qv t3 b3 e0 e1 a0 d1 d2 d3 d4 HA HM Dv EN U9 bR oN hen2
     cases hr:R with
     | none=>
      have ER:=zC ((zA HR).symm.trans hr);rw[hr] at BR;clear hr BR;go_wp2_with fail;go_roundg cnt2
      case measure=>omega
      case rel=>
       refine⟨_,ys,zA DI,by omega,λ x=>?_,?_,zA Sz,zA Gc,zA JA⟩
       ·rw[zA kr x,Ji.step (zA lR)];exact⟨.inl,λ h=>h.elim id λ ⟨e',h1,_⟩=>by rw[zA ER] at h1;cases h1⟩
       ·exact Nat.le_trans (zA qu) (Nat.mul_le_mul_right _ (by omega))
     | some e2=>
      have ER:=zC ((zA HR).symm.trans hr);rw[hr] at BR;have aV:=zC (zA DB (i+1) e2 wA (pre++ys) (by have:=zA HI;omega) (zA JD) (zA Sz) (Nat.le_trans (zA HB) (zA O4)) ((zA Dx).matched (zA J3) (zA ER)) (λ e' oa=>zA gK e' (by rw[zA MO,zA Aw];exact zpu (zA lR) (zA ER) oa)) (by have h1:=zA qu;have h2:=zA DE;have h3:=z4o (M:=K.length) (g:=gk) (d:=d) (by omega) Nr;rw[List.length_append];omega) (λ x hx=>zA HQ x (by rw[zA MO,zka];exact⟨(t,n),zA lR,e2,zA ER,by rw[zA Aw];exact hx⟩)));clear hr;go_wp2_with (go_at_call 234;refine (zA aV).mono ?_;rintro en w5 (⟨rfl,h5⟩ | ⟨rfl,h5⟩) <;> (have H5:=zC h5;clear h5))
      ·go_roundg cnt2
       case measure=>omega
       case rel=>
        obtain⟨zs,cz,cx,Eu,Di⟩:=zA H5;obtain⟨o,Up,Yl⟩:=(zA DI).iter;obtain⟨es,ck,kO⟩:=(zA DI).map.isMap;refine⟨_,ys++zs,(zA DI).blocks ((Di.same _ _ kO (zA JD).nm (.inr rfl)).trans kO.symm) ((Di.same _ _ Up (λ hn=>by have:=zA lz _ hn;have:=zA HB;have:=zA tC;omega) (.inr Yl)).trans Up.symm),by omega,λ x=>?_,?_,by rw[<-List.append_assoc];exact Eu,(zA Gc).trans Di,(zA JA).og Di (λ hn=>by have:=zA lz _ hn;have:=zA HB;omega)⟩
        ·rw[List.mem_append,zA kr x,Ji.step (zA lR),cz,zA Aw];exact⟨λ h=>h.imp id λ h=>⟨e2,zA ER,h⟩,λ h=>h.imp id λ ⟨e',h1,h2⟩=>by rw[zA ER] at h1;cases h1;exact h2⟩
        ·have h1:=zA qu;have h3:=z1j (M:=K.length) (g:=gk) (c:=cnt2) (d:=d) sk Nr;rw[List.length_append];omega
      ·go_ret;obtain⟨zs,cz,cx⟩:=zA H5;rw[zA MO];refine .inr ⟨rfl,ys++zs,λ x hx=>?_,by rw[<-List.append_assoc];exact cx⟩;rw[zka];rcases List.mem_append.1 hx with hx | hx
       ·obtain⟨p,hp,_,h⟩:=(zA kr x).1 hx;exact⟨p,hp,h⟩
       ·exact⟨(t,n),zA lR,e2,zA ER,by rw[zA Aw];exact cz x hx⟩
end
end Go.Proofs.YtldkpahaocjdpaaGreat
