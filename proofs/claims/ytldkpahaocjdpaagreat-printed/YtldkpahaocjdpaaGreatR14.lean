/-
  denied: whether a negative literal is said after all.
-/
import Derived.Test.YtldkpahaocjdpaaGreatR13
import Derived.Deep.RegionHeld3
import Derived.RangeFuncBound
import Derived.RangeFuncCalls
import Derived.RangeFuncLeaves
import Derived.Shelf.Abstract
import Derived.Shelf.RegionOpen
import Derived.OwnWalkIn
import Derived.TacticsInMore
import Derived.LoopNIn
import Derived.LoopIn
import Derived.Stop.RegionWithIn
set_option maxHeartbeats 16000000
set_option maxRecDepth 1000000
namespace Go.Proofs.YtldkpahaocjdpaaGreat
section
open Go.RowKit
attribute [local go_sem ↓] to_bLoad to_bStore to_bZero
attribute [local go_sem] bindV_cells bStore_new run_bZero
theorem atom_len (x:PAtm × Value):(atomCells x).length=2:=rfl
theorem denied_any (No:Nat->Prop)(w:W8)(sb mb l:Nat)(pos neg:List (PAtm × Value))(pv nv:Value)(K:List (Th × Nat))(h:lN No w sb mb l pos neg pv nv K)(e:ax)(hl:e.length<=12)(bX:∀ x∈neg,ThOk (aB e x.1)):
  Calls Tryz.prog 248 #[.pointer (some ⟨sb,0,none⟩),bindV e] w λ en w'=>en=.returned (.bool (deniedB K (neg.map (·.1)) e))/\Below w.heap.size w w':=by
 obtain⟨cs,eZ⟩:∃ cs,cs=(aD e).toArray:=⟨_,rfl⟩;have rI:=hide eZ;unfold bindV;rw[<-eZ];clear eZ;obtain⟨base,aE⟩:=h.n.row;obtain⟨an,cn,rfl⟩:=own_slice aE;have mG:=own_max aE;unfold maxLen at mG;have iV:=hide aE;have lJ:=(Array.getElem?_eq_some_iff.1 h.s).1;have rR:=hide lJ;have H:=hide h;have iS:=hide bX;have q0:cs.size=25:=by rw[ad rI];rfl
 clear h aE bX lJ;go_enter Tryz.func248,Tryz.ntmps248;go_upto_region 1 with fail;generalize hw0:World.alloc w _=w0;have k0:Below w.heap.size w w0:=by rw[<-hw0];exact (Below.refl w.heap.size w).alloc L9 _
 have x0:w0.heap[w.heap.size]?=some (.cells cs 135 (0,0)):=by rw[<-hw0];exact heap_alloc_new w _
 have s0:w.heap.size+1=w0.heap.size:=by rw[<-hw0];simp
 have nI:w0.heap[sb]?=some (.cells #[pv,.slice an neg.length cn,.map (some mb),.func (.yield l) #[] #[]] 361 (0,0)):=(k0.block sb (ad rR)).trans (ad H).s;have ee:=own_block (ad iV) (λ g e=>k0.block g ((ad iV).lt g e).2);clear hw0;obtain⟨c1,-⟩:=block_cells nI 1;have mo:=hide x0;have HS:=hide nI;have cq:=hide k0;have na:=hide ee;clear x0 nI k0 ee;go_wp2_with fail
 go_loopg [14] neg.length (λ gg i wr=>∃ k:Nat,k<=neg.length/\gg=neg.length-k/\i=.int .i64 k/\deniedB K ((neg.drop k).map (·.1)) e=deniedB K (neg.map (·.1)) e/\Below w0.heap.size w0 wr)
 exact⟨0,Nat.zero_le _,rfl,rfl,rfl,Below.refl _ _⟩
 case round=>
  obtain⟨k,hk,fM,rfl,bj,hb⟩:=hrel;have HF:=hide bj;have HB:=hide hb;have sz:=hb.size;have ei:Below w.heap.size w wr:=(ad cq).trans (hb.mono (by omega));have vk:=hide ei;clear bj hb ei
  by_cases aN:k<neg.length
  ·obtain⟨g,cap,hv,iC,dp,dG,dx,hc⟩:=row_at atom_len (ad na) k aN;injection hv with h1 h2 h3
   subst h1 h3;have d0:=hc 0 (by omega);have d1:=hc 1 (by omega);have hx:neg[k]∈neg:=List.getElem_mem aN;obtain⟨tb,gl⟩:=(ad H).n.aS _ hx;obtain⟨ta,tc,ji⟩:=own_slice gl;have gE:=(ad H).n.ft _ hx;obtain⟨D,hD⟩:∃ D,D=neg[k].1:=⟨_,rfl⟩;have ia:w.ownsRow tb 191 1 (.slice ta D.ts.length tc) D.ts.length (D.ts.map termV):=(by rw[hD,<-ji];exact gl);have e0:wr.cell? ⟨g,k*2+0,none⟩=some (.string D.p):=by
    rw[hD];exact ((ad HB).cell (p:=⟨g,k*2+0,none⟩) dp).trans (hc 0 (by omega))
   have e1:wr.cell? ⟨g,k*2+1,none⟩=some (.slice ta D.ts.length tc):=by
    rw[hD,<-ji];exact ((ad HB).cell (p:=⟨g,k*2+1,none⟩) dp).trans (hc 1 (by omega))
   have vy:=hide ia;have rS:=hide (show deniedB K ((neg.drop k).map (·.1)) e=((ay K (aB e D)).isSome||deniedB K ((neg.drop (k+1)).map (·.1)) e) by rw[List.drop_eq_getElem_cons aN,hD];rfl);have xl:=hide (show ThOk (aB e D) by rw[hD];exact ad iS _ hx);rw[<-hD] at gE;have gW:(k:Int)<neg.length:=(by omega);rw[Nat.add_zero] at e0;clear hc d0 d1 gl ji ia hx hD;go_upto_region 4 with fail;generalize hw3:World.alloc wr _=w3;have k3:Below wr.heap.size wr w3:=(by rw[<-hw3];exact (Below.refl wr.heap.size wr).alloc L9 _);have s3:wr.heap.size+1=w3.heap.size:=(by rw[<-hw3];simp);have b3:Below w.heap.size w w3:=(ad vk).trans (k3.mono (by omega));have Ai:Below w0.heap.size w0 w3:=(ad HB).trans (k3.mono (by omega));obtain⟨a0,-⟩:=block_cells (show w3.heap[wr.heap.size]?=some (.cells #[.string D.p,.slice ta D.ts.length tc] 79 (0,0)) by rw[<-hw3];exact heap_alloc_new wr _) 0;obtain⟨a1,-⟩:=block_cells (show w3.heap[wr.heap.size]?=some (.cells #[.string D.p,.slice ta D.ts.length tc] 79 (0,0)) by rw[<-hw3];exact heap_alloc_new wr _) 1;obtain⟨a2,-⟩:=block_cells ((Ai.block sb (by have:=ad rR;omega)).trans (ad HS)) 2;have r0:BV w3 w.heap.size e:=(by unfold BV;rw[<-ad rI];exact (Ai.block _ (by omega)).trans (ad mo));have qi:∀ w':W8,BV w' w.heap.size e->(bLoad (.pointer (some ⟨w.heap.size,0,none⟩))).run Tryz.prog w'=.ok (bindV e) w':=λ _ h=>h.load
   simp only[List.getElem?_toArray,List.getElem?_cons_zero,List.getElem?_cons_succ] at a0 a1 a2;have F7:=ad rR;have kz:=hide (λ (W:W8) (hW:Below w3.heap.size w3 W)=>(ad H).m.block ((hW.block mb (by have:=(ad H).m.lt;omega)).trans (b3.block mb (ad H).m.lt)));have nT:=hide (λ (W:W8) (hW:Below w3.heap.size w3 W)=>(pfill_any W tb e D ta tc (own_block (ad vy) (λ g e1=>(hW.block g (by have:=((ad vy).lt g e1).2;omega)).trans (b3.block g ((ad vy).lt g e1).2))) gE hl));have HA:=hide (λ (W:W8) (hW:Below w3.heap.size w3 W)=>(show BV W w.heap.size e/\W.cell? ⟨sb,2,none⟩=some (.map (some mb))/\W.cell? ⟨wr.heap.size,0,none⟩=some (.string D.p)/\W.cell? ⟨wr.heap.size,1,none⟩=some (.slice ta D.ts.length tc) from ⟨r0.below hW,(hW.cell (p:=⟨sb,2,none⟩) (by simp only[];omega)).trans a2,(hW.cell (p:=⟨wr.heap.size,0,none⟩) (by simp only[];omega)).trans a0,(hW.cell (p:=⟨wr.heap.size,1,none⟩) (by simp only[];omega)).trans a1⟩));have gh:=hide b3;have xv:=hide Ai;have HS3:=hide s3;clear hw3 k3 s3 b3 Ai e0 e1 c1 q0 s0 sz
   cases hq:(ay K (aB e D)).isSome with
   | true=>
    have HE:=hide (show deniedB K (neg.map (·.1)) e=true by rw[<-ad HF,ad rS,hq];rfl);have HQ:=hide hq;have tD:=hide (λ (W:W8) (hW:Below w3.heap.size w3 W)=>(show (Instr.lookup 82 (.map (some mb)) (thV (aB e D)) true).run Tryz.prog W=.ok (.tuple #[.int .i64 (((ay K (aB e D)).getD 0:Nat):Int),.bool true]) W from by have:=(ad kz W hW).look (t:=aB e D) (ad xl) Tryz.underlying82;rw[hq] at this;exact this));clear hq
    go_region_held3 (λ w'=>BV w' w.heap.size e/\w'.cell? ⟨sb,2,none⟩=some (.map (some mb))/\w'.cell? ⟨wr.heap.size,0,none⟩=some (.string D.p)/\w'.cell? ⟨wr.heap.size,1,none⟩=some (.slice ta D.ts.length tc)) ((simp[*,BV_drew])) ((first | (go_at_call 146;refine (ad nT _ (by exact B9.drew)).mono ?_;rintro en w4 ⟨bQ,rfl⟩;have iZ:=ad HA w4 (below_of_drew bQ);have CS:=ad tD w4 (below_of_drew bQ);have eC:=hide (below_of_drew bQ);clear bQ)))
    go_wp2_with fail;go_ret;exact⟨by rw[ad HE];rfl,(ad gh).trans ((ad eC).mono (by exact (ad gh).size))⟩
   | false=>
    have HE:=hide (show deniedB K ((neg.drop (k+1)).map (·.1)) e=deniedB K (neg.map (·.1)) e by rw[<-ad HF,ad rS,hq];rfl);have HQ:=hide hq;have tD:=hide (λ (W:W8) (hW:Below w3.heap.size w3 W)=>(show (Instr.lookup 82 (.map (some mb)) (thV (aB e D)) true).run Tryz.prog W=.ok (.tuple #[.int .i64 (((ay K (aB e D)).getD 0:Nat):Int),.bool false]) W from by have:=(ad kz W hW).look (t:=aB e D) (ad xl) Tryz.underlying82;rw[hq] at this;exact this));clear hq
    go_region_held3 (λ w'=>BV w' w.heap.size e/\w'.cell? ⟨sb,2,none⟩=some (.map (some mb))/\w'.cell? ⟨wr.heap.size,0,none⟩=some (.string D.p)/\w'.cell? ⟨wr.heap.size,1,none⟩=some (.slice ta D.ts.length tc)) ((simp[*,BV_drew])) ((first | (go_at_call 146;refine (ad nT _ (by exact B9.drew)).mono ?_;rintro en w4 ⟨bQ,rfl⟩;have iZ:=ad HA w4 (below_of_drew bQ);have CS:=ad tD w4 (below_of_drew bQ);have eC:=hide (below_of_drew bQ);clear bQ)))
    go_wp2_with fail;go_roundg (neg.length-(k+1));exact⟨k+1,by omega,rfl,by go_num,ad HE,(ad xv).trans ((ad eC).mono (ad xv).size)⟩;omega
  ·have HE:=hide (show deniedB K (neg.map (·.1)) e=false by rw[<-ad HF,List.drop_of_length_le (by omega)];rfl);go_wp2_with fail;go_ret;exact⟨by rw[ad HE];rfl,ad vk⟩
end
section
open Go.RowKit Go.Shelf
attribute [local go_sem ↓] to_bLoad to_bStore to_bZero
attribute [local go_sem] bindV_cells bStore_new run_bZero
def Rounds (No:Nat->Prop)(l N:Nat)(Qx:ax->Prop)(J Jx:List ax->W8->Prop):Prop:=
 ∀ (m:Nat) (pre:List ax) (x:ax) (W:W8),Qx x->J pre W->pre.length<N->YieldAt Fence.wide m Tryz.prog l #[bindV x] W λ en W'=>
  ∃ c:Bool,en=.returned (.bool c)/\(c=true->J (pre++[x]) W'/\aR No W W')/\(c=false->Jx (pre++[x]) W')
def FromPost (No:Nat->Prop)(J Jx:List ax->W8->Prop)(pre ws:List ax)(M:Nat)(w:W8)(en:Ending)(w':W8):Prop:=
 (en=.returned (.bool true)/\∃ ys,(∀ x,x∈ys↔x∈ws)/\ys.length<=M/\J (pre++ys) w'/\aR No w w')\/(en=.returned (.bool false)/\∃ ys,(∀ x∈ys,x∈ws)/\Jx (pre++ys) w')
theorem abides_below {B:Nat}{J:List ax->W8->Prop}(hJ:AbidesFrom B J){s:List ax}{w w':W8}(h:J s w)(k:Below w.heap.size w w'):J s w':=
 hJ s w w' none h ⟨k.os,k.tape,k.output,k.size,λ i hi _=>k.block i hi⟩ (λ _ e=>by cases e)
theorem from_base (No:Nat->Prop)(w:W8)(sb mb l:Nat)(pos neg:List (PAtm × Value))(pv nv:Value)(K:List (Th × Nat))(h:lN No w sb mb l pos neg pv nv K)(e:ax)(hl:e.length<=12)(bX:∀ x∈neg,ThOk (aB e x.1))
  (Qx:ax->Prop) (hq:∀ x∈pways K (neg.map (·.1)) [] e,Qx x) (J Jx:List ax->W8->Prop) (B N:Nat) (hJ:AbidesFrom B J) (hY:Rounds No l N Qx J Jx) (pre:List ax) (hp:J pre w) (hN:pre.length<N) (dJ:∀ g,No g->g<w.heap.size):
  Calls Tryz.prog 234 #[.pointer (some ⟨sb,0,none⟩),.int .i64 (pos.length:Nat),bindV e] w (FromPost No J Jx pre (pways K (neg.map (·.1)) [] e) 1 w):=by
 obtain⟨base,aE⟩:=h.p.row;obtain⟨an,cn,rfl⟩:=own_slice aE;have mG:=own_max aE;unfold maxLen at mG;have lJ:=(Array.getElem?_eq_some_iff.1 h.s).1;have rR:=hide lJ;have H:=hide h;have HP:=hide hp;have HY:=hide hY;have HJ:=hide hJ;have qz:=hide hN;have iS:=hide bX;have nW:=hide dJ;have HQ:=hide hq;clear hq;clear h aE lJ hp hY hJ hN bX dJ;go_enter Tryz.func234,Tryz.ntmps234;go_upto_region 1 with fail;generalize hw0:World.alloc w _=w0;have k0:Below w.heap.size w w0:=by rw[<-hw0];exact (Below.refl w.heap.size w).alloc L9 _
 have x0:BV w0 w.heap.size e:=by rw[<-hw0];exact BV.new w e
 have s0:w.heap.size+1=w0.heap.size:=by rw[<-hw0];simp
 have oW:=(ad H).gH (aR.aF k0);clear hw0;obtain⟨c1,-⟩:=block_cells oW.s 0;have mo:=hide x0;have cq:=hide k0;have rH:=hide oW;have tG:=hide (abides_below (ad HJ) (ad HP) k0);clear oW x0 k0;go_upto_region 2 with fail;obtain⟨c3,-⟩:=block_cells (ad rH).s 3;have qi:∀ w':W8,BV w' w.heap.size e->(bLoad (.pointer (some ⟨w.heap.size,0,none⟩))).run Tryz.prog w'=.ok (bindV e) w':=λ _ h=>h.load
 have jz:=qi w0.drew (ad mo);have HD:=hide (λ (W:W8) (hW:Below w0.heap.size w0 W)=>(denied_any No W sb mb l pos neg _ nv K ((ad rH).gH (aR.aF hW)) e hl (ad iS)));have zR:=hide (λ (W:W8) (hW:Below w0.heap.size w0 W)=>qi W ((ad mo).below hW));have vm:=hide (λ (W:W8) (hW:Below w0.heap.size w0 W)=>(hW.cell (p:=⟨sb,3,none⟩) (by have:=ad rR;simp only[];omega)).trans c3);have D8:=hide (λ (W:W8) (hW:Below w0.heap.size w0 W)=>abides_below (ad HJ) (ad tG) hW);clear qi c1 c3
 cases hd:deniedB K (neg.map (·.1)) e with
 | true=>
  rw[hd] at HD;have HW:=hide (show pways K (neg.map (·.1)) [] e=[] by unfold pways pmatches;simp[hd]);clear hd
  first | go_region_with (go_at_call 248;refine (ad HD _ (by exact B9.drew)).mono ?_;rintro en w4 ⟨rfl,bQ⟩;have eC:=hide (below_of_drew bQ);clear bQ) | fail
  all_goals
   go_wp2_with fail;go_ret;rw[ad HW];exact .inl ⟨rfl,[],λ _=>Iff.rfl,by simp,by rw[List.append_nil];exact ad D8 _ (ad eC),(aR.aF (ad cq)).trans (aR.aF (ad eC))⟩
 | false=>
  rw[hd] at HD;have HW:=hide (show pways K (neg.map (·.1)) [] e=[e] by unfold pways pmatches;simp[hd]);have H8:Qx e:=ad HQ e (by rw[ad HW];exact List.mem_singleton.2 rfl);clear hd;refine (wpIn_wide (n:=2)).1 ?_
  first | gi_region_with (first | (refine⟨trivial,?_⟩;gi_at_call 248;refine (callsIn_wide.2 (ad HD _ (by exact B9.drew))).mono ?_;rintro en w4 ⟨rfl,bQ⟩;have eC:=hide (below_of_drew bQ);have l4:=ad zR w4 (ad eC);have y4:=ad vm w4 (ad eC);obtain⟨fn,tmps,assign,body,hy,hR⟩:=ad HY 1 pre e w4 H8 (ad D8 w4 (ad eC)) (ad qz);clear bQ) | (refine hR.mono ?_;rintro en w5 ⟨c,rfl,h5⟩;have H5:=hide h5;clear h5 hR hy)) | fail
  all_goals
   go_wp2_with fail;go_ret;rw[ad HW]
   cases c with
   | true=>exact .inl ⟨rfl,[e],λ _=>Iff.rfl,by simp,((ad H5).1 rfl).1,((aR.aF (ad cq)).trans (aR.aF (ad eC))).trans ((ad H5).1 rfl).2⟩
   | false=>exact .inr ⟨rfl,[e],λ _ h=>h,(ad H5).2 rfl⟩
end
section
open Go.RowKit Go.Maps
attribute [local go_sem ↓] to_bLoad to_bStore to_bAlloc to_tLoad to_tStore to_tAlloc bindV_cells thV_cells
attribute [local go_sem] bStore_new run_bAlloc tStore_new run_tAlloc
def mT (K:List (Th × Nat))(neg:List PAtm)(a:PAtm)(r:List PAtm)(e:ax)(Lf:Th->Prop)(x:ax):Prop:=∃ p∈K,¬ Lf p.1/\∃ e',aG e a p.1=some e'/\x∈pways K neg r e'
variable {e x:ax} {r neg:List PAtm} {a:PAtm} {K:List (Th × Nat)}
theorem mem_pways:x∈pways K neg (a::r) e↔∃ p∈K,∃ e',aG e a p.1=some e'/\x∈pways K neg r e':=by
 unfold pways;rw[List.mem_filter,pmatches,List.mem_flatMap]
 constructor
 ·rintro⟨⟨p,hp,hx⟩,hd⟩
  cases hm:aG e a p.1 with
  | none=>rw[hm] at hx;cases hx
  | some e'=>rw[hm] at hx;exact⟨p,hp,e',hm,List.mem_filter.2 ⟨hx,hd⟩⟩
 ·rintro⟨p,hp,e',hm,hx⟩;obtain⟨h1,h2⟩:=List.mem_filter.1 hx;exact⟨⟨p,hp,by rw[hm];exact h1⟩,h2⟩
theorem mem_pmatches {e':ax}{p:Th × Nat}(hp:p∈K)(hm:aG e a p.1=some e')(hx:x∈pmatches K r e'):x∈pmatches K (a::r) e:=by
 rw[pmatches,List.mem_flatMap];exact⟨p,hp,by rw[hm];exact hx⟩
theorem mT.step {Lf:Th->Prop}{t:Th}{n:Nat}(ht:(t,n)∈K):mT K neg a r e (λ y=>Lf y/\y≠t) x↔mT K neg a r e Lf x\/∃ e',aG e a t=some e'/\x∈pways K neg r e':=by
 constructor
 ·rintro⟨p,hp,hn,hx⟩
  by_cases e1:p.1=t
  ·right;rw[e1] at hx;exact hx
  ·left;exact⟨p,hp,λ h=>hn ⟨h,e1⟩,hx⟩
 ·rintro (⟨p,hp,hn,hx⟩ | hx)
  ·exact⟨p,hp,λ h=>hn h.1,hx⟩
  ·exact⟨(t,n),ht,λ h=>h.2 rfl,hx⟩
structure FromIn (No:Nat->Prop)(J:List ax->W8->Prop)(w:W8)(mb rb:Nat)(K:List (Th × Nat))(neg:List PAtm)(a:PAtm)(r:List PAtm)(e:ax)(pre:List ax)(M:Nat)(Lf:Th->Prop)(ys:List ax)(dF:Nat)(wr:W8):Prop where
 rg:cx wr mb rb K Lf dF
 cn:dF<=K.length
 mem:∀ x,x∈ys↔mT K neg a r e Lf x
 len:ys.length<=(K.length-dF)*M
 j:J (pre++ys) wr
 kp:aR No w wr
 bv:BV wr w.heap.size e
variable {M g d:Nat}
theorem pow_room (h0:0<g)(h:g<=M):(M-g)*M ^ d+M ^ d<=M ^ (d+1):=by
 have e1:(M-g)*M ^ d+M ^ d=(M-g+1)*M ^ d:=by rw[Nat.succ_mul]
 rw[e1,Nat.pow_succ,Nat.mul_comm];exact Nat.mul_le_mul_left _ (by omega)
theorem step_room {c:Nat}(h:c<g)(hg:g<=M):(M-g)*M ^ d+M ^ d<=(M-c)*M ^ d:=by
 have e1:(M-g)*M ^ d+M ^ d=(M-g+1)*M ^ d:=by rw[Nat.succ_mul]
 rw[e1];exact Nat.mul_le_mul_right _ (by omega)
theorem from_any (No:Nat->Prop)(sb mb l:Nat)(pos neg:List (PAtm × Value))(pv nv:Value)(K:List (Th × Nat))(Qx:ax->Prop)(J Jx:List ax->W8->Prop)(B N:Nat)(hJ:AbidesFrom B J)(hY:Rounds No l N Qx J Jx)(Cd:∀ g,No g->g<B)(Vs:List B8)(hV:Vs.length<=12)(uX:∀ x∈pos,∀ t∈x.1.ts,t.1=true->t.2∈Vs):∀ (d i:Nat) (e:ax) (w:W8) (pre:List ax),i+d=pos.length->lN No w sb mb l pos neg pv nv K->J pre w->B<=w.heap.size->aY Vs e->(∀ e'∈pmatches K ((pos.drop i).map (·.1)) e,∀ x∈neg,ThOk (aB e' x.1))->pre.length+K.length ^ d<=N->(∀ x∈pways K (neg.map (·.1)) ((pos.drop i).map (·.1)) e,Qx x) ->
  Calls Tryz.prog 234 #[.pointer (some ⟨sb,0,none⟩),.int .i64 (i:Nat),bindV e] w (FromPost No J Jx pre (pways K (neg.map (·.1)) ((pos.drop i).map (·.1)) e) (K.length ^ d) w):=by
 intro d
 induction d with
 | zero=>
  intro i e w pre hi hC hp hB hl bX hN hq;rw[Nat.add_zero] at hi;subst hi;have hd:(pos.drop pos.length).map (·.1)=([]:List PAtm):=by rw[List.drop_length];rfl
  rw[hd] at bX hq ⊢;exact from_base No w sb mb l pos neg pv nv K hC e (by have:=hl.len;omega) (bX e (by simp[pmatches])) Qx hq J Jx B N hJ hY pre hp (by rw[Nat.pow_zero] at hN;omega) (λ g hg=>by have:=Cd g hg;omega)
 | succ d ih=>
  intro i e w pre hi hC hp hB hl bX hN hq;have HQ:=hide hq;clear hq;have qj:i<pos.length:=by omega
  obtain⟨base,aE⟩:=hC.p.row;obtain⟨an,cn,rfl⟩:=own_slice aE;have mG:=own_max aE;unfold maxLen at mG;have Hg:=hide ih;have tr:=hide hl;have xq:=hide uX;have H:=hide hC;have HP:=hide hp;have HJ:=hide hJ;have HY:=hide hY;have qz:=hide hN;have iS:=hide bX;have mX:=hide Cd;have HB:=hide hB;have HI:=hide hi;have lJ:=(Array.getElem?_eq_some_iff.1 hC.s).1;have bG:(i:Int)≠pos.length:=by omega
  clear ih hC hp hJ hY hN bX Cd hB aE hi hl uX;go_enter Tryz.func234,Tryz.ntmps234;go_upto_region 1 with fail;generalize hw0:World.alloc w _=w0;have k0:Below w.heap.size w w0:=by rw[<-hw0];exact (Below.refl w.heap.size w).alloc L9 _
  have x0:BV w0 w.heap.size e:=by rw[<-hw0];exact BV.new w e
  have s0:w0.heap.size=w.heap.size+1:=by rw[<-hw0];simp
  have oW:=(ad H).gH (aR.aF k0);clear hw0;obtain⟨c0,-⟩:=block_cells oW.s 0;obtain⟨c2,-⟩:=block_cells oW.s 2;have uD:=oW.m;have mo:=hide x0;have cq:=hide k0;have tG:=hide (abides_below (ad HJ) (ad HP) k0);have fH:=hide s0;clear oW x0 k0 s0;go_wp2_with (first | (at_range;refine wp_hrange _ rfl _ 82 rfl Tryz.underlying82 mb K rfl uD ?_;intro w1 hrg1 eP js) | go_in)
  try go_frame
  obtain⟨AT,nu⟩:∃ AT,AT=pos[i].1:=⟨_,rfl⟩;obtain⟨RS,Ch⟩:∃ RS,RS=(pos.drop (i+1)).map (·.1):=⟨_,rfl⟩;have yy:(pos.drop i).map (·.1)=AT::RS:=by rw[nu,Ch,List.drop_eq_getElem_cons qj,List.map_cons]
  have h0:FromIn No J w mb w0.heap.size K (neg.map (·.1)) AT RS e pre (K.length ^ d) (λ _=>True) [] K.length w1:=by
   have kk:Below w0.heap.size w0 w1:=⟨eP.os,eP.tape,eP.output,eP.size,λ j hj=>eP.block j hj (by simp)⟩;refine⟨hrg1,Nat.le_refl _,λ x=>⟨λ h=>absurd h List.not_mem_nil,λ ⟨p,hp,hn,_⟩=>absurd trivial hn⟩,by simp,?_,(aR.aF (ad cq)).trans (aR.aF kk),(ad mo).below kk⟩;rw[List.append_nil];exact abides_below (ad HJ) (ad tG) kk
  have zT:=hide yy;have tf:=hide nu;have p9:=hide Ch;clear hrg1 eP js uD c0 c2 yy nu Ch
  go_loopg [] K.length (λ gg wr=>∃ (Lf:Th->Prop) (ys:List ax),FromIn No J w mb w0.heap.size K (neg.map (·.1)) AT RS e pre (K.length ^ d) Lf ys gg wr)
  exact⟨_,_,h0⟩
  case round=>
   clear h0;obtain⟨Lf,ys,ak⟩:=hrel;have jf:=ak.rg;have bt:=hide ak;clear ak;go_wp2_with (first | (at_next;refine wp_hnext _ rfl _ rfl mb w0.heap.size K Lf gk rfl jf ?_ ?_) | go_in)
   ·intro cF;have HD:=hide cF;clear cF jf;go_wp2_with fail;go_ret;rw[ad zT];have ak:=ad bt;refine .inl ⟨rfl,ys,λ x=>?_,?_,ak.j,ak.kp⟩
    ·rw[ak.mem,mem_pways];exact⟨λ ⟨p,hp,_,h⟩=>⟨p,hp,h⟩,λ ⟨p,hp,h⟩=>⟨p,hp,ad HD p.1.1 p.1.2 p.2 hp,h⟩⟩
    ·refine Nat.le_trans ak.len ?_;rw[Nat.pow_succ,Nat.mul_comm];exact Nat.mul_le_mul_left _ (Nat.sub_le _ _)
   ·intro tp tts n w2 cnt2 gZ kV hrg2 gX dd lj hen2;generalize ((tp,tts):Th)=t at *;have ak:=ad bt;have nI:=ad fH;have DE:aR No w w2:=ak.kp.grown dd (λ r e1=>.inl (by cases e1;omega));have EG:BV w2 w.heap.size e:=(dd.block _ ak.bv.lt (by simp;omega)).trans ak.bv;have FB:J (pre++ys) w2:=ad HJ _ _ _ _ ak.j dd (λ r e1=>by cases e1;exact⟨by have:=ad HB;omega,ak.rg.iter⟩);have EN:=(ad H).gH DE;have iU:=hide hrg2;have Bd:=hide DE;have Hh:=hide FB;have ks:=hide EN;have wk:=hide EG;have fU:=hide gZ;have hlen:=ak.len;have oA:=hide hlen;have Av:=ak.cn;have fM:=gX;have iR:=hide ak.mem;have Ee:=hide kV;clear lj jf hrg2 dd DE EG FB EN gZ hlen ak bt kV nI;go_upto_region 6 with fail;generalize hw3:World.alloc w2 _=w3;have k3:Below w2.heap.size w2 w3:=(by rw[<-hw3];exact (Below.refl w2.heap.size w2).alloc L9 _);have t3:TV w3 w2.heap.size t:=(by rw[<-hw3];exact TV.new w2 t);have s3:w3.heap.size=w2.heap.size+1:=(by rw[<-hw3];simp);have b3:BV w3 w.heap.size e:=(ad wk).below k3;have rY:=(ad ks).gH (aR.aF k3);obtain⟨a0,-⟩:=block_cells rY.s 0;obtain⟨xz,lh⟩:=rY.p.row;obtain⟨g,cap,hv,iC,dp,dG,dx,hc⟩:=row_at atom_len lh i qj;injection hv with h1 h2 h3
    subst h1 h3;have hx:pos[i]∈pos:=List.getElem_mem qj;obtain⟨tb,gl⟩:=rY.p.aS _ hx;obtain⟨ta,tc,ji⟩:=own_slice gl;have gE:=rY.p.ft _ hx;rw[<-ad tf] at gE;have e0:w3.cell? ⟨g,i*2,none⟩=some (.string AT.p):=(by have:=hc 0 (by omega);rw[ad tf];exact this);have e1:w3.cell? ⟨g,i*2+1,none⟩=some (.slice ta AT.ts.length tc):=(by have:=hc 1 (by omega);rw[ad tf,<-ji];exact this);have ia:w3.ownsRow tb 191 1 (.slice ta AT.ts.length tc) AT.ts.length (AT.ts.map termV):=(by rw[ad tf,<-ji];exact gl);have xo:=hide (show ∀ t∈AT.ts,t.1=true->t.2∈Vs by rw[ad tf];exact ad xq _ hx);have HM:=hide (λ (W:W8) (hW:Below w3.heap.size w3 W)=>pmatch_any W tb e AT ta tc t (own_block ia (λ g e1=>hW.block g (ia.lt g e1).2)) gE Vs hV (ad tr) (ad xo));have HA:=hide (λ (W:W8) (hW:Below w3.heap.size w3 W)=>(show BV W w.heap.size e/\TV W w2.heap.size t/\W.cell? ⟨sb,0,none⟩=some (.slice (some ⟨g,0,none⟩) pos.length cn)/\W.cell? ⟨g,i*2,none⟩=some (.string AT.p)/\W.cell? ⟨g,i*2+1,none⟩=some (.slice ta AT.ts.length tc) from ⟨b3.below hW,t3.below hW,(hW.cell (p:=⟨sb,0,none⟩) (by have:=(Array.getElem?_eq_some_iff.1 rY.s).1;exact this)).trans a0,(hW.cell (p:=⟨g,i*2,none⟩) dp).trans e0,(hW.cell (p:=⟨g,i*2+1,none⟩) dp).trans e1⟩));have CQ:∀ w':W8,BV w' w.heap.size e->(bLoad (.pointer (some ⟨w.heap.size,0,none⟩))).run Tryz.prog w'=.ok (bindV e) w':=λ _ h=>h.load
    have CR:∀ w':W8,TV w' w2.heap.size t->(tLoad (.pointer (some ⟨w2.heap.size,0,none⟩))).run Tryz.prog w'=.ok (thV t) w':=λ _ h=>h.load
    have vm:=hide rY;have qy:=hide k3;have yG:(i:Int)<pos.length:=(by omega);have d1:w.heap.size≠w3.heap.size:=(by have:=b3.lt;omega);have d2:w2.heap.size≠w3.heap.size:=(by omega);have d3:sb≠w3.heap.size:=(by have:=(Array.getElem?_eq_some_iff.1 rY.s).1;omega);have d4:g≠w3.heap.size:=(by omega);clear s3;simp only[List.getElem?_toArray,List.getElem?_cons_zero] at a0;clear hw3 k3 rY lh hc hx gl ji ia h2;obtain⟨R,hR⟩:∃ R,R=aG e AT t:=⟨_,rfl⟩;rw[<-hR] at HM;have HR:=hide hR;clear hR
    go_cut [8,9] from 37 to 59 (λ p c wc=>∃ nb,p=.pointer (some ⟨nb,0,none⟩)/\c=.bool R.isSome/\BV wc nb (R.getD [])/\Below w3.heap.size w3 wc)
    case first=>
     go_region_held3 (λ w'=>BV w' w.heap.size e/\TV w' w2.heap.size t/\w'.cell? ⟨sb,0,none⟩=some (.slice (some ⟨g,0,none⟩) pos.length cn)/\w'.cell? ⟨g,i*2,none⟩=some (.string AT.p)/\w'.cell? ⟨g,i*2+1,none⟩=some (.slice ta AT.ts.length tc)) ((refine ad HA _ ?_;first | exact bY | exact B9.drew | exact (B9.alloc L9 _).drew | exact bY.alloc bY.size _ | exact below_setRow bY L9 _)) ((go_at_call 62;refine (ad HM _ (by first | exact B9.drew | exact (B9.alloc L9 _).drew)).mono ?_;rintro en w4 ⟨bQ,rfl⟩;have bY:Below w3.heap.size w3 w4:=(by first | exact below_of_drew bQ | exact below_past (B9.alloc L9 _) bQ);first | (have uO:=((BV.new w3 []).below (below_of_drew bQ)).store (R.getD [])) | skip))
     all_goals
      go_wp2_with fail;go_meet
      case rel=>first | exact⟨_,rfl,rfl,BV.new _ _,bY.alloc bY.size _⟩ | exact⟨_,rfl,rfl,setRow_heap _ _ _ _ _ _ ((BV.new w3 []).below (below_of_drew bQ)),below_setRow bY L9 _⟩
    case rest=>
     generalize wc=wA at *;obtain⟨nb,rfl,rfl,kf,fu⟩:=hcut;have o8:aR No w2 wA:=(aR.aF (ad qy)).trans (aR.aF fu);have zD:Below w2.heap.size w2 wA:=(ad qy).trans (fu.mono (ad qy).size);have FC:J (pre++ys) wA:=abides_below (ad HJ) (ad Hh) zD;have zm:cx wA mb w0.heap.size K (λ x=>Lf x/\¬ x=t) cnt2:=(ad iU).blocks (zD.block _ (ad iU).map.lt) (zD.block _ (ad iU).lt);have EO:=(ad ks).gH o8;have pg:(bLoad (.pointer (some ⟨nb,0,none⟩))).run Tryz.prog wA=.ok (bindV (R.getD [])) wA:=kf.load;have D7:=hide FC;have qF:=hide zm;have D3:=hide EO;have tC:=hide ((ad Bd).trans o8);have wm:=hide ((ad wk).below zD);have GL:=Nat.le_trans (ad tC).size L9;have BE:=hide GL;clear kf fu o8 zD FC zm EO CQ CR t3 b3 e0 e1 a0 d1 d2 d3 d4 HA HM vm qy GL dp iC hen2
     cases hr:R with
     | none=>
      have ng:=hide ((ad HR).symm.trans hr);rw[hr] at pg;clear hr pg;go_wp2_with fail;go_roundg cnt2
      case measure=>omega
      case rel=>
       refine⟨_,ys,ad qF,by omega,λ x=>?_,?_,ad D7,ad tC,ad wm⟩
       ·rw[ad iR x,mT.step (ad fU)];exact⟨.inl,λ h=>h.elim id λ ⟨e',h1,_⟩=>by rw[ad ng] at h1;cases h1⟩
       ·exact Nat.le_trans (ad oA) (Nat.mul_le_mul_right _ (by omega))
     | some e2=>
      have ng:=hide ((ad HR).symm.trans hr);rw[hr] at pg;have iQ:=hide (ad Hg (i+1) e2 wA (pre++ys) (by have:=ad HI;omega) (ad D3) (ad D7) (Nat.le_trans (ad HB) (ad BE)) ((ad tr).matched (ad xo) (ad ng)) (λ e' iE=>ad iS e' (by rw[ad zT,ad p9];exact mem_pmatches (ad fU) (ad ng) iE)) (by have h1:=ad oA;have h2:=ad qz;have h3:=pow_room (M:=K.length) (g:=gk) (d:=d) (by omega) Av;rw[List.length_append];omega) (λ x hx=>ad HQ x (by rw[ad zT,mem_pways];exact⟨(t,n),ad fU,e2,ad ng,by rw[ad p9];exact hx⟩)));clear hr;go_wp2_with (go_at_call 234;refine (ad iQ).mono ?_;rintro en w5 (⟨rfl,h5⟩ | ⟨rfl,h5⟩) <;> (have H5:=hide h5;clear h5))
      ·go_roundg cnt2
       case measure=>omega
       case rel=>
        obtain⟨zs,ir,bZ,pO,ll⟩:=ad H5;obtain⟨o,za,uK⟩:=(ad qF).iter;obtain⟨es,ck,fa⟩:=(ad qF).map.isMap;refine⟨_,ys++zs,(ad qF).blocks ((ll.same _ _ fa (ad D3).nm (.inr rfl)).trans fa.symm) ((ll.same _ _ za (λ hn=>by have:=ad mX _ hn;have:=ad HB;have:=ad fH;omega) (.inr uK)).trans za.symm),by omega,λ x=>?_,?_,by rw[<-List.append_assoc];exact pO,(ad tC).trans ll,(ad wm).gH ll (λ hn=>by have:=ad mX _ hn;have:=ad HB;omega)⟩
        ·rw[List.mem_append,ad iR x,mT.step (ad fU),ir,ad p9];exact⟨λ h=>h.imp id λ h=>⟨e2,ad ng,h⟩,λ h=>h.imp id λ ⟨e',h1,h2⟩=>by rw[ad ng] at h1;cases h1;exact h2⟩
        ·have h1:=ad oA;have h3:=step_room (M:=K.length) (g:=gk) (c:=cnt2) (d:=d) gX Av;rw[List.length_append];omega
      ·go_ret;obtain⟨zs,ir,bZ⟩:=ad H5;rw[ad zT];refine .inr ⟨rfl,ys++zs,λ x hx=>?_,by rw[<-List.append_assoc];exact bZ⟩;rw[mem_pways];rcases List.mem_append.1 hx with hx | hx
       ·obtain⟨p,hp,_,h⟩:=(ad iR x).1 hx;exact⟨p,hp,h⟩
       ·exact⟨(t,n),ad fU,e2,ad ng,by rw[ad p9];exact ir x hx⟩
end
end Go.Proofs.YtldkpahaocjdpaaGreat
