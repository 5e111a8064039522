/-
  denied: whether a negative literal is said after all.
-/
import Derived.Test.YtldkpahaocjdpaaGreatS13
import Derived.Deep.RegionHeld3
import Derived.RangeFuncBound
import Derived.RangeFuncCalls
import Derived.RangeFuncLeaves
import Derived.Shelf.Abstract
import Derived.Shelf.RegionOpen
import Derived.OwnWalkIn
import Derived.TacticsInMore
import Derived.LoopNIn
import Derived.LoopIn
import Derived.Stop.RegionWithIn
set_option maxHeartbeats 16000000
set_option maxRecDepth 1000000
namespace Go.Proofs.YtldkpahaocjdpaaGreat
section
open Go.RowKit
attribute [local go_sem ↓] to_bLoad to_bStore to_bZero
attribute [local go_sem] bindV_cells bStore_new run_bZero
theorem atom_len (x:PAtm × Value):(atomCells x).length=2:=rfl
theorem denied_any (No:Nat->Prop)(w:W8)(sb mb l:Nat)(pos neg:List (PAtm × Value))(pv nv:Value)(K:List (Th × Nat))(h:lS No w sb mb l pos neg pv nv K)(e:aB)(hl:e.length<=12)(bZ:∀ x∈neg,ThOk (aC e x.1)):
  Calls Tryz.prog 248 #[.pointer (some ⟨sb,0,none⟩),bindV e] w λ en w'=>en=.returned (.bool (deniedB K (neg.map (·.1)) e))/\Below w.heap.size w w':=by
 obtain⟨cs,fi⟩:∃ cs,cs=(aE e).toArray:=⟨_,rfl⟩;have rN:=hide fi;unfold bindV;rw[<-fi];clear fi;obtain⟨base,aF⟩:=h.n.row;obtain⟨an,cn,rfl⟩:=own_slice aF;have ox:=own_max aF;unfold maxLen at ox;have iV:=hide aF;have lO:=(Array.getElem?_eq_some_iff.1 h.s).1;have rX:=hide lO;have H:=hide h;have iS:=hide bZ;have q0:cs.size=25:=by rw[ad rN];rfl
 clear h aF bZ lO;go_enter Tryz.func248,Tryz.ntmps248;go_upto_region 1 with fail;generalize hw0:World.alloc w _=w0;have k0:Below w.heap.size w w0:=by rw[<-hw0];exact (Below.refl w.heap.size w).alloc L9 _
 have x0:w0.heap[w.heap.size]?=some (.cells cs 135 (0,0)):=by rw[<-hw0];exact heap_alloc_new w _
 have s0:w.heap.size+1=w0.heap.size:=by rw[<-hw0];simp
 have nL:w0.heap[sb]?=some (.cells #[pv,.slice an neg.length cn,.map (some mb),.func (.yield l) #[] #[]] 361 (0,0)):=(k0.block sb (ad rX)).trans (ad H).s;have ee:=own_block (ad iV) (λ g e=>k0.block g ((ad iV).lt g e).2);clear hw0;obtain⟨c1,-⟩:=block_cells nL 1;have my:=hide x0;have HS:=hide nL;have cg:=hide k0;have ng:=hide ee;clear x0 nL k0 ee;go_wp2_with fail
 go_loopg [14] neg.length (λ gg i wr=>∃ k:Nat,k<=neg.length/\gg=neg.length-k/\i=.int .i64 k/\deniedB K ((neg.drop k).map (·.1)) e=deniedB K (neg.map (·.1)) e/\Below w0.heap.size w0 wr)
 exact⟨0,Nat.zero_le _,rfl,rfl,rfl,Below.refl _ _⟩
 case round=>
  obtain⟨k,hk,fK,rfl,bh,hb⟩:=hrel;have HF:=hide bh;have HB:=hide hb;have sz:=hb.size;have ei:Below w.heap.size w wr:=(ad cg).trans (hb.mono (by omega));have vh:=hide ei;clear bh hb ei
  by_cases aR:k<neg.length
  ·obtain⟨g,cap,hv,iE,dn,dB,dx,hc⟩:=row_at atom_len (ad ng) k aR;injection hv with h1 h2 h3
   subst h1 h3;have d0:=hc 0 (by omega);have d1:=hc 1 (by omega);have hx:neg[k]∈neg:=List.getElem_mem aR;obtain⟨tb,gy⟩:=(ad H).n.aW _ hx;obtain⟨ta,tc,ji⟩:=own_slice gy;have gL:=(ad H).n.fG _ hx;obtain⟨D,hD⟩:∃ D,D=neg[k].1:=⟨_,rfl⟩;have ij:w.ownsRow tb 191 1 (.slice ta D.ts.length tc) D.ts.length (D.ts.map termV):=(by rw[hD,<-ji];exact gy);have e0:wr.cell? ⟨g,k*2+0,none⟩=some (.string D.p):=by
    rw[hD];exact ((ad HB).cell (p:=⟨g,k*2+0,none⟩) dn).trans (hc 0 (by omega))
   have e1:wr.cell? ⟨g,k*2+1,none⟩=some (.slice ta D.ts.length tc):=by
    rw[hD,<-ji];exact ((ad HB).cell (p:=⟨g,k*2+1,none⟩) dn).trans (hc 1 (by omega))
   have Ip:=hide ij;have rY:=hide (show deniedB K ((neg.drop k).map (·.1)) e=((ay K (aC e D)).isSome||deniedB K ((neg.drop (k+1)).map (·.1)) e) by rw[List.drop_eq_getElem_cons aR,hD];rfl);have xg:=hide (show ThOk (aC e D) by rw[hD];exact ad iS _ hx);rw[<-hD] at gL;have gM:(k:Int)<neg.length:=(by omega);rw[Nat.add_zero] at e0;clear hc d0 d1 gy ji ij hx hD;go_upto_region 4 with fail;generalize hw3:World.alloc wr _=w3;have k3:Below wr.heap.size wr w3:=(by rw[<-hw3];exact (Below.refl wr.heap.size wr).alloc L9 _);have s3:wr.heap.size+1=w3.heap.size:=(by rw[<-hw3];simp);have b3:Below w.heap.size w w3:=(ad vh).trans (k3.mono (by omega));have zZ:Below w0.heap.size w0 w3:=(ad HB).trans (k3.mono (by omega));obtain⟨a0,-⟩:=block_cells (show w3.heap[wr.heap.size]?=some (.cells #[.string D.p,.slice ta D.ts.length tc] 79 (0,0)) by rw[<-hw3];exact heap_alloc_new wr _) 0;obtain⟨a1,-⟩:=block_cells (show w3.heap[wr.heap.size]?=some (.cells #[.string D.p,.slice ta D.ts.length tc] 79 (0,0)) by rw[<-hw3];exact heap_alloc_new wr _) 1;obtain⟨a2,-⟩:=block_cells ((zZ.block sb (by have:=ad rX;omega)).trans (ad HS)) 2;have r0:BV w3 w.heap.size e:=(by unfold BV;rw[<-ad rN];exact (zZ.block _ (by omega)).trans (ad my));have qn:∀ w':W8,BV w' w.heap.size e->(bLoad (.pointer (some ⟨w.heap.size,0,none⟩))).run Tryz.prog w'=.ok (bindV e) w':=λ _ h=>h.load
   simp only[List.getElem?_toArray,List.getElem?_cons_zero,List.getElem?_cons_succ] at a0 a1 a2;have FU:=ad rX;have kJ:=hide (λ (W:W8) (hW:Below w3.heap.size w3 W)=>(ad H).m.block ((hW.block mb (by have:=(ad H).m.lt;omega)).trans (b3.block mb (ad H).m.lt)));have nZ:=hide (λ (W:W8) (hW:Below w3.heap.size w3 W)=>(pfill_any W tb e D ta tc (own_block (ad Ip) (λ g e1=>(hW.block g (by have:=((ad Ip).lt g e1).2;omega)).trans (b3.block g ((ad Ip).lt g e1).2))) gL hl));have HA:=hide (λ (W:W8) (hW:Below w3.heap.size w3 W)=>(show BV W w.heap.size e/\W.cell? ⟨sb,2,none⟩=some (.map (some mb))/\W.cell? ⟨wr.heap.size,0,none⟩=some (.string D.p)/\W.cell? ⟨wr.heap.size,1,none⟩=some (.slice ta D.ts.length tc) from ⟨r0.below hW,(hW.cell (p:=⟨sb,2,none⟩) (by simp only[];omega)).trans a2,(hW.cell (p:=⟨wr.heap.size,0,none⟩) (by simp only[];omega)).trans a0,(hW.cell (p:=⟨wr.heap.size,1,none⟩) (by simp only[];omega)).trans a1⟩));have il:=hide b3;have wg:=hide zZ;have HS3:=hide s3;clear hw3 k3 s3 b3 zZ e0 e1 c1 q0 s0 sz
   cases hq:(ay K (aC e D)).isSome with
   | true=>
    have HE:=hide (show deniedB K (neg.map (·.1)) e=true by rw[<-ad HF,ad rY,hq];rfl);have HQ:=hide hq;have tD:=hide (λ (W:W8) (hW:Below w3.heap.size w3 W)=>(show (Instr.lookup 82 (.map (some mb)) (thV (aC e D)) true).run Tryz.prog W=.ok (.tuple #[.int .i64 (((ay K (aC e D)).getD 0:Nat):Int),.bool true]) W from by have:=(ad kJ W hW).look (t:=aC e D) (ad xg) Tryz.underlying82;rw[hq] at this;exact this));clear hq
    go_region_held3 (λ w'=>BV w' w.heap.size e/\w'.cell? ⟨sb,2,none⟩=some (.map (some mb))/\w'.cell? ⟨wr.heap.size,0,none⟩=some (.string D.p)/\w'.cell? ⟨wr.heap.size,1,none⟩=some (.slice ta D.ts.length tc)) ((simp[*,BV_drew])) ((first | (go_at_call 146;refine (ad nZ _ (by exact B9.drew)).mono ?_;rintro en w4 ⟨bP,rfl⟩;have ja:=ad HA w4 (below_of_drew bP);have CL:=ad tD w4 (below_of_drew bP);have eC:=hide (below_of_drew bP);clear bP)))
    go_wp2_with fail;go_ret;exact⟨by rw[ad HE];rfl,(ad il).trans ((ad eC).mono (by exact (ad il).size))⟩
   | false=>
    have HE:=hide (show deniedB K ((neg.drop (k+1)).map (·.1)) e=deniedB K (neg.map (·.1)) e by rw[<-ad HF,ad rY,hq];rfl);have HQ:=hide hq;have tD:=hide (λ (W:W8) (hW:Below w3.heap.size w3 W)=>(show (Instr.lookup 82 (.map (some mb)) (thV (aC e D)) true).run Tryz.prog W=.ok (.tuple #[.int .i64 (((ay K (aC e D)).getD 0:Nat):Int),.bool false]) W from by have:=(ad kJ W hW).look (t:=aC e D) (ad xg) Tryz.underlying82;rw[hq] at this;exact this));clear hq
    go_region_held3 (λ w'=>BV w' w.heap.size e/\w'.cell? ⟨sb,2,none⟩=some (.map (some mb))/\w'.cell? ⟨wr.heap.size,0,none⟩=some (.string D.p)/\w'.cell? ⟨wr.heap.size,1,none⟩=some (.slice ta D.ts.length tc)) ((simp[*,BV_drew])) ((first | (go_at_call 146;refine (ad nZ _ (by exact B9.drew)).mono ?_;rintro en w4 ⟨bP,rfl⟩;have ja:=ad HA w4 (below_of_drew bP);have CL:=ad tD w4 (below_of_drew bP);have eC:=hide (below_of_drew bP);clear bP)))
    go_wp2_with fail;go_roundg (neg.length-(k+1));exact⟨k+1,by omega,rfl,by go_num,ad HE,(ad wg).trans ((ad eC).mono (ad wg).size)⟩;omega
  ·have HE:=hide (show deniedB K (neg.map (·.1)) e=false by rw[<-ad HF,List.drop_of_length_le (by omega)];rfl);go_wp2_with fail;go_ret;exact⟨by rw[ad HE];rfl,ad vh⟩
end
section
open Go.RowKit Go.Shelf
attribute [local go_sem ↓] to_bLoad to_bStore to_bZero
attribute [local go_sem] bindV_cells bStore_new run_bZero
def Rounds (No:Nat->Prop)(l N:Nat)(Qx:aB->Prop)(J Jx:List aB->W8->Prop):Prop:=
 ∀ (m:Nat) (pre:List aB) (x:aB) (W:W8),Qx x->J pre W->pre.length<N->YieldAt Fence.wide m Tryz.prog l #[bindV x] W λ en W'=>
  ∃ c:Bool,en=.returned (.bool c)/\(c=true->J (pre++[x]) W'/\aU No W W')/\(c=false->Jx (pre++[x]) W')
def FromPost (No:Nat->Prop)(J Jx:List aB->W8->Prop)(pre ws:List aB)(M:Nat)(w:W8)(en:Ending)(w':W8):Prop:=
 (en=.returned (.bool true)/\∃ ys,(∀ x,x∈ys↔x∈ws)/\ys.length<=M/\J (pre++ys) w'/\aU No w w')\/(en=.returned (.bool false)/\∃ ys,(∀ x∈ys,x∈ws)/\Jx (pre++ys) w')
theorem abides_below {B:Nat}{J:List aB->W8->Prop}(hJ:AbidesFrom B J){s:List aB}{w w':W8}(h:J s w)(k:Below w.heap.size w w'):J s w':=
 hJ s w w' none h ⟨k.os,k.tape,k.output,k.size,λ i hi _=>k.block i hi⟩ (λ _ e=>by cases e)
theorem from_base (No:Nat->Prop)(w:W8)(sb mb l:Nat)(pos neg:List (PAtm × Value))(pv nv:Value)(K:List (Th × Nat))(h:lS No w sb mb l pos neg pv nv K)(e:aB)(hl:e.length<=12)(bZ:∀ x∈neg,ThOk (aC e x.1))
  (Qx:aB->Prop) (hq:∀ x∈pways K (neg.map (·.1)) [] e,Qx x) (J Jx:List aB->W8->Prop) (B N:Nat) (hJ:AbidesFrom B J) (hY:Rounds No l N Qx J Jx) (pre:List aB) (hp:J pre w) (hN:pre.length<N) (dI:∀ g,No g->g<w.heap.size):
  Calls Tryz.prog 234 #[.pointer (some ⟨sb,0,none⟩),.int .i64 (pos.length:Nat),bindV e] w (FromPost No J Jx pre (pways K (neg.map (·.1)) [] e) 1 w):=by
 obtain⟨base,aF⟩:=h.p.row;obtain⟨an,cn,rfl⟩:=own_slice aF;have ox:=own_max aF;unfold maxLen at ox;have lO:=(Array.getElem?_eq_some_iff.1 h.s).1;have rX:=hide lO;have H:=hide h;have HP:=hide hp;have HY:=hide hY;have HJ:=hide hJ;have qA:=hide hN;have iS:=hide bZ;have oc:=hide dI;have HQ:=hide hq;clear hq;clear h aF lO hp hY hJ hN bZ dI;go_enter Tryz.func234,Tryz.ntmps234;go_upto_region 1 with fail;generalize hw0:World.alloc w _=w0;have k0:Below w.heap.size w w0:=by rw[<-hw0];exact (Below.refl w.heap.size w).alloc L9 _
 have x0:BV w0 w.heap.size e:=by rw[<-hw0];exact BV.new w e
 have s0:w.heap.size+1=w0.heap.size:=by rw[<-hw0];simp
 have o6:=(ad H).gN (aU.aG k0);clear hw0;obtain⟨c1,-⟩:=block_cells o6.s 0;have my:=hide x0;have cg:=hide k0;have rL:=hide o6;have tH:=hide (abides_below (ad HJ) (ad HP) k0);clear o6 x0 k0;go_upto_region 2 with fail;obtain⟨c3,-⟩:=block_cells (ad rL).s 3;have qn:∀ w':W8,BV w' w.heap.size e->(bLoad (.pointer (some ⟨w.heap.size,0,none⟩))).run Tryz.prog w'=.ok (bindV e) w':=λ _ h=>h.load
 have jA:=qn w0.drew (ad my);have HD:=hide (λ (W:W8) (hW:Below w0.heap.size w0 W)=>(denied_any No W sb mb l pos neg _ nv K ((ad rL).gN (aU.aG hW)) e hl (ad iS)));have zG:=hide (λ (W:W8) (hW:Below w0.heap.size w0 W)=>qn W ((ad my).below hW));have vj:=hide (λ (W:W8) (hW:Below w0.heap.size w0 W)=>(hW.cell (p:=⟨sb,3,none⟩) (by have:=ad rX;simp only[];omega)).trans c3);have D3:=hide (λ (W:W8) (hW:Below w0.heap.size w0 W)=>abides_below (ad HJ) (ad tH) hW);clear qn c1 c3
 cases hd:deniedB K (neg.map (·.1)) e with
 | true=>
  rw[hd] at HD;have HW:=hide (show pways K (neg.map (·.1)) [] e=[] by unfold pways pmatches;simp[hd]);clear hd
  first | go_region_with (go_at_call 248;refine (ad HD _ (by exact B9.drew)).mono ?_;rintro en w4 ⟨rfl,bP⟩;have eC:=hide (below_of_drew bP);clear bP) | fail
  all_goals
   go_wp2_with fail;go_ret;rw[ad HW];exact .inl ⟨rfl,[],λ _=>Iff.rfl,by simp,by rw[List.append_nil];exact ad D3 _ (ad eC),(aU.aG (ad cg)).trans (aU.aG (ad eC))⟩
 | false=>
  rw[hd] at HD;have HW:=hide (show pways K (neg.map (·.1)) [] e=[e] by unfold pways pmatches;simp[hd]);have Hq:Qx e:=ad HQ e (by rw[ad HW];exact List.mem_singleton.2 rfl);clear hd;refine (wpIn_wide (n:=2)).1 ?_
  first | gi_region_with (first | (refine⟨trivial,?_⟩;gi_at_call 248;refine (callsIn_wide.2 (ad HD _ (by exact B9.drew))).mono ?_;rintro en w4 ⟨rfl,bP⟩;have eC:=hide (below_of_drew bP);have l4:=ad zG w4 (ad eC);have y4:=ad vj w4 (ad eC);obtain⟨fn,tmps,assign,body,hy,hR⟩:=ad HY 1 pre e w4 Hq (ad D3 w4 (ad eC)) (ad qA);clear bP) | (refine hR.mono ?_;rintro en w5 ⟨c,rfl,h5⟩;have H5:=hide h5;clear h5 hR hy)) | fail
  all_goals
   go_wp2_with fail;go_ret;rw[ad HW]
   cases c with
   | true=>exact .inl ⟨rfl,[e],λ _=>Iff.rfl,by simp,((ad H5).1 rfl).1,((aU.aG (ad cg)).trans (aU.aG (ad eC))).trans ((ad H5).1 rfl).2⟩
   | false=>exact .inr ⟨rfl,[e],λ _ h=>h,(ad H5).2 rfl⟩
end
section
open Go.RowKit Go.Maps
attribute [local go_sem ↓] to_bLoad to_bStore to_bAlloc to_tLoad to_tStore to_tAlloc bindV_cells thV_cells
attribute [local go_sem] bStore_new run_bAlloc tStore_new run_tAlloc
def mV (K:List (Th × Nat))(neg:List PAtm)(a:PAtm)(r:List PAtm)(e:aB)(Lf:Th->Prop)(x:aB):Prop:=∃ p∈K,¬ Lf p.1/\∃ e',aH e a p.1=some e'/\x∈pways K neg r e'
variable {e x:aB} {r neg:List PAtm} {a:PAtm} {K:List (Th × Nat)}
theorem mem_pways:x∈pways K neg (a::r) e↔∃ p∈K,∃ e',aH e a p.1=some e'/\x∈pways K neg r e':=by
 unfold pways;rw[List.mem_filter,pmatches,List.mem_flatMap]
 constructor
 ·rintro⟨⟨p,hp,hx⟩,hd⟩
  cases hm:aH e a p.1 with
  | none=>rw[hm] at hx;cases hx
  | some e'=>rw[hm] at hx;exact⟨p,hp,e',hm,List.mem_filter.2 ⟨hx,hd⟩⟩
 ·rintro⟨p,hp,e',hm,hx⟩;obtain⟨h1,h2⟩:=List.mem_filter.1 hx;exact⟨⟨p,hp,by rw[hm];exact h1⟩,h2⟩
theorem mem_pmatches {e':aB}{p:Th × Nat}(hp:p∈K)(hm:aH e a p.1=some e')(hx:x∈pmatches K r e'):x∈pmatches K (a::r) e:=by
 rw[pmatches,List.mem_flatMap];exact⟨p,hp,by rw[hm];exact hx⟩
theorem mV.step {Lf:Th->Prop}{t:Th}{n:Nat}(ht:(t,n)∈K):mV K neg a r e (λ y=>Lf y/\y≠t) x↔mV K neg a r e Lf x\/∃ e',aH e a t=some e'/\x∈pways K neg r e':=by
 constructor
 ·rintro⟨p,hp,hn,hx⟩
  by_cases e1:p.1=t
  ·right;rw[e1] at hx;exact hx
  ·left;exact⟨p,hp,λ h=>hn ⟨h,e1⟩,hx⟩
 ·rintro (⟨p,hp,hn,hx⟩ | hx)
  ·exact⟨p,hp,λ h=>hn h.1,hx⟩
  ·exact⟨(t,n),ht,λ h=>h.2 rfl,hx⟩
structure FromIn (No:Nat->Prop)(J:List aB->W8->Prop)(w:W8)(mb rb:Nat)(K:List (Th × Nat))(neg:List PAtm)(a:PAtm)(r:List PAtm)(e:aB)(pre:List aB)(M:Nat)(Lf:Th->Prop)(ys:List aB)(dP:Nat)(wr:W8):Prop where
 rg:cx wr mb rb K Lf dP
 cn:dP<=K.length
 mem:∀ x,x∈ys↔mV K neg a r e Lf x
 len:ys.length<=(K.length-dP)*M
 j:J (pre++ys) wr
 kp:aU No w wr
 bv:BV wr w.heap.size e
variable {M g d:Nat}
theorem pow_room (h0:0<g)(h:g<=M):(M-g)*M ^ d+M ^ d<=M ^ (d+1):=by
 have e1:(M-g)*M ^ d+M ^ d=(M-g+1)*M ^ d:=by rw[Nat.succ_mul]
 rw[e1,Nat.pow_succ,Nat.mul_comm];exact Nat.mul_le_mul_left _ (by omega)
theorem step_room {c:Nat}(h:c<g)(hg:g<=M):(M-g)*M ^ d+M ^ d<=(M-c)*M ^ d:=by
 have e1:(M-g)*M ^ d+M ^ d=(M-g+1)*M ^ d:=by rw[Nat.succ_mul]
 rw[e1];exact Nat.mul_le_mul_right _ (by omega)
theorem from_any (No:Nat->Prop)(sb mb l:Nat)(pos neg:List (PAtm × Value))(pv nv:Value)(K:List (Th × Nat))(Qx:aB->Prop)(J Jx:List aB->W8->Prop)(B N:Nat)(hJ:AbidesFrom B J)(hY:Rounds No l N Qx J Jx)(B0:∀ g,No g->g<B)(Vs:List B8)(hV:Vs.length<=12)(uT:∀ x∈pos,∀ t∈x.1.ts,t.1=true->t.2∈Vs):∀ (d i:Nat) (e:aB) (w:W8) (pre:List aB),i+d=pos.length->lS No w sb mb l pos neg pv nv K->J pre w->B<=w.heap.size->aj Vs e->(∀ e'∈pmatches K ((pos.drop i).map (·.1)) e,∀ x∈neg,ThOk (aC e' x.1))->pre.length+K.length ^ d<=N->(∀ x∈pways K (neg.map (·.1)) ((pos.drop i).map (·.1)) e,Qx x) ->
  Calls Tryz.prog 234 #[.pointer (some ⟨sb,0,none⟩),.int .i64 (i:Nat),bindV e] w (FromPost No J Jx pre (pways K (neg.map (·.1)) ((pos.drop i).map (·.1)) e) (K.length ^ d) w):=by
 intro d
 induction d with
 | zero=>
  intro i e w pre hi hC hp hB hl bZ hN hq;rw[Nat.add_zero] at hi;subst hi;have hd:(pos.drop pos.length).map (·.1)=([]:List PAtm):=by rw[List.drop_length];rfl
  rw[hd] at bZ hq ⊢;exact from_base No w sb mb l pos neg pv nv K hC e (by have:=hl.len;omega) (bZ e (by simp[pmatches])) Qx hq J Jx B N hJ hY pre hp (by rw[Nat.pow_zero] at hN;omega) (λ g hg=>by have:=B0 g hg;omega)
 | succ d ih=>
  intro i e w pre hi hC hp hB hl bZ hN hq;have HQ:=hide hq;clear hq;have pz:i<pos.length:=by omega
  obtain⟨base,aF⟩:=hC.p.row;obtain⟨an,cn,rfl⟩:=own_slice aF;have ox:=own_max aF;unfold maxLen at ox;have G3:=hide ih;have tt:=hide hl;have xm:=hide uT;have H:=hide hC;have HP:=hide hp;have HJ:=hide hJ;have HY:=hide hY;have qA:=hide hN;have iS:=hide bZ;have mZ:=hide B0;have HB:=hide hB;have HI:=hide hi;have lO:=(Array.getElem?_eq_some_iff.1 hC.s).1;have bJ:(i:Int)≠pos.length:=by omega
  clear ih hC hp hJ hY hN bZ B0 hB aF hi hl uT;go_enter Tryz.func234,Tryz.ntmps234;go_upto_region 1 with fail;generalize hw0:World.alloc w _=w0;have k0:Below w.heap.size w w0:=by rw[<-hw0];exact (Below.refl w.heap.size w).alloc L9 _
  have x0:BV w0 w.heap.size e:=by rw[<-hw0];exact BV.new w e
  have s0:w0.heap.size=w.heap.size+1:=by rw[<-hw0];simp
  have o6:=(ad H).gN (aU.aG k0);clear hw0;obtain⟨c0,-⟩:=block_cells o6.s 0;obtain⟨c2,-⟩:=block_cells o6.s 2;have uC:=o6.m;have my:=hide x0;have cg:=hide k0;have tH:=hide (abides_below (ad HJ) (ad HP) k0);have fS:=hide s0;clear o6 x0 k0 s0;go_wp2_with (first | (at_range;refine wp_hrange _ rfl _ 82 rfl Tryz.underlying82 mb K rfl uC ?_;intro w1 hrg1 ft jT) | go_in)
  try go_frame
  obtain⟨AT,ny⟩:∃ AT,AT=pos[i].1:=⟨_,rfl⟩;obtain⟨RS,B6⟩:∃ RS,RS=(pos.drop (i+1)).map (·.1):=⟨_,rfl⟩;have yq:(pos.drop i).map (·.1)=AT::RS:=by rw[ny,B6,List.drop_eq_getElem_cons pz,List.map_cons]
  have h0:FromIn No J w mb w0.heap.size K (neg.map (·.1)) AT RS e pre (K.length ^ d) (λ _=>True) [] K.length w1:=by
   have kk:Below w0.heap.size w0 w1:=⟨ft.os,ft.tape,ft.output,ft.size,λ j hj=>ft.block j hj (by simp)⟩;refine⟨hrg1,Nat.le_refl _,λ x=>⟨λ h=>absurd h List.not_mem_nil,λ ⟨p,hp,hn,_⟩=>absurd trivial hn⟩,by simp,?_,(aU.aG (ad cg)).trans (aU.aG kk),(ad my).below kk⟩;rw[List.append_nil];exact abides_below (ad HJ) (ad tH) kk
  have zI:=hide yq;have tg:=hide ny;have qg:=hide B6;clear hrg1 ft jT uC c0 c2 yq ny B6
  go_loopg [] K.length (λ gg wr=>∃ (Lf:Th->Prop) (ys:List aB),FromIn No J w mb w0.heap.size K (neg.map (·.1)) AT RS e pre (K.length ^ d) Lf ys gg wr)
  exact⟨_,_,h0⟩
  case round=>
   clear h0;obtain⟨Lf,ys,ak⟩:=hrel;have jg:=ak.rg;have bp:=hide ak;clear ak;go_wp2_with (first | (at_next;refine wp_hnext _ rfl _ rfl mb w0.heap.size K Lf gk rfl jg ?_ ?_) | go_in)
   ·intro cF;have HD:=hide cF;clear cF jg;go_wp2_with fail;go_ret;rw[ad zI];have ak:=ad bp;refine .inl ⟨rfl,ys,λ x=>?_,?_,ak.j,ak.kp⟩
    ·rw[ak.mem,mem_pways];exact⟨λ ⟨p,hp,_,h⟩=>⟨p,hp,h⟩,λ ⟨p,hp,h⟩=>⟨p,hp,ad HD p.1.1 p.1.2 p.2 hp,h⟩⟩
    ·refine Nat.le_trans ak.len ?_;rw[Nat.pow_succ,Nat.mul_comm];exact Nat.mul_le_mul_left _ (Nat.sub_le _ _)
   ·intro tp tts n w2 cnt2 ig lh hrg2 ib dt nM hen2;generalize ((tp,tts):Th)=t at *;have ak:=ad bp;have nL:=ad fS;have DB:aU No w w2:=ak.kp.grown dt (λ r e1=>.inl (by cases e1;omega));have Ey:BV w2 w.heap.size e:=(dt.block _ ak.bv.lt (by simp;omega)).trans ak.bv;have Fm:J (pre++ys) w2:=ad HJ _ _ _ _ ak.j dt (λ r e1=>by cases e1;exact⟨by have:=ad HB;omega,ak.rg.iter⟩);have EF:=(ad H).gN DB;have iU:=hide hrg2;have A6:=hide DB;have G4:=hide Fm;have mX:=hide EF;have wh:=hide Ey;have gh:=hide ig;have hlen:=ak.len;have oI:=hide hlen;have Al:=ak.cn;have fK:=ib;have iR:=hide ak.mem;have D9:=hide lh;clear nM jg hrg2 dt DB Ey Fm EF ig hlen ak bp lh nL;go_upto_region 6 with fail;generalize hw3:World.alloc w2 _=w3;have k3:Below w2.heap.size w2 w3:=(by rw[<-hw3];exact (Below.refl w2.heap.size w2).alloc L9 _);have t3:TV w3 w2.heap.size t:=(by rw[<-hw3];exact TV.new w2 t);have s3:w3.heap.size=w2.heap.size+1:=(by rw[<-hw3];simp);have b3:BV w3 w.heap.size e:=(ad wh).below k3;have sf:=(ad mX).gN (aU.aG k3);obtain⟨a0,-⟩:=block_cells sf.s 0;obtain⟨xw,lr⟩:=sf.p.row;obtain⟨g,cap,hv,iE,dn,dB,dx,hc⟩:=row_at atom_len lr i pz;injection hv with h1 h2 h3
    subst h1 h3;have hx:pos[i]∈pos:=List.getElem_mem pz;obtain⟨tb,gy⟩:=sf.p.aW _ hx;obtain⟨ta,tc,ji⟩:=own_slice gy;have gL:=sf.p.fG _ hx;rw[<-ad tg] at gL;have e0:w3.cell? ⟨g,i*2,none⟩=some (.string AT.p):=(by have:=hc 0 (by omega);rw[ad tg];exact this);have e1:w3.cell? ⟨g,i*2+1,none⟩=some (.slice ta AT.ts.length tc):=(by have:=hc 1 (by omega);rw[ad tg,<-ji];exact this);have ij:w3.ownsRow tb 191 1 (.slice ta AT.ts.length tc) AT.ts.length (AT.ts.map termV):=(by rw[ad tg,<-ji];exact gy);have xj:=hide (show ∀ t∈AT.ts,t.1=true->t.2∈Vs by rw[ad tg];exact ad xm _ hx);have HM:=hide (λ (W:W8) (hW:Below w3.heap.size w3 W)=>pmatch_any W tb e AT ta tc t (own_block ij (λ g e1=>hW.block g (ij.lt g e1).2)) gL Vs hV (ad tt) (ad xj));have HA:=hide (λ (W:W8) (hW:Below w3.heap.size w3 W)=>(show BV W w.heap.size e/\TV W w2.heap.size t/\W.cell? ⟨sb,0,none⟩=some (.slice (some ⟨g,0,none⟩) pos.length cn)/\W.cell? ⟨g,i*2,none⟩=some (.string AT.p)/\W.cell? ⟨g,i*2+1,none⟩=some (.slice ta AT.ts.length tc) from ⟨b3.below hW,t3.below hW,(hW.cell (p:=⟨sb,0,none⟩) (by have:=(Array.getElem?_eq_some_iff.1 sf.s).1;exact this)).trans a0,(hW.cell (p:=⟨g,i*2,none⟩) dn).trans e0,(hW.cell (p:=⟨g,i*2+1,none⟩) dn).trans e1⟩));have CJ:∀ w':W8,BV w' w.heap.size e->(bLoad (.pointer (some ⟨w.heap.size,0,none⟩))).run Tryz.prog w'=.ok (bindV e) w':=λ _ h=>h.load
    have CK:∀ w':W8,TV w' w2.heap.size t->(tLoad (.pointer (some ⟨w2.heap.size,0,none⟩))).run Tryz.prog w'=.ok (thV t) w':=λ _ h=>h.load
    have vj:=hide sf;have qy:=hide k3;have vG:(i:Int)<pos.length:=(by omega);have d1:w.heap.size≠w3.heap.size:=(by have:=b3.lt;omega);have d2:w2.heap.size≠w3.heap.size:=(by omega);have d3:sb≠w3.heap.size:=(by have:=(Array.getElem?_eq_some_iff.1 sf.s).1;omega);have d4:g≠w3.heap.size:=(by omega);clear s3;simp only[List.getElem?_toArray,List.getElem?_cons_zero] at a0;clear hw3 k3 sf lr hc hx gy ji ij h2;obtain⟨R,hR⟩:∃ R,R=aH e AT t:=⟨_,rfl⟩;rw[<-hR] at HM;have HR:=hide hR;clear hR
    go_cut [8,9] from 37 to 59 (λ p c wc=>∃ nb,p=.pointer (some ⟨nb,0,none⟩)/\c=.bool R.isSome/\BV wc nb (R.getD [])/\Below w3.heap.size w3 wc)
    case first=>
     go_region_held3 (λ w'=>BV w' w.heap.size e/\TV w' w2.heap.size t/\w'.cell? ⟨sb,0,none⟩=some (.slice (some ⟨g,0,none⟩) pos.length cn)/\w'.cell? ⟨g,i*2,none⟩=some (.string AT.p)/\w'.cell? ⟨g,i*2+1,none⟩=some (.slice ta AT.ts.length tc)) ((refine ad HA _ ?_;first | exact bY | exact B9.drew | exact (B9.alloc L9 _).drew | exact bY.alloc bY.size _ | exact below_setRow bY L9 _)) ((go_at_call 62;refine (ad HM _ (by first | exact B9.drew | exact (B9.alloc L9 _).drew)).mono ?_;rintro en w4 ⟨bP,rfl⟩;have bY:Below w3.heap.size w3 w4:=(by first | exact below_of_drew bP | exact below_past (B9.alloc L9 _) bP);first | (have uM:=((BV.new w3 []).below (below_of_drew bP)).store (R.getD [])) | skip))
     all_goals
      go_wp2_with fail;go_meet
      case rel=>first | exact⟨_,rfl,rfl,BV.new _ _,bY.alloc bY.size _⟩ | exact⟨_,rfl,rfl,setRow_heap _ _ _ _ _ _ ((BV.new w3 []).below (below_of_drew bP)),below_setRow bY L9 _⟩
    case rest=>
     generalize wc=wA at *;obtain⟨nb,rfl,rfl,ko,gJ⟩:=hcut;have pn:aU No w2 wA:=(aU.aG (ad qy)).trans (aU.aG gJ);have zw:Below w2.heap.size w2 wA:=(ad qy).trans (gJ.mono (ad qy).size);have Fo:J (pre++ys) wA:=abides_below (ad HJ) (ad G4) zw;have zg:cx wA mb w0.heap.size K (λ x=>Lf x/\¬ x=t) cnt2:=(ad iU).blocks (zw.block _ (ad iU).map.lt) (zw.block _ (ad iU).lt);have EG:=(ad mX).gN pn;have pw:(bLoad (.pointer (some ⟨nb,0,none⟩))).run Tryz.prog wA=.ok (bindV (R.getD [])) wA:=ko.load;have D2:=hide Fo;have qG:=hide zg;have DY:=hide EG;have tC:=hide ((ad A6).trans pn);have wk:=hide ((ad wh).below zw);have Gx:=Nat.le_trans (ad tC).size L9;have Bu:=hide Gx;clear ko gJ pn zw Fo zg EG CJ CK t3 b3 e0 e1 a0 d1 d2 d3 d4 HA HM vj qy Gx dn iE hen2
     cases hr:R with
     | none=>
      have ni:=hide ((ad HR).symm.trans hr);rw[hr] at pw;clear hr pw;go_wp2_with fail;go_roundg cnt2
      case measure=>omega
      case rel=>
       refine⟨_,ys,ad qG,by omega,λ x=>?_,?_,ad D2,ad tC,ad wk⟩
       ·rw[ad iR x,mV.step (ad gh)];exact⟨.inl,λ h=>h.elim id λ ⟨e',h1,_⟩=>by rw[ad ni] at h1;cases h1⟩
       ·exact Nat.le_trans (ad oI) (Nat.mul_le_mul_right _ (by omega))
     | some e2=>
      have ni:=hide ((ad HR).symm.trans hr);rw[hr] at pw;have iQ:=hide (ad G3 (i+1) e2 wA (pre++ys) (by have:=ad HI;omega) (ad DY) (ad D2) (Nat.le_trans (ad HB) (ad Bu)) ((ad tt).matched (ad xj) (ad ni)) (λ e' iF=>ad iS e' (by rw[ad zI,ad qg];exact mem_pmatches (ad gh) (ad ni) iF)) (by have h1:=ad oI;have h2:=ad qA;have h3:=pow_room (M:=K.length) (g:=gk) (d:=d) (by omega) Al;rw[List.length_append];omega) (λ x hx=>ad HQ x (by rw[ad zI,mem_pways];exact⟨(t,n),ad gh,e2,ad ni,by rw[ad qg];exact hx⟩)));clear hr;go_wp2_with (go_at_call 234;refine (ad iQ).mono ?_;rintro en w5 (⟨rfl,h5⟩ | ⟨rfl,h5⟩) <;> (have H5:=hide h5;clear h5))
      ·go_roundg cnt2
       case measure=>omega
       case rel=>
        obtain⟨zs,cD,cd,pX,ly⟩:=ad H5;obtain⟨o,yU,uI⟩:=(ad qG).iter;obtain⟨es,ck,eY⟩:=(ad qG).map.isMap;refine⟨_,ys++zs,(ad qG).blocks ((ly.same _ _ eY (ad DY).nm (.inr rfl)).trans eY.symm) ((ly.same _ _ yU (λ hn=>by have:=ad mZ _ hn;have:=ad HB;have:=ad fS;omega) (.inr uI)).trans yU.symm),by omega,λ x=>?_,?_,by rw[<-List.append_assoc];exact pX,(ad tC).trans ly,(ad wk).gN ly (λ hn=>by have:=ad mZ _ hn;have:=ad HB;omega)⟩
        ·rw[List.mem_append,ad iR x,mV.step (ad gh),cD,ad qg];exact⟨λ h=>h.imp id λ h=>⟨e2,ad ni,h⟩,λ h=>h.imp id λ ⟨e',h1,h2⟩=>by rw[ad ni] at h1;cases h1;exact h2⟩
        ·have h1:=ad oI;have h3:=step_room (M:=K.length) (g:=gk) (c:=cnt2) (d:=d) ib Al;rw[List.length_append];omega
      ·go_ret;obtain⟨zs,cD,cd⟩:=ad H5;rw[ad zI];refine .inr ⟨rfl,ys++zs,λ x hx=>?_,by rw[<-List.append_assoc];exact cd⟩;rw[mem_pways];rcases List.mem_append.1 hx with hx | hx
       ·obtain⟨p,hp,_,h⟩:=(ad iR x).1 hx;exact⟨p,hp,h⟩
       ·exact⟨(t,n),ad gh,e2,ad ni,by rw[ad qg];exact cD x hx⟩
end
end Go.Proofs.YtldkpahaocjdpaaGreat
