/-
  The law's ownStrata: the list is written over with its mark, and three are begun at it.
-/
import Derived.Test.YtldkpahaocjdpaaGreatE30
import Derived.StillTailTactics
import Derived.KernelRfl
set_option maxHeartbeats 16000000
set_option maxRecDepth 1000000
namespace Go.Proofs.YtldkpahaocjdpaaGreat
section
open Go.RowKit
variable {n:Nat} {w w':W8}
theorem yc.pr {v v':Value}{m:Nat}(h:yc w w' v v' n m):∀ g∈v'.ownBlock.toList,g∈v.ownBlock.toList\/w.heap.size<=g:=by
 intro g hg;rcases h with⟨g',cap,rfl,rfl,_,_⟩ | ⟨g',cap,rfl,qu,_,_⟩
 ·exact .inl (by simpa[Value.ownBlock] using hg)
 ·right
  have:g=g':=by simpa[Value.ownBlock] using hg
  omega
variable {v3:Value} {cap i base:Nat} {a:O8} {mk:V8} {e:TypeId} {w2:W8}
theorem uI.pr (h:uI w2 base e mk a n cap i v3 w):∀ g∈v3.ownBlock.toList,g∈(Value.slice a n cap).ownBlock.toList\/w2.heap.size<=g:=by
 intro g hg;rcases h.at_ with he | ⟨hf,_⟩
 ·left
  rw[he] at hg
  cases a with
  | none=>simp[Value.ownBlock] at hg
  | some a=>simpa[Value.ownBlock] using hg
 ·exact .inr (hf g (by simpa using hg))
structure E6 (w:W8)(e:TypeId)(mk:V8)(m:MB)(w':W8):Prop where
 mark:sr w' e mk m
 kept:zK m.l.ownBlock.toList w w'
 eI:∀ g∈m.blocks,g∈m.l.ownBlock.toList\/w.heap.size<=g
variable {w0 w3:W8}
theorem E6.of {w1:W8}{a1 a2 a3:O8}{c1 c2 c3 mark:Nat}(hw:zK (Value.slice a n cap).ownBlock.toList w w0)(h0:Lm w0 0 e mk (.slice a n cap) n){wa wb:W8}(ka:zK [] w0 wa)(kb:zK [] w1 wb)(p1:yc wa w1 (.slice a n cap) (.slice a1 (n+1) c1) n 1)(m1:Lm w1 0 e mk (.slice a1 (n+1) c1) (n+1))(p2:yc wb w2 (.slice a n cap) (.slice a2 (n+2) c2) n 2)(m2:Lm w2 0 e mk (.slice a2 (n+2) c2) (n+2))(h:uI w2 0 e mk a n cap 64 (.slice a3 (n+64) c3) w3)(hn:n<=1000)(hm:mark<=1000000000):
  E6 w e mk ⟨.slice a n cap,.slice a1 (n+1) c1,.slice a2 (n+2) c2,.slice a3 (n+64) c3,mark⟩ w3:=by
 have ha:Lm wa 0 e mk (.slice a n cap) n:=h0.kept ka (by simp);have k1:=p1.kept;have k2:=p2.kept;have f1:Lm wb 0 e mk (.slice a n cap) n:=(p1.first (by omega) ha m1).kept kb (by simp);have Y3:Lm wb 0 e mk (.slice a1 (n+1) c1) (n+1):=m1.kept kb (by simp);obtain⟨M,hM,hr⟩:=h.reach;have nT:=h0.cap;have q1:Lm w3 0 e mk (.slice a1 (n+1) c1) (n+1):=p1.other (by omega) ha Y3 (k2.trans h.kept) hM (by omega);have q2:Lm w3 0 e mk (.slice a2 (n+2) c2) (n+2):=p2.other (by omega) f1 m2 h.kept hM (by omega);have q0:Lm w3 0 e mk (.slice a n cap) n:=by
  by_cases hM0:0<M
  ·exact hM.pre (by omega) hM0
  ·have Cf:n=0:=(by omega);have MY:M=0:=(by omega);subst Cf MY;exact hM
 have s0:=hw.size;have sa:=ka.size;have s1:=k1.size;have sb:=kb.size;have s2:=k2.size;refine⟨⟨hm,n,hn,q0,q1,q2,h.lm⟩,(hw.trans ((ka.mono (by simp)).trans (k1.trans ((kb.mono (by simp)).trans (k2.trans h.kept))))),λ g hg=>?_⟩;simp only[MB.blocks,List.mem_append] at hg;rcases hg with ((hg | hg) | hg) | hg
 ·exact .inl hg
 ·exact (p1.pr g hg).imp id (by omega)
 ·exact (p2.pr g hg).imp id (by omega)
 ·exact (h.pr g hg).imp id (by omega)
def yae (w:W8)(e0:TypeId)(mk:V8)(a:O8)(n cap mark:Nat):Ending->W8->Prop:=λ e w'=>
 ∃ (a1 a2 a3:O8) (c1 c2 c3:Nat),e=.returned (.agg #[.slice a n cap,.slice a1 (n+1) c1,.slice a2 (n+2) c2,.slice a3 (n+64) c3,.int .i64 mark])/\E6 w e0 mk ⟨.slice a n cap,.slice a1 (n+1) c1,.slice a2 (n+2) c2,.slice a3 (n+64) c3,mark⟩ w'
theorem z8r {xs:V8}{size:Nat}(hl:w.ownsRow 0 e size (.slice a n cap) n xs){b:Nat}{o:Obj}(hb:w0.heap[b]?=some o)(Dv:w.heap.size<=b)(k:zK (Value.slice a n cap).ownBlock.toList w0 w'):w'.heap[b]?=some o:=by
 rw[k.block b (Array.getElem?_eq_some_iff.1 hb).1 (λ hm=>by have:=(hl.lt b (by simpa using hm)).2;omega)];exact hb
theorem z4t (mk:V8)(n:Nat):rep mk (n+1)=rep mk n++mk:=by rw[zpz];simp[rep]
theorem yb6 (mk:V8)(n:Nat):rep mk (n+2)=rep mk n++(mk++mk):=by rw[zpz];simp[rep]
theorem uI.LX (h:uI w2 base e mk a n cap i v3 w)(k:zK [] w w'):uI w2 base e mk a n cap i v3 w':=
 ⟨h.lm.kept k (by simp),h.kept.trans (k.mono (by simp)),h.at_.imp id λ x=>⟨x.1,x.2.kept k (by simp)⟩⟩
theorem E6.dQ {w4:W8}{m:MB}(h:E6 w e mk m w3){x:Nat}(k:zK [x] w3 w4)(hx:w.heap.size<=x)(ht:dW w3 e x):E6 w e mk m w4:=
 ⟨h.mark.kept k (λ y hy=>.inl (by rw[List.mem_singleton.1 hy];exact ht)),h.kept.step k (λ y hy=>.inr (by rw[List.mem_singleton.1 hy];exact hx)),h.eI⟩
end
section
open Go.RowKit
theorem z6s {w w1 W w5:W8}{b j:Nat}{A A':Array Value}{tB e:TypeId}{mk:Nat->V8}{v:Value}{ms:List MB}{m:MB}{a':O8}{c':Nat}(hblk:w1.heap[b]?=some (.cells A 69 (0,0)))(hB:jS w1 (b+1) tB e mk v ms)(hO:E6 w e (mk m.mark) m w1)(hW:zK [] w1 W)(hg:W.grownBy w5 v.ownBlock)(ay:w5.ownsRow (b+1) tB 5 (.slice a' (ms.length+1) c') (ms.length+1) (ms.flatMap MB.cells++m.cells))(du:v.ownBlock=(Value.slice a' (ms.length+1) c').ownBlock\/∀ g,(Value.slice a' (ms.length+1) c').ownBlock=some g->W.heap.size<=g)(h1:69≠tB)(h2:69≠e)(h3:tB≠e)(hA:A.setIfInBounds j (.slice a' (ms.length+1) c')=A'):
  jS (w5.setCell ⟨b,j,none⟩ (.slice a' (ms.length+1) c')) (b+1) tB e mk (.slice a' (ms.length+1) c') (ms++[m])/\(w5.setCell ⟨b,j,none⟩ (.slice a' (ms.length+1) c')).heap[b]?=some (.cells A' 69 (0,0))/\zK (b::(v.ownBlock.toList++m.l.ownBlock.toList)) w (w5.setCell ⟨b,j,none⟩ (.slice a' (ms.length+1) c'))/\(∀ g∈(Value.slice a' (ms.length+1) c').ownBlock.toList,g∈v.ownBlock.toList\/w.heap.size<=g)/\w5.heap[b]?=some (.cells A 69 (0,0)):=by
 have k5:zK v.ownBlock.toList w1 w5:=(hW.mono (by simp)).trans (zK.aR hg);have dC:w5.heap[b]?=some (.cells A 69 (0,0)):=yK hblk k5 (λ x hx=>.inr (yH hB.row (Ne.symm h1) x hx));have k3:zK (b::v.ownBlock.toList) w1 (w5.setCell ⟨b,j,none⟩ (.slice a' (ms.length+1) c')):=zK.setCell (p:=⟨b,j,none⟩) (k5.mono λ x hx=>.inl (List.mem_cons_of_mem _ hx)) (.inl List.mem_cons_self) _;have sg:=hO.kept.size;have YI:=hW.size;refine⟨hB.add hO.mark k3 (ownsRow_setCell_below (a:=⟨b,j,none⟩) ay (by simp) _) (zds hblk h2) h3,?_,?_,λ g Ad=>?_,dC⟩
 ·rw[heap_setCell_same _ _ _ _ _ _ dC,hA]
 ·refine (hO.kept.mono λ x hx=>.inl (List.mem_cons_of_mem _ (List.mem_append_right _ hx))).step k3 λ x hx=>.inl ?_
  rcases List.mem_cons.1 hx with rfl | hx
  ·exact List.mem_cons_self
  ·exact List.mem_cons_of_mem _ (List.mem_append_left _ hx)
 ·rcases du with h | h
  ·rw[<-h] at Ad;exact .inl Ad
  ·exact .inr (by have:=h g (by simpa using Ad);omega)
structure NN (w:W8)(b:Nat)(A':Value->Array Value)(tB e:TypeId)(mk:Nat->V8)(v:Value)(ms:List MB)(lv v':Value)(m:MB)(w':W8):Prop where
 bp:w'.heap[b]?=some (.cells (A' v') 69 (0,0))
 book:jS w' (b+1) tB e mk v' (ms++[m])
 kept:zK (b::(v.ownBlock.toList++lv.ownBlock.toList)) w w'
 eI:∀ g∈m.blocks,g∈lv.ownBlock.toList\/w.heap.size<=g
 row:∀ g∈v'.ownBlock.toList,g∈v.ownBlock.toList\/w.heap.size<=g
def yc6 (w:W8)(b:Nat)(A':Value->Array Value)(tB e0:TypeId)(mk:Nat->V8)(v:Value)(ms:List MB)(lv:Value):Ending->W8->Prop:=λ e w'=>e=.returned (.tuple #[])/\∃ v' m,NN w b A' tB e0 mk v ms lv v' m w'
end
section
open Go.RowKit Go.Maps
variable {w:W8}
theorem pt.below {s:B8}{xb yb:Nat}{w':W8}{lo:Nat}(h:pt s xb yb w lo)(k:Below w.heap.size w w'):pt s xb yb w' lo:=h.kept ((zK.refl _ w).ak k)
theorem z84 {W w5 w6:W8}{b B1:Nat}{A1 A2:Value->Array Value}{tB e:TypeId}{mk:Nat->V8}{v v5 v6 lv kv:Value}{ms:List MB}{m5 m6:MB}(hB:Below w.heap.size w W)(s5:NN W b A1 tB e mk v ms lv v5 m5 w5)(s6:NN w5 b A2 tB e mk v5 (ms++[m5]) kv v6 m6 w6)(hl:∀ g∈lv.ownBlock.toList,w.heap.size<=g/\g<B1)(hk:∀ g∈kv.ownBlock.toList,w.heap.size<=g):
  zK (b::v.ownBlock.toList) w w6/\(∀ g∈v6.ownBlock.toList,g∈v.ownBlock.toList\/w.heap.size<=g):=by
 have YI:=hB.size;have Gu:=s5.kept.size;have k5:zK (b::v.ownBlock.toList) w w5:=((zK.refl _ w).ak hB).step s5.kept λ x hx=>by
  rcases List.mem_cons.1 hx with rfl | hx
  ·exact .inl List.mem_cons_self
  ·rcases List.mem_append.1 hx with hx | hx
   ·exact .inl (List.mem_cons_of_mem _ hx)
   ·exact .inr (hl x hx).1
 have h5:∀ g∈v5.ownBlock.toList,g∈v.ownBlock.toList\/w.heap.size<=g:=λ g hg=>(s5.row g hg).imp id (by omega)
 refine⟨k5.step s6.kept λ x hx=>?_,λ g hg=>?_⟩
 ·rcases List.mem_cons.1 hx with rfl | hx
  ·exact .inl List.mem_cons_self
  ·rcases List.mem_append.1 hx with hx | hx
   ·exact (h5 x hx).imp (List.mem_cons_of_mem _) id
   ·exact .inr (hk x hx)
 ·rcases s6.row g hg with h | h
  ·exact h5 g h
  ·exact .inr (by omega)
def z0c (w:W8)(b:Nat)(bz bv tv sv:Value)(es:List PE)(mb mt ms:List MB):Ending->W8->Prop:=λ e w'=>e=.returned (.bool true)/\∃ nC bY GQ xw Dz ms',LW w' b bz nC bY GQ es xw Dz ms'/\xw.length<=mb.length+2/\Dz.length<=mt.length+2/\ms'.length<=ms.length+2/\zK (chg b bz bv tv sv) w w'
end
section
open Go.RowKit
theorem zc0 {P:Program}{id:Nat}{Q:Exit->Act->W8->Prop}{a:Act}{w:W8}{l:List Oper}(n:Nat)(hm:P.follows .mixedOrders=true)(hB:Region.lexTailB .any l.toArray n=true)
  (h:∀ W,W=w.drew->wpStill P l.toArray W (λ a'=>wpList P l.toArray Q (l.drop n) a' W) (l.take n) a):(Code.region id l.toArray true).wp P Q a w:=wp_region_still_tail n hm hB (h _ rfl)
theorem z3q:Tryz.prog.follows .mixedOrders=true:=by kernel_rfl
end
section
open Go.RowKit Go.Maps
theorem z73 (c:Int)(n:Nat)(hn:0<n)(hl:n<=1000000000000)(h1:-9223372036854775808<=c)(h2:c<=9223372036854775807):∃ k:Nat,k<n/\∀ w,Calls Tryz.prog 51 #[.int .i64 c,.int .i64 n] w λ e w'=>e=.returned (.int .i64 k)/\w'=w:=by
 have Cf:¬ ((n:Int)=0):=by omega
 have La:(0:Int)<n:=by omega
 by_cases hc:c<0
 ·obtain⟨k,hk,e⟩:=z74 hc hn;refine⟨k,hk,λ w=>?_⟩;have HE:=zC e;clear e;go_enter Tryz.func51,Tryz.ntmps51;go_wp2_with fail;go_ret;exact⟨by rw[<-zA HE];rfl,rfl⟩
 ·obtain⟨k,hk,e⟩:=z4b (Int.not_lt.1 hc) hn;refine⟨k,hk,λ w=>?_⟩;have HE:=zC e;clear e;go_enter Tryz.func51,Tryz.ntmps51;go_wp2_with fail;go_ret;exact⟨by rw[<-zA HE];rfl,rfl⟩
def zo1 (w:W8)(b:Nat)(bz bv tv sv:Value)(es:List PE)(mb mt ms:List MB):Ending->W8->Prop:=λ e w'=>e=.returned (.bool true)/\∃ oR nC bY GQ uq xw Dz ms',LW w' b oR nC bY GQ uq xw Dz ms'/\es.length<=uq.length/\uq.length<=es.length+1/\xw.length<=mb.length+2/\Dz.length<=mt.length+2/\ms'.length<=ms.length+2/\zK (chg b bz bv tv sv) w w'
theorem zw7 (w:W8)(b:Nat)(bz bv tv sv:Value)(es:List PE)(mb mt ms:List MB)(a bb:Int)(s t u:B8)(at_:O8)(nt ct:Nat)(h:LW w b bz bv tv sv es mb mt ms)(hs:s.size<=maxLen)(hn:(es.length+1)*32<=140737488355328):
  Calls Tryz.prog 32 #[.pointer (some ⟨b,0,none⟩),.agg #[.int .i64 1,.int .i64 a,.int .i64 bb,.string s,.string t,.string u,.slice at_ nt ct]] w (NY s w b bz bv tv sv es mb mt ms):=by
 have b0:=(Below.refl w.heap.size w).alloc L9 (.cells #[.int .i64 1,.int .i64 a,.int .i64 bb,.string s,.string t,.string u,.slice at_ nt ct] 26);have h0:=h.below b0;clear h;go_enter Tryz.func32,Tryz.ntmps32;go_wp2_with fail;refine (z20 _ b bz bv tv sv es mb mt ms 1 a bb s t u at_ nt ct h0 hs hn).mono ?_;rintro e w1 ⟨rfl,oR,uq,hW,l1,l2,l3,hK⟩;have L3:=zC l3;clear l3;have HK:=zC (((zK.refl (chg b bz bv tv sv) w).alloc _).step hK (λ x hx=>.inl hx));have HW:=zC hW;clear hK hW h0 b0;go_wp2_with fail;go_ret;exact⟨rfl,oR,uq,zA HW,l1,l2,zA L3,zA HK⟩
theorem NY.Zl {s:B8}{w w':W8}{b:Nat}{bz bv tv sv:Value}{es:List PE}{mb mt ms:List MB}{e:Ending}(h:NY s w b bz bv tv sv es mb mt ms e w'):zo1 w b bz bv tv sv es mb mt ms e w':=by
 obtain⟨rfl,oR,uq,hW,l1,l2,_,hK⟩:=h;exact⟨rfl,oR,bv,tv,sv,uq,mb,mt,ms,hW,l1,l2,by omega,by omega,by omega,hK⟩
end
section
open Go.RowKit Go.Maps
theorem z8s (w:W8)(b:Nat)(bz bv tv sv:Value)(es:List PE)(mb mt ms:List MB)(kd a bb:Int)(s t u:B8)(at_:O8)(nt ct:Nat)(h:LW w b bz bv tv sv es mb mt ms)(hl:es.length<=1000000000000)(ha:-9223372036854775808<=a/\a<=9223372036854775807)(hk:kd=4\/kd=5\/kd=7)
  (oD:∀ (w':W8) (p:PE) (lo:Nat),LW w' b bz bv tv sv es mb mt ms->pt p.s p.x p.y w' lo->Calls Tryz.prog 50 #[.pointer (some ⟨b,0,none⟩),.agg #[.int .i64 kd,.int .i64 a,.int .i64 bb,.string s,.string t,.string u,.slice at_ nt ct],.agg #[.pointer (some ⟨p.x,0,none⟩),.pointer (some ⟨p.y,0,none⟩),.string p.s]] w' (z0c w' b bz bv tv sv es mb mt ms)):
  Calls Tryz.prog 32 #[.pointer (some ⟨b,0,none⟩),.agg #[.int .i64 kd,.int .i64 a,.int .i64 bb,.string s,.string t,.string u,.slice at_ nt ct]] w (zo1 w b bz bv tv sv es mb mt ms):=by
 have b0:=(Below.refl w.heap.size w).alloc L9 (.cells #[.int .i64 kd,.int .i64 a,.int .i64 bb,.string s,.string t,.string u,.slice at_ nt ct] 26);have h0:=h.below b0;have dq:(w.alloc (.cells #[.int .i64 kd,.int .i64 a,.int .i64 bb,.string s,.string t,.string u,.slice at_ nt ct] 26)).heap[w.heap.size]?=_:=heap_alloc_new w _;obtain⟨ap,cp,rfl⟩:=zD h0.row;have hblk:=h0.bp;obtain⟨p0,Cj⟩:=zB hblk 0;have HA:=zC oD;have K0:=zC ((zK.refl (chg b (.slice ap es.length cp) bv tv sv) w).alloc (.cells #[.int .i64 kd,.int .i64 a,.int .i64 bb,.string s,.string t,.string u,.slice at_ nt ct] 26));have H0:=zC h0;have xq:b<w.heap.size:=h.lt;clear oD h b0 hblk h0
 by_cases bF:es.length=0
 ·have hz:es=[]:=List.eq_nil_of_length_eq_zero bF;subst hz;rcases hk with rfl | rfl | rfl
  all_goals
   go_enter Tryz.func32,Tryz.ntmps32;go_wp2_with fail;go_ret;exact⟨rfl,_,_,_,_,_,_,_,_,zA H0,by omega,by omega,by omega,by omega,by omega,zA K0⟩
 ·obtain⟨k,dF,Ug⟩:=z73 a es.length (by omega) hl ha.1 ha.2;have Wr:=zC Ug;obtain⟨lo,zz⟩:=((zA H0).Ia es[k] (List.getElem_mem dF)).Ia;obtain⟨g,cap,hv,-,aZ,bO,bQ,hc⟩:=vX (f:=PE.cells) (λ _=>rfl) (zA H0).row k dF;injection hv with e1 e2 e3
  subst e1 e3;have q0:=hc 0 (by simp);have q1:=hc 1 (by simp);have q2:=hc 2 (by simp);simp only[PE.cells,Nat.add_zero,List.getElem?_cons_zero,List.getElem?_cons_succ] at q0 q1 q2;have HE:=zC zz;have kP:(0:Int)<(es.length:Int):=by omega
  clear hc Ug zz;generalize es[k]=p at *;obtain⟨x0,uE⟩:=zB dq 0;obtain⟨x1,mZ⟩:=zB dq 1;obtain⟨x2,Me⟩:=zB dq 2;obtain⟨x3,ER⟩:=zB dq 3;obtain⟨x4,RC⟩:=zB dq 4;obtain⟨x5,Zp⟩:=zB dq 5;obtain⟨x6,Zq⟩:=zB dq 6;clear dq uE mZ Me ER RC Zp Zq aZ;rcases hk with rfl | rfl | rfl
  all_goals
   go_enter Tryz.func32,Tryz.ntmps32;go_wp2_with fail;refine zc0 16 z3q (by kernel_rfl) λ W hW=>?_
   simp only[List.take_succ_cons,List.take_zero,List.drop_succ_cons,List.drop_zero];have P0:W.cell? ⟨b,0,none⟩=some (.slice (some ⟨g,0,none⟩) es.length cp):=(by rw[hW];exact p0);have X0:=(congrArg (λ W:W8=>W.cell? ⟨w.heap.size,0,none⟩) hW).trans x0;simp only[List.getElem?_toArray,List.getElem?_cons_zero] at X0;have X1:W.cell? ⟨w.heap.size,1,none⟩=some (.int .i64 a):=(by rw[hW];exact x1);have X2:W.cell? ⟨w.heap.size,2,none⟩=some (.int .i64 bb):=(by rw[hW];exact x2);have X3:W.cell? ⟨w.heap.size,3,none⟩=some (.string s):=(by rw[hW];exact x3);have X4:W.cell? ⟨w.heap.size,4,none⟩=some (.string t):=(by rw[hW];exact x4);have X5:W.cell? ⟨w.heap.size,5,none⟩=some (.string u):=(by rw[hW];exact x5);have X6:W.cell? ⟨w.heap.size,6,none⟩=some (.slice at_ nt ct):=(by rw[hW];exact x6);have Q0:W.cell? ⟨g,k*3,none⟩=some (.pointer (some ⟨p.x,0,none⟩)):=(by rw[hW];exact q0);have Q1:W.cell? ⟨g,k*3+1,none⟩=some (.pointer (some ⟨p.y,0,none⟩)):=(by rw[hW];exact q1);have Q2:W.cell? ⟨g,k*3+2,none⟩=some (.string p.s):=(by rw[hW];exact q2);have sy:Hid (LW W b (.slice (some ⟨g,0,none⟩) es.length cp) bv tv sv es mb mt ms):=(by rw[hW];exact (zA H0).below (B9.drew));have VL:Hid (pt p.s p.x p.y W lo):=(by rw[hW];exact (zA HE).below (B9.drew));have Se:Hid (zK (chg b (.slice (some ⟨g,0,none⟩) es.length cp) bv tv sv) w W):=(by rw[hW];exact (zA K0).drew);clear hW x0 x1 x2 x3 x4 x5 x6 q0 q1 q2 p0 Cj H0 HE K0
   repeat still_step
   still_call (zA Wr _)
   repeat still_step
   refine wpStill_nil ?_;clear Q0 Q1 Q2 X0 X1 X2 X3 X4 X5 X6 P0;go_wp2_with fail;refine (zA HA W p lo (zA sy) (zA VL)).mono ?_;rintro e w1 ⟨rfl,nC,bY,GQ,xw,Dz,ms',MX,l1,l2,l3,Ie⟩;have V3:=zC MX;have BX:=zC ((zA Se).trans Ie);clear MX Ie;go_wp2_with fail;go_ret;exact⟨rfl,_,nC,bY,GQ,es,xw,Dz,ms',zA V3,Nat.le_refl _,by omega,l1,l2,l3,zA BX⟩
end
section
open Go.RowKit
def zkr (w:W8)(nv tv:Value)(r:Option Env):Ending->W8->Prop:=λ e w'=>Below w.heap.size w w'/\(r=none->e=.returned (.tuple #[.agg #[nv,tv],.bool false]))/\(∀ E',r=some E'->∃ dv bY,e=.returned (.tuple #[.agg #[dv,bY],.bool true])/\om w' w.heap.size E' dv bY)
variable {wr w:W8} {E:Env} {nv tv av bv dv bY:Value} {A T:zL}
theorem iv.env (h:iv w A T nv tv av bv (E.map (·.1)) (E.map (·.2)) dv bY wr):om wr (w.heap.size+5) E dv bY:=by
 have h1:=h.rn;have h2:=h.rt;simp only[List.length_map,zj9,List.map_map] at h1 h2;exact⟨h1,h2,λ e=>⟨h.nn (by simp[e]),h.tn (by simp[e])⟩⟩
theorem z7h (w:W8)(A T:zL)(an fy aa ba:O8)(n cn ct ca cb:Nat)(bF:(A.pred.toList==T.pred.toList&&A.ae.length==T.ae.length)=false):
  Calls Tryz.prog 139 #[.agg #[.slice an n cn,.slice fy n ct],.agg #[.string A.pred,.slice aa A.ae.length ca,.bool A.no,.int .i64 A.at_,.int .i64 A.az],.agg #[.string T.pred,.slice ba T.ae.length cb,.bool T.no,.int .i64 T.at_,.int .i64 T.az]] w (λ e w'=>Below w.heap.size w w'/\e=.returned (.tuple #[.agg #[.slice an n cn,.slice fy n ct],.bool false])):=by
 cases hp:A.pred.toList==T.pred.toList with
 | false=>
  clear bF;go_enter Tryz.func139,Tryz.ntmps139;go_wp2_with fail;refine bodyPost_ret (v:=.tuple #[.agg #[.slice an n cn,.slice fy n ct],.bool false]) (by simp[results,Tryz.results139,go_sem]) rfl ⟨?_,rfl⟩;exact ((((Below.refl _ w).alloc L9 _).alloc (by simp) _).alloc (by simp;omega) _).alloc (by simp;omega) _
 | true=>
  have hl:((A.ae.length:Int)==(T.ae.length:Int))=false:=by
   rw[hp] at bF;simp at bF ⊢;omega
  clear bF;go_enter Tryz.func139,Tryz.ntmps139;go_wp2_with fail;refine bodyPost_ret (v:=.tuple #[.agg #[.slice an n cn,.slice fy n ct],.bool false]) (by simp[results,Tryz.results139,go_sem]) rfl ⟨?_,rfl⟩;exact ((((Below.refl _ w).alloc L9 _).alloc (by simp) _).alloc (by simp;omega) _).alloc (by simp;omega) _
theorem yc8 {a b:B8}:(E++[(a,b)]).map (·.1)=E.map (·.1)++[a]/\(E++[(a,b)]).map (·.2)=E.map (·.2)++[b]:=by simp
theorem iv.ret (h:iv w A T nv tv av bv (E.map (·.1)) (E.map (·.2)) dv bY wr)(u v:Value):om ((wr.setCell ⟨w.heap.size+1+1+1,0,none⟩ u).setCell ⟨w.heap.size+1+1+1,1,none⟩ v) w.heap.size E dv bY:=by
 obtain⟨_,h1,h2⟩:=h.fin u v;simp only[List.length_map,zj9,List.map_map] at h1 h2;exact⟨h1,h2,λ e=>⟨h.nn (by simp[e]),h.tn (by simp[e])⟩⟩
theorem z3k (w:W8)(base:Nat)(E:Env)(A T:zL)(an fy aa ba:O8)(cn ct ca cb:Nat)(he:om w base E (.slice an E.length cn) (.slice fy E.length ct))(hA:w.ownsRow base 317 3 (.slice aa A.ae.length ca) A.ae.length (cellsOf A.ae))(hT:w.ownsRow base 317 3 (.slice ba T.ae.length cb) T.ae.length (cellsOf T.ae))(qo:E.length+A.ae.length<=1000)(hp:(A.pred.toList==T.pred.toList)=true)(hl:A.ae.length=T.ae.length):
  Calls Tryz.prog 139 #[.agg #[.slice an E.length cn,.slice fy E.length ct],.agg #[.string A.pred,.slice aa A.ae.length ca,.bool A.no,.int .i64 A.at_,.int .i64 A.az],.agg #[.string T.pred,.slice ba T.ae.length cb,.bool T.no,.int .i64 T.at_,.int .i64 T.az]] w (zkr w (.slice an E.length cn) (.slice fy E.length ct) (jB E A.ae T.ae)):=by
 obtain⟨i0,hi,bL,aY,bg⟩:=info_parts zf9;have oG:((A.ae.length:Int)==(T.ae.length:Int))=true:=by simp;omega
 have h0:=iv.start w A T (.slice an E.length cn) (.slice fy E.length ct) (.slice aa A.ae.length ca) (.slice ba T.ae.length cb);have H0:=zC h0;have HE:=zC he;have HA:=zC hA;have HT:=zC hT;have HL:=zC hl;clear h0 he hA hT hl;go_enter Tryz.func139,Tryz.ntmps139;go_upto_region 3 with fail
 go_cut [8] (λ p wc=>p=.pointer (some ⟨w.heap.size+1+1+1+1,0,none⟩)/\iv w A T (.slice an E.length cn) (.slice fy E.length ct) (.slice aa A.ae.length ca) (.slice ba T.ae.length cb) [] [] (.slice none 0 0) (.slice none 0 0) wc)
 case first=>
  go_wp2_with fail;go_meet
  case rel=>exact⟨rfl,zA H0⟩
 case rest=>
 clear H0;obtain⟨rfl,Cd⟩:=hcut;obtain⟨p0,Cj⟩:=zB Cd.b0 0;obtain⟨q0,Bb⟩:=zB Cd.b4 0;have MC:=zC Cd;have vk:=Cd.lt;clear Cd Cj;go_upto_region 4 with fail
 go_cut [] (λ wc=>∃ dv,iv w A T (.slice an E.length cn) (.slice fy E.length ct) (.slice aa A.ae.length ca) (.slice ba T.ae.length cb) (E.map (·.1)) [] dv (.slice none 0 0) wc)
 case first=>
  by_cases hE:E=[]
  ·subst hE;obtain⟨e1,e2⟩:=(zA HE).nil rfl;injection e1 with e1 _ e3
   injection e2 with e2 _ e4
   subst e1 e2 e3 e4;go_wp2_with fail;go_meet
   case rel=>exact⟨_,(zA MC).same rfl⟩
  ·have aJ:0<E.length:=by
    cases E with
    | nil=>exact absurd rfl hE
    | cons _ _=>simp
   obtain⟨g1,c1,im,-,-,-,-⟩:=zce (zA HE).ns aJ;injection im with i1 i2 i3
   subst i1 i3;have dt:=zC (zp2 (zJ (zA HE).ns (zA MC).below (λ g e=>((zA HE).ns.lt g e).2)));have dO:=zC (λ (w5:W8) (g cap:Nat) hg ay du=>iv.JJ (w5:=w5) (g:=g) (cap:=cap) (m:=E.length) (news:=E.map (·.1)) (zA MC) (zK.refl [] _) hg (by simp) aJ ay du);go_wp2_with (at_builtin;go_must (refine wpList_append_lies _ rfl _ _ _ rfl (w.heap.size+5) 9 i0 (.string { data:=#[] }) 1 16 Tryz.underlying33 hi bL aY bg rfl (by decide) (.slice none 0 0) 0 [] rfl (World.ownsRow_nil _ _ _ _) ⟨g1,0,none⟩ E.length cn (zj9 (E.map (·.1))) rfl (by simp[zj9]) (by simpa[zj9,List.map_map] using zA dt) zw8 aJ (by unfold maxLen;omega) (by omega) vk _ rfl ?_;intro g cap w5 aq aU bW hlt5;obtain⟨e1,e2⟩:=zA dO w5 g cap aU aq bW;obtain⟨z0,na⟩:=zB e2 0));go_meet
   case rel=>exact⟨_,by simpa using e1⟩
 case rest=>
 clear MC p0 q0 Bb vk;obtain⟨nv1,dH⟩:=hcut;obtain⟨a1,c1,rfl⟩:=zD dH.rn;obtain⟨p1,xx⟩:=zB dH.b0 1;obtain⟨q1,Bc⟩:=zB dH.b4 1;have iu:=zC dH;have sR:=dH.lt;clear dH xx;go_upto_region 5 with fail
 go_cut [] (λ wc=>∃ dv bY,iv w A T (.slice an E.length cn) (.slice fy E.length ct) (.slice aa A.ae.length ca) (.slice ba T.ae.length cb) (E.map (·.1)) (E.map (·.2)) dv bY wc)
 case first=>
  by_cases hE:E=[]
  ·subst hE;obtain⟨e1,e2⟩:=(zA HE).nil rfl;injection e1 with e1 _ e3
   injection e2 with e2 _ e4
   subst e1 e2 e3 e4;go_wp2_with fail;go_meet
   case rel=>exact⟨_,_,(zA iu).same rfl⟩
  ·have aJ:0<E.length:=by
    cases E with
    | nil=>exact absurd rfl hE
    | cons _ _=>simp
   obtain⟨g1,MQ,im,-,-,-,-⟩:=zce (zA HE).ts aJ;injection im with i1 i2 i3
   subst i1 i3;have dt:=zC (zp2 (zJ (zA HE).ts (zA iu).below (λ g e=>((zA HE).ts.lt g e).2)));have dO:=zC (λ (w5:W8) (g cap:Nat) hg ay du=>iv.JK (w5:=w5) (g:=g) (cap:=cap) (m:=E.length) (news:=E.map (·.2)) (zA iu) (zK.refl [] _) hg (by simp) aJ ay du);go_wp2_with (at_builtin;go_must (refine wpList_append_lies _ rfl _ _ _ rfl (w.heap.size+5) 9 i0 (.string { data:=#[] }) 1 16 Tryz.underlying33 hi bL aY bg rfl (by decide) (.slice none 0 0) 0 [] rfl (World.ownsRow_nil _ _ _ _) ⟨g1,0,none⟩ E.length ct (zj9 (E.map (·.2))) rfl (by simp[zj9]) (by simpa[zj9,List.map_map] using zA dt) zw8 aJ (by unfold maxLen;omega) (by omega) sR _ rfl ?_;intro g cap w5 aq aU bW hlt5;obtain⟨e1,e2⟩:=zA dO w5 g cap aU aq bW;obtain⟨z0,na⟩:=zB e2 1));go_meet
   case rel=>exact⟨_,_,by simpa using e1⟩
 case rest=>
 clear iu p1 q1 Bc sR;obtain⟨Zf,IC,dD⟩:=hcut;have wU:=zC dD;clear dD;go_wp2_with fail
 go_loopg [9] A.ae.length (λ gg i wr=>∃ (k:Nat) (E':Env) (dv bY:Value),k<=A.ae.length/\gg=A.ae.length-k/\i=.int .i64 k/\E'.length<=E.length+k/\jB E' (A.ae.drop k) (T.ae.drop k)=jB E A.ae T.ae/\iv w A T (.slice an E.length cn) (.slice fy E.length ct) (.slice aa A.ae.length ca) (.slice ba T.ae.length cb) (E'.map (·.1)) (E'.map (·.2)) dv bY wr)
 exact⟨0,E,Zf,IC,Nat.zero_le _,rfl,rfl,by omega,rfl,zA wU⟩
 case round=>
  clear wU;obtain⟨k,E',dv,bY,hk,eD,rfl,hE',aE,hm⟩:=hrel;obtain⟨D4,D6,rfl⟩:=zD hm.rn;obtain⟨uP,JU,rfl⟩:=zD hm.rt;simp only[List.length_map] at hm;have aH:=hm.lt;obtain⟨p1,xx⟩:=zB hm.b1 1;obtain⟨r1,GM⟩:=zB hm.b2 1;obtain⟨o0,L4⟩:=zB hm.b0 0;obtain⟨o1,L5⟩:=zB hm.b0 1;obtain⟨q0,Bb⟩:=zB hm.b4 0;obtain⟨q1,Bc⟩:=zB hm.b4 1;obtain⟨t0,Rw⟩:=zB hm.b3 0;obtain⟨t1,Rx⟩:=zB hm.b3 1;have HM:=zC hm;have HF:=zC aE;clear hm aE xx GM L4 L5
  by_cases aF:k<A.ae.length
  ·have Qf:k<T.ae.length:=(by rw[<-zA HL];exact aF);have dB:=zC ((zA HF).symm.trans (zrz aF Qf));have nu:(k:Int)<A.ae.length:=(by omega);have hkT:(k:Int)<T.ae.length:=(by omega);clear HF;go_wp2_with fail;refine zc0 6 z3q (by kernel_rfl) λ W hW=>?_
   simp only[List.take_succ_cons,List.take_zero,List.drop_succ_cons,List.drop_zero];have lf:Hid (iv w A T (.slice an E.length cn) (.slice fy E.length ct) (.slice aa A.ae.length ca) (.slice ba T.ae.length cb) (E'.map (·.1)) (E'.map (·.2)) (.slice D4 E'.length D6) (.slice uP E'.length JU) W):=(by rw[hW];exact (zA HM).dQ B9.drew);clear hW HM p1 r1 o0 o1 q0 q1 Bb Bc t0 Rw t1 Rx aH;obtain⟨p1,xx⟩:=zB (zA lf).b1 1;obtain⟨q0,Bb⟩:=zB (zA lf).b4 0;obtain⟨q1,Bc⟩:=zB (zA lf).b4 1;obtain⟨ga,MQ,im,-,-,bO,bQ,d0,d1,d2⟩:=zat (zJ (zA HA) (zA lf).below (λ g e=>((zA HA).lt g e).2)) k aF;injection im with i1 i2 i3
   subst i1 i3;clear xx Bb Bc
   repeat still_step
   refine wpStill_nil ?_;clear p1 q0 q1;go_wp2_with fail;refine (zom W (w.heap.size+5) E' D4 uP D6 JU (zA lf).env A.ae[k].text A.ae[k].isVar A.ae[k].at_).mono ?_;rintro e w1 ⟨rfl,aL⟩;have iu:=zC ((zA lf).dQ aL);clear lf aL d0 d1 d2;obtain⟨r1,GM⟩:=zB (zA iu).b2 1;obtain⟨gb,c2',Dr,-,-,K7,Kw,f0,f1,f2⟩:=zat (zJ (zA HT) (zA iu).below (λ g e=>((zA HT).lt g e).2)) k Qf;injection Dr with i1 i2 i3
   subst i1 i3;clear GM f1 f2;have Cb:oh E' ⟨A.ae[k].text,A.ae[k].isVar,A.ae[k].at_⟩=oh E' A.ae[k]:=rfl;rw[Cb];clear Cb;generalize oh E' A.ae[k]=x at *
   cases hx:x.toList==[] with
   | true=>
    have Pq:=(zA dB).trans (by rw[if_pos hx]);obtain⟨ta,Gz⟩:∃ ta,A.ae[k].text=ta:=⟨_,rfl⟩;obtain⟨tt,Q4⟩:∃ tt,T.ae[k].text=tt:=⟨_,rfl⟩;rw[Gz,Q4] at Pq;rw[Q4] at f0;have aC:=zC Pq;have WJ:=zC Gz;clear Pq Gz Q4;clear dB;go_upto_region 12 with fail
    go_cut [] (λ wc=>∃ UZ,iv w A T (.slice an E.length cn) (.slice fy E.length ct) (.slice (some ⟨ga,0,none⟩) A.ae.length ca) (.slice (some ⟨gb,0,none⟩) T.ae.length cb) (E'.map (·.1)++[ta]) (E'.map (·.2)) UZ (.slice uP E'.length JU) wc)
    case first=>
     clear r1 f0;obtain⟨p1,xx⟩:=zB (zA iu).b1 1;obtain⟨q0,Bb⟩:=zB (zA iu).b4 0;obtain⟨ga',MQ,im,-,aZ,vm,zv,d0,d1,d2⟩:=zat (zJ (zA HA) (zA iu).below (λ g e=>((zA HA).lt g e).2)) k aF;injection im with i1 i2 i3
     injection i1 with i1
     injection i1 with i1
     subst i1 i3;rw[zA WJ] at d0;have Qn:=(zA iu).lt;have vc:ga<w.heap.size:=((zA HA).lt ga rfl).2;have l4:w.heap.size+1+1+1+1<w1.heap.size:=(by omega);have l1:w.heap.size+1<w1.heap.size:=(by omega);have aB:=(zA iu).rn;simp only[List.length_map] at aB;have dO:=zC (λ (w5:W8) (g cap:Nat) hg ay du=>iv.JJ (w5:=w5) (W:=(w1.alloc (.cells #[.string ta] 9)).drew) (g:=g) (cap:=cap) (m:=1) (news:=[ta]) (zA iu) (((zK.refl [] _).alloc _).drew) hg rfl (by decide) ay du);have bX:=zC (zie ((w1.alloc (.cells #[.string ta] 9)).drew) w1.heap.size (.string ta) 9 (heap_alloc_new w1 _));have s1:Hid (((w1.alloc (.cells #[.string ta] 9)).drew).ownsRow (w.heap.size+5) 9 1 (.slice D4 E'.length D6) E'.length (zj9 (E'.map (·.1)))):=zC (aB.alloc _);have s4:Hid (E'.length+1<=maxLen):=(by show _<=_;unfold maxLen;omega);have s5:Hid ((E'.length+1)*16<=140737488355328):=(by show _<=_;omega);have s6:Hid (w.heap.size+5<=((w1.alloc (.cells #[.string ta] 9)).drew).heap.size):=(by show _<=_;simp;omega);have s3:Hid (∀ u∈([.string ta]:V8),u.oneCell'=true):=by show ∀ u∈_,_;intro u hu;simp at hu;subst hu;rfl
     have lz:Hid (∀ w5:W8,((w1.alloc (.cells #[.string ta] 9)).drew).grownBy w5 (Value.slice D4 E'.length D6).ownBlock->w5.cell? ⟨w.heap.size+1,1,none⟩=some (.slice (some ⟨ga,0,none⟩) A.ae.length ca)/\w5.cell? ⟨ga,k*3,none⟩=some (.string ta)):=zC (λ w5 hg=>by
      have kk:=(((zK.refl _ w1).alloc _).drew).grown hg (λ k e=>.inr (show k∈(Value.slice D4 E'.length D6).ownBlock.toList by simp[e]));have eI:∀ b,b<w.heap.size+5->b∉(Value.slice D4 E'.length D6).ownBlock.toList:=λ b hb hm=>by have:=(aB.lt b (by simpa using hm)).1;omega
      exact⟨(kk.cell (p:=⟨w.heap.size+1,1,none⟩) (by simp;omega) (eI (w.heap.size+1) (by omega))).trans p1,(kk.cell (p:=⟨ga,k*3,none⟩) (by simp;omega) (eI ga (by omega))).trans d0⟩)
     clear d1 d2 aB;simp only[List.length_map] at dO;simp only[List.getElem?_toArray,List.getElem?_cons_zero,List.getElem?_cons_succ] at p1 q0
     go_region_law (refine step_append_lies _ rfl (.tmp 62) (.tmp 69) 33 rfl (w.heap.size+5) 9 i0 (.string { data:=#[] }) 1 16 Tryz.underlying33 hi bL aY bg rfl (by decide) (.slice D4 E'.length D6) E'.length (zj9 (E'.map (·.1))) (by simp[Act.eval]) (zA s1) ⟨w1.heap.size,0,none⟩ 1 1 [.string ta] (by simp[Act.eval]) rfl (zA bX) (zA s3) (by decide) (zA s4) (zA s5) (zA s6) _ rfl ?_;intro g cap w5 aq aU bW hlt5;obtain⟨e1,e2⟩:=zA dO w5 g cap aU aq bW;obtain⟨y1,y2⟩:=zA lz w5 aU;obtain⟨z0,na⟩:=zB e2 0)
     all_goals
      go_wp2_with fail;go_meet
      case rel=>exact⟨_,e1⟩
    case rest=>
     clear iu r1 f0;obtain⟨UZ,fq⟩:=hcut;obtain⟨a3,c3,rfl⟩:=zD fq.rn;obtain⟨q1,Bc⟩:=zB fq.b4 1;have aB:=fq.rt;simp only[List.length_map] at aB;have Qn:=fq.lt;have dO:=zC (λ (w5:W8) (g cap:Nat) hg ay du=>iv.JK (w5:=w5) (W:=wc.alloc (.cells #[.string tt] 9)) (g:=g) (cap:=cap) (m:=1) (news:=[tt]) fq ((zK.refl [] _).alloc _) hg rfl (by decide) ay du);simp only[List.length_map] at dO;have bX:=zC (zie (wc.alloc (.cells #[.string tt] 9)) wc.heap.size (.string tt) 9 (heap_alloc_new wc _));have HR:=zC aB;clear aB fq;go_wp2_with (at_builtin;go_must (refine wpList_append_lies _ rfl _ _ _ rfl (w.heap.size+5) 9 i0 (.string { data:=#[] }) 1 16 Tryz.underlying33 hi bL aY bg rfl (by decide) (.slice uP E'.length JU) E'.length (zj9 (E'.map (·.2))) rfl ((zA HR).alloc _) ⟨wc.heap.size,0,none⟩ 1 1 [.string tt] rfl rfl (zA bX) (by simp[Value.oneCell']) (by decide) (by unfold maxLen;omega) (by omega) (by simp;omega) _ rfl ?_;intro g cap w5 aq aU bW hlt5;obtain⟨e1,e2⟩:=zA dO w5 g cap aU aq bW;obtain⟨z0,na⟩:=zB e2 1));go_roundg (A.ae.length-(k+1));exact⟨k+1,E'++[(ta,tt)],_,_,by omega,rfl,by go_num,by simp;omega,(zA aC).symm,by rw[yc8.1,yc8.2];exact e1⟩;omega
   | false=>
    cases hy:x.toList==T.ae[k].text.toList with
    | true=>
     have aC:=zC ((zA dB).trans (by rw[if_neg (by rw[hx];decide),if_pos hy]));clear dB;go_wp2_with fail;go_roundg (A.ae.length-(k+1));exact⟨k+1,E',_,_,by omega,rfl,by go_num,by omega,(zA aC).symm,zA iu⟩;omega
    | false=>
     have aC:=zC ((zA dB).trans (by rw[if_neg (by rw[hx];decide),if_neg (by rw[hy];decide)]));obtain⟨o0,L4⟩:=zB (zA iu).b0 0;obtain⟨o1,L5⟩:=zB (zA iu).b0 1;obtain⟨t0,Rw⟩:=zB (zA iu).b3 0;obtain⟨t1,Rx⟩:=zB (zA iu).b3 1;clear dB L4 L5;go_wp2_with fail;refine bodyPost_ret (v:=.tuple #[.agg #[.slice an E.length cn,.slice fy E.length ct],.bool false]) (by simp[results,Tryz.results139,go_sem,t0,t1]) rfl ⟨((zA iu).fin _ _).1,λ _=>rfl,λ E2 h2=>?_⟩;rw[zA aC] at h2
     cases h2
  ·have aC:=zC (show jB E A.ae T.ae=some E' by rw[<-zA HF,List.drop_of_length_le (by omega)];rfl);clear HF r1 o0 o1 Bb Bc;go_wp2_with fail;refine bodyPost_ret (v:=.tuple #[.agg #[.slice D4 E'.length D6,.slice uP E'.length JU],.bool true]) (by simp[results,Tryz.results139,go_sem,t0,t1]) rfl ⟨((zA HM).fin _ _).1,λ h2=>?_,λ E2 h2=>⟨_,_,rfl,?_⟩⟩
   ·rw[zA aC] at h2;cases h2
   ·rw[zA aC] at h2
    cases h2
    exact (zA HM).ret _ _
end
end Go.Proofs.YtldkpahaocjdpaaGreat
