/-
  The program's list, Print and Strata.
-/
import Derived.Shelf.Lay
import Derived.Shelf.LaySoft
import Derived.Test.YtldkpahaocjdpaaGreatE21
import Derived.Test.YtldkpahaocjdpaaGreatE22
import Derived.Laws.Concat
import Derived.BigRegion
import Derived.StillTailTactics
import Derived.KernelRfl
set_option maxHeartbeats 16000000
set_option maxRecDepth 1000000
namespace Go.Proofs.YtldkpahaocjdpaaGreat
section
open Go.RowKit Go.Maps
theorem zmi (w:W8)(b:Nat)(v:Value)(a:O8)(n c:Nat)(hv:v=.slice a n c)(hb:w.cell? ⟨b,0,none⟩=some v):
  Calls Tryz.prog 36 #[.pointer (some ⟨b,0,none⟩)] w λ e w'=>e=.returned (.slice a n c)/\w'=w:=by
 subst hv;go_enter Tryz.func36,Tryz.ntmps36;go_wp2_with fail;go_ret;exact⟨rfl,rfl⟩
end
section
open Go.RowKit
theorem zk4 (a b:B8)(h:a.size+b.size<=2000000000)(w:W8):(Op.stringOp .add a b).run Tryz.prog w=.ok (.string (a++b)) w:=run_string_add_sum w a b (by omega)
theorem ydh (c:UInt8):(ByteArray.mk #[c]).size=1:=rfl
theorem Mm (a b:B8):(a++b).data.toList=a.data.toList++b.data.toList:=by simp
theorem zvx (a b:B8):(a++b).size=a.size+b.size:=by simp[ByteArray.size_append]
def jH (A:zL):List UInt8:=zau A.pred (A.ae.map ed)
theorem zss {l:List xD}{k:Nat}(h:k<l.length):xJ ((l.map ed).drop k) k=(if k=0 then 40 else 44)::(l[k].text.data.toList++xJ ((l.map ed).drop (k+1)) (k+1)):=by
 rw[List.drop_eq_getElem_cons (by simpa using h),xJ];simp[ed]
theorem zst (w:W8)(base:Nat)(A:zL)(a:O8)(c:Nat)(h:w.ownsRow base 317 3 (.slice a A.ae.length c) A.ae.length (cellsOf A.ae))(hlen:(jH A).length<=1000000000):
  Calls Tryz.prog 134 #[.agg #[.string A.pred,.slice a A.ae.length c,.bool A.no,.int .i64 A.at_,.int .i64 A.az]] w λ e w'=>∃ s:B8,e=.returned (.string s)/\s.data.toList=jH A/\Below w.heap.size w w':=by
 have lN:=yU h;unfold maxLen at lN;have bt:=jI A.pred;have bA:=(Below.refl w.heap.size w).alloc L9 (.cells #[.string A.pred,.slice a A.ae.length c,.bool A.no,.int .i64 A.at_,.int .i64 A.az] 243);have h0:=zJ h bA (λ g e=>(h.lt g e).2);have e0:(jH A).length=A.pred.size+((xJ (A.ae.map ed) 0).length+(if A.ae.length=0 then ([]:List UInt8) else [41]).length):=by simp[jH,zau,bt]
 have HE:=zC (show jH A=A.pred.data.toList++(xJ (A.ae.map ed) 0++if A.ae.length=0 then [] else [41]) by simp[jH,zau]);clear h;go_enter Tryz.func134,Tryz.ntmps134;go_wp2_with fail
 go_loop [3,4] (λ v i=>∃ (k:Nat) (s:B8),k<=A.ae.length/\v=.string s/\i=.int .i64 k/\s.data.toList++xJ ((A.ae.map ed).drop k) k=A.pred.data.toList++xJ (A.ae.map ed) 0) (λ _ i=>A.ae.length-(intOf i).toNat)
 exact⟨0,A.pred,Nat.zero_le _,rfl,rfl,rfl⟩
 case round=>
  obtain⟨k,s,hk,rfl,rfl,hm⟩:=hrel;have bh:=congrArg List.length hm;simp only[List.length_append,bt,jI] at bh
  by_cases aF:k<A.ae.length
  ·have dJ:=zss aF;rw[dJ] at hm bh;simp only[List.length_cons,List.length_append,jI] at bh;have HM:=zC hm;clear hm dJ;obtain⟨g,cap,hv,iF,aZ,bO,bQ,q0,q1,q2⟩:=zat h0 k aF;injection hv with i1 i2 i3
   subst i1 i3
   cases k with
   | zero=>
    have c1:=zk4 s { data:=#[40] } (by rw[ydh];omega);have c2:=zk4 (s++{ data:=#[40] }) A.ae[0].text (by rw[zvx,ydh];omega);go_wp2_with fail
    go_round
    case rel=>exact⟨0+1,_,by omega,rfl,by go_num,by rw[Mm,Mm];have:=zA HM;simpa using this⟩
    case measure=>simp[intOf];omega
   | succ k=>
    have iA:(((k+1:Nat):Int)==0)=false:=(by simp;omega);have c1:=zk4 s { data:=#[44] } (by rw[ydh];omega);have c2:=zk4 (s++{ data:=#[44] }) A.ae[k+1].text (by rw[zvx,ydh];omega);go_wp2_with fail
    go_round
    case rel=>exact⟨k+1+1,_,by omega,rfl,by go_num,by rw[Mm,Mm];have:=zA HM;simpa using this⟩
    case measure=>simp[intOf];omega
  ·have hd:(A.ae.map ed).drop k=[]:=List.drop_of_length_le (by simp;omega);rw[hd] at hm bh;simp only[xJ,List.append_nil,List.length_nil] at hm bh;have HM:=zC hm;clear hm hd
   by_cases hn:A.ae.length=0
   ·have Cf:¬ (0<(A.ae.length:Int)):=(by omega);have Cu:=zC (show jH A=A.pred.data.toList++xJ (A.ae.map ed) 0 by rw[zA HE,if_pos hn];simp);clear HE hn;go_wp2_with fail;go_ret;exact⟨s,rfl,by rw[zA HM,zA Cu],bA⟩
   ·have Cf:0<(A.ae.length:Int):=(by omega);have Cu:=zC (show jH A=A.pred.data.toList++xJ (A.ae.map ed) 0++[41] by rw[zA HE,if_neg hn];simp);rw[if_neg hn,show ([41]:List UInt8).length=1 from rfl] at e0;have c1:=zk4 s { data:=#[41] } (by rw[ydh];omega);clear HE hn;go_wp2_with fail;go_ret;exact⟨_,rfl,by rw[Mm,zA HM,zA Cu],bA⟩
theorem zoi (w:W8)(base:Nat)(A:zL)(a:O8)(c:Nat)(no:Bool)(x y:Nat)(h:w.ownsRow base 317 3 (.slice a A.ae.length c) A.ae.length (cellsOf A.ae))(hlen:(jH A).length<=1000000000):
  Calls Tryz.prog 134 #[.agg #[.string A.pred,.slice a A.ae.length c,.bool no,.int .i64 x,.int .i64 y]] w λ e w'=>∃ s:B8,e=.returned (.string s)/\s.data.toList=jH A/\Below w.heap.size w w':=
 zst w base ⟨A.pred,A.ae,no,x,y⟩ a c h hlen
end
section
open Go.RowKit
variable {n:Nat} {w w':W8}
theorem yc.pr {v v':Value}{m:Nat}(h:yc w w' v v' n m):∀ g∈v'.ownBlock.toList,g∈v.ownBlock.toList\/w.heap.size<=g:=by
 intro g hg;rcases h with⟨g',cap,rfl,rfl,_,_⟩ | ⟨g',cap,rfl,qu,_,_⟩
 ·exact .inl (by simpa[Value.ownBlock] using hg)
 ·right
  have:g=g':=by simpa[Value.ownBlock] using hg
  omega
variable {v3:Value} {cap i base:Nat} {a:O8} {mk:V8} {e:TypeId} {w2:W8}
theorem uI.pr (h:uI w2 base e mk a n cap i v3 w):∀ g∈v3.ownBlock.toList,g∈(Value.slice a n cap).ownBlock.toList\/w2.heap.size<=g:=by
 intro g hg;rcases h.at_ with he | ⟨hf,_⟩
 ·left
  rw[he] at hg
  cases a with
  | none=>simp[Value.ownBlock] at hg
  | some a=>simpa[Value.ownBlock] using hg
 ·exact .inr (hf g (by simpa using hg))
structure E6 (w:W8)(e:TypeId)(mk:V8)(m:MB)(w':W8):Prop where
 mark:sr w' e mk m
 kept:zK m.l.ownBlock.toList w w'
 eI:∀ g∈m.blocks,g∈m.l.ownBlock.toList\/w.heap.size<=g
variable {w0 w3:W8}
theorem E6.of {w1:W8}{a1 a2 a3:O8}{c1 c2 c3 mark:Nat}(hw:zK (Value.slice a n cap).ownBlock.toList w w0)(h0:Lm w0 0 e mk (.slice a n cap) n){wa wb:W8}(ka:zK [] w0 wa)(kb:zK [] w1 wb)(p1:yc wa w1 (.slice a n cap) (.slice a1 (n+1) c1) n 1)(m1:Lm w1 0 e mk (.slice a1 (n+1) c1) (n+1))(p2:yc wb w2 (.slice a n cap) (.slice a2 (n+2) c2) n 2)(m2:Lm w2 0 e mk (.slice a2 (n+2) c2) (n+2))(h:uI w2 0 e mk a n cap 64 (.slice a3 (n+64) c3) w3)(hn:n<=1000)(hm:mark<=1000000000):
  E6 w e mk ⟨.slice a n cap,.slice a1 (n+1) c1,.slice a2 (n+2) c2,.slice a3 (n+64) c3,mark⟩ w3:=by
 have ha:Lm wa 0 e mk (.slice a n cap) n:=h0.kept ka (by simp);have k1:=p1.kept;have k2:=p2.kept;have f1:Lm wb 0 e mk (.slice a n cap) n:=(p1.first (by omega) ha m1).kept kb (by simp);have Y3:Lm wb 0 e mk (.slice a1 (n+1) c1) (n+1):=m1.kept kb (by simp);obtain⟨M,hM,hr⟩:=h.reach;have nT:=h0.cap;have q1:Lm w3 0 e mk (.slice a1 (n+1) c1) (n+1):=p1.other (by omega) ha Y3 (k2.trans h.kept) hM (by omega);have q2:Lm w3 0 e mk (.slice a2 (n+2) c2) (n+2):=p2.other (by omega) f1 m2 h.kept hM (by omega);have q0:Lm w3 0 e mk (.slice a n cap) n:=by
  by_cases hM0:0<M
  ·exact hM.pre (by omega) hM0
  ·have Cf:n=0:=(by omega);have MY:M=0:=(by omega);subst Cf MY;exact hM
 have s0:=hw.size;have sa:=ka.size;have s1:=k1.size;have sb:=kb.size;have s2:=k2.size;refine⟨⟨hm,n,hn,q0,q1,q2,h.lm⟩,(hw.trans ((ka.mono (by simp)).trans (k1.trans ((kb.mono (by simp)).trans (k2.trans h.kept))))),λ g hg=>?_⟩;simp only[MB.blocks,List.mem_append] at hg;rcases hg with ((hg | hg) | hg) | hg
 ·exact .inl hg
 ·exact (p1.pr g hg).imp id (by omega)
 ·exact (p2.pr g hg).imp id (by omega)
 ·exact (h.pr g hg).imp id (by omega)
def yae (w:W8)(e0:TypeId)(mk:V8)(a:O8)(n cap mark:Nat):Ending->W8->Prop:=λ e w'=>
 ∃ (a1 a2 a3:O8) (c1 c2 c3:Nat),e=.returned (.agg #[.slice a n cap,.slice a1 (n+1) c1,.slice a2 (n+2) c2,.slice a3 (n+64) c3,.int .i64 mark])/\E6 w e0 mk ⟨.slice a n cap,.slice a1 (n+1) c1,.slice a2 (n+2) c2,.slice a3 (n+64) c3,mark⟩ w'
theorem z8r {xs:V8}{size:Nat}(hl:w.ownsRow 0 e size (.slice a n cap) n xs){b:Nat}{o:Obj}(hb:w0.heap[b]?=some o)(Dv:w.heap.size<=b)(k:zK (Value.slice a n cap).ownBlock.toList w0 w'):w'.heap[b]?=some o:=by
 rw[k.block b (Array.getElem?_eq_some_iff.1 hb).1 (λ hm=>by have:=(hl.lt b (by simpa using hm)).2;omega)];exact hb
theorem z4t (mk:V8)(n:Nat):rep mk (n+1)=rep mk n++mk:=by rw[zpz];simp[rep]
theorem yb6 (mk:V8)(n:Nat):rep mk (n+2)=rep mk n++(mk++mk):=by rw[zpz];simp[rep]
theorem uI.LX (h:uI w2 base e mk a n cap i v3 w)(k:zK [] w w'):uI w2 base e mk a n cap i v3 w':=
 ⟨h.lm.kept k (by simp),h.kept.trans (k.mono (by simp)),h.at_.imp id λ x=>⟨x.1,x.2.kept k (by simp)⟩⟩
theorem E6.dQ {w4:W8}{m:MB}(h:E6 w e mk m w3){x:Nat}(k:zK [x] w3 w4)(hx:w.heap.size<=x)(ht:dW w3 e x):E6 w e mk m w4:=
 ⟨h.mark.kept k (λ y hy=>.inl (by rw[List.mem_singleton.1 hy];exact ht)),h.kept.step k (λ y hy=>.inr (by rw[List.mem_singleton.1 hy];exact hx)),h.eI⟩
end
section
open Go.RowKit
theorem z6s {w w1 W w5:W8}{b j:Nat}{A A':Array Value}{tB e:TypeId}{mk:Nat->V8}{v:Value}{ms:List MB}{m:MB}{a':O8}{c':Nat}(hblk:w1.heap[b]?=some (.cells A 69 (0,0)))(hB:jS w1 (b+1) tB e mk v ms)(hO:E6 w e (mk m.mark) m w1)(hW:zK [] w1 W)(hg:W.grownBy w5 v.ownBlock)(ay:w5.ownsRow (b+1) tB 5 (.slice a' (ms.length+1) c') (ms.length+1) (ms.flatMap MB.cells++m.cells))(du:v.ownBlock=(Value.slice a' (ms.length+1) c').ownBlock\/∀ g,(Value.slice a' (ms.length+1) c').ownBlock=some g->W.heap.size<=g)(h1:69≠tB)(h2:69≠e)(h3:tB≠e)(hA:A.setIfInBounds j (.slice a' (ms.length+1) c')=A'):
  jS (w5.setCell ⟨b,j,none⟩ (.slice a' (ms.length+1) c')) (b+1) tB e mk (.slice a' (ms.length+1) c') (ms++[m])/\(w5.setCell ⟨b,j,none⟩ (.slice a' (ms.length+1) c')).heap[b]?=some (.cells A' 69 (0,0))/\zK (b::(v.ownBlock.toList++m.l.ownBlock.toList)) w (w5.setCell ⟨b,j,none⟩ (.slice a' (ms.length+1) c'))/\(∀ g∈(Value.slice a' (ms.length+1) c').ownBlock.toList,g∈v.ownBlock.toList\/w.heap.size<=g)/\w5.heap[b]?=some (.cells A 69 (0,0)):=by
 have k5:zK v.ownBlock.toList w1 w5:=(hW.mono (by simp)).trans (zK.aR hg);have dC:w5.heap[b]?=some (.cells A 69 (0,0)):=yK hblk k5 (λ x hx=>.inr (yH hB.row (Ne.symm h1) x hx));have k3:zK (b::v.ownBlock.toList) w1 (w5.setCell ⟨b,j,none⟩ (.slice a' (ms.length+1) c')):=zK.setCell (p:=⟨b,j,none⟩) (k5.mono λ x hx=>.inl (List.mem_cons_of_mem _ hx)) (.inl List.mem_cons_self) _;have sg:=hO.kept.size;have YI:=hW.size;refine⟨hB.add hO.mark k3 (ownsRow_setCell_below (a:=⟨b,j,none⟩) ay (by simp) _) (zds hblk h2) h3,?_,?_,λ g Ad=>?_,dC⟩
 ·rw[heap_setCell_same _ _ _ _ _ _ dC,hA]
 ·refine (hO.kept.mono λ x hx=>.inl (List.mem_cons_of_mem _ (List.mem_append_right _ hx))).step k3 λ x hx=>.inl ?_
  rcases List.mem_cons.1 hx with rfl | hx
  ·exact List.mem_cons_self
  ·exact List.mem_cons_of_mem _ (List.mem_append_left _ hx)
 ·rcases du with h | h
  ·rw[<-h] at Ad;exact .inl Ad
  ·exact .inr (by have:=h g (by simpa using Ad);omega)
structure NN (w:W8)(b:Nat)(A':Value->Array Value)(tB e:TypeId)(mk:Nat->V8)(v:Value)(ms:List MB)(lv v':Value)(m:MB)(w':W8):Prop where
 bp:w'.heap[b]?=some (.cells (A' v') 69 (0,0))
 book:jS w' (b+1) tB e mk v' (ms++[m])
 kept:zK (b::(v.ownBlock.toList++lv.ownBlock.toList)) w w'
 eI:∀ g∈m.blocks,g∈lv.ownBlock.toList\/w.heap.size<=g
 row:∀ g∈v'.ownBlock.toList,g∈v.ownBlock.toList\/w.heap.size<=g
def yc6 (w:W8)(b:Nat)(A':Value->Array Value)(tB e0:TypeId)(mk:Nat->V8)(v:Value)(ms:List MB)(lv:Value):Ending->W8->Prop:=λ e w'=>e=.returned (.tuple #[])/\∃ v' m,NN w b A' tB e0 mk v ms lv v' m w'
end
section
open Go.RowKit
def jT (w:W8):Ending->W8->Prop:=λ e w'=>e=.returned (.bool true)/\Below w.heap.size w w'
def MB.agg (m:MB):Value:=.agg #[m.l,m.one,m.two,m.three,.int .i64 (m.mark:Nat)]
variable {e:TypeId} {w:W8}
theorem sr.shape {mk:V8}{m:MB}(h:sr w e mk m):∃ (a1 a2 a3 a4:O8) (n c1 c2 c3 c4:Nat),n<=1000/\m.l=.slice a1 n c1/\m.one=.slice a2 (n+1) c2/\m.two=.slice a3 (n+2) c3/\m.three=.slice a4 (n+64) c4:=by
 obtain⟨n,hn,h1,h2,h3,h4⟩:=h.each;obtain⟨a1,c1,e1⟩:=zD h1;obtain⟨a2,c2,e2⟩:=zD h2;obtain⟨a3,c3,e3⟩:=zD h3;obtain⟨a4,c4,e4⟩:=zD h4;exact⟨a1,a2,a3,a4,n,c1,c2,c3,c4,hn,e1,e2,e3,e4⟩
theorem jS.at_ {base:Nat}{tB:TypeId}{mk:Nat->V8}{v:Value}{ms:List MB}(h:jS w base tB e mk v ms){k:Nat}(hk:k<ms.length):∃ g cap,v=.slice (some ⟨g,0,none⟩) ms.length cap/\g<w.heap.size/\ms.length<=cap/\cap<=maxLen/\w.cell? ⟨g,k*5,none⟩=some ms[k].l/\w.cell? ⟨g,k*5+1,none⟩=some ms[k].one/\w.cell? ⟨g,k*5+2,none⟩=some ms[k].two/\w.cell? ⟨g,k*5+3,none⟩=some ms[k].three/\w.cell? ⟨g,k*5+4,none⟩=some (.int .i64 (ms[k].mark:Nat)):=by
 obtain⟨g,cap,hv,-,aZ,bO,bQ,hc⟩:=vX (f:=MB.cells) (λ _=>rfl) h.row k hk;have p0:=hc 0 (by simp);have p1:=hc 1 (by simp);have p2:=hc 2 (by simp);have p3:=hc 3 (by simp);have p4:=hc 4 (by simp);simp only[MB.cells,Nat.add_zero,List.getElem?_cons_zero,List.getElem?_cons_succ] at p0 p1 p2 p3 p4;exact⟨g,cap,hv,aZ,bO,bQ,p0,p1,p2,p3,p4⟩
theorem z3c (w:W8)(b:Nat)(bz bv tv sv:Value)(mb mt ms:List MB)(fB fT fS:Nat->V8)(hblk:w.heap[b]?=some (.cells #[bz,bv,tv,sv] 69 (0,0)))(hB:jS w (b+1) 115 5 fB bv mb)(hT:jS w (b+1) 117 9 fT tv mt)(hS:jS w (b+1) 120 185 fS sv ms)
  (oG:mb.length<=100000000) (aH:mt.length<=100000000) (Ir:ms.length<=100000000)
  (cB:∀ m∈mb,∀ w',sr w' 5 (fB m.mark) m->Calls Tryz.prog 52 #[m.agg] w' (jT w')) (cT:∀ m∈mt,∀ w',sr w' 9 (fT m.mark) m->Calls Tryz.prog 53 #[m.agg] w' (jT w')) (cS:∀ m∈ms,∀ w',sr w' 185 (fS m.mark) m->Calls Tryz.prog 54 #[m.agg] w' (jT w')):
  Calls Tryz.prog 33 #[.pointer (some ⟨b,1,none⟩)] w (jT w):=by
 obtain⟨ab,cb,rfl⟩:=zD hB.row;obtain⟨fy,ct,rfl⟩:=zD hT.row;obtain⟨as_,cs,rfl⟩:=zD hS.row;have mD:=zC hblk;have dK:=(Array.getElem?_eq_some_iff.1 hblk).1;have HB:=zC hB;have HT:=zC hT;have HS:=zC hS;have CB:=zC cB;have CT:=zC cT;have CS:=zC cS;clear hB hT hS cB cT cS hblk;go_enter Tryz.func33,Tryz.ntmps33;go_wp2_with fail
 go_loopg [3,4] mb.length (λ gg ok i wr=>∃ k:Nat,k<=mb.length/\gg=mb.length-k/\ok=.bool true/\i=.int .i64 k/\Below w.heap.size w wr)
 exact⟨0,Nat.zero_le _,rfl,rfl,rfl,Below.refl _ _⟩
 case round=>
  obtain⟨k,hk,eD,rfl,rfl,hb⟩:=hrel;have hblk:=(hb.block b dK).trans (zA mD);have bj:=hb.size;obtain⟨x1,mZ⟩:=zB hblk 1
  by_cases aF:k<mb.length
  ·as_aux_lemma=>
   obtain⟨g,cap,hv,aZ,bO,bQ,p0,p1,p2,p3,p4⟩:=((zA HB).below hb).at_ aF;have hm:=(((zA HB).below hb).each mb[k] (List.getElem_mem aF));have hc:=zA CB mb[k] (List.getElem_mem aF) wr hm;obtain⟨a1,a2,a3,a4,n,c1,c2,c3,c4,hn,e1,e2,e3,e4⟩:=hm.shape;unfold MB.agg at hc;rw[e1,e2,e3,e4] at hc;rw[e1] at p0;rw[e2] at p1;rw[e3] at p2;rw[e4] at p3;injection hv with h1 h2 h3
   subst h1 h3;clear hm e1 e2 e3 e4 hblk;generalize mb[k].mark=mkk at *;go_wp2_with fail;refine hc.mono ?_;rintro e w1 ⟨rfl,aL⟩;have fN:=zC (hb.trans (aL.mono bj));clear aL hb hc p0 p1 p2 p3 p4 x1 mZ;go_wp2_with fail;go_roundg (mb.length-(k+1));exact⟨k+1,by omega,rfl,rfl,by go_num,zA fN⟩;omega
  ·clear HB CB hblk;have HH:=zC hb;clear hb;go_wp2_with fail
   go_loopg [3,6] mt.length (λ gg ok i wr=>∃ k:Nat,k<=mt.length/\gg=mt.length-k/\ok=.bool true/\i=.int .i64 k/\Below w.heap.size w wr)
   exact⟨0,Nat.zero_le _,rfl,rfl,rfl,zA HH⟩
   case round=>
    clear HH x1 mZ bj;obtain⟨k2,bn,KJ,rfl,rfl,hb⟩:=hrel;have hblk:=(hb.block b dK).trans (zA mD);have bj:=hb.size;obtain⟨x1,mZ⟩:=zB hblk 2
    by_cases hlk2:k2<mt.length
    ·as_aux_lemma=>
     obtain⟨g,cap,hv,aZ,bO,bQ,p0,p1,p2,p3,p4⟩:=((zA HT).below hb).at_ hlk2;have hm:=(((zA HT).below hb).each mt[k2] (List.getElem_mem hlk2));have hc:=zA CT mt[k2] (List.getElem_mem hlk2) wr hm;obtain⟨a1,a2,a3,a4,n,c1,c2,c3,c4,hn,e1,e2,e3,e4⟩:=hm.shape;unfold MB.agg at hc;rw[e1,e2,e3,e4] at hc;rw[e1] at p0;rw[e2] at p1;rw[e3] at p2;rw[e4] at p3;injection hv with h1 h2 h3
     subst h1 h3;clear hm e1 e2 e3 e4 hblk;generalize mt[k2].mark=mkk at *;go_wp2_with fail;refine hc.mono ?_;rintro e w1 ⟨rfl,aL⟩;have fN:=zC (hb.trans (aL.mono bj));clear aL hb hc p0 p1 p2 p3 p4 x1 mZ;go_wp2_with fail;go_roundg (mt.length-(k2+1));exact⟨k2+1,by omega,rfl,rfl,by go_num,zA fN⟩;omega
    ·clear HT CT hblk;have HH:=zC hb;clear hb;go_wp2_with fail
     go_loopg [3,8] ms.length (λ gg ok i wr=>∃ k:Nat,k<=ms.length/\gg=ms.length-k/\ok=.bool true/\i=.int .i64 k/\Below w.heap.size w wr)
     exact⟨0,Nat.zero_le _,rfl,rfl,rfl,zA HH⟩
     case round=>
      clear HH x1 mZ bj;obtain⟨k3,eE,XV,rfl,rfl,hb⟩:=hrel;have hblk:=(hb.block b dK).trans (zA mD);have bj:=hb.size;obtain⟨x1,mZ⟩:=zB hblk 3
      by_cases hlk3:k3<ms.length
      ·as_aux_lemma=>
       obtain⟨g,cap,hv,aZ,bO,bQ,p0,p1,p2,p3,p4⟩:=((zA HS).below hb).at_ hlk3;have hm:=(((zA HS).below hb).each ms[k3] (List.getElem_mem hlk3));have hc:=zA CS ms[k3] (List.getElem_mem hlk3) wr hm;obtain⟨a1,a2,a3,a4,n,c1,c2,c3,c4,hn,e1,e2,e3,e4⟩:=hm.shape;unfold MB.agg at hc;rw[e1,e2,e3,e4] at hc;rw[e1] at p0;rw[e2] at p1;rw[e3] at p2;rw[e4] at p3;injection hv with h1 h2 h3
       subst h1 h3;clear hm e1 e2 e3 e4 hblk;generalize ms[k3].mark=mkk at *;go_wp2_with fail;refine hc.mono ?_;rintro e w1 ⟨rfl,aL⟩;have fN:=zC (hb.trans (aL.mono bj));clear aL hb hc p0 p1 p2 p3 p4 x1 mZ;go_wp2_with fail;go_roundg (ms.length-(k3+1));exact⟨k3+1,by omega,rfl,rfl,by go_num,zA fN⟩;omega
      ·clear hblk;have HH:=zC hb;clear hb;go_wp2_with fail;go_ret;exact⟨rfl,zA HH⟩
end
section
open Go.RowKit Go.Maps
variable {w:W8}
theorem pt.below {s:B8}{xb yb:Nat}{w':W8}{lo:Nat}(h:pt s xb yb w lo)(k:Below w.heap.size w w'):pt s xb yb w' lo:=h.kept ((zK.refl _ w).ak k)
theorem z84 {W w5 w6:W8}{b B1:Nat}{A1 A2:Value->Array Value}{tB e:TypeId}{mk:Nat->V8}{v v5 v6 lv kv:Value}{ms:List MB}{m5 m6:MB}(hB:Below w.heap.size w W)(s5:NN W b A1 tB e mk v ms lv v5 m5 w5)(s6:NN w5 b A2 tB e mk v5 (ms++[m5]) kv v6 m6 w6)(hl:∀ g∈lv.ownBlock.toList,w.heap.size<=g/\g<B1)(hk:∀ g∈kv.ownBlock.toList,w.heap.size<=g):
  zK (b::v.ownBlock.toList) w w6/\(∀ g∈v6.ownBlock.toList,g∈v.ownBlock.toList\/w.heap.size<=g):=by
 have YI:=hB.size;have Gu:=s5.kept.size;have k5:zK (b::v.ownBlock.toList) w w5:=((zK.refl _ w).ak hB).step s5.kept λ x hx=>by
  rcases List.mem_cons.1 hx with rfl | hx
  ·exact .inl List.mem_cons_self
  ·rcases List.mem_append.1 hx with hx | hx
   ·exact .inl (List.mem_cons_of_mem _ hx)
   ·exact .inr (hl x hx).1
 have h5:∀ g∈v5.ownBlock.toList,g∈v.ownBlock.toList\/w.heap.size<=g:=λ g hg=>(s5.row g hg).imp id (by omega)
 refine⟨k5.step s6.kept λ x hx=>?_,λ g hg=>?_⟩
 ·rcases List.mem_cons.1 hx with rfl | hx
  ·exact .inl List.mem_cons_self
  ·rcases List.mem_append.1 hx with hx | hx
   ·exact (h5 x hx).imp (List.mem_cons_of_mem _) id
   ·exact .inr (hk x hx)
 ·rcases s6.row g hg with h | h
  ·exact h5 g h
  ·exact .inr (by omega)
def z0c (w:W8)(b:Nat)(bz bv tv sv:Value)(es:List PE)(mb mt ms:List MB):Ending->W8->Prop:=λ e w'=>e=.returned (.bool true)/\∃ nC bY GQ xw Dz ms',LW w' b bz nC bY GQ es xw Dz ms'/\xw.length<=mb.length+2/\Dz.length<=mt.length+2/\ms'.length<=ms.length+2/\zK (chg b bz bv tv sv) w w'
end
section
open Go.RowKit
def NY (s:B8)(w:W8)(b:Nat)(bz bv tv sv:Value)(es:List PE)(mb mt ms:List MB)(e:Ending)(w':W8):Prop:=e=.returned (.bool true)/\∃ oR uq,LW w' b oR bv tv sv uq mb mt ms/\es.length<=uq.length/\uq.length<=es.length+1/\((yY s).1=true->uq.length=es.length+1)/\zK (chg b bz bv tv sv) w w'
theorem yda {g H n c:Nat}(e:g=H):∀ g',(Value.slice (some ⟨g,0,none⟩) n c).ownBlock=some g'->H<=g':=λ g' e'=>by
 have:g=g':=by simpa[Value.ownBlock] using e'
 omega
theorem wK.low {w:W8}{lo US b:Nat}{rs:List PR}(h:wK w lo b rs)(hl:US<=lo):wK w US b rs:=by
 obtain⟨a,c,hb,Aq,hr⟩:=h;exact⟨a,c,hb,by omega,hr.low hl⟩
theorem wK.below {w w':W8}{lo b:Nat}{rs:List PR}(h:wK w lo b rs)(k:Below w.heap.size w w'):wK w' lo b rs:=by
 obtain⟨a,c,hb,Aq,hr⟩:=h;exact⟨a,c,(k.block b (Array.getElem?_eq_some_iff.1 hb).1).trans hb,Aq,hr.below k⟩
theorem yax {s:B8}{w w0 w1 w2:W8}{pb:Nat}{rs:List PR}{ya:Addr}(bR:(yY s).1=true)(hx:wK w1 w0.heap.size pb rs)(hr:rs.map (·.R)=(yL s).2.2.1)(h0:w.heap.size<=w0.heap.size)(h1:w0.heap.size<=w1.heap.size)(hb:Below w1.heap.size w1 w2)(hy:z0s s w1 (some ya) w2):∃ yb,ya=⟨yb,0,none⟩/\pt s pb yb w2 w.heap.size:=by
 obtain⟨o,Rt,ps,rv,pv,tv,gs,S,e,h2,h3,h4,h5,h6,h7,h8,h9,Xk⟩:=hy ya rfl;exact⟨o,e,bR,⟨rs,(hx.low h0).below hb,hr⟩,Rt,ps,rv,pv,tv,gs,S,by omega,h3,h4,h5,h6,h7,h8,h9,Xk⟩
theorem z20 (w:W8)(b:Nat)(bz bv tv sv:Value)(es:List PE)(mb mt ms:List MB)(kd a bb:Int)(s t u:B8)(at_:O8)(nt ct:Nat)(h:LW w b bz bv tv sv es mb mt ms)(hs:s.size<=maxLen)(hn:(es.length+1)*32<=140737488355328):
  Calls Tryz.prog 48 #[.pointer (some ⟨b,0,none⟩),.agg #[.int .i64 kd,.int .i64 a,.int .i64 bb,.string s,.string t,.string u,.slice at_ nt ct]] w (NY s w b bz bv tv sv es mb mt ms):=by
 obtain⟨i0,hi,bL,aY,bg⟩:=info_parts z7a;have b0:=(Below.refl w.heap.size w).alloc L9 (.cells #[.int .i64 kd,.int .i64 a,.int .i64 bb,.string s,.string t,.string u,.slice at_ nt ct] 26);have dq:(w.alloc (.cells #[.int .i64 kd,.int .i64 a,.int .i64 bb,.string s,.string t,.string u,.slice at_ nt ct] 26)).heap[w.heap.size]?=_:=heap_alloc_new w _;have hP:=z4f (w.alloc (.cells #[.int .i64 kd,.int .i64 a,.int .i64 bb,.string s,.string t,.string u,.slice at_ nt ct] 26)) s hs;rw[ybf] at hP;have aH:=h.lt;go_enter Tryz.func48,Tryz.ntmps48;go_wp2_with fail;refine hP.mono ?_;rintro e w1 ⟨aL,aX,kY⟩;have dP:=(aL.block w.heap.size (by simp)).trans dq;obtain⟨x3,ER⟩:=zB dP 3;have GK:=aL.size;have A0:=GK;rw[World.size_alloc] at GK;have gz:=b0.trans (aL.mono (by simp));clear hP dq aL b0
 cases hr:(yY s).1 with
 | false=>
  have he:=aX hr;subst he;clear aX kY A0;go_wp2_with fail;refine (zu1 s w1).mono ?_;rintro e w2 ⟨y,rfl,hy,aK⟩;have YV:y=none:=by rw[hr] at hy;cases y with | none=>rfl | some _=>cases hy
  subst YV;have HB:=zC (gz.trans (aK.mono (by omega)));have HH:=zC h;clear aK gz x3 ER hy dP h;go_wp2_with fail;go_ret;exact⟨rfl,bz,es,(zA HH).below (zA HB),Nat.le_refl _,Nat.le_succ _,(λ h=>by rw[hr] at h;cases h),(zK.refl _ _).ak (zA HB)⟩
 | true=>
  obtain⟨pb,rs,he,QK,AL⟩:=kY hr;subst he;have Wq:=zC QK;have DX:=zC AL;have MO:=zC A0;clear aX kY QK AL A0;go_wp2_with fail;refine (zjx s w1).mono ?_;rintro e w2 ⟨y,rfl,hy,aK,oM⟩;obtain⟨ya,rfl⟩:∃ ya,y=some ya:=by rw[hr] at hy;cases y with | none=>cases hy | some z=>exact⟨z,rfl⟩
  obtain⟨yb,rfl,zz⟩:=yax (w:=w) hr (zA Wq) (zA DX) (by simp) (zA MO) aK oM;have mM:=(aK.block w.heap.size (by omega)).trans dP;have YW:=aK.size;have lu:=gz.trans (aK.mono (by omega));have h2:=h.below lu;have aB:=h2.row;obtain⟨ap,cp,rfl⟩:=zD aB;have hblk:=h2.bp;obtain⟨y3,RJ⟩:=zB mM 3;obtain⟨p0,Cj⟩:=zB hblk 0;have uZ:=h2.lt;have s1:Hid (((w2.alloc (Obj.cells #[.pointer (some ⟨pb,0,none⟩),.pointer (some ⟨yb,0,none⟩),.string s] 112)).drew).ownsRow (b+1) 112 3 (.slice ap es.length cp) es.length (es.flatMap PE.cells)):=aB.alloc _;have s2:Hid (∀ j u,([Value.pointer (some ⟨pb,0,none⟩),.pointer (some ⟨yb,0,none⟩),.string s]:V8)[j]?=some u->((w2.alloc (Obj.cells #[.pointer (some ⟨pb,0,none⟩),.pointer (some ⟨yb,0,none⟩),.string s] 112)).drew).cell? ((⟨w2.heap.size,0,none⟩:Addr).add j)=some u):=World.news_of_block (heap_alloc_new w2 _);have s3:Hid (∀ u∈([Value.pointer (some ⟨pb,0,none⟩),.pointer (some ⟨yb,0,none⟩),.string s]:V8),u.oneCell'=true):=by
   show ∀ u∈_,_
   intro u hu;simp at hu;rcases hu with rfl | rfl | rfl <;> rfl
  have s4:Hid (es.length+1<=maxLen):=by show _<=_;unfold maxLen;omega
  have s5:Hid ((es.length+1)*32<=140737488355328):=hn;have s6:Hid (b+1<=((w2.alloc (Obj.cells #[.pointer (some ⟨pb,0,none⟩),.pointer (some ⟨yb,0,none⟩),.string s] 112)).drew).heap.size):=by show _<=_;simp;omega
  have s8:=zC (λ (w5:W8) (g cap:Nat) (hg:((w2.alloc (Obj.cells #[.pointer (some ⟨pb,0,none⟩),.pointer (some ⟨yb,0,none⟩),.string s] 112)).drew).grownBy w5 (Value.slice ap es.length cp).ownBlock) (ay:w5.ownsRow (b+1) 112 3 (.slice (some ⟨g,0,none⟩) (es.length+1) cap) (es.length+1) (es.flatMap PE.cells++[Value.pointer (some ⟨pb,0,none⟩),.pointer (some ⟨yb,0,none⟩),.string s])) (du:(Value.slice ap es.length cp).ownBlock=some g\/g=((w2.alloc (Obj.cells #[.pointer (some ⟨pb,0,none⟩),.pointer (some ⟨yb,0,none⟩),.string s] 112)).drew).heap.size)=>LW.O6 (W:=(w2.alloc (Obj.cells #[.pointer (some ⟨pb,0,none⟩),.pointer (some ⟨yb,0,none⟩),.string s] 112)).drew) (p:=⟨pb,yb,s⟩) h lu zz (((zK.refl [] w2).alloc _).drew) hg ay (du.imp (λ e=>e.symm) (λ e=>yda e)));have HB:=zC lu;clear aK gz x3 ER hy dP h mM h2 aB hblk lu zz oM;go_wp2_with fail
  go_region_law (refine step_append_lies _ rfl (.tmp 46) (.tmp 52) 62 rfl (b+1) 112 i0 (.agg #[.pointer none,.pointer none,.string { data:=#[] }]) 3 32 Tryz.underlying62 hi bL aY bg rfl (by decide) (Value.slice ap es.length cp) es.length (es.flatMap PE.cells) (by simp[Act.eval]) (zA s1) ⟨w2.heap.size,0,none⟩ 1 1 [Value.pointer (some ⟨pb,0,none⟩),.pointer (some ⟨yb,0,none⟩),.string s] (by simp[Act.eval]) rfl (zA s2) (zA s3) (by decide) (zA s4) (zA s5) (zA s6) _ rfl ?_;intro g cap w5 aq aU bW hlt5;obtain⟨e1,e2,e3⟩:=zA s8 w5 g cap aU aq bW;obtain⟨z0,na⟩:=zB e3 0)
  all_goals
   clear s1 s2 s3 s4 s5 s6 s8;go_wp2_with fail;go_ret;exact⟨rfl,_,_,e1,by simp,by simp,λ _=>by simp,e2⟩
end
section
open Go.RowKit Go.Maps
variable {n:Nat} {c:Int}
theorem z74 (hc:c<0)(hn:0<n):∃ k:Nat,k<n/\-(c+1).tmod n=(k:Int):=by
 obtain⟨d,hd⟩:∃ d:Nat,c+1=-(d:Int):=⟨(-(c+1)).toNat,by omega⟩;refine⟨d%n,Nat.mod_lt _ hn,?_⟩;rw[hd,Int.neg_tmod,Int.neg_neg,Int.tmod_eq_emod_of_nonneg (by omega)];simp
theorem z4b (hc:0<=c)(hn:0<n):∃ k:Nat,k<n/\c%n=(k:Int):=by
 obtain⟨d,rfl⟩:∃ d:Nat,c=(d:Int):=⟨c.toNat,by omega⟩;exact⟨d%n,Nat.mod_lt _ hn,by simp⟩
end
section
open Go.RowKit
theorem zc0 {P:Program}{id:Nat}{Q:Exit->Act->W8->Prop}{a:Act}{w:W8}{l:List Oper}(n:Nat)(hm:P.follows .mixedOrders=true)(hB:Region.lexTailB .any l.toArray n=true)
  (h:∀ W,W=w.drew->wpStill P l.toArray W (λ a'=>wpList P l.toArray Q (l.drop n) a' W) (l.take n) a):(Code.region id l.toArray true).wp P Q a w:=wp_region_still_tail n hm hB (h _ rfl)
theorem z3q:Tryz.prog.follows .mixedOrders=true:=by kernel_rfl
end
section
open Go.RowKit Go.Maps
theorem z73 (c:Int)(n:Nat)(hn:0<n)(hl:n<=1000000000000)(h1:-9223372036854775808<=c)(h2:c<=9223372036854775807):∃ k:Nat,k<n/\∀ w,Calls Tryz.prog 51 #[.int .i64 c,.int .i64 n] w λ e w'=>e=.returned (.int .i64 k)/\w'=w:=by
 have Cf:¬ ((n:Int)=0):=by omega
 have La:(0:Int)<n:=by omega
 by_cases hc:c<0
 ·obtain⟨k,hk,e⟩:=z74 hc hn;refine⟨k,hk,λ w=>?_⟩;have HE:=zC e;clear e;go_enter Tryz.func51,Tryz.ntmps51;go_wp2_with fail;go_ret;exact⟨by rw[<-zA HE];rfl,rfl⟩
 ·obtain⟨k,hk,e⟩:=z4b (Int.not_lt.1 hc) hn;refine⟨k,hk,λ w=>?_⟩;have HE:=zC e;clear e;go_enter Tryz.func51,Tryz.ntmps51;go_wp2_with fail;go_ret;exact⟨by rw[<-zA HE];rfl,rfl⟩
def zo1 (w:W8)(b:Nat)(bz bv tv sv:Value)(es:List PE)(mb mt ms:List MB):Ending->W8->Prop:=λ e w'=>e=.returned (.bool true)/\∃ oR nC bY GQ uq xw Dz ms',LW w' b oR nC bY GQ uq xw Dz ms'/\es.length<=uq.length/\uq.length<=es.length+1/\xw.length<=mb.length+2/\Dz.length<=mt.length+2/\ms'.length<=ms.length+2/\zK (chg b bz bv tv sv) w w'
theorem zw7 (w:W8)(b:Nat)(bz bv tv sv:Value)(es:List PE)(mb mt ms:List MB)(a bb:Int)(s t u:B8)(at_:O8)(nt ct:Nat)(h:LW w b bz bv tv sv es mb mt ms)(hs:s.size<=maxLen)(hn:(es.length+1)*32<=140737488355328):
  Calls Tryz.prog 32 #[.pointer (some ⟨b,0,none⟩),.agg #[.int .i64 1,.int .i64 a,.int .i64 bb,.string s,.string t,.string u,.slice at_ nt ct]] w (NY s w b bz bv tv sv es mb mt ms):=by
 have b0:=(Below.refl w.heap.size w).alloc L9 (.cells #[.int .i64 1,.int .i64 a,.int .i64 bb,.string s,.string t,.string u,.slice at_ nt ct] 26);have h0:=h.below b0;clear h;go_enter Tryz.func32,Tryz.ntmps32;go_wp2_with fail;refine (z20 _ b bz bv tv sv es mb mt ms 1 a bb s t u at_ nt ct h0 hs hn).mono ?_;rintro e w1 ⟨rfl,oR,uq,hW,l1,l2,l3,hK⟩;have L3:=zC l3;clear l3;have HK:=zC (((zK.refl (chg b bz bv tv sv) w).alloc _).step hK (λ x hx=>.inl hx));have HW:=zC hW;clear hK hW h0 b0;go_wp2_with fail;go_ret;exact⟨rfl,oR,uq,zA HW,l1,l2,zA L3,zA HK⟩
theorem NY.Zl {s:B8}{w w':W8}{b:Nat}{bz bv tv sv:Value}{es:List PE}{mb mt ms:List MB}{e:Ending}(h:NY s w b bz bv tv sv es mb mt ms e w'):zo1 w b bz bv tv sv es mb mt ms e w':=by
 obtain⟨rfl,oR,uq,hW,l1,l2,_,hK⟩:=h;exact⟨rfl,oR,bv,tv,sv,uq,mb,mt,ms,hW,l1,l2,by omega,by omega,by omega,hK⟩
end
section
open Go.RowKit
structure OpV where
 kd:Int
 a:Int
 b:Int
 s:B8
 t:B8
 u:B8
 at_:O8
 nt:Nat
 ct:Nat
structure H7 (w:W8)(sa:O8)(len:Nat)(O:Nat->OpV):Prop where
 el:∀ i,i<len->∃ g off,sa=some ⟨g,off,none⟩/\g<w.heap.size/\w.cell? ⟨g,off+i*7,none⟩=some (.int .i64 (O i).kd)/\w.cell? ⟨g,off+i*7+1,none⟩=some (.int .i64 (O i).a)/\w.cell? ⟨g,off+i*7+2,none⟩=some (.int .i64 (O i).b)/\w.cell? ⟨g,off+i*7+3,none⟩=some (.string (O i).s)/\w.cell? ⟨g,off+i*7+4,none⟩=some (.string (O i).t)/\w.cell? ⟨g,off+i*7+5,none⟩=some (.string (O i).u)/\w.cell? ⟨g,off+i*7+6,none⟩=some (.slice (O i).at_ (O i).nt (O i).ct)/\(O i).s.size<=maxLen
theorem H7.below {w w1:W8}{sa:O8}{len:Nat}{O:Nat->OpV}(h:H7 w sa len O)(hb:Below w.heap.size w w1):H7 w1 sa len O:=
 ⟨λ i hi=>by
  obtain⟨g,off,h1,h2,c0,c1,c2,c3,c4,c5,c6,h3⟩:=h.el i hi;have hz:=hb.size;refine⟨g,off,h1,by omega,?_,?_,?_,?_,?_,?_,?_,h3⟩
  all_goals (rw[hb.cell (by simpa using h2)];assumption)⟩
def zv4:B8:={ data:=#[101,100,103,101,40,97,44,98,41,46,32,101,100,103,101,40,98,44,99,41,46,32,112,97,116,104,40,88,44,89,41,32,58,45,32,101,100,103,101,40,88,44,89,41,46,32,112,97,116,104,40,88,44,90,41,32,58,45,32,101,100,103,101,40,88,44,89,41,44,32,112,97,116,104,40,89,44,90,41,46,32,102,97,114,40,88,41,32,58,45,32,112,97,116,104,40,97,44,88,41,44,32,110,111,116,32,101,100,103,101,40,97,44,88,41,46] }
theorem yec:(yY zv4).1=true:=by decide +kernel
theorem yaz:zv4.size<=maxLen:=by decide +kernel
end
section
open Go.RowKit Go.Maps
structure z9h (o:OpV):Prop where
 a:-9223372036854775808<=o.a/\o.a<=9223372036854775807
 b:-9223372036854775808<=o.b/\o.b<=9223372036854775807
 s:o.s.size<=maxLen
 t:o.t.size<=maxLen
 u:o.u.size<=maxLen
def OpV.agg (o:OpV):Value:=.agg #[.int .i64 o.kd,.int .i64 o.a,.int .i64 o.b,.string o.s,.string o.t,.string o.u,.slice o.at_ o.nt o.ct]
def zq1 (w0:W8)(o:OpV):Prop:=∀ (w:W8) (b:Nat) (bz bv tv sv:Value) (es:List PE) (mb mt ms:List MB),Below w0.heap.size w0 w->LW w b bz bv tv sv es mb mt ms->es.length<=10000000->mb.length<=10000000->mt.length<=10000000->ms.length<=10000000 ->
 Calls Tryz.prog 32 #[.pointer (some ⟨b,0,none⟩),o.agg] w (zo1 w b bz bv tv sv es mb mt ms)
def z0m:Prop:=∀ (w:W8) (b:Nat) (bz bv tv sv:Value) (es:List PE) (mb mt ms:List MB),LW w b bz bv tv sv es mb mt ms->mb.length<=10000000->mt.length<=10000000->ms.length<=10000000->Calls Tryz.prog 33 #[.pointer (some ⟨b,1,none⟩)] w (jT w)
theorem z6l {ks:List Int}{j:Nat}(hj:j<ks.length)(f:Int->Bool):(ks.take (j+1)).any f=((ks.take j).any f||f ks[j]):=by
 rw[List.take_succ_eq_append_getElem hj,List.any_append];simp only[List.any_cons,List.any_nil,Bool.or_false]
structure Mo (w0 w:W8)(b k:Nat)(bz bv tv sv:Value)(es:List PE)(mb mt ms:List MB)(wr:W8):Prop where
 lw:LW wr b bz bv tv sv es mb mt ms
 below:Below w.heap.size w wr
 base:Below w0.heap.size w0 wr
 e:es.length<=k+2
 b:mb.length<=2*k+2
 t:mt.length<=2*k+2
 s:ms.length<=2*k+2
def uF (w0 w:W8)(b k:Nat)(wr:W8):Prop:=∃ bz bv tv sv es mb mt ms,Mo w0 w b k bz bv tv sv es mb mt ms wr
variable {k:Nat} {w0 w wr:W8}
theorem uF.drawn {b:Nat}(h:uF w0 w b k wr)(n:Nat):uF w0 w b k (wr.drewN n):=by
 obtain⟨bz,bv,tv,sv,es,mb,mt,ms,h⟩:=h;exact⟨bz,bv,tv,sv,es,mb,mt,ms,h.lw.below (below_drewN B9 _),below_drewN h.below _,below_drewN h.base _,h.e,h.b,h.t,h.s⟩
theorem uF.next {b:Nat}(h:uF w0 w b k wr):uF w0 w b (k+1) wr:=by
 obtain⟨bz,bv,tv,sv,es,mb,mt,ms,h⟩:=h;exact⟨bz,bv,tv,sv,es,mb,mt,ms,h.lw,h.below,h.base,by have:=h.e;omega,by have:=h.b;omega,by have:=h.t;omega,by have:=h.s;omega⟩
variable {w':W8}
theorem Mo.step {b k':Nat}{bz bv tv sv:Value}{es:List PE}{mb mt ms:List MB}{e:Ending}(h:Mo w0 w b k bz bv tv sv es mb mt ms wr)(hw:w0.heap.size<=w.heap.size)(hs:zo1 wr b bz bv tv sv es mb mt ms e w')(hb:w.heap.size<=b)(hk:es.length<=k'+1/\mb.length<=2*k'/\mt.length<=2*k'/\ms.length<=2*k'):e=.returned (.bool true)/\uF w0 w b k' w':=by
 obtain⟨rfl,oR,nC,bY,GQ,uq,xw,Dz,ms',hL,l0,l1,l2,l3,l4,hK⟩:=hs;have bj:=h.below.size;have qu:∀ x∈chg b bz bv tv sv,w.heap.size<=x:=λ x hx=>by have:=(h.lw.sH x hx).1;omega
 exact⟨rfl,oR,nC,bY,GQ,uq,xw,Dz,ms',hL,zY h.below hK bj qu,zY h.base hK (by omega) (λ x hx=>by have:=qu x hx;omega),by omega,by omega,by omega,by omega⟩
theorem uF.still {b:Nat}{e:Ending}(h:uF w0 w b k wr)(hw:w0.heap.size<=w.heap.size)(hs:jT wr e w'):e=.returned (.bool true)/\uF w0 w b k w':=by
 obtain⟨bz,bv,tv,sv,es,mb,mt,ms,h⟩:=h;obtain⟨rfl,hB⟩:=hs;have bj:=h.below.size;exact⟨rfl,bz,bv,tv,sv,es,mb,mt,ms,h.lw.below hB,h.below.trans (hB.mono bj),h.base.trans (hB.mono (by omega)),h.e,h.b,h.t,h.s⟩
theorem z4c (w0 w:W8)(bC:Below w0.heap.size w0 w)(kd a b:Int)(s t u:B8)(at_:O8)(nt ct:Nat)(sa:O8)(len cap:Nat)(O:Nat->OpV)(kb:Nat)(ks:List Int)(h:H7 w sa len O)(hl:len<=1048576)(T4:∀ j (hj:j<ks.length),w.cell? ⟨kb,j,none⟩=some (.int .i64 ks[j]))(dF:ks.length<=100)(KP:kb<w.heap.size)
  (hA:zq1 w0 ⟨kd,a,b,s,t,u,at_,nt,ct⟩) (hO:∀ i,i<len->(O i).kd∈ks->zq1 w0 (O i)) (KU:z0m):
  Calls Tryz.prog 15 #[.agg #[.int .i64 kd,.int .i64 a,.int .i64 b,.string s,.string t,.string u,.slice at_ nt ct],.slice sa len cap,.slice (some ⟨kb,0,none⟩) ks.length ks.length] w (jT w):=by
 have b0:=((Below.refl w.heap.size w).alloc L9 (.cells #[.int .i64 kd,.int .i64 a,.int .i64 b,.string s,.string t,.string u,.slice at_ nt ct] 26)).alloc (by simp) (.cells #[.slice none 0 0,.slice none 0 0,.slice none 0 0,.slice none 0 0] 69);have PB:LW ((w.alloc (.cells #[.int .i64 kd,.int .i64 a,.int .i64 b,.string s,.string t,.string u,.slice at_ nt ct] 26)).alloc (.cells #[.slice none 0 0,.slice none 0 0,.slice none 0 0,.slice none 0 0] 69)) (w.heap.size+1) (.slice none 0 0) (.slice none 0 0) (.slice none 0 0) (.slice none 0 0) [] [] [] []:=by
  refine LW.start _ _ ?_;have:=heap_alloc_new (w.alloc (.cells #[.int .i64 kd,.int .i64 a,.int .i64 b,.string s,.string t,.string u,.slice at_ nt ct] 26)) (.cells #[.slice none 0 0,.slice none 0 0,.slice none 0 0,.slice none 0 0] 69);rw[World.size_alloc] at this;exact this
 have dq:((w.alloc (.cells #[.int .i64 kd,.int .i64 a,.int .i64 b,.string s,.string t,.string u,.slice at_ nt ct] 26)).alloc (.cells #[.slice none 0 0,.slice none 0 0,.slice none 0 0,.slice none 0 0] 69)).heap[w.heap.size]?=some (.cells #[.int .i64 kd,.int .i64 a,.int .i64 b,.string s,.string t,.string u,.slice at_ nt ct] 26 (0,0)):=by
  rw[Below.heap_alloc _ _ _ (by simp)];exact heap_alloc_new w _
 have hS:=zw7 ((w.alloc (.cells #[.int .i64 kd,.int .i64 a,.int .i64 b,.string s,.string t,.string u,.slice at_ nt ct] 26)).alloc (.cells #[.slice none 0 0,.slice none 0 0,.slice none 0 0,.slice none 0 0] 69)) (w.heap.size+1) (.slice none 0 0) (.slice none 0 0) (.slice none 0 0) (.slice none 0 0) [] [] [] [] 0 0 zv4 { data:=#[] } { data:=#[] } none 0 0 PB yaz (by simp);unfold zv4 at hS;have Tq:Mo w0 w (w.heap.size+1) 0 (.slice none 0 0) (.slice none 0 0) (.slice none 0 0) (.slice none 0 0) [] [] [] [] ((w.alloc (.cells #[.int .i64 kd,.int .i64 a,.int .i64 b,.string s,.string t,.string u,.slice at_ nt ct] 26)).alloc (.cells #[.slice none 0 0,.slice none 0 0,.slice none 0 0,.slice none 0 0] 69)):=⟨PB,b0,bC.trans (b0.mono bC.size),by simp,by simp,by simp,by simp⟩;have CG:=zC Tq;have Du:=bC.size;clear PB Tq;go_enter Tryz.func15,Tryz.ntmps15;go_wp2_with fail;refine hS.mono ?_;rintro e w1 Xr;obtain⟨rfl,Zi,MR,J9,-,-,kT,qj⟩:=Xr;have bR:(yY { data:=#[101,100,103,101,40,97,44,98,41,46,32,101,100,103,101,40,98,44,99,41,46,32,112,97,116,104,40,88,44,89,41,32,58,45,32,101,100,103,101,40,88,44,89,41,46,32,112,97,116,104,40,88,44,90,41,32,58,45,32,101,100,103,101,40,88,44,89,41,44,32,112,97,116,104,40,89,44,90,41,46,32,102,97,114,40,88,41,32,58,45,32,112,97,116,104,40,97,44,88,41,44,32,110,111,116,32,101,100,103,101,40,97,44,88,41,46] }).1=true:=yec;have Ao:MR.length=1:=by simpa using kT bR
 have gz:Below w.heap.size w w1:=zY b0 qj (by simp;omega) (by simp[Value.ownBlock]);have FL:Below w0.heap.size w0 w1:=bC.trans (gz.mono Du);have dP:=yK dq qj (by simp[Value.ownBlock]);have aY:=qj.size;simp at aY;obtain⟨W5,Xg,rfl⟩:=zD J9.row;have Tr:Mo w0 w (w.heap.size+1) 0 (.slice W5 MR.length Xg) (.slice none 0 0) (.slice none 0 0) (.slice none 0 0) MR [] [] [] w1:=⟨J9,gz,FL,by omega,by simp,by simp,by simp⟩;have oB:=hA w1 (w.heap.size+1) _ _ _ _ MR [] [] [] FL J9 (by omega) (by simp) (by simp) (by simp);unfold OpV.agg at oB;have lK:=J9.bp;rw[Ao] at lK;obtain⟨p0,Cj⟩:=zB lK 0;obtain⟨y0,Vo⟩:=zB dP 0;obtain⟨y1,Hh⟩:=zB dP 1;obtain⟨y2,Vp⟩:=zB dP 2;obtain⟨y3,RJ⟩:=zB dP 3;obtain⟨y4,RK⟩:=zB dP 4;obtain⟨y5,Zs⟩:=zB dP 5;obtain⟨y6,Zt⟩:=zB dP 6;have sC:=zC Tr;have IS:=zC oB;have CC:=zC Ao;clear hS dq qj b0 bR Tr oB J9 lK dP gz FL kT Ao CG;go_wp2_with fail;refine (zA IS).mono ?_;rintro e w2 aP;obtain⟨rfl,Ts⟩:=(zA sC).step (k':=0) Du aP (by omega) ⟨by rw[zA CC];exact Nat.le_refl _,Nat.le_refl _,Nat.le_refl _,Nat.le_refl _⟩;have mE:=zC Ts;clear aP Ts sC IS CC p0 Cj y0 y1 y2 y3 y4 y5 y6 Vo Hh Vp RJ RK Zs Zt aY;have HS:=zC h;have V2:=zC T4;have HO:=zC hO;clear h T4 hO hA bC;go_wp2_with fail
 go_loopg [9] len (λ gg i wr=>∃ k:Nat,k<=len/\gg=len-k/\i=.int .i64 k/\uF w0 w (w.heap.size+1) k wr)
 exact⟨0,Nat.zero_le _,rfl,rfl,zA mE⟩
 case round=>
  clear mE;obtain⟨k,hk,eD,rfl,hP⟩:=hrel
  by_cases aF:k<len
  ·obtain⟨g,off,rfl,XX,_⟩:=(zA HS).el k aF;have kP:(k:Int)<len:=(by omega);have HP:=zC hP;clear hP;go_wp2_with fail
   go_loopg [10,11] ks.length (λ gg v i wi=>∃ j:Nat,j<=ks.length/\gg=ks.length-j/\i=.int .i64 j/\v=.bool ((ks.take j).any (λ x=>(O k).kd==x))/\uF w0 w (w.heap.size+1) k wi)
   exact⟨0,Nat.zero_le _,rfl,rfl,rfl,zA HP⟩
   case round=>
    clear HP;obtain⟨j,hj,xj,rfl,rfl,Xt⟩:=hrel;obtain⟨bz,bv,tv,sv,es,mb,mt,ms,hP⟩:=Xt;have hB:=hP.below;have hW:=hP.lw;obtain⟨g',Zh,vc,aZ,c0,c1,c2,c3,c4,c5,c6,AN⟩:=((zA HS).below hB).el k aF;injection vc with vc
    injection vc with h1 h2 _
    subst h1 h2;have Yl:=hB.size
    by_cases hjk:j<ks.length
    ·have hkc:wr.cell? ⟨kb,j,none⟩=some (.int .i64 ks[j]):=(hB.cell (by simpa using KP)).trans (zA V2 j hjk);have Na:(j:Int)<ks.length:=(by omega);have du:=z6l hjk (λ x=>(O k).kd==x);have St:Hid (uF w0 w (w.heap.size+1) k wr):=zC ⟨bz,bv,tv,sv,es,mb,mt,ms,hP⟩;have sx:=zC du;clear du hP hB hW;generalize (ks.take j).any (λ x=>(O k).kd==x)=v0 at *;generalize ks[j]=x0 at *
     cases v0
     ·go_wp2_with fail;go_quiet (fail);go_wp2_with fail;go_roundg (ks.length-(j+1));exact⟨j+1,by omega,rfl,by go_num,by rw[zA sx];rfl,(zA St).drawn _⟩;omega
     ·go_wp2_with fail;go_quiet (fail);go_wp2_with fail;go_roundg (ks.length-(j+1));exact⟨j+1,by omega,rfl,by go_num,by rw[zA sx];rfl,(zA St).drawn _⟩;omega
    ·have qv:j=ks.length:=(by omega);have TZ:¬ ((j:Int)<ks.length):=(by omega);have It:(ks.take j).any (λ x=>(O k).kd==x)=true->(O k).kd∈ks:=λ he=>by
      rw[qv,List.take_length,List.any_eq_true] at he;obtain⟨x,hx,he⟩:=he;rw[beq_iff_eq.1 he];exact hx
     have Sj:=zC It;have HP:=zC hP;clear It hP qv xj hj;generalize (ks.take j).any (λ x=>(O k).kd==x)=v0 at *
     cases v0
     ·have Wt:=zC (uF.next ⟨bz,bv,tv,sv,es,mb,mt,ms,zA HP⟩);clear HP hB hW Sj;go_wp2_with fail;go_roundg (len-(k+1));exact⟨k+1,by omega,rfl,by go_num,zA Wt⟩;omega
     ·have aP:=zA HO k aF (zA Sj rfl) wr (w.heap.size+1) bz bv tv sv es mb mt ms (zA HP).base hW (by have:=(zA HP).e;omega) (by have:=(zA HP).b;omega) (by have:=(zA HP).t;omega) (by have:=(zA HP).s;omega);unfold OpV.agg at aP;have dB:=zC aP;clear aP hB hW;go_wp2_with fail;refine (zA dB).mono ?_;rintro e w3 aP;obtain⟨rfl,Ig⟩:=(zA HP).step (k':=k+1) Du aP (by omega) ⟨by have:=(zA HP).e;omega,by have:=(zA HP).b;omega,by have:=(zA HP).t;omega,by have:=(zA HP).s;omega⟩;have sD:=zC Ig;obtain⟨Ro,W6,NI,Zm,Xh,Y4,Zb,Za,zh⟩:=Ig;have HL:=zC (KU w3 (w.heap.size+1) Ro W6 NI Zm Xh Y4 Zb Za zh.lw (by have:=zh.b;omega) (by have:=zh.t;omega) (by have:=zh.s;omega));clear aP zh dB HP c0 c1 c2 c3 c4 c5 c6 Yl;go_wp2_with fail;refine (zA HL).mono ?_;rintro e w4 Gw;obtain⟨rfl,Tt⟩:=(zA sD).still Du Gw;have OC:=zC Tt;clear Gw Tt sD HL;go_wp2_with fail;go_roundg (len-(k+1));exact⟨k+1,by omega,rfl,by go_num,zA OC⟩;omega
  ·obtain⟨bz,bv,tv,sv,es,mb,mt,ms,hP⟩:=hP;have HB:=zC hP.below;clear hP;go_wp2_with fail;go_ret;exact⟨rfl,zA HB⟩
end
end Go.Proofs.YtldkpahaocjdpaaGreat
