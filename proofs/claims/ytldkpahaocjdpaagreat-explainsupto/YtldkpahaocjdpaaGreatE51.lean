/-
  The law's ownBytes: the list is written over with its mark, and three are begun at it.
-/
import Derived.Test.YtldkpahaocjdpaaGreatE50
set_option maxHeartbeats 16000000
set_option maxRecDepth 1000000
namespace Go.Proofs.YtldkpahaocjdpaaGreat
section
open Go.RowKit
theorem z9v (n:Nat):iI n=[.int .u8 (n%251:Nat)]:=rfl
theorem zl4 (mk:Nat):∀ u∈iI mk,u.oneCell'=true:=by
 intro u hu;rw[z9v,List.mem_singleton] at hu;subst hu;rfl
theorem z3h (mk:Nat):∀ u∈iI mk++iI mk,u.oneCell'=true:=by
 intro u hu;rcases List.mem_append.1 hu with h | h <;> exact zl4 mk u h
structure Mh (wA:W8)(mk:Nat)(a:O8)(n cap k:Nat)(wr:W8):Prop where
 row:∃ ys,ys.length=n-k/\wr.ownsRow 0 5 1 (.slice a n cap) n (rep (iI mk) k++ys)
 kept:zK (Value.slice a n cap).ownBlock.toList wA wr
theorem Mh.step {wA:W8}{mk g n cap k:Nat}{wr:W8}(h:Mh wA mk (some ⟨g,0,none⟩) n cap k wr)(hk:k<n):Mh wA mk (some ⟨g,0,none⟩) n cap (k+1) (wr.setCell ⟨g,k,none⟩ (.int .u8 (mk%251:Nat))):=by
 obtain⟨ys,hy,hr⟩:=h.row;have h1:=vW hr k (.int .u8 (mk%251:Nat));have e:=z3i (.int .u8 (mk%251:Nat)) k ys (by omega);refine⟨⟨ys.drop 1,by rw[List.length_drop,hy];omega,?_⟩,?_⟩
 ·rw[z9v] at h1 ⊢;rw[e] at h1;exact h1
 ·have hm:g∈(Value.slice (some ⟨g,0,none⟩) n cap).ownBlock.toList:=by simp[Value.ownBlock]
  exact h.kept.setCell (p:=⟨g,_,none⟩) (.inl hm) _
theorem zsc (w:W8)(a:O8)(n cap mk:Nat)(xs:V8)(h:w.ownsRow 0 5 1 (.slice a n cap) n xs)(hn:n<=1000)(ji:mk<=1000000000):
  Calls Tryz.prog 142 #[.slice a n cap,.int .i64 mk] w (yae w 5 (iI mk) a n cap mk):=by
 obtain⟨i0,hi,bL,aY,bg⟩:=info_parts zeo;have HL:=zC h;have xa:Mh (w.alloc (.cells #[.slice none 0 0,.slice none 0 0,.slice none 0 0,.slice none 0 0,.int .i64 0] 115)) mk a n cap 0 (w.alloc (.cells #[.slice none 0 0,.slice none 0 0,.slice none 0 0,.slice none 0 0,.int .i64 0] 115)):=⟨⟨xs,by have:=h.1;rw[Nat.mul_one] at this;exact this,h.alloc _⟩,zK.refl _ _⟩;have HA:=zC ((zK.refl (Value.slice a n cap).ownBlock.toList w).alloc (.cells #[.slice none 0 0,.slice none 0 0,.slice none 0 0,.slice none 0 0,.int .i64 0] 115));have HR:Hid ((w.alloc (.cells #[.slice none 0 0,.slice none 0 0,.slice none 0 0,.slice none 0 0,.int .i64 0] 115)).heap[w.heap.size]?=some (.cells #[.slice none 0 0,.slice none 0 0,.slice none 0 0,.slice none 0 0,.int .i64 0] 115 (0,0))):=by
  show _=_
  exact heap_alloc_new w _
 clear h;go_enter Tryz.func142,Tryz.ntmps142;go_wp2_with fail;generalize hwA:(w.alloc (.cells #[.slice none 0 0,.slice none 0 0,.slice none 0 0,.slice none 0 0,.int .i64 0] 115))=wA at *;clear hwA
 go_loopg [6] n (λ gg i wr=>∃ k:Nat,k<=n/\gg=n-k/\i=.int .i64 k/\Mh wA mk a n cap k wr)
 exact⟨0,Nat.zero_le _,rfl,rfl,xa⟩
 case round=>
  clear xa;obtain⟨k,hk,eD,rfl,AB⟩:=hrel
  by_cases aF:k<n
  ·obtain⟨ys,hy,aB⟩:=AB.row;obtain⟨g,dn,hv,_,aZ⟩:=aB.form (by omega);injection hv with e1 e2 e3
   subst e1 e3;have C8:=((zA HL).lt g rfl).2;have Im:=zif aB;have cd:=zy0 aB;obtain⟨u0,c0⟩:=cd k (by omega);have bO:=z8f aB;have HO:=zC (AB.step aF);have f0:=Im k;clear aB AB cd Im hy;go_wp2_with fail;go_roundg (n-(k+1));exact⟨k+1,by omega,rfl,by go_num,zA HO⟩;omega
  ·have P8:k=n:=(by omega);subst P8;have KT:Lm wr 0 5 (iI mk) (.slice a k cap) k:=by
    obtain⟨ys,hy,aB⟩:=AB.row;have:ys=[]:=List.eq_nil_of_length_eq_zero (by rw[hy];omega);subst this;rw[List.append_nil] at aB;exact aB
   have Mz:=zC KT;have Sc:=zC ((zA HA).trans AB.kept);have fu:=z8r (zA HL) (zA HR) (by omega) AB.kept;have Lu:=(Array.getElem?_eq_some_iff.1 fu).1;have rS:=zC fu;clear KT AB fu HA HR;go_wp2_with (at_builtin;refine zbd _ rfl _ _ 47 rfl 0 5 i0 _ 1 1 Tryz.underlying47 hi bL aY bg rfl (by decide) a k cap (rep (iI mk) k) rfl ((zA Mz).alloc _) ⟨wr.heap.size,0,none⟩ 1 1 (iI mk) rfl rfl (World.news_of_block (heap_alloc_new wr _)) (zl4 mk) (by decide) (by unfold maxLen;omega) (by omega) (Nat.zero_le _) ?_);intro a1 c1 w1 aN hpart1;have dH:Lm w1 0 5 (iI mk) (.slice a1 (k+1) c1) (k+1):=(by unfold Lm;rw[z4t];exact aN);have Nz:=((zK.refl [] wr).alloc (Obj.cells #[.int .u8 (mk%251:Nat)] 5));have xn:(wr.alloc (Obj.cells #[.int .u8 (mk%251:Nat)] 5)).heap[w.heap.size]?=_:=(Nz.block _ Lu (by simp)).trans (zA rS);have jm:=z8r (zA HL) xn (by omega) hpart1.kept;have TN:=hpart1.first (by omega) ((zA Mz).kept Nz (by simp)) dH;have iu:=zC dH;have sC:=zC hpart1;have fw:=zC TN;have wY:=zC jm;have Jf:=zC Nz;have Ew:=(Array.getElem?_eq_some_iff.1 jm).1;clear aN hpart1 dH TN jm xn Nz rS;go_wp2_with (at_builtin;refine zbd _ rfl _ _ 47 rfl 0 5 i0 _ 1 1 Tryz.underlying47 hi bL aY bg rfl (by decide) a k cap (rep (iI mk) k) rfl ((zA fw).alloc _) ⟨w1.heap.size,0,none⟩ 2 2 (iI mk++iI mk) rfl rfl (World.news_of_block (heap_alloc_new w1 _)) (z3h mk) (by decide) (by unfold maxLen;omega) (by omega) (Nat.zero_le _) ?_);intro a2 c2 w2 ep hpart2;have dD:Lm w2 0 5 (iI mk) (.slice a2 (k+2) c2) (k+2):=(by unfold Lm;rw[yb6];exact ep);have xu:=((zK.refl [] w1).alloc (Obj.cells #[.int .u8 (mk%251:Nat),.int .u8 (mk%251:Nat)] 5));have xn:(w1.alloc (Obj.cells #[.int .u8 (mk%251:Nat),.int .u8 (mk%251:Nat)] 5)).heap[w.heap.size]?=_:=(xu.block _ Ew (by simp)).trans (zA wY);have ik:=z8r (zA HL) xn (by omega) hpart2.kept;have oE:=hpart2.first (by omega) ((zA fw).kept xu (by simp)) dD;have wU:=zC dD;have mE:=zC hpart2;have mG:=zC ik
   have Cz:=zC xu;have aC:=zC oE;have g0:uI w2 0 5 (iI mk) a k cap 0 (.slice a k cap) w2:=⟨oE,zK.refl _ _,.inl rfl⟩;clear ep hpart2 dD ik xn xu oE wY Lu Ew;go_wp2_with fail;have ME:=zC (λ (a3:O8) (c3:Nat) (w3:W8) (hg:uI w2 0 5 (iI mk) a k cap 64 (.slice a3 (k+64) c3) w3)=>E6.of (zA Sc) (zA Mz) (zA Jf) (zA Cz) (zA sC) (zA iu) (zA mE) (zA wU) hg hn ji);clear Sc Mz Jf Cz sC iu mE wU
   go_loopg [9,10] 64 (λ gg v3 i wj=>∃ (j:Nat) (a3:O8) (c3:Nat),j<=64/\gg=64-j/\v3=.slice a3 (k+j) c3/\i=.int .i64 j/\uI w2 0 5 (iI mk) a k cap j (.slice a3 (k+j) c3) wj)
   exact⟨0,a,cap,Nat.zero_le _,rfl,rfl,rfl,g0⟩
   case round=>
    clear g0;obtain⟨j,a3,c3,hj,xj,rfl,rfl,mP⟩:=hrel;have hr:=z8r (zA HL) (zA mG) (by omega) mP.kept;have HG:=zC mP
    by_cases hlj:j<64
    ·clear hr mP;go_wp2_with (at_builtin;refine zbd _ rfl _ _ 47 rfl 0 5 i0 _ 1 1 Tryz.underlying47 hi bL aY bg rfl (by decide) a3 (k+j) c3 (rep (iI mk) (k+j)) rfl ((zA HG).lm.alloc _) ⟨wr.heap.size,0,none⟩ 1 1 (iI mk) rfl rfl (World.news_of_block (heap_alloc_new wr _)) (zl4 mk) (by decide) (by unfold maxLen;omega) (by omega) (Nat.zero_le _) ?_);intro a4 c4 w4 mV hpart4;have rX:Lm w4 0 5 (iI mk) (.slice a4 (k+j+1) c4) (k+j+1):=(by unfold Lm;rw[z4t];exact mV);have VT:=zC (((zA HG).LX ((zK.refl [] wr).alloc _)).one (zA aC) hpart4 rX);clear mV hpart4 rX;go_wp2_with fail;go_roundg (64-(j+1));exact⟨j+1,a4,c4,by omega,rfl,rfl,by go_num,zA VT⟩;omega
    ·have P4:j=64:=(by omega);subst P4;have HO:=zC (zA ME a3 c3 wr mP);have HN:=zC (zds hr (show (115:TypeId)≠5 by decide));obtain⟨r0,U5⟩:=zB hr 0;obtain⟨r1,GM⟩:=zB hr 1;obtain⟨r2,U6⟩:=zB hr 2;obtain⟨r3,U7⟩:=zB hr 3;obtain⟨r4,Rq⟩:=zB hr 4;clear hr mP ME HL;go_wp2_with fail;refine bodyPost_ret (v:=.agg #[.slice a k cap,.slice a1 (k+1) c1,.slice a2 (k+2) c2,.slice a3 (k+64) c3,.int .i64 mk]) (by simp[results,Tryz.results142,go_sem,r0,r1,r2,r3,r4]) rfl ?_;refine⟨a1,a2,a3,c1,c2,c3,rfl,(zA HO).dQ (x:=w.heap.size) ?_ L9 (zA HN)⟩;have hm:w.heap.size∈[w.heap.size]:=List.mem_singleton.2 rfl;exact (((((zK.refl _ wr).setCell (p:=⟨w.heap.size,0,none⟩) (.inl hm) _).setCell (p:=⟨w.heap.size,1,none⟩) (.inl hm) _).setCell (p:=⟨w.heap.size,2,none⟩) (.inl hm) _).setCell (p:=⟨w.heap.size,3,none⟩) (.inl hm) _).setCell (p:=⟨w.heap.size,4,none⟩) (.inl hm) _
end
section
open Go.RowKit
theorem z2n:(Tryz.prog.info? 115).map (λ i=>(i.zero,i.size,i.bytes))=some (some (.agg #[.slice none 0 0,.slice none 0 0,.slice none 0 0,.slice none 0 0,.int .i64 0]),5,104):=by kernel_rfl
theorem zvv (w:W8)(b:Nat)(bz bv tv sv:Value)(ms:List MB)(a:O8)(n cap:Nat)(xs:V8)(hblk:w.heap[b]?=some (.cells #[bz,bv,tv,sv] 69 (0,0)))(hS:jS w (b+1) 115 5 iI bv ms)(h:w.ownsRow 0 5 1 (.slice a n cap) n xs)(hn:n<=1000)(qp:∀ m∈ms,∀ g∈(Value.slice a n cap).ownBlock.toList,g∉m.blocks)(hlen:ms.length<=100000000):
  Calls Tryz.prog 92 #[.pointer (some ⟨b,1,none⟩),.slice a n cap] w (yc6 w b (λ v'=>#[bz,v',tv,sv]) 115 5 iI bv ms (.slice a n cap)):=by
 obtain⟨i0,hi,bL,aY,bg⟩:=info_parts z2n;obtain⟨ap,cp,rfl⟩:=zD hS.row;obtain⟨x3,ER⟩:=zB hblk 1;have mD:=zC hblk;have HS:=zC hS;have HF:=zC qp;have HH:=zC h;clear hS qp h hblk;go_enter Tryz.func92,Tryz.ntmps92;go_wp2_with fail;refine (zsc w a n cap ms.length xs (zA HH) hn (by omega)).mono ?_;rintro e w1 ⟨a1,a2,a3,c1,c2,c3,rfl,hO⟩;have lK:w1.heap[b]?=some (.cells #[bz,.slice ap ms.length cp,tv,sv] 69 (0,0)):=yK (zA mD) hO.kept (λ x hx=>.inr (yH (zA HH) (by decide) x hx));have J7:=(zA HS).kept hO.kept (λ x hx=>.inr (yH (zA HH) (by decide) x hx)) (λ x hx=>.inr (λ m hm=>zA HF m hm x hx));have aB:=J7.row;obtain⟨y3,RJ⟩:=zB lK 1;have uZ:=(Array.getElem?_eq_some_iff.1 lK).1;have kW:zK [] w1 (((w1.alloc (Obj.cells #[.slice a n cap,.slice a1 (n+1) c1,.slice a2 (n+2) c2,.slice a3 (n+64) c3,.int .i64 (ms.length:Nat)] 115)).alloc (Obj.cells #[.slice a n cap,.slice a1 (n+1) c1,.slice a2 (n+2) c2,.slice a3 (n+64) c3,.int .i64 (ms.length:Nat)] 115)).drew):=(((zK.refl [] w1).alloc _).alloc _).drew;have s1:Hid ((((w1.alloc (Obj.cells #[.slice a n cap,.slice a1 (n+1) c1,.slice a2 (n+2) c2,.slice a3 (n+64) c3,.int .i64 (ms.length:Nat)] 115)).alloc (Obj.cells #[.slice a n cap,.slice a1 (n+1) c1,.slice a2 (n+2) c2,.slice a3 (n+64) c3,.int .i64 (ms.length:Nat)] 115)).drew).ownsRow (b+1) 115 5 (.slice ap ms.length cp) ms.length (ms.flatMap MB.cells)):=(aB.alloc _).alloc _;have s2:Hid (∀ j u,([.slice a n cap,.slice a1 (n+1) c1,.slice a2 (n+2) c2,.slice a3 (n+64) c3,.int .i64 (ms.length:Nat)]:V8)[j]?=some u->(((w1.alloc (Obj.cells #[.slice a n cap,.slice a1 (n+1) c1,.slice a2 (n+2) c2,.slice a3 (n+64) c3,.int .i64 (ms.length:Nat)] 115)).alloc (Obj.cells #[.slice a n cap,.slice a1 (n+1) c1,.slice a2 (n+2) c2,.slice a3 (n+64) c3,.int .i64 (ms.length:Nat)] 115)).drew).cell? ((⟨w1.heap.size+1,0,none⟩:Addr).add j)=some u):=by
  have:=heap_alloc_new (w1.alloc (Obj.cells #[.slice a n cap,.slice a1 (n+1) c1,.slice a2 (n+2) c2,.slice a3 (n+64) c3,.int .i64 (ms.length:Nat)] 115)) (Obj.cells #[.slice a n cap,.slice a1 (n+1) c1,.slice a2 (n+2) c2,.slice a3 (n+64) c3,.int .i64 (ms.length:Nat)] 115);rw[World.size_alloc] at this;exact World.news_of_block (w:=((w1.alloc _).alloc _).drew) this
 have s3:Hid (∀ u∈([.slice a n cap,.slice a1 (n+1) c1,.slice a2 (n+2) c2,.slice a3 (n+64) c3,.int .i64 (ms.length:Nat)]:V8),u.oneCell'=true):=by
  show ∀ u∈_,_
  intro u hu;simp at hu;rcases hu with rfl | rfl | rfl | rfl | rfl <;> rfl
 have s4:Hid (ms.length+1<=maxLen):=by show _<=_;unfold maxLen;omega
 have s5:Hid ((ms.length+1)*104<=140737488355328):=by show _<=_;omega
 have s6:Hid (b+1<=(((w1.alloc (Obj.cells #[.slice a n cap,.slice a1 (n+1) c1,.slice a2 (n+2) c2,.slice a3 (n+64) c3,.int .i64 (ms.length:Nat)] 115)).alloc (Obj.cells #[.slice a n cap,.slice a1 (n+1) c1,.slice a2 (n+2) c2,.slice a3 (n+64) c3,.int .i64 (ms.length:Nat)] 115)).drew).heap.size):=by show _<=_;simp;omega
 have s8:=zC (λ (w5:W8) (g dn:Nat) (hg:(((w1.alloc (Obj.cells #[.slice a n cap,.slice a1 (n+1) c1,.slice a2 (n+2) c2,.slice a3 (n+64) c3,.int .i64 (ms.length:Nat)] 115)).alloc (Obj.cells #[.slice a n cap,.slice a1 (n+1) c1,.slice a2 (n+2) c2,.slice a3 (n+64) c3,.int .i64 (ms.length:Nat)] 115)).drew).grownBy w5 (Value.slice ap ms.length cp).ownBlock) (ay:w5.ownsRow (b+1) 115 5 (.slice (some ⟨g,0,none⟩) (ms.length+1) dn) (ms.length+1) (ms.flatMap MB.cells++[.slice a n cap,.slice a1 (n+1) c1,.slice a2 (n+2) c2,.slice a3 (n+64) c3,.int .i64 (ms.length:Nat)])) (du:(Value.slice ap ms.length cp).ownBlock=some g\/∀ g',(Value.slice (some ⟨g,0,none⟩) (ms.length+1) dn).ownBlock=some g'->(((w1.alloc (Obj.cells #[.slice a n cap,.slice a1 (n+1) c1,.slice a2 (n+2) c2,.slice a3 (n+64) c3,.int .i64 (ms.length:Nat)] 115)).alloc (Obj.cells #[.slice a n cap,.slice a1 (n+1) c1,.slice a2 (n+2) c2,.slice a3 (n+64) c3,.int .i64 (ms.length:Nat)] 115)).drew).heap.size<=g')=>z6s (j:=1) (a':=some ⟨g,0,none⟩) (c':=dn) (m:=⟨.slice a n cap,.slice a1 (n+1) c1,.slice a2 (n+2) c2,.slice a3 (n+64) c3,ms.length⟩) (A':=#[bz,.slice (some ⟨g,0,none⟩) (ms.length+1) dn,tv,sv]) lK J7 hO kW hg ay du (by decide) (by decide) (by decide) (by simp));have Oi:=zC hO.eI;clear hO J7 aB lK kW mD HS HF HH x3 ER;go_wp2_with fail
 go_region_law (refine step_append_lies _ rfl (.tmp 16) (.tmp 18) 63 rfl (b+1) 115 i0 (.agg #[.slice none 0 0,.slice none 0 0,.slice none 0 0,.slice none 0 0,.int .i64 0]) 5 104 Tryz.underlying63 hi bL aY bg rfl (by decide) (Value.slice ap ms.length cp) ms.length (ms.flatMap MB.cells) (by simp[Act.eval]) (zA s1) ⟨w1.heap.size+1,0,none⟩ 1 1 [.slice a n cap,.slice a1 (n+1) c1,.slice a2 (n+2) c2,.slice a3 (n+64) c3,.int .i64 (ms.length:Nat)] (by simp[Act.eval]) rfl (zA s2) (zA s3) (by decide) (zA s4) (zA s5) (zA s6) _ rfl ?_;intro g dn w5 aq aU bW hlt5;obtain⟨e1,e2,e3,e4,e5⟩:=zA s8 w5 g dn aU aq (bW.imp id (λ e g' e'=>by rw[<-e];exact Nat.le_of_eq (by simpa[Value.ownBlock] using e')));obtain⟨z0,na⟩:=zB e5 1)
 all_goals
  have E1:=zC e1;have E2:=zC e2;have E3:=zC e3;have E4:=zC e4;clear s1 s2 s3 s4 s5 s6 s8 e1 e2 e3 e4 e5 aq aU;go_wp2_with fail;go_end0;exact⟨rfl,_,_,zA E2,zA E1,zA E3,zA Oi,zA E4⟩
end
section
open Go.RowKit Go.Maps
variable {w:W8}
theorem zkd {base:Nat}{a:O8}{m c:Nat}{bs:List Nat}(h:w.ownsRow base 5 1 (.slice a m c) m (bs.map u8c))(hm:m=bs.length):(convert 47 9 (.slice a m c)).run Tryz.prog w=.ok (.string (strOfNums (bs.map λ (x:Nat)=>(x:Int)%256))) w:=by
 cases bs with
 | nil=>
  subst hm
  cases a with
  | none=>exact run_convert_bytes_nil _ 47 5 Tryz.underlying47 Tryz.underlying5 _ _ _ Tryz.underlying9
  | some p=>
   obtain⟨g,o,t⟩:=p;rcases h.2 with⟨h0,_⟩ | ⟨g',cap,cur,h0,_⟩
   ·cases h0
   ·injection h0 with e1 e2 e3
    injection e1 with e1
    injection e1 with e1 e4 e5
    subst e1 e4 e5;exact run_convert_bytes_arg _ 47 5 Tryz.underlying47 Tryz.underlying5 _ 0 _ _ [] rfl (λ i hi=>by simp at hi) _ Tryz.underlying9
 | cons x r=>
  obtain⟨g,cap,hv,_,_⟩:=h.form (by rw[hm];simp);injection hv with e1 e2 e3
  subst e1 e3;refine run_convert_bytes_arg _ 47 5 Tryz.underlying47 Tryz.underlying5 _ 0 _ _ _ (by rw[List.length_map];exact hm.symm) (λ i hi=>?_) _ Tryz.underlying9;have ve:i<(x::r).length:=by omega
  have:=World.ownsRow.cellAt h i (by omega);rw[Nat.zero_add,this,List.getD_eq_getElem?_getD,List.getElem?_map,List.getElem?_map,List.getElem?_eq_getElem ve];rfl
def YB (w:W8)(b:Nat)(v d:Int)(s:Value):Prop:=w.heap[b]?=some (.cells #[.int .i64 v,.int .i64 d,s] 49 (0,0))
variable {s:Value} {v d:Int} {b:Nat}
theorem YB.cells (h:YB w b v d s):w.cell? ⟨b,0,none⟩=some (.int .i64 v)/\w.cell? ⟨b,1,none⟩=some (.int .i64 d)/\w.cell? ⟨b,2,none⟩=some s:=⟨(zB h 0).1,(zB h 1).1,(zB h 2).1⟩
variable {w':W8}
theorem YB.below (h:YB w b v d s)(k:Below w.heap.size w w'):YB w' b v d s:=(k.block b (Array.getElem?_eq_some_iff.1 h).1).trans h
theorem YB.kept (h:YB w b v d s){B:List Nat}(k:zK B w w')(hb:b∉B):YB w' b v d s:=(k.block b (Array.getElem?_eq_some_iff.1 h).1 hb).trans h
theorem YB.new (w:W8)(v d:Int)(s:Value):YB (w.alloc (.cells #[.int .i64 v,.int .i64 d,s] 49)) w.heap.size v d s:=heap_alloc_new w _
theorem zo2 (w:W8)(b:Nat)(bz bv tv sv:Value)(es:List PE)(mb mt ms:List MB)(h:LW w b bz bv tv sv es mb mt ms)(x y:Nat)(ps:B8)(lo:Nat)(hp:pt ps x y w lo)(hlen:mb.length+2<=100000000)(a bb:Int)(s t u:B8)(at_:O8)(nt ct:Nat)(hs:s.size<=2000000):
  Calls Tryz.prog 50 #[.pointer (some ⟨b,0,none⟩),.agg #[.int .i64 5,.int .i64 a,.int .i64 bb,.string s,.string t,.string u,.slice at_ nt ct],.agg #[.pointer (some ⟨x,0,none⟩),.pointer (some ⟨y,0,none⟩),.string ps]] w (z0c w b bz bv tv sv es mb mt ms):=by
 have b0:=((Below.refl w.heap.size w).alloc L9 (.cells #[.int .i64 5,.int .i64 a,.int .i64 bb,.string s,.string t,.string u,.slice at_ nt ct] 26)).alloc (by simp) (.cells #[.pointer (some ⟨x,0,none⟩),.pointer (some ⟨y,0,none⟩),.string ps] 112);have h0:=hp.below b0;have Uf:((w.alloc (.cells #[.int .i64 5,.int .i64 a,.int .i64 bb,.string s,.string t,.string u,.slice at_ nt ct] 26)).alloc (.cells #[.pointer (some ⟨x,0,none⟩),.pointer (some ⟨y,0,none⟩),.string ps] 112)).heap[w.heap.size+1]?=some (.cells #[.pointer (some ⟨x,0,none⟩),.pointer (some ⟨y,0,none⟩),.string ps] 112 (0,0)):=by
  have:=heap_alloc_new (w.alloc (.cells #[.int .i64 5,.int .i64 a,.int .i64 bb,.string s,.string t,.string u,.slice at_ nt ct] 26)) (.cells #[.pointer (some ⟨x,0,none⟩),.pointer (some ⟨y,0,none⟩),.string ps] 112);rw[World.size_alloc] at this;exact this
 have Ud:((w.alloc (.cells #[.int .i64 5,.int .i64 a,.int .i64 bb,.string s,.string t,.string u,.slice at_ nt ct] 26)).alloc (.cells #[.pointer (some ⟨x,0,none⟩),.pointer (some ⟨y,0,none⟩),.string ps] 112)).heap[w.heap.size]?=some (.cells #[.int .i64 5,.int .i64 a,.int .i64 bb,.string s,.string t,.string u,.slice at_ nt ct] 26 (0,0)):=by
  rw[Below.heap_alloc _ _ _ (by simp)];exact heap_alloc_new w _
 have hC:=zk9 h0 s hs bb;have bC:w.heap.size+2=((w.alloc (.cells #[.int .i64 5,.int .i64 a,.int .i64 bb,.string s,.string t,.string u,.slice at_ nt ct] 26)).alloc (.cells #[.pointer (some ⟨x,0,none⟩),.pointer (some ⟨y,0,none⟩),.string ps] 112)).heap.size:=by simp
 have OY:=zC bC;have iN:=zC hp.ok;clear hp bC;go_enter Tryz.func50,Tryz.ntmps50;go_wp2_with fail;refine hC.mono ?_;rintro e EP ⟨rp1,AJ,zq,nX,CQ⟩;obtain⟨v1,d1,a1,m1,c1,k1,rfl⟩:=nX.shape;have bC:=zA OY;have aL:=CQ.alloc CQ.size (.cells #[.int .i64 v1,.int .i64 d1,.slice a1 m1 c1] 49);have y1:=YB.new EP v1 d1 (.slice a1 m1 c1);have z1:(EP.alloc (.cells #[.int .i64 v1,.int .i64 d1,.slice a1 m1 c1] 49)).heap.size=EP.heap.size+1:=by simp
 have Ll:=(aL.block (w.heap.size+1) (by omega)).trans Uf;have Lg:=(aL.block w.heap.size (by omega)).trans Ud;have h1:=h0.below aL;have gz:=b0.trans (aL.mono (by omega));have sC:=zC (And.intro AJ (And.intro zq nX));have MO:=zC (And.intro z1 CQ.size);have O2:=zC y1;have Cr:=zC ((Below.refl EP.heap.size EP).alloc L9 (.cells #[.int .i64 v1,.int .i64 d1,.slice a1 m1 c1] 49));have fN:=zC gz;have H1:=zC h1;have CH:=zC Ll;have CE:=zC Lg;clear hC Uf Ud b0 h0 aL CQ Ll Lg gz h1 AJ zq nX y1 z1 bC;go_upto_region 25 with fail;generalize (EP.alloc (.cells #[.int .i64 v1,.int .i64 d1,.slice a1 m1 c1] 49))=w1 at *;obtain⟨p0,Cj⟩:=zB (zA CH) 0;obtain⟨o2,Rm⟩:=zB (zA CE) 2;obtain⟨o3,Rn⟩:=zB (zA CE) 3;have S9:=zk9 (zA H1) s hs bb;have dY:w.heap.size+1<w1.heap.size:=(Array.getElem?_eq_some_iff.1 (zA CH)).1;generalize oB:EP.heap.size=A1 at O2 ⊢;have IS:=zC oB;clear oB;go_wp2_with fail;refine S9.mono ?_;rintro e He ⟨rp2,AK,qm,nY,CR⟩;obtain⟨v2,d2,a2,m2,c2,k2,rfl⟩:=nY.shape;have aK:=CR.alloc CR.size (.cells #[.int .i64 v2,.int .i64 d2,.slice a2 m2 c2] 49);have y2:=YB.new He v2 d2 (.slice a2 m2 c2);have z2:(He.alloc (.cells #[.int .i64 v2,.int .i64 d2,.slice a2 m2 c2] 49)).heap.size=He.heap.size+1:=by simp
 have mE:=zC (And.intro AK (And.intro qm nY));have MP:=zC (And.intro z2 CR.size);have yq:=zC y2;have E7:=zC ((Below.refl He.heap.size He).alloc L9 (.cells #[.int .i64 v2,.int .i64 d2,.slice a2 m2 c2] 49));have SE:=zC ((zA O2).below aK);have H2:=zC ((zA H1).below aK);have Jk:=zC ((aK.block (w.heap.size+1) dY).trans (zA CH));have Fu:=zC ((aK.block w.heap.size (by omega)).trans (zA CE));have ir:=zC ((zA fN).trans (aK.mono (zA fN).size));have E8:=zC aK;clear S9 aK CR AK qm nY y2 z2 p0 Cj o2 Rm o3 Rn H1 CH CE O2;go_upto_region 26 with fail;generalize (He.alloc (.cells #[.int .i64 v2,.int .i64 d2,.slice a2 m2 c2] 49))=w2 at *;obtain⟨q1,Bc⟩:=zB (zA Jk) 1;obtain⟨r2,U6⟩:=zB (zA Fu) 2;obtain⟨r3,U7⟩:=zB (zA Fu) 3;have J2:=zre (zA H2) s hs bb;generalize B6:He.heap.size=A2 at yq ⊢;have DQ:=zC B6;clear B6;go_wp2_with fail;refine J2.mono ?_;rintro e xy ⟨S,v,n,rfl,dA,bc,uy,CU⟩;obtain⟨v3,d3,a3,m3,c3,rfl⟩:=uy.shape;obtain⟨AJ,zq,nX⟩:=zA sC;obtain⟨AK,qm,nY⟩:=zA mE;obtain⟨e1,e2,e3,bs,rW,dH,fq,DG,GN⟩:=(z15 (zA iN) AJ zq dA bc nX uy).both;obtain⟨e4,e5,e6,bs',lh,dD,Au,Bd,Be⟩:=(z15 (zA iN) AK qm dA bc nY uy).both;have e1:=e1.symm;have e2:=e2.symm;have e3:=e3.symm;have e4:=e4.symm;have e5:=e5.symm;have e6:=e6.symm;subst e1 e2 e3 e4 e5 e6;unfold zir;have cI:=CU.alloc CU.size (.cells #[.int .i64 v3,.int .i64 d3,.slice a3 m3 c3] 49);have y3:=YB.new xy v3 d3 (.slice a3 m3 c3);have z3:(xy.alloc (.cells #[.int .i64 v3,.int .i64 d3,.slice a3 m3 c3] 49)).heap.size=xy.heap.size+1:=by simp
 have QT:=CU.size;have aY:=zA MO;have bg:=zA MP;have bC:=zA OY;have oB:=zA IS;have B6:=zA DQ;have lZ:=(zA Cr).trans (((zA E8).mono (zA Cr).size).trans (cI.mono (Nat.le_trans (zA Cr).size (zA E8).size)));have Ko:=(zA E7).trans (cI.mono (zA E7).size);have r1:=zJ (zG (base':=w.heap.size) DG (by omega)) lZ (λ g e=>(DG.lt g e).2);have Rp:=zJ (zG (base':=w.heap.size) Bd (by omega)) Ko (λ g e=>(Bd.lt g e).2);have U2:=zJ GN ((Below.refl xy.heap.size xy).alloc L9 (.cells #[.int .i64 v3,.int .i64 d3,.slice a3 m3 c3] 49)) (λ g e=>(GN.lt g e).2);have U3:=zJ Be ((Below.refl xy.heap.size xy).alloc L9 (.cells #[.int .i64 v3,.int .i64 d3,.slice a3 m3 c3] 49)) (λ g e=>(Be.lt g e).2);have d1:∀ g∈(Value.slice a1 m1 c1).ownBlock.toList,w.heap.size<=g/\g<A1:=λ g hg=>⟨(r1.lt g (by simpa using hg)).1,by have:=(DG.lt g (by simpa using hg)).2;omega⟩
 have d2:∀ g∈(Value.slice a2 m2 c2).ownBlock.toList,A1+1<=g/\g<A2:=λ g hg=>⟨by have:=(Bd.lt g (by simpa using hg)).1;omega,by have:=(Bd.lt g (by simpa using hg)).2;omega⟩
 have C4:=zkd r1 dH;have zw:=zkd Rp dD;have zx:=zkd U2 fq;have Kz:=zkd U3 Au;have hX:strOfNums (bs'.map λ (x:Nat)=>(x:Int)%256)=strOfNums (bs.map λ (x:Nat)=>(x:Int)%256):=by
  have:=Kz.symm.trans zx;injection this with this
  injection this
 rw[hX] at zw;have UH:=(zA SE).below cI;have UI:=(zA yq).below cI;have yg:=zC ((zA ir).trans (cI.mono (zA ir).size));have V6:=zC (h.below ((zA ir).trans (cI.mono (zA ir).size)));have sy:=zC h;have OK:=zC r1;have MH:=zC Rp;have Ms:=zC d1;have Mt:=zC d2;have Zd:m1<=1000:=by omega
 have Ze:m2<=1000:=by omega
 have Js:=zC (show w.heap.size+2<=A1/\A1+1<=A2/\A2+1<=xy.heap.size/\(xy.alloc (.cells #[.int .i64 v3,.int .i64 d3,.slice a3 m3 c3] 49)).heap.size=xy.heap.size+1/\b<w.heap.size from ⟨by omega,by omega,by omega,z3,h.lt⟩);have FB:=zC UH;have FC:=zC UI;have FD:=zC y3;have RZ:=zC (And.intro C4 (And.intro zw zx));clear C4 zw zx Kz hX UH UI y3 r1 Rp U2 U3 DG Bd GN Be d1 d2 AJ zq nX AK qm nY sC mE uy dA bc J2 fN ir E8 Cr E7 q1 Bc r2 U6 r3 U7 h cI CU lZ Ko bC OY dH dD fq Au aY bg QT z3 oB B6 IS DQ MO MP SE yq H2 Jk Fu dY rW lh;go_upto_region 27 with fail;generalize (xy.alloc (.cells #[.int .i64 v3,.int .i64 d3,.slice a3 m3 c3] 49))=w3 at *;generalize strOfNums (bs.map λ (x:Nat)=>(x:Int)%256)=X at *;generalize xy.heap.size=A3 at *;obtain⟨C4,zw,zx⟩:=zA RZ;obtain⟨Vh,Vi,Vj⟩:=(zA FB).cells;obtain⟨Vk,Vl,NM⟩:=(zA FC).cells;obtain⟨Vm,Vn,Zr⟩:=(zA FD).cells;go_upto_region 28 with fail;clear C4 zw zx RZ Vh Vi Vk Vl NM Vm Vn Zr;have Dc:=zA V6;have Ji:=zC (Dc.below B9.drew);have iM:=zC ((zA yg).drew);have qp:∀ m∈mb,∀ g∈(Value.slice a1 m1 c1).ownBlock.toList,g∉m.blocks:=λ m hm g hg Ad=>by
  have:=((zA sy).bs.each m hm).lt g Ad;have:=(zA Ms g hg).1;omega
 have Cs:=zC (zvv w3.drew b bz bv tv sv mb a1 m1 c1 _ (zA Ji).bp (zA Ji).bs (zG (zA OK) (Nat.zero_le _)) Zd qp (by omega));clear Dc qp;refine wp_region_held_drew (S:=λ V=>V.cell? ⟨A1,2,none⟩=some (.slice a1 m1 c1)) (by kernel_rfl) Vj (λ hHeld=>?_);clear Vj;refine K9 0 (.pointer (some ⟨b,0,none⟩)) rfl (Or.inl ⟨by rfl,λ V _=>by go_simp⟩) hHeld ?_;refine K9 1 (.pointer (some ⟨b,0,none⟩)) rfl (Or.inl ⟨by rfl,λ V _=>by go_simp⟩) hHeld ?_;refine K9 2 (.pointer (some ⟨b,1,none⟩)) rfl (Or.inl ⟨by rfl,λ V _=>by go_simp⟩) hHeld ?_;refine K9 3 (.pointer (some ⟨A1,2,none⟩)) rfl (Or.inl ⟨by rfl,λ V _=>by go_simp⟩) hHeld ?_;refine K9 4 (.slice a1 m1 c1) rfl (Or.inl ⟨by rfl,λ V hV=>by go_simp⟩) hHeld ?_;refine wpAnyH_ready (rs:=[5]) (by kernel_rfl) (by simp) ?_;refine AllReadyH.cons rfl (λ K hK=>?_) AllReadyH.nil
 go_simp
 refine (zA Cs).mono ?_;rintro e w5 ⟨rfl,O9,m5,Bi⟩;have bj:=zA Js;have vk:=(zA sy).sH;have my:=Bi.kept.size;have A8:∀ A,A1<=A->A∉b::(bv.ownBlock.toList++(Value.slice a1 m1 c1).ownBlock.toList):=λ A hA hm=>by
  rcases List.mem_cons.1 hm with rfl | hm
  ·omega
  ·rcases List.mem_append.1 hm with hm | hm
   ·have:=((zA sy).bs.row.lt A (by simpa using hm)).2;omega
   ·have:=(zA Ms A hm).2;omega
 have GI:=((zA FB).below B9.drew).kept Bi.kept (A8 A1 L9);have GJ:=((zA FC).below B9.drew).kept Bi.kept (A8 A2 (by omega));have LN:=((zA FD).below B9.drew).kept Bi.kept (A8 A3 (by omega));have rh:w5.ownsRow 0 5 1 (.slice a2 m2 c2) m2 (bs'.map u8c):=by
  refine zZ (zG (zA MH) (Nat.zero_le _)) (λ g hg=>Bi.kept.block g ((zA MH).lt g hg).2 (A8 g ?_));have:=(zA Mt g (by simpa using hg)).1;omega
 have Ac:∀ m∈mb++[m5],∀ g∈(Value.slice a2 m2 c2).ownBlock.toList,g∉m.blocks:=λ m hm g hg Ad=>by
  have hd:=zA Mt g hg;rcases List.mem_append.1 hm with hm | hm
  ·have:=((zA sy).bs.each m hm).lt g Ad;omega
  ·rw[List.mem_singleton.1 hm] at Ad;rcases Bi.eI g Ad with h | h
   ·have:=(zA Ms g h).2;omega
   ·have h:w3.heap.size<=g:=h;omega
 have Tb:=zvv w5.drew b bz O9 tv sv (mb++[m5]) a2 m2 c2 _ Bi.bp (Bi.book.below B9.drew) rh Ze Ac (by rw[List.length_append,List.length_singleton];omega);have RY:=zC Tb;have SI:=zC Bi;have JF:=zC GI;have JG:=zC GJ;have JH:=zC LN;have LL:=GJ.cells.2.2;have Hu:=zC Bi.row;refine hK.out _ _ GI.cells.2.2 (λ _=>?_);clear hK K Bi GI GJ LN rh Ac Tb Cs FB FC FD hHeld bj vk my A8;refine wpAnyH_done (by kernel_rfl) ?_ _;go_upto_region 29 with fail;refine wp_region_held_drew (S:=λ V=>V.cell? ⟨A2,2,none⟩=some (.slice a2 m2 c2)) (by kernel_rfl) LL (λ hHeld=>?_);clear LL;refine K9 0 (.pointer (some ⟨b,0,none⟩)) rfl (Or.inl ⟨by rfl,λ V _=>by go_simp⟩) hHeld ?_;refine K9 1 (.pointer (some ⟨b,0,none⟩)) rfl (Or.inl ⟨by rfl,λ V _=>by go_simp⟩) hHeld ?_;refine K9 2 (.pointer (some ⟨b,1,none⟩)) rfl (Or.inl ⟨by rfl,λ V _=>by go_simp⟩) hHeld ?_;refine K9 3 (.pointer (some ⟨A2,2,none⟩)) rfl (Or.inl ⟨by rfl,λ V _=>by go_simp⟩) hHeld ?_;refine K9 4 (.slice a2 m2 c2) rfl (Or.inl ⟨by rfl,λ V hV=>by go_simp⟩) hHeld ?_;refine wpAnyH_ready (rs:=[5]) (by kernel_rfl) (by simp) ?_;refine AllReadyH.cons rfl (λ K hK=>?_) AllReadyH.nil
 go_simp
 refine (zA RY).mono ?_;rintro e w6 ⟨rfl,SO,m6,vu⟩;have GO:NN w5 b (λ v'=>#[bz,v',tv,sv]) 115 5 iI O9 (mb++[m5]) (.slice a2 m2 c2) SO m6 w6:=⟨vu.bp,vu.book,((zK.refl _ w5).drew).trans vu.kept,vu.eI,vu.row⟩;have bj:=zA Js;have vk:=(zA sy).lt;have DB:∀ A,A=A1\/A=A2\/A=A3->A∉b::(O9.ownBlock.toList++(Value.slice a2 m2 c2).ownBlock.toList):=λ A hA hm=>by
  rcases List.mem_cons.1 hm with rfl | hm
  ·omega
  ·rcases List.mem_append.1 hm with hm | hm
   ·rcases zA Hu A hm with hm | hm
    ·have:=((zA sy).bs.row.lt A (by simpa using hm)).2;omega
    ·have hm:w3.heap.size<=A:=hm;omega
   ·have:=zA Mt A hm;omega
 have LK:=(zA JF).kept GO.kept (DB A1 (.inl rfl));have LM:=(zA JG).kept GO.kept (DB A2 (.inr (.inl rfl)));have LO:=(zA JH).kept GO.kept (DB A3 (.inr (.inr rfl)));obtain⟨Vh,Vi,-⟩:=LK.cells;obtain⟨Vk,Vl,NM⟩:=LM.cells;obtain⟨Vm,Vn,-⟩:=LO.cells;have aE:=z84 (zA iM) (zA SI) GO (zA Ms) (λ g hg=>by have:=(zA Mt g hg).1;omega);have HE:=zC ((zA sy).O5 aE.1 GO.bp GO.book aE.2);refine hK.out _ _ NM (λ _=>?_);clear hK K aE GO vu SI JF JG JH LK LM LO hHeld bj vk DB RY Hu NM;refine wpAnyH_done (by kernel_rfl) ?_ _;go_wp2_with fail;go_ret;exact⟨by simp,SO,tv,sv,_,mt,ms,(zA HE).1,by simp,by omega,by omega,(zA HE).2⟩
end
end Go.Proofs.YtldkpahaocjdpaaGreat
