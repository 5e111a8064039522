/-
  The program's reader: rule, at every text and place.
-/
import Derived.Test.YtldkpahaocjdpaaGreatC15
set_option maxHeartbeats 16000000
set_option maxRecDepth 1000000
namespace Go.Proofs.YtldkpahaocjdpaaGreat
section
open Go.RowKit
variable {fr:Nat × Nat} {e:TypeId} {c:Array Value} {n:Nat} {w:W8}
theorem zf9 {e':TypeId}(hb:w.heap[n]?=some (.cells c e fr))(eI:e≠e'):iq w e' n:=by
 intro c' fr' h;rw[hb] at h;injection h with h
 injection h with _ h _
 exact eI h
variable {w':W8}
theorem yX {B:List Nat}(hb:w.heap[n]?=some (.cells c e fr))(k:zN B w w')(hB:∀ x∈B,x≠n\/iq w e x):w'.heap[n]?=some (.cells c e fr):=by
 rw[k.block n (Array.getElem?_eq_some_iff.1 hb).1 (λ hm=>by
  rcases hB n hm with h1 | h1
  ·exact h1 rfl
  ·exact h1 _ _ hb)]
 exact hb
def z2x (w:W8)(b:Nat)(s:B8)(num:Nat)(mv:Value)(n0:Nat)(P:Bool × Nat × vX × List xU)(e:Ending)(w':W8):Prop:=
 ∃ (x:B8) (a:O8) (n c:Nat) (a':O8) (n' c':Nat) (mi:Value),e=.returned (.tuple #[.agg #[.string x,.slice a n c,.slice a' n' c'],.bool P.1])/\zN (b::mv.ownBlock.toList) w w'/\ic w' b s P.2.1 num mi/\(∀ k,mi.ownBlock=some k->mv.ownBlock=some k\/w.heap.size<=k) /\
  (P.1=true->∃ (bs:List (vJ × Value)) (ms':List (xU × Value)),x=P.2.2.1.pd/\iQ w' (b+1) mi ms'/\ms'.map (·.1)=P.2.2.2/\ms'.length<=n0+4/\w'.ownsRow w.heap.size 191 1 (.slice a n c) P.2.2.1.ts.length (vI P.2.2.1.ts)/\mj w' w.heap.size (.slice a' n' c') bs/\bs.map (·.1)=P.2.2.1.body/\bs.length<=3/\P.2.1<=s.size)
structure Ik (w:W8)(b:Nat)(s:B8)(num:Nat)(mv:Value)(h:Nat)(pd:B8)(tv:Value)(ts:List (Bool × B8))(p:Nat)(ms:List (xU × Value))(kI:Value)(wr:W8):Prop where
 eX:ic wr b s p num kI
 iY:iQ wr (b+1) kI ms
 res:wr.heap[w.heap.size]?=some (.cells #[.string { data:=#[] },.slice none 0 0,.slice none 0 0] 123 (0,0))
 hd:wr.heap[h]?=some (.cells #[.string pd,tv] 79 (0,0))
 RV:wr.ownsRow w.heap.size 191 1 tv ts.length (vI ts)
 kept:zN (b::mv.ownBlock.toList) w wr
 at_:∀ k,kI.ownBlock=some k->mv.ownBlock=some k\/w.heap.size<=k
 bw:b<w.heap.size
 hw:w.heap.size<h
variable {wr w1:W8} {kI tv mv:Value} {ms:List (xU × Value)} {p h num b:Nat} {ts:List (Bool × B8)} {pd s:B8}
theorem Ik.take {p':Nat}(i:Ik w b s num mv h pd tv ts p ms kI wr)(k:zN [b] wr w1)(hr:ic w1 b s p' num kI):Ik w b s num mv h pd tv ts p' ms kI w1:=
 have h1:=i.bw;have h2:=i.hw
 ⟨hr,i.iY.kept k (by simp),yX i.res k (by simp;omega),yX i.hd k (by simp;omega),yM i.RV k (by simp;omega),i.kept.step k (by simp),i.at_,i.bw,i.hw⟩
theorem Ik.ends (i:Ik w b s num mv h pd tv ts p ms kI wr)(k:zN [w.heap.size] wr w1):
  zN (b::mv.ownBlock.toList) w w1/\ic w1 b s p num kI/\iQ w1 (b+1) kI ms/\w1.ownsRow w.heap.size 191 1 tv ts.length (vI ts):=by
 have h1:=i.bw;refine⟨i.kept.step k (by simp),i.eX.kept k (by simp;omega),i.iY.cq k (λ x hx=>?_),xC i.RV k (λ x hx=>?_)⟩
 ·simp at hx;subst hx;exact .inr ⟨zf9 i.res (by decide),zf9 i.res (by decide)⟩
 ·simp at hx;subst hx;exact .inr (zf9 i.res (by decide))
theorem zzy {base:Nat}{bv:Value}{ls:List (vJ × Value)}(h:mj w base bv ls)(hb:w.heap[n]?=some (.cells c 123 (0,0)))(k:zN [n] w w'):mj w' base bv ls:=
 h.cq k (λ x hx=>by simp at hx;subst hx;exact .inr ⟨zf9 hb (by decide),zf9 hb (by decide)⟩)
theorem z0y (w:W8)(b:Nat)(s:B8)(pos num:Nat)(mv:Value)(lM:List (xU × Value))(h:ic w b s pos num mv)(lg:iQ w (b+1) mv lM)(bh:lM.length<=800)(aI:pos<=s.size)(hs:s.size<=2000000):
  Calls Tryz.prog 74 #[.pointer (some ⟨b,0,none⟩)] w (z2x w b s num mv lM.length (vB s num pos (lM.map (·.1)))):=by
 have cE:s.size<=maxLen:=by unfold maxLen;omega
 have h0:=h.kept ((zN.refl [] w).alloc (.cells #[.string { data:=#[] },.slice none 0 0,.slice none 0 0] 123)) (by simp);have BZ:=lg.kept ((zN.refl [] w).alloc (.cells #[.string { data:=#[] },.slice none 0 0,.slice none 0 0] 123)) (by simp);obtain⟨aG,c0,c1,c2,c3,c4,c5,fz⟩:=h;have sd:(w.alloc (.cells #[.string { data:=#[] },.slice none 0 0,.slice none 0 0] 123)).heap[w.heap.size]?=some (.cells #[.string { data:=#[] },.slice none 0 0,.slice none 0 0] 123 (0,0)):=heap_alloc_new w _;have tr:=zC sd;have hq:=zt6 aI;have mV:=zC (λ k (e:mv.ownBlock=some k)=>(lg.row.lt k e).2);have HP:vB s num pos (lM.map (·.1))=_:=vB.eq_1 s num pos (lM.map (·.1));have HP:=zC HP;clear sd lg;go_enter Tryz.func74,Tryz.ntmps74;go_wp2_with fail;refine (zke _ b s pos num mv false (zG s pos).2.1 lM h0 BZ (by omega) aI hs).mono ?_;intro e w1 hpost;clear c0 c1 c2 c3 c4 c5 fz h0 BZ
 cases hr:x9 s pos with
 | no q=>
  rw[hr] at hpost hq HP;obtain⟨rfl,bg,lK⟩:=hpost;have aM:=yX (zA tr) bg (by simp;omega);obtain⟨a0,f0⟩:=zB aM 0;obtain⟨a1,f1⟩:=zB aM 1;obtain⟨a2,f2⟩:=zB aM 2;have ng:w.heap.size<w1.heap.size:=by have:=bg.size;simp at this;omega
  have HK:=zC bg;have HR:=zC lK;clear bg lK hr aM tr;go_wp2_with fail;obtain⟨q0,q1,q2⟩:=z6c a0 a1 a2 (.string { data:=#[] }) (.slice none 0 0) (.slice none 0 0);have q0:=qI q0;have q1:=qI q1;have q2:=qI q2;have k3:=(zvw w1 w.heap.size (.string { data:=#[] }) (.slice none 0 0) (.slice none 0 0)).alloc (Obj.cells #[.string { data:=#[] },.slice none 0 0] 79);refine bodyPost_ret (v:=.tuple #[.agg #[.string { data:=#[] },.slice none 0 0,.slice none 0 0],.bool false]) (by simp[results,Tryz.results74,go_sem,q0,q1,q2]) rfl ?_;rw[zA HP];exact⟨_,_,_,_,_,_,_,mv,rfl,(((zN.refl _ w).alloc _).step (zA HK) (by simp)).step k3 (by simp),(zA HR).kept k3 (by simp;omega),λ k e=>.inl e,λ e=>by cases e⟩
 | yes q pd ts pl=>
  rw[hr] at hpost hq HP;obtain⟨tv,kI,rfl,bg,lK,kO,sq,nj⟩:=hpost;obtain⟨bp,cA,rfl⟩:=zD sq;have ng:w.heap.size<w1.heap.size:=by have:=bg.size;simp at this;omega
  have aM:=yX (zA tr) bg (λ x hx=>by
   rcases List.mem_cons.1 hx with rfl | hx
   ·exact .inl (by omega)
   ·have:=zA mV x (by simpa using hx);exact .inl (by omega))
  have ka:=(zN.refl [] w1).alloc (Obj.cells #[.string pd,.slice bp ts.length cA] 79);have hI:Ik w b s num mv w1.heap.size pd (.slice bp ts.length cA) ts q (lM++[(uI s num pos pd ts pl,.slice bp ts.length cA)]) kI (w1.alloc (Obj.cells #[.string pd,.slice bp ts.length cA] 79)):=by
   refine⟨lK.kept ka (by simp),kO.cq ka (by simp),yX aM ka (by simp),heap_alloc_new _ _,xC (zF sq (by simp)) ka (by simp),((((zN.refl _ w).alloc _).step bg (by simp;intro x hx;exact .inl (.inr hx))).alloc _),λ k e=>?_,aG,ng⟩;rcases nj k e with h1 | h1
   ·exact .inl h1
   ·exact .inr (by simp at h1;omega)
  have HI:=zC hI;have Yr:w.heap.size<w1.heap.size+1:=by omega
  clear bg lK kO sq nj aM ka hI tr hr;go_wp2_with fail;refine (xO s q num kI 8 b _ (zA HI).eX hq cE).mono ?_;rintro e w2 ⟨rfl,cy,mS⟩;have dj:=(zA HI).take cy mS;have vs:=cy.size;rw[World.size_alloc] at vs;clear HI cy mS;obtain⟨d0,g0⟩:=zB dj.hd 0;obtain⟨d1,g1⟩:=zB dj.hd 1
  cases h8:(zG s q).1==8 with
  | true=>
   have Kn:(zG s q).1=8:=(by simpa using h8);have e8:yU s q 8=(zG s q).2.2:=(by unfold yU;rw[if_pos h8]);rw[e8] at dj;obtain⟨a0,f0⟩:=zB dj.res 0;obtain⟨a1,f1⟩:=zB dj.res 1;obtain⟨a2,f2⟩:=zB dj.res 2;have qv:=zC ((zA HP).trans (if_pos Kn));have iR:=zC dj;clear HP h8 Kn e8 dj;go_wp2_with fail;obtain⟨q0,q1,q2⟩:=z6c a0 a1 a2 (.string pd) (.slice bp ts.length cA) (.slice none 0 0);have k3:=zvw w2 w.heap.size (.string pd) (.slice bp ts.length cA) (.slice none 0 0);refine bodyPost_ret (v:=.tuple #[.agg #[.string pd,.slice bp ts.length cA,.slice none 0 0],.bool true]) (by simp[results,Tryz.results74,go_sem,q0,q1,q2]) rfl ?_;rw[zA qv];obtain⟨z1,z2,z3,z4⟩:=(zA iR).ends k3;exact⟨_,_,_,_,_,_,_,kI,rfl,z1,z2,(zA iR).at_,λ _=>⟨[],_,rfl,z3,by simp,by simp,z4,⟨World.ownsRow_nil _ _ _ _,by simp⟩,rfl,by simp,(xT s q hq).2⟩⟩
  | false=>
   have Kn:¬ (zG s q).1=8:=(by simpa using h8);have e8:yU s q 8=q:=(by unfold yU;rw[if_neg (by rw[h8];decide)]);rw[e8] at dj;have qv:=zC ((zA HP).trans (if_neg Kn));have iR:=zC dj;clear HP h8 Kn e8 dj d0 d1 g0 g1;go_wp2_with fail;refine (xO s q num kI 9 b _ (zA iR).eX hq cE).mono ?_;rintro e w3 ⟨rfl,mf,ni⟩;have iV:=(zA iR).take mf ni;have YD:=mf.size;clear iR mf ni
   cases h9:(zG s q).1==9 with
   | false=>
    have Ko:¬ (zG s q).1=9:=(by simpa using h9);have e9:yU s q 9=q:=(by unfold yU;rw[if_neg (by rw[h9];decide)]);rw[e9] at iV;obtain⟨a0,f0⟩:=zB iV.res 0;obtain⟨a1,f1⟩:=zB iV.res 1;obtain⟨a2,f2⟩:=zB iV.res 2;have sN:=zC ((zA qv).trans (if_neg Ko));have lj:=zC iV;clear qv h9 Ko e9 iV;go_wp2_with fail;obtain⟨q0,q1,q2⟩:=z6c a0 a1 a2 (.string { data:=#[] }) (.slice none 0 0) (.slice none 0 0);have k3:=zvw w3 w.heap.size (.string { data:=#[] }) (.slice none 0 0) (.slice none 0 0);refine bodyPost_ret (v:=.tuple #[.agg #[.string { data:=#[] },.slice none 0 0,.slice none 0 0],.bool false]) (by simp[results,Tryz.results74,go_sem,q0,q1,q2]) rfl ?_;rw[zA sN];obtain⟨z1,z2,z3,z4⟩:=(zA lj).ends k3;exact⟨_,_,_,_,_,_,_,kI,rfl,z1,z2,(zA lj).at_,λ e=>by cases e⟩
   | true=>
    have Ko:(zG s q).1=9:=(by simpa using h9);have e9:yU s q 9=(zG s q).2.2:=(by unfold yU;rw[if_pos h9]);rw[e9] at iV;have sN:=zC ((zA qv).trans (if_pos Ko));have lj:=zC iV;have Yu:=(xT s q hq).2;clear qv h9 Ko e9 iV;go_wp2_with fail;refine (z0s w3 b s (zG s q).2.2 num kI _ (zA lj).eX (zA lj).iY (by simp;omega) Yu hs).mono ?_;rintro e w4 ⟨ab,nb,cb,U3,ls,U2,rfl,sU,oc,yg,G5,QH,mN,Cq⟩;have eI:∀ x∈(b::kI.ownBlock.toList),x=b\/(iq w3 123 x/\iq w3 79 x/\iq w3 191 x):=λ x hx=>by
     rcases List.mem_cons.1 hx with rfl | hx
     ·exact .inl rfl
     ·exact .inr ⟨yP (zA lj).iY.row (by decide) x hx,yP (zA lj).iY.row (by decide) x hx,yP (zA lj).iY.row (by decide) x hx⟩
    have AA:Ik w b s num mv w1.heap.size pd (.slice bp ts.length cA) ts (jE s num 3 (zG s q).2.2 [] ((lM++[(uI s num pos pd ts pl,Value.slice bp ts.length cA)]).map (·.1))).2.1 U2 U3 w4:=by
     have i:=zA lj;have hz:=i.kept.size;refine⟨oc,yg,yX i.res sU (λ x hx=>?_),yX i.hd sU (λ x hx=>?_),xC i.RV sU (λ x hx=>?_),i.kept.step sU (λ x hx=>?_),λ k e=>?_,aG,ng⟩
     ·rcases eI x hx with rfl | hx
      ·exact .inl (by omega)
      ·exact .inr hx.1
     ·rcases eI x hx with rfl | hx
      ·exact .inl (by omega)
      ·exact .inr hx.2.1
     ·rcases eI x hx with rfl | hx
      ·exact .inl aG
      ·exact .inr hx.2.2
     ·rcases List.mem_cons.1 hx with rfl | hx
      ·exact .inl (by simp)
      ·rcases i.at_ x (by simpa using hx) with h1 | h1
       ·exact .inl (by simp[h1])
       ·exact .inr h1
     ·rcases mN k e with h1 | h1
      ·exact i.at_ k h1
      ·exact .inr (by omega)
    have YE:=sU.size;clear sU oc yg eI mN;have QL:((lM++[(uI s num pos pd ts pl,Value.slice bp ts.length cA)]).map (·.1))=lM.map (·.1)++[uI s num pos pd ts pl]:=(by simp);rw[QL] at AA G5 Cq ⊢;have HY:=zC Cq;have HM:=zC G5;have Rx:=(zA lj).kept.size;clear Cq G5 lj;obtain⟨d0,g0⟩:=zB AA.hd 0;obtain⟨d1,g1⟩:=zB AA.hd 1;obtain⟨a0,f0⟩:=zB AA.res 0;obtain⟨a1,f1⟩:=zB AA.res 1;obtain⟨a2,f2⟩:=zB AA.res 2;have OE:=zC AA;clear AA;go_wp2_with fail;obtain⟨q0,q1,q2⟩:=z6c a0 a1 a2 (.string pd) (.slice bp ts.length cA) (.slice ab nb cb);have k3:=zvw w4 w.heap.size (.string pd) (.slice bp ts.length cA) (.slice ab nb cb);refine bodyPost_ret (v:=.tuple #[.agg #[.string pd,.slice bp ts.length cA,.slice ab nb cb],.bool (jE s num 3 (zG s q).2.2 [] (lM.map (·.1)++[uI s num pos pd ts pl])).1]) (by simp[results,Tryz.results74,go_sem,q0,q1,q2]) rfl ?_;rw[zA sN];obtain⟨z1,z2,z3,z4⟩:=(zA OE).ends k3;refine⟨_,_,_,_,_,_,_,U3,rfl,z1,z2,(zA OE).at_,λ hy=>?_⟩;obtain⟨y1,y2,y3,y4⟩:=zA HY hy;exact⟨ls,U2,rfl,z3,zA HM,by simp at QH;omega,z4,zzy (y1.low Rx) (zA OE).res k3,y2,y3,y4⟩
end
section
open Go.RowKit
structure PR where
 R:vX
 hv:Value
 bs:List (vJ × Value)
 bv:Value
def PR.cells (r:PR):V8:=[.string r.R.pd,r.hv,r.bv]
def zki (rs:List PR):V8:=rs.flatMap PR.cells
theorem zp9 (rs:List PR)(r:PR):zki (rs++[r])=zki rs++r.cells:=by simp[zki]
structure sL (w:W8)(base:Nat)(r:PR):Prop where
 hd:w.ownsRow base 191 1 r.hv r.R.ts.length (vI r.R.ts)
 bo:mj w base r.bv r.bs
 eq:r.bs.map (·.1)=r.R.body
structure l8 (w:W8)(base:Nat)(rv:Value)(rs:List PR):Prop where
 row:w.ownsRow base 123 3 rv rs.length (zki rs)
 each:∀ r∈rs,sL w base r
theorem sL.cq {B:List Nat}{w w':W8}{base:Nat}{r:PR}(h:sL w base r)(k:zN B w w')(hB:∀ x∈B,x<base\/(iq w 183 x/\iq w 191 x)):sL w' base r:=
 ⟨xC h.hd k (λ x hx=>(hB x hx).imp id And.right),h.bo.cq k hB,h.eq⟩
variable {r:PR} {base base':Nat} {w:W8}
theorem sL.low (h:sL w base r)(hb:base'<=base):sL w base' r:=⟨zF h.hd hb,h.bo.low hb,h.eq⟩
theorem l8.cq {B:List Nat}{w w':W8}{base:Nat}{rv:Value}{rs:List PR}(h:l8 w base rv rs)(k:zN B w w')(hB:∀ x∈B,x<base\/(iq w 123 x/\iq w 183 x/\iq w 191 x)):l8 w' base rv rs:=
 ⟨xC h.row k (λ x hx=>(hB x hx).imp id And.left),λ r hr=>(h.each r hr).cq k (λ x hx=>(hB x hx).imp id And.right)⟩
variable {rs:List PR} {rv:Value}
theorem l8.low (h:l8 w base rv rs)(hb:base'<=base):l8 w base' rv rs:=⟨zF h.row hb,λ r hr=>(h.each r hr).low hb⟩
variable {ms:List (xU × Value)} {mv:Value}
theorem iQ.low (h:iQ w base mv ms)(hb:base'<=base):iQ w base' mv ms:=⟨zF h.row hb,λ r hr=>zF (h.each r hr) hb⟩
structure CU (w:W8)(b:Nat)(s:B8)(rs:List PR)(p num:Nat)(ms:List (xU × Value))(mv rv:Value)(wr:W8):Prop where
 eX:ic wr b s p num mv
 hp:p<=s.size
 iY:iQ wr (b+1) mv ms
 rules:l8 wr (b+1) rv rs
 res:wr.heap[w.heap.size]?=some (.cells #[.slice none 0 0,.slice none 0 0] 100 (0,0))
 below:Below w.heap.size w wr
 bw:w.heap.size<b
variable {wr w1:W8} {n:Nat}
theorem zY {B:List Nat}(h:Below n w wr)(k:zN B wr w1)(hn:n<=wr.heap.size)(hB:∀ x∈B,n<=x):Below n w w1:=
 h.trans ⟨k.os,k.tape,k.output,k.size,λ i hi=>k.block i (Nat.lt_of_lt_of_le hi hn) (λ hm=>by have:=hB i hm;omega)⟩
variable {p b:Nat} {s:B8}
theorem CU.num {num:Nat}(h:CU w b s rs p num ms mv rv wr)(k:Nat):CU w b s rs p k ms mv rv (wr.setCell ⟨b,4,none⟩ (.int .i64 k)):=by
 have hb:=h.bw;have kk:zN [b] wr (wr.setCell ⟨b,4,none⟩ (.int .i64 k)):=(zN.refl [b] wr).setCell (by simp) _;obtain⟨q,c0,c1,c2,c3,c4,c5,fz⟩:=h.eX;refine⟨⟨by simpa using q,?_,?_,?_,?_,jR c4,?_,λ o=>by simpa using fz o⟩,h.hp,h.iY.kept kk (by simp),h.rules.cq kk (by simp),yX h.res kk (by simp;omega),zY h.below kk (by omega) (by simp;omega),hb⟩
 all_goals (rw[yC (by omega)];assumption)
theorem CU.aX {num p':Nat}{ms':List (xU × Value)}{mi:Value}(h:CU w b s rs p num ms mv rv wr)(k:zN (b::mv.ownBlock.toList) wr w1)(hr:ic w1 b s p' num mi)(hp:p'<=s.size)(hm:iQ w1 (b+1) mi ms'):CU w b s rs p' num ms' mi rv w1:=by
 have hb:=h.bw;have hz:=h.eX.lt;have hB:∀ x∈(b::mv.ownBlock.toList),x=b\/(b+1<=x/\iq wr 123 x/\iq wr 183 x/\iq wr 191 x/\iq wr 100 x):=λ x hx=>by
  rcases List.mem_cons.1 hx with rfl | hx
  ·exact .inl rfl
  ·exact .inr ⟨(h.iY.row.lt x (by simpa using hx)).1,yP h.iY.row (by decide) x hx,yP h.iY.row (by decide) x hx,yP h.iY.row (by decide) x hx,yP h.iY.row (by decide) x hx⟩
 refine⟨hr,hp,hm,h.rules.cq k (λ x hx=>?_),yX h.res k (λ x hx=>?_),zY h.below k (by omega) (λ x hx=>?_),hb⟩
 ·rcases hB x hx with rfl | h1
  ·exact .inl (by omega)
  ·exact .inr ⟨h1.2.1,h1.2.2.1,h1.2.2.2.1⟩
 ·rcases hB x hx with rfl | h1
  ·exact .inl (by omega)
  ·exact .inr h1.2.2.2.2
 ·rcases hB x hx with rfl | h1 <;> omega
theorem CU.append {num:Nat}{W w5:W8}(h:CU w b s rs p num ms mv rv w1)(kW:zN [] w1 W){U8:Value}(hr:sL w1 (b+1) r)
  (aC:w5.ownsRow (b+1) 123 3 U8 (rs.length+1) (zki rs++r.cells)) (hg:W.grownBy w5 rv.ownBlock):CU w b s (rs++[r]) p num ms mv U8 w5:=by
 have hb:=h.bw;have hz:=h.eX.lt;have k5:zN rv.ownBlock.toList w1 w5:=((kW.mono (C:=rv.ownBlock.toList) (by simp))).grown hg (λ k e=>.inr (by simp[e]));have aB:∀ x∈rv.ownBlock.toList,b+1<=x:=λ x hx=>(h.rules.row.lt x (by simpa using hx)).1
 have kF:∀ x∈rv.ownBlock.toList,∀ e,123≠e->iq w1 e x:=λ x hx e he=>yP h.rules.row he x hx
 refine⟨h.eX.kept k5 (λ hm=>by have:=aB b hm;omega),h.hp,h.iY.cq k5 (λ x hx=>.inr ⟨kF x hx _ (by decide),kF x hx _ (by decide)⟩),⟨?_,λ y hy=>?_⟩,yX h.res k5 (λ x hx=>.inr (kF x hx _ (by decide))),zY h.below k5 (by omega) (λ x hx=>by have:=aB x hx;omega),hb⟩
 ·rw[zp9,List.length_append];exact aC
 ·rcases List.mem_append.1 hy with hy | hy
  ·exact (h.rules.each y hy).cq k5 (λ x hx=>.inr ⟨kF x hx _ (by decide),kF x hx _ (by decide)⟩)
  ·simp at hy;subst hy;exact hr.cq k5 (λ x hx=>.inr ⟨kF x hx _ (by decide),kF x hx _ (by decide)⟩)
def zx0 (w:W8)(s:B8)(P:Bool × Nat × List vX × List xU)(e:Ending)(w':W8):Prop:=
 Below w.heap.size w w'/\(P.1=false->e=.returned (.tuple #[.agg #[.slice none 0 0,.slice none 0 0],.int .i64 (zG s P.2.1).2.1,.bool false])) /\
 (P.1=true->∃ (a:O8) (n c:Nat) (a':O8) (n' c':Nat) (rs:List PR) (ms:List (xU × Value)),e=.returned (.tuple #[.agg #[.slice a n c,.slice a' n' c'],.int .i64 0,.bool true])/\l8 w' w.heap.size (.slice a n c) rs/\rs.map (·.R)=P.2.2.1/\iQ w' w.heap.size (.slice a' n' c') ms/\ms.map (·.1)=P.2.2.2/\rs.length<=30/\ms.length<=120)
theorem zzg:(Tryz.prog.info? 123).map (λ i=>(i.zero,i.size,i.bytes))=some (some (.agg #[.string { data:=#[] },.slice none 0 0,.slice none 0 0]),3,64):=by kernel_rfl
theorem z74 (w1:W8)(o:Obj)(r:PR)(j:Nat)(u:Value)(h:r.cells[j]?=some u):((w1.alloc o).alloc (Obj.cells #[.string r.R.pd,r.hv,r.bv] 123)).cell? ((⟨w1.heap.size+1,0,none⟩:Addr).add j)=some u:=by
 have e:(⟨w1.heap.size+1,0,none⟩:Addr).add j=⟨w1.heap.size+1,j,none⟩:=by unfold Addr.add;split <;> simp_all
 rw[e,World.cell?_alloc_at _ _ _ _ (by simp)];simpa[PR.cells] using h
theorem z9r (R:vX)(a:O8)(n c:Nat)(a':O8)(n' c':Nat)(bs:List (vJ × Value)):∀ u∈(PR.mk R (.slice a n c) bs (.slice a' n' c')).cells,u.oneCell'=true:=by
 intro u hu;simp[PR.cells] at hu;rcases hu with rfl | rfl | rfl <;> rfl
theorem z76 (aM:Below (w.alloc (Obj.cells #[.slice none 0 0,.slice none 0 0] 100)).heap.size (w.alloc (Obj.cells #[.slice none 0 0,.slice none 0 0] 100)) w1):
  CU w w1.heap.size s [] 0 0 [] (.slice none 0 0) (.slice none 0 0) (w1.alloc (Obj.cells #[.string s,.int .i64 (zG s 0).1,.int .i64 (zG s 0).2.1,.int .i64 (zG s 0).2.2,.int .i64 0,.slice none 0 0] 163)):=by
 have hz:=aM.size;simp at hz;refine⟨⟨by simp,?_,?_,?_,?_,?_,?_,?_⟩,Nat.zero_le _,⟨World.ownsRow_nil _ _ _ _,by simp⟩,⟨World.ownsRow_nil _ _ _ _,by simp⟩,?_,?_,by omega⟩
 all_goals first | (rw[World.cell?_alloc_at _ _ _ _ rfl];rfl) | (intro o;rw[World.frozen?_alloc_at _ _ _ _ rfl];done) | skip
 ·rw[Below.heap_alloc _ _ _ (by omega),aM.block _ (by simp)];exact heap_alloc_new w _
 ·exact ((B9.alloc L9 _).trans (aM.mono (by simp))).alloc (by omega) _
theorem zn5 {u0 u1:Value}(h0:w1.cell? ⟨n,0,none⟩=some u0)(h1:w1.cell? ⟨n,1,none⟩=some u1)(v0 v1:Value):((w1.setCell ⟨n,0,none⟩ v0).setCell ⟨n,1,none⟩ v1).cell? ⟨n,0,none⟩=some v0/\((w1.setCell ⟨n,0,none⟩ v0).setCell ⟨n,1,none⟩ v1).cell? ⟨n,1,none⟩=some v1:=
 ⟨by rw[yC (by omega)];exact jR h0,jR (by rw[yC (by omega)];exact h1)⟩
theorem zsb (s:B8)(p:Nat)(rs:List vX)(ms:List xU)(h:rs.length<=30):jO s (31-rs.length) p rs ms =
  if (zG s p).1=0 then (true,p,rs,ms)
  else if rs.length=30 then (false,p,rs,ms)
  else if (vB s rs.length p ms).1 then jO s (31-(rs.length+1)) (vB s rs.length p ms).2.1 (rs++[(vB s rs.length p ms).2.2.1]) (vB s rs.length p ms).2.2.2
  else (false,(vB s rs.length p ms).2.1,rs,(vB s rs.length p ms).2.2.2):=by
 have e:31-rs.length=(31-(rs.length+1))+1:=by omega
 rw[e,jO]
theorem zwg (w:W8)(s:B8)(hs:s.size<=2000000):
  Calls Tryz.prog 45 #[.string s] w (zx0 w s (yS s)):=by
 have cE:s.size<=maxLen:=by unfold maxLen;omega
 obtain⟨i0,hi,cQ,cz,cx⟩:=info_parts zzg;go_enter Tryz.func45,Tryz.ntmps45;go_wp2_with fail;refine (zkl s 0 (Nat.zero_le _) cE _).mono ?_;rintro e w1 ⟨rfl,aM⟩;have aP:=z76 (s:=s) aM;clear aM;go_wp2_with fail
 go_loopg [6] 32 (λ g rv wr=>∃ (rs:List PR) (ms:List (xU × Value)) (p num:Nat) (mv:Value),rs.length<=30/\31-rs.length<=g/\ms.length<=4*rs.length/\CU w w1.heap.size s rs p num ms mv rv wr/\yS s=jO s (31-rs.length) p (rs.map (·.R)) (ms.map (·.1)))
 exact⟨[],[],0,0,_,by simp,by simp,by simp,aP,rfl⟩
 case round=>
  clear aP;obtain⟨rs,ms,p,num,mv,hl,hg,bh,hinv,ax⟩:=hrel;obtain⟨a1,kt,rfl⟩:=zD hinv.rules.row;obtain⟨a2,n9,rfl⟩:=zD hinv.iY.row;have aP:=zsb s p (rs.map (·.R)) (ms.map (·.1)) (by simpa using hl);rw[List.length_map] at aP;have HF:=zC (ax.trans aP);clear ax aP;have b8:=hinv.hp;obtain⟨aG,c0,c1,c2,c3,c4,c5,fz⟩:=hinv.eX;have pc:=hinv.bw;obtain⟨r0,f0⟩:=zB hinv.res 0;obtain⟨r1,f1⟩:=zB hinv.res 1;have HI:=zC hinv;clear hinv
  by_cases h0:(zG s p).1=0
  ·have Pw:((zG s p).1 != 0)=false:=(by simp[h0]);have kM:=zC ((zA HF).trans (if_pos h0));have HE:=zC h0;clear HF h0;go_wp2_with fail;obtain⟨q0,q1⟩:=zn5 r0 r1 (.slice a1 rs.length kt) (.slice a2 ms.length n9);refine bodyPost_ret (v:=.tuple #[.agg #[.slice a1 rs.length kt,.slice a2 ms.length n9],.int .i64 0,.bool true]) (by simp[results,Tryz.results45,go_sem,q0,q1]) rfl ?_;have kk:=zct wr w.heap.size (.slice a1 rs.length kt) (.slice a2 ms.length n9);have i:=zA HI;have uD:∀ e,100≠e->iq wr e w.heap.size:=λ e he=>zf9 i.res he
   rw[zA kM];refine⟨zY i.below kk (by omega) (by simp),λ e=>(by cases e),λ _=>⟨_,_,_,_,_,_,rs,ms,rfl,(i.rules.low (by omega)).cq kk (λ x hx=>?_),rfl,(i.iY.low (by omega)).cq kk (λ x hx=>?_),rfl,hl,by omega⟩⟩
   ·simp at hx;subst hx;exact .inr ⟨uD _ (by decide),uD _ (by decide),uD _ (by decide)⟩
   ·simp at hx;subst hx;exact .inr ⟨uD _ (by decide),uD _ (by decide)⟩
  ·have Pw:((zG s p).1 != 0)=true:=(by simp[h0]);have kM:=zC ((zA HF).trans (if_neg h0));have HE:=zC h0;clear HF h0
   by_cases h30:rs.length=30
   ·have Py:((rs.length:Int)==30)=true:=(by simp;omega);have az:=zC ((zA kM).trans (if_pos h30));clear kM h30;go_wp2_with fail
    go_region
    all_goals
     go_wp2_with fail;obtain⟨q0,q1⟩:=zn5 r0 r1 (.slice none 0 0) (.slice none 0 0);refine bodyPost_ret (v:=.tuple #[.agg #[.slice none 0 0,.slice none 0 0],.int .i64 (zG s p).2.1,.bool false]) (by simp[results,Tryz.results45,go_sem,q0,q1]) rfl ?_;rw[zA az];refine⟨zY (zA HI).below ((zct wr w.heap.size (.slice none 0 0) (.slice none 0 0)).drew) (by omega) (by simp),λ _=>rfl,λ e=>(by cases e)⟩
   ·have Py:((rs.length:Int)==30)=false:=(by simp;omega);have az:=zC ((zA kM).trans (if_neg h30));have oQ:rs.length<30:=(by omega);have HQ:=zC ((zA HI).num rs.length);clear kM h30;go_wp2_with fail;refine (z0y _ w1.heap.size s p rs.length _ ms (zA HQ).eX (zA HQ).iY (by omega) b8 hs).mono ?_;rintro e w2 ⟨x,a,n,c,a',n',c',mi,rfl,cy,mS,KL,Cp⟩;clear c0 c1 c2 c3 c4 c5 fz r0 r1 f0 f1;have lL:=cy.size;rw[World.size_setCell] at lL
    cases hP:(vB s rs.length p (ms.map (·.1))).1 with
    | false=>
     have aQ:=zC ((zA az).trans (if_neg (by rw[hP];decide)))
     have Ei:w2.heap[w.heap.size]?=some (.cells #[.slice none 0 0,.slice none 0 0] 100 (0,0)):=yX (zA HQ).res cy (λ x hx=>by
      rcases List.mem_cons.1 hx with rfl | hx
      ·exact .inl (by omega)
      ·exact .inr (yP (zA HQ).iY.row (by decide) x hx))
     have eM:Below w.heap.size w w2:=zY (zA HQ).below cy (by simp;omega) (λ x hx=>by
      rcases List.mem_cons.1 hx with rfl | hx
      ·omega
      ·have:=((zA HQ).iY.row.lt x (by simpa using hx)).1;omega)
     have ka:=(zN.refl [] w2).alloc (Obj.cells #[.string x,.slice a n c,.slice a' n' c'] 123);obtain⟨aG,c0,c1,c2,c3,c4,c5,fz⟩:=mS.kept ka (by simp);obtain⟨r0,f0⟩:=zB (yX Ei ka (by simp)) 0;obtain⟨r1,f1⟩:=zB (yX Ei ka (by simp)) 1;have HB:=zC eM;clear Cp KL cy mS az hP HQ HI Ei ka eM;go_wp2_with fail
     go_region
     all_goals
      go_wp2_with fail;obtain⟨q0,q1⟩:=zn5 r0 r1 (.slice none 0 0) (.slice none 0 0);refine bodyPost_ret (v:=.tuple #[.agg #[.slice none 0 0,.slice none 0 0],.int .i64 (zG s (vB s rs.length p (ms.map (·.1))).2.1).2.1,.bool false]) (by simp[results,Tryz.results45,go_sem,q0,q1]) rfl ?_;rw[zA aQ];refine⟨zY ((zA HB).alloc (by omega) _) ((zct _ w.heap.size (.slice none 0 0) (.slice none 0 0)).drew) (by simp;omega) (by simp),λ _=>rfl,λ e=>(by cases e)⟩
    | true=>
     have aQ:=zC ((zA az).trans (if_pos hP));obtain⟨bs,ms',rfl,il,LI,X9,qq,sj,KZ,Xk,iX⟩:=Cp hP;have PS:=(zA HQ).aX cy mS iX il;have ay:sL w2 (w1.heap.size+1) ⟨(vB s rs.length p (ms.map (·.1))).2.2.1,.slice a n c,bs,.slice a' n' c'⟩:=⟨zF qq (by simp;omega),sj.low (by simp;omega),KZ⟩;have bT:=PS.rules.row;have SK:=zC PS;have gJ:=zC ay;have VL:=zC LI;clear Cp KL cy mS il qq sj KZ PS ay az hP HQ HI LI;go_wp2_with (at_builtin;refine wpList_append_own _ rfl _ _ 75 rfl (w1.heap.size+1) 123 i0 _ 3 64 Tryz.underlying75 hi cQ cz cx rfl (by decide) _ _ _ rfl ((bT.alloc _).alloc _) ⟨w2.heap.size+1,0,none⟩ 1 1 (PR.mk (vB s rs.length p (ms.map (·.1))).2.2.1 (.slice a n c) bs (.slice a' n' c')).cells rfl rfl (z74 w2 _ (PR.mk (vB s rs.length p (ms.map (·.1))).2.2.1 (.slice a n c) bs (.slice a' n' c'))) (z9r _ _ _ _ _ _ _ _) (by unfold maxLen;omega) (by omega) (by simp;omega) ?_);intro v5 w5 aj aU hne5;clear hne5;obtain⟨a5,ie,rfl⟩:=zD aj;have TA:=(zA SK).append (((zN.refl [] w2).alloc _).alloc _) (zA gJ) aj aU;have V1:=zC TA;clear aj aU bT TA SK gJ;go_wp2_with fail;go_roundg (31-(rs.length+1));exact⟨_,ms',_,_,_,by simp;omega,by simp,by simp;omega,zA V1,by rw[zA aQ,zA VL];simp⟩;omega
end
end Go.Proofs.YtldkpahaocjdpaaGreat
