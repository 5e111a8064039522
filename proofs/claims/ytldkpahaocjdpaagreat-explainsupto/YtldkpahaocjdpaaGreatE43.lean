/-
  A region inside a round: where no operation defers, it goes as outside.
-/
import Derived.OrdersIn
import Derived.OrdersHeld
import Derived.Deep.RegionHeld
import Derived.Test.YtldkpahaocjdpaaGreatE41
import Derived.Maps.OwnIn
set_option maxHeartbeats 16000000
set_option maxRecDepth 1000000
namespace Go.Proofs.YtldkpahaocjdpaaGreat
section
open Go
def zuq (ops:Array Oper):Bool:=ops.all λ o=>match o.op with | .defer _=>false | _=>true
theorem zu5 {o:Oper}(h:(match o.op with | .defer _=>false | _=>true)=true)(l:Nat)(ρ:Operand->Value):o.semAt (some l) ρ=o.semAt none ρ:=by
 unfold Oper.semAt
 split
 ·rename_i h1;rw[h1] at h;cases h
 ·rfl
variable {w:W8} {a:Act} {Q:Exit->Act->W8->Prop} {ops:Array Oper} {P:Program} {n:Nat}
theorem ztf {i:Nat}{K K':Act->W8->Prop}(hd:zuq ops=true)(hQ:¬ LetsOut Q)(l:Nat)(hK:∀ a w,K a w->K' a w)(h:wpOp P ops Q i K a w):wpOpIn (Fence.wide.inRound l) n P ops Q i K' a w:=by
 refine wpOpIn_mono hK ?_;unfold wpOp at h;unfold wpOpIn
 split
 ·rename_i ho;rw[ho] at h;exact h
 ·rename_i o ho;rw[ho] at h;simp only at h;have aX:=Array.all_eq_true.1 hd i (Array.getElem?_eq_some_iff.1 ho).1;rw[(Array.getElem?_eq_some_iff.1 ho).2] at aX
  split
  ·rename_i hw;rw[if_pos hw] at h;refine⟨λ _ _=>trivial,?_⟩
   show o.uponIn (Fence.wide.inRound l) n P a K Q ((o.semAt (some l) a.eval).run P w)
   rw[zu5 aX l];rcases h with h | h
   ·unfold Oper.wp at h;have e:o.semAt none a.eval=execOp a.eval o:=rfl;rw[e];generalize (execOp a.eval o).run P w=r at h ⊢
    cases r with
    | ok x w'=>
     cases x <;> first
      | exact h
      | exact h.elim
      | exact⟨λ e=>(by cases e),callsIn_wide.2 h⟩
      | exact⟨λ e=>(by cases e),λ c cs _=>(let ⟨v,w',r,s⟩:=h c cs;⟨v,w',r,stepsIn_wide.2 s⟩)⟩
    | halt x w'=>cases x <;> first | exact h | exact h.elim
   ·exact absurd h.2 hQ
  ·rename_i hw;rw[if_neg hw] at h;exact⟨λ _ _=>trivial,h⟩
theorem zg2 {n:Nat}{P:Program}{md:Region.Mode}{ops:Array Oper}{Q:Exit->Act->W8->Prop}(hd:zuq ops=true)(hQ:¬ LetsOut Q)(l:Nat):∀ (fuel:Nat) (A7:Array Bool) (a:Act) (w:W8),wpAny P md ops Q fuel A7 a w->wpAnyIn (Fence.wide.inRound l) n P md ops Q fuel A7 a w
 | 0,_,_,_,h=>h
 | fuel+1,_,_,_,h=>⟨h.1,λ i hi=>ztf hd hQ l (λ a w h=>zg2 hd hQ l fuel _ a w h) (h.2 i hi)⟩
theorem zjy {id:Nat}(S:W8->Prop)(hm:P.follows .mixedOrders=true)(hd:zuq ops=true)(hQ:¬ LetsOut Q){l:Nat}(h:wpAnyH P .any ops Q S ops.size (Array.replicate ops.size false) a w.drew):(Code.region id ops true).wpIn (Fence.wide.inRound l) n P Q a w:=
 wpIn_region_any hm (zg2 hd hQ l _ _ _ _ (wpAny_of_held _ _ _ _ h))
end
section
open Go.RowKit Go.Maps
attribute [local go_sem ↓] zcf zba zc1 j2 zbb qQ qP qO
attribute [local go_sem] Oper.semAt_some
attribute [local go_sem] qS zbo jY jX
structure zvk (w:W8)(nb base:Nat)(r:PR)(N:List (Th × Nat))(t:Th):Prop where
 bJ:uh w base r
 m:qR w nb N
 l3:r.bs.length<=3
 t4:∀ x∈r.bs,x.1.ts.length<=4
 h4:r.R.ts.length<=4
 th:zdu t
 neg:∀ s,xG [] (gw r) t=some s->∀ e∈yD N (yP r.bs) s,∀ x∈zcv r.bs,zdu (xV e x)
 pos:∀ s,xG [] (gw r) t=some s->∀ e∈yD N (yP r.bs) s,∀ x∈yP r.bs,zdu (xV e x)
 env:∀ s,xG [] (gw r) t=some s->vZ (zhl r.bs) s
 len:∀ s,xG [] (gw r) t=some s->∀ e∈yD N (yP r.bs) s,e.length<=12
def z0l (w:W8)(rows:List (List Nat))(e:Ending)(w':W8):Prop:=
 Below w.heap.size w w'/\((rows=[]/\e=.returned (.tuple #[.slice none 0 0,.bool false])) \/
  ∃ (row:List Nat) (a:O8) (c:Nat),row∈rows/\(∀ x∈rows,zes x row=false)/\e=.returned (.tuple #[.slice a row.length c,.bool true])/\w'.ownsRow w.heap.size 3 1 (.slice a row.length c) row.length (ew row))
variable {t:Th} {w:W8}
theorem qR.L0 {b:Nat}{L:List (Th × Nat)}(h:qR w b L)(ht:zdu t){T:TypeId}(hT:Tryz.prog.underlying T=some (.map 88 3)):
  (Instr.lookup T (.map (some b)) (thV t) false).run Tryz.prog w=.ok (.int .i64 (((yS L t).getD 0:Nat):Int)) w:=by
 obtain⟨D,hD,hs,hn,bR,aS,ib⟩:=h;obtain⟨l,hl⟩:=z80 ht;obtain⟨v,ps,kU,hv⟩:=hD.lookup zdt hT (z:=.int .i64 0) (by kernel_rfl) (zd:=.held (.int .i64 0)) (zp:=[]) rfl hl;have h1:=zf8 hv
 cases hk:yS L t with
 | some n=>
  obtain⟨h2,h3⟩:=aS _ (jV hk) l hl;rw[h3] at h1;have h1:=DataW.held.inj h1;subst h1;exact kU
 | none=>
  have h2:Maps.has D l=false:=by
   cases hh:Maps.has D l with
   | false=>rfl
   | true=>
    obtain⟨p,hp,bt⟩:=ib l hh;have e:=zfu (bR p hp) ht bt hl;exact absurd (show (t,p.2)∈L by rw[<-e];exact hp) (qV hk _)
  rw[Maps.atKey_of_not_has h2] at h1;have h1:=DataW.held.inj h1;subst h1;exact kU
theorem zz8 (n:Nat)(w:W8):SeqStopsK Fence.wide n Tryz.prog 218 #[] (λ x:Empty=>x.elim) (λ _ _=>True) (λ xs=>xs=[]) (λ _=>True) 1 w:=by
 intro l J' SH W hW MW hJx' hY JW;have Oj:=zC JW;clear hW MW hJx' hY JW;refine callsIn_wide.2 ?_;go_enter Tryz.func218,Tryz.ntmps218;go_wp2_with fail;go_end0;exact⟨⟨_,rfl⟩,.inl ⟨[],rfl,zA Oj⟩⟩
structure rO (w:W8)(r:PR)(ah ab:O8)(ch cb nb:Nat)(t:Th)(lv:Value)(f:Bool)(wr:W8):Prop where
 rb:wr.heap[w.heap.size]?=some (.cells #[.string r.R.pd,.slice ah r.R.ts.length ch,.slice ab r.bs.length cb] 123 (0,0))
 tb:TV wr (w.heap.size+1) t
 mb:wr.heap[w.heap.size+1+1]?=some (.cells #[.map (some nb)] 82 (0,0))
 lb:wr.heap[w.heap.size+1+1+1]?=some (.cells #[lv] 24 (0,0))
 fb:wr.heap[w.heap.size+1+1+1+1]?=some (.cells #[.bool f] 4 (0,0))
 k:Below w.heap.size w wr
theorem rO.below {w:W8}{r:PR}{ah ab:O8}{ch cb nb:Nat}{t:Th}{lv:Value}{f:Bool}{wr w':W8}(h:rO w r ah ab ch cb nb t lv f wr)(k:Below wr.heap.size wr w'):rO w r ah ab ch cb nb t lv f w':=
 ⟨(k.block _ (Array.getElem?_eq_some_iff.1 h.rb).1).trans h.rb,h.tb.below k,(k.block _ (Array.getElem?_eq_some_iff.1 h.mb).1).trans h.mb,(k.block _ (Array.getElem?_eq_some_iff.1 h.lb).1).trans h.lb,(k.block _ (Array.getElem?_eq_some_iff.1 h.fb).1).trans h.fb,h.k.trans (k.mono h.k.size)⟩
variable {wr:W8} {f:Bool} {lv:Value} {ch cb nb:Nat} {ah ab:O8} {r:PR}
theorem rO.grown {w':W8}(h:rO w r ah ab ch cb nb t lv f wr){row:Option Nat}(hg:wr.grownBy w' row)(hr:∀ i,row=some i->w.heap.size+1+1+1+1<i):rO w r ah ab ch cb nb t lv f w':=by
 have bp:∀ i,i<=w.heap.size+1+1+1+1->w'.heap[i]?=wr.heap[i]?:=λ i hi=>hg.block i (by have:=(Array.getElem?_eq_some_iff.1 h.fb).1;omega) (λ e=>by have:=hr i e.symm;omega)
 exact⟨(bp _ (by omega)).trans h.rb,(bp _ (by omega)).trans h.tb,(bp _ (by omega)).trans h.mb,(bp _ (by omega)).trans h.lb,(bp _ (by omega)).trans h.fb,⟨hg.os.trans h.k.os,hg.tape.trans h.k.tape,hg.output.trans h.k.output,Nat.le_trans h.k.size hg.size,λ i hi=>(bp i (by omega)).trans (h.k.block i hi)⟩⟩
theorem rO.start (w:W8)(r:PR)(ah ab:O8)(ch cb nb:Nat)(t:Th):rO w r ah ab ch cb nb t (.slice none 0 0) false (((((w.alloc (.cells #[.string r.R.pd,.slice ah r.R.ts.length ch,.slice ab r.bs.length cb] 123)).alloc (.cells (zV t).toArray 88)).alloc (.cells #[.map (some nb)] 82)).alloc (.cells #[.slice none 0 0] 24)).alloc (.cells #[.bool false] 4)):=by
 refine⟨?_,?_,?_,?_,?_,?_⟩
 ·rw[Below.heap_alloc _ _ _ (by simp only[World.size_alloc];omega),Below.heap_alloc _ _ _ (by simp only[World.size_alloc];omega),Below.heap_alloc _ _ _ (by simp only[World.size_alloc];omega),Below.heap_alloc _ _ _ (by simp)];exact heap_alloc_new w _
 ·show _=_
  rw[Below.heap_alloc _ _ _ (by simp only[World.size_alloc];omega),Below.heap_alloc _ _ _ (by simp only[World.size_alloc];omega),Below.heap_alloc _ _ _ (by simp)];have:=heap_alloc_new (w.alloc (.cells #[.string r.R.pd,.slice ah r.R.ts.length ch,.slice ab r.bs.length cb] 123)) (.cells (zV t).toArray 88);simpa only[World.size_alloc] using this
 ·rw[Below.heap_alloc _ _ _ (by simp only[World.size_alloc];omega),Below.heap_alloc _ _ _ (by simp)];have:=heap_alloc_new ((w.alloc (.cells #[.string r.R.pd,.slice ah r.R.ts.length ch,.slice ab r.bs.length cb] 123)).alloc (.cells (zV t).toArray 88)) (.cells #[.map (some nb)] 82);simpa only[World.size_alloc] using this
 ·rw[Below.heap_alloc _ _ _ (by simp)];have:=heap_alloc_new (((w.alloc (.cells #[.string r.R.pd,.slice ah r.R.ts.length ch,.slice ab r.bs.length cb] 123)).alloc (.cells (zV t).toArray 88)).alloc (.cells #[.map (some nb)] 82)) (.cells #[.slice none 0 0] 24);simpa only[World.size_alloc] using this
 ·have:=heap_alloc_new ((((w.alloc (.cells #[.string r.R.pd,.slice ah r.R.ts.length ch,.slice ab r.bs.length cb] 123)).alloc (.cells (zV t).toArray 88)).alloc (.cells #[.map (some nb)] 82)).alloc (.cells #[.slice none 0 0] 24)) (.cells #[.bool false] 4);simpa only[World.size_alloc] using this
 ·exact (((((Below.refl w.heap.size w).alloc L9 _).alloc (by simp) _).alloc (by simp only[World.size_alloc];omega) _).alloc (by simp only[World.size_alloc];omega) _).alloc (by simp only[World.size_alloc];omega) _
structure z0k (W:W8)(rv:Nat->Nat)(n k:Nat)(wr:W8):Prop where
 row:fj wr W.heap.size 3 n (λ j=>.int .i64 ((if j<k then rv j else 0:Nat)))
 k:Below W.heap.size W wr
def ycy (N:List (Th × Nat))(r:PR)(B:Nat)(pre:List yR)(lv:Value)(f:Bool)(W:W8):Prop:=
 (pre=[]/\lv=.slice none 0 0/\f=false)\/∃ (row:List Nat) (a:O8) (c:Nat),lv=.slice a row.length c/\f=true/\(∃ y∈pre,qK N (yP r.bs) y=row)/\(∀ y∈pre,zes (qK N (yP r.bs) y) row=false)/\W.ownsRow B 3 1 (.slice a row.length c) row.length (ew row)
def BQ (w:W8)(r:PR)(ah ab:O8)(ch cb nb:Nat)(t:Th)(N:List (Th × Nat))(w1:W8)(pre:List yR)(W:W8):Prop:=
 ∃ (lv:Value) (f:Bool),rO w r ah ab ch cb nb t lv f W/\qH (λ i=>i=w.heap.size+1+1+1\/i=w.heap.size+1+1+1+1) w1 W/\ycy N r w1.heap.size pre lv f W
theorem BQ.grown {w:W8}{r:PR}{ah ab:O8}{ch cb nb:Nat}{t:Th}{N:List (Th × Nat)}{w1:W8}{pre:List yR}{A B:W8}(h:BQ w r ah ab ch cb nb t N w1 pre A){row:Option Nat}(hg:A.grownBy B row)(hr:∀ i,row=some i->w1.heap.size<=i/\∃ o:Obj,A.heap[i]?=some o/\o.isCells=false)(hb:w.heap.size+1+1+1+1<w1.heap.size):BQ w r ah ab ch cb nb t N w1 pre B:=by
 obtain⟨lv,f,h1,h2,h3⟩:=h;refine⟨lv,f,h1.grown hg (λ i e=>by have:=(hr i e).1;omega),h2.grown hg (λ i e=>.inl (hr i e).1),?_⟩;rcases h3 with h3 | ⟨DF,a,c,e1,e2,e3,e4,e5⟩
 ·exact .inl h3
 ·exact .inr ⟨DF,a,c,e1,e2,e3,e4,zsd e5 hg (λ i e=>(hr i e).2)⟩
theorem rO.Ru (h:rO w r ah ab ch cb nb t lv f wr)(v:Value):rO w r ah ab ch cb nb t v true ((wr.setCell ⟨w.heap.size+1+1+1,0,none⟩ v).setCell ⟨w.heap.size+1+1+1+1,0,none⟩ (.bool true)):=by
 have bp:∀ i,i≠w.heap.size+1+1+1->i≠w.heap.size+1+1+1+1->((wr.setCell ⟨w.heap.size+1+1+1,0,none⟩ v).setCell ⟨w.heap.size+1+1+1+1,0,none⟩ (.bool true)).heap[i]?=wr.heap[i]?:=λ i h1 h2=>by
  rw[Below.heap_setCell _ _ _ _ (by simpa using h2),Below.heap_setCell _ _ _ _ (by simpa using h1)]
 refine⟨(bp _ (by omega) (by omega)).trans h.rb,(bp _ (by omega) (by omega)).trans h.tb,(bp _ (by omega) (by omega)).trans h.mb,?_,?_,⟨h.k.os,h.k.tape,h.k.output,by simpa using h.k.size,λ i hi=>(bp i (by omega) (by omega)).trans (h.k.block i hi)⟩⟩
 ·rw[Below.heap_setCell _ _ _ _ (by simp),setCell_eq_setRow wr _ 0 _ _ (0,0) v h.lb];exact setRow_heap _ _ _ _ _ _ h.lb
 ·have h9:(wr.setCell ⟨w.heap.size+1+1+1,0,none⟩ v).heap[w.heap.size+1+1+1+1]?=some (.cells #[.bool f] 4 (0,0)):=by
   rw[Below.heap_setCell _ _ _ _ (by simp)];exact h.fb
  rw[setCell_eq_setRow _ _ 0 _ _ (0,0) _ h9];exact setRow_heap _ _ _ _ _ _ h9
theorem z7v {b8 b9 base n:Nat}{e:TypeId}{size:Nat}{v:Value}{xs:V8}(h:wr.ownsRow base e size v n xs)(h8:b8<base)(h9:b9<base)(u u':Value):((wr.setCell ⟨b8,0,none⟩ u).setCell ⟨b9,0,none⟩ u').ownsRow base e size v n xs:=
 zZ h λ g hg=>by
  have:=(h.lt g hg).1;rw[Below.heap_setCell _ _ _ _ (by simp;omega),Below.heap_setCell _ _ _ _ (by simp;omega)]
variable {c:Nat} {a:O8} {x:yR} {pre:List yR} {w1 W:W8} {N:List (Th × Nat)}
theorem BQ.put (hL:rO w r ah ab ch cb nb t lv f W)(dX:qH (λ i=>i=w.heap.size+1+1+1\/i=w.heap.size+1+1+1+1) w1 W)(k:Below W.heap.size W wr)(hb:w.heap.size+1+1+1+1<w1.heap.size)(ay:wr.ownsRow w1.heap.size 3 1 (.slice a (qK N (yP r.bs) x).length c) (qK N (yP r.bs) x).length (ew (qK N (yP r.bs) x)))(hle:∀ y∈pre,zes (qK N (yP r.bs) y) (qK N (yP r.bs) x)=false):
  KeepsFrom w1.heap.size W ((wr.setCell ⟨w.heap.size+1+1+1,0,none⟩ (.slice a (qK N (yP r.bs) x).length c)).setCell ⟨w.heap.size+1+1+1+1,0,none⟩ (.bool true))/\qH (λ i=>i=w.heap.size+1+1+1\/i=w.heap.size+1+1+1+1) W ((wr.setCell ⟨w.heap.size+1+1+1,0,none⟩ (.slice a (qK N (yP r.bs) x).length c)).setCell ⟨w.heap.size+1+1+1+1,0,none⟩ (.bool true))/\BQ w r ah ab ch cb nb t N w1 (pre++[x]) ((wr.setCell ⟨w.heap.size+1+1+1,0,none⟩ (.slice a (qK N (yP r.bs) x).length c)).setCell ⟨w.heap.size+1+1+1+1,0,none⟩ (.bool true)):=by
 have hK:qH (λ i=>i=w.heap.size+1+1+1\/i=w.heap.size+1+1+1+1) W ((wr.setCell ⟨w.heap.size+1+1+1,0,none⟩ (.slice a (qK N (yP r.bs) x).length c)).setCell ⟨w.heap.size+1+1+1+1,0,none⟩ (.bool true)):=((qH.ak k).setCell (.inr (.inl rfl)) _).setCell (.inr (.inr rfl)) _;refine⟨⟨by simpa using k.size,λ i o hB hi _=>?_⟩,hK,_,_,(hL.below k).Ru _,dX.trans hK,.inr ⟨_,a,c,rfl,rfl,⟨x,by simp,rfl⟩,λ y hy=>?_,z7v ay (by omega) hb _ _⟩⟩
 ·rw[Below.heap_setCell _ _ _ _ (by simp;omega),Below.heap_setCell _ _ _ _ (by simp;omega)];exact (k.block i (Array.getElem?_eq_some_iff.1 hi).1).trans hi
 ·rcases List.mem_append.1 hy with hy | hy
  ·exact hle y hy
  ·rw[List.mem_singleton.1 hy];exact zkh _
theorem BQ.stay {row:List Nat}(hL:rO w r ah ab ch cb nb t (.slice a row.length c) true W)(dX:qH (λ i=>i=w.heap.size+1+1+1\/i=w.heap.size+1+1+1+1) w1 W)(k:Below W.heap.size W wr)(h1:∃ y∈pre,qK N (yP r.bs) y=row)(h2:∀ y∈pre,zes (qK N (yP r.bs) y) row=false)(h3:W.ownsRow w1.heap.size 3 1 (.slice a row.length c) row.length (ew row))(hx:zes (qK N (yP r.bs) x) row=false):
  KeepsFrom w1.heap.size W wr/\qH (λ i=>i=w.heap.size+1+1+1\/i=w.heap.size+1+1+1+1) W wr/\BQ w r ah ab ch cb nb t N w1 (pre++[x]) wr:=by
 refine⟨⟨k.size,λ i o _ hi _=>(k.block i (Array.getElem?_eq_some_iff.1 hi).1).trans hi⟩,qH.ak k,_,_,hL.below k,dX.trans (qH.ak k),.inr ⟨row,a,c,rfl,rfl,?_,λ y hy=>?_,zJ h3 k (λ g e=>(h3.lt g e).2)⟩⟩
 ·obtain⟨y,hy,e⟩:=h1;exact⟨y,List.mem_append.2 (.inl hy),e⟩
 ·rcases List.mem_append.1 hy with hy | hy
  ·exact h2 y hy
  ·rw[List.mem_singleton.1 hy];exact hx
theorem z22 (w:W8)(nb base:Nat)(r:PR)(N:List (Th × Nat))(t:Th)(h:zvk w nb base r N t):
  Calls Tryz.prog 109 #[.agg #[.string r.R.pd,r.hv,r.bv],thV t,.map (some nb)] w (z0l w (zfr N r t)):=by
 obtain⟨ah,ch,sJ⟩:=zD h.bJ.hd;obtain⟨ab,cb,sI⟩:=zD h.bJ.bo.row;have H:=zC h;obtain⟨ct,lL⟩:∃ ct,ct=(zV t).toArray:=⟨_,rfl⟩;have pw:=zC lL;unfold thV;rw[<-lL,sJ,sI];have QA:=h.m.lt;have VJ:=zC sJ;have R1:=zC sI;clear lL h sJ sI;refine callsIn_wide.1 (callsIn_of_wp_marks (F:=Fence.wide) (n:=5) Tryz.func109 rfl trivial (wpIn_wide.2 ?_) rfl);simp only[Tryz.ntmps109,List.size_toArray,List.length_cons,List.length_nil,Nat.reduceAdd,Nat.reduceSub,Array.replicate_succ,Array.replicate_zero,List.push_toArray,List.append_toArray,List.nil_append,List.cons_append];go_upto_region 3 with fail;generalize bC:World.alloc (World.alloc (World.alloc (World.alloc (World.alloc w _) _) _) _) _=w0;have dq:rO w r ah ab ch cb nb t (.slice none 0 0) false w0:=by
  rw[<-bC,zA pw];exact rO.start w r ah ab ch cb nb t
 have k0:Below w.heap.size w w0:=dq.k;have s0:w0.heap.size=w.heap.size+1+1+1+1+1:=by rw[<-bC];simp
 clear bC;have c0:=(zB dq.rb 0).1;have c1:=(zB dq.rb 1).1;have c2:=(zB dq.rb 2).1;simp only[List.getElem?_toArray,List.getElem?_cons_zero,List.getElem?_cons_succ] at c0 c1 c2;have CY:=((zA H).bJ.bo).below k0;rw[zA R1] at CY;have HP:=zC (zfo w0 base r.R.pd ah r.R.ts.length ch ab cb r.bs CY (by have:=(zA H).l3;omega));have VF:=zC dq;have lV:=zC s0;have N8:=zC CY;clear dq k0 s0 CY;go_upto_region 4 with (go_at_call 164;refine (zA HP).mono ?_;rintro en wP ⟨ap,cp,rfl,oN,PK,YX⟩;have WB:=zC oN;have N9:=zC PK;clear oN PK YX);generalize dY:World.alloc wP _=wQ;have kQ:Below w0.heap.size w0 wQ:=by rw[<-dY];exact (zA N9).alloc (zA N9).size _
 have aQ:wQ.heap[wP.heap.size]?=some (.cells #[.slice ap (r.bs.filter (vA false)).length cp] 289 (0,0)):=by rw[<-dY];exact heap_alloc_new wP _
 have pQ:wQ.ownsRow (w0.heap.size+1) 79 2 (.slice ap (r.bs.filter (vA false)).length cp) (r.bs.filter (vA false)).length ((r.bs.filter (vA false)).flatMap vQ):=by rw[<-dY];exact (zA WB).alloc _
 have sQ:wQ.heap.size=wP.heap.size+1:=by rw[<-dY];simp
 clear dY;have dq:=(zA VF).below kQ;have s0:=zA lV;have UN:=kQ.size;have Qp:=(zA H).m.block (dq.k.block nb QA);have Nf:=((zA H).bJ.bo).below dq.k;rw[zA R1] at Nf;have TT:wQ.ownsRow base 191 1 (.slice ah (gw r).ts.length ch) (gw r).ts.length ((gw r).ts.map zc3):=by
  have:=zJ (zA H).bJ.hd dq.k (λ g e=>((zA H).bJ.hd.lt g e).2);rw[zA VJ] at this;exact this
 have hA:EX (λ i=>i=w.heap.size+1+1+1\/i=w.heap.size+1+1+1+1) wQ nb (.slice ah (gw r).ts.length ch) (.slice ab r.bs.length cb) base r.bs N:=
  ⟨Nf,Qp,by omega,λ x hx g hg=>by have:=(((zA H).bJ.bo.each x hx).lt g hg).2;omega,λ g hg=>by omega,(zA H).l3,(zA H).t4,_,_,_,rfl⟩
 have JB:=zC (ycp _ wQ nb r.R.pd (gw r).ts _ _ base r.bs N t hA TT (zA H).h4);have c0:=(zB dq.rb 0).1;have c1:=(zB dq.rb 1).1;have c2:=(zB dq.rb 2).1;have c5:=(zB dq.mb 0).1;simp only[List.getElem?_toArray,List.getElem?_cons_zero,List.getElem?_cons_succ] at c0 c1 c2 c5;have t3:=dq.tb.load;have RX:=zC dq;have VD:=zC aQ;have OG:=zC pQ;have OP:=zC (And.intro sQ UN);have Ot:=zC kQ;have Sk:=zC Qp;have HLQ:=zC Nf;clear dq hA kQ aQ pQ sQ UN s0 Qp Nf TT;have B4:=zC (show zfr N r t=(match xG [] (gw r) t with | none=>[] | some s=>(zbe N (zcv r.bs) (yP r.bs) s).map (qK N (yP r.bs))) from rfl);rw[show xG [] ⟨r.R.pd,(gw r).ts⟩ t=xG [] (gw r) t from rfl] at JB
 cases sX:xG [] (gw r) t with
 | none=>
  rw[sX] at JB B4;clear sX;go_wp2_with (go_at_call 165;refine (zA JB).mono ?_;rintro en w1 ⟨aX,-⟩;obtain⟨rfl,aL⟩:=aX rfl;have fN:=zC aL;clear aX aL);have dq:=(zA RX).below (zA fN);have S4:=(zA fN).size;have bj:=zA lV;have Np:=zA OP;refine (wpIn_wide (n:=5)).1 ?_;refine wpIn_rangeFunc_ownH (α:=Empty) rfl (by omega) (gf:=218) (lb:=#[]) rfl trivial (enters_of Tryz.func218 (by kernel_rfl) rfl)
   (encs:=λ x=>x.elim) (Kp:=λ _ _=>True) (S:=λ xs=>xs=[]) (Sp:=λ _=>True) (N:=1) (w0:=w1) (zz8 _ w1) (λ _ _=>trivial) (λ _ _ _ _ _ _ _ _=>trivial) B9 (λ x=>x.elim)
   (λ (_:List Empty) (W:W8)=>rO w r ah ab ch cb nb t (.slice none 0 0) false W)
   (λ (_:Code) (_:List Empty) (_:W8)=>False)
   (λ pre A B row hs hg hr=>hs.grown hg (λ i e=>by have:=(hr i e).1;omega))
   (λ c pre A B row hs hg hr=>hs)
   dq (λ x _ _=>x.elim) (λ x=>x.elim)
   (λ l pre x=>x.elim) (λ l pre x=>x.elim) ?done (λ D c pre W _ _ h=>h.elim)
  case done=>
   rintro D xs W hD-hL kL;have HL:=zC hL;have HD:=zC hD;have yi:=zC kL;have l8:=(zB hL.lb 0).1;have l9:=(zB hL.fb 0).1;simp only[List.getElem?_toArray,List.getElem?_cons_zero] at l8 l9;clear hL hD kL;go_wp2_with fail;go_quiet (fail);go_wp2_with fail;refine zbm [D] _ (by simp) (λ E hE=>?_) (λ w' hs=>?_)
   ·rw[List.mem_singleton.1 hE];exact zA yi
   ·refine⟨.tuple #[.slice none 0 0,.bool false],by simp[results,Tryz.results109,go_sem],?_,.inl ⟨zA B4,rfl⟩⟩;have hL:=zA HL;have hD:=zA HD;exact⟨hs.os.trans hL.k.os,hs.tape.trans hL.k.tape,hs.output.trans hL.k.output,by rw[hs.size];exact hL.k.size,λ i hi=>(hs.block i (by simp;omega)).trans (hL.k.block i hi)⟩
 | some s=>
  rw[sX] at JB B4;have bR:=(zA H).neg s sX;have xh:=(zA H).env s sX;have OE:=zC ((zA H).pos s sX);have Ow:=zC ((zA H).len s sX);clear sX;go_wp2_with (go_at_call 165;refine (zA JB).mono ?_;rintro en w1 ⟨-,kY⟩;obtain⟨rb,xb,eb,rfl,aL,dY⟩:=kY s rfl;have fN:=zC aL;have OZ:=zC dY;clear kY aL dY);have dq:=(zA RX).below (zA fN);have S4:=(zA fN).size;have bj:=zA lV;have Np:=zA OP;have Fa:=zC (show w.heap.size+1+1+1+1<w1.heap.size/\wP.heap.size<w1.heap.size by omega);have MT:=zA Fa;clear S4 bj Np c0 c1 c2 c5 t3;refine (wpIn_wide (n:=5)).1 ?_;refine wpIn_rangeFunc_ownH (α:=nO N r.bs s) rfl (by omega) (gf:=233) (lb:=#[.pointer (some ⟨rb,0,none⟩),.pointer (some ⟨xb,0,none⟩),.pointer (some ⟨eb,0,none⟩)]) rfl trivial (enters_of Tryz.func233 (by kernel_rfl) rfl)
   (zm9 _ _ w1 rb xb eb nb r.R.pd _ _ base r.bs N s (zA OZ) bR xh) (λ h1 h2=>qH.trans h1 h2) (λ W l o o' _ hl hc EI=>zhe W l o o' hl hc EI) B9 (λ _=>rfl)
   (λ (pre:List (nO N r.bs s)) (W:W8)=>BQ w r ah ab ch cb nb t N w1 (pre.map (λ y:nO N r.bs s=>y.1)) W)
   (λ (_:Code) (_:List (nO N r.bs s)) (_:W8)=>False)
   (λ pre A B row hs hg hr=>hs.grown hg (λ i e=>hr i e) MT.1)
   (λ c pre A B row hs hg hr=>hs)
   ⟨_,_,dq,qH.refl _ _,.inl ⟨rfl,rfl,rfl⟩⟩
   (λ (x:nO N r.bs s) (a':Act) (W:W8)=>∃ Bx,w1.heap.size<=Bx/\BV W Bx x.1/\a'={ tmps:=List.toArray ((Value.agg #[.string r.R.pd,.slice ah r.R.ts.length ch,.slice ab r.bs.length cb])::(Value.agg ct)::(Value.map (some nb))::(Value.pointer (some ⟨w.heap.size,0,none⟩))::(Value.pointer (some ⟨w.heap.size+1,0,none⟩))::(Value.pointer (some ⟨w.heap.size+1+1,0,none⟩))::(Value.slice none 0 0)::(Value.bool false)::(Value.pointer (some ⟨w.heap.size+1+1+1,0,none⟩))::(Value.pointer (some ⟨w.heap.size+1+1+1+1,0,none⟩))::(Value.pointer (some ⟨wP.heap.size,0,none⟩))::(Value.pointer (some ⟨Bx,0,none⟩))::undef::undef::undef::(Value.agg #[.string r.R.pd,.slice ah r.R.ts.length ch,.slice ab r.bs.length cb])::(Value.slice ap (r.bs.filter (vA false)).length cp)::(Value.agg #[.string r.R.pd,.slice ah r.R.ts.length ch,.slice ab r.bs.length cb])::(thV t)::(Value.map (some nb))::(Value.func (.func 233) #[] #[.pointer (some ⟨rb,0,none⟩),.pointer (some ⟨xb,0,none⟩),.pointer (some ⟨eb,0,none⟩)])::(zav x.1)::List.replicate 30 undef),defers:=[] })
   (λ x a' _ A B row hs hg hr=>let ⟨Bx,h1,h2,h3⟩:=hs;⟨Bx,h1,h2.grown hg (λ i e=>(hr i e).2),h3⟩)
   ?assign ?body ?done (λ D c pre W _ _ h=>h.elim)
  case assign=>
   intro l pre x W K2 hI ur;have wR:=zC ur;have HI:=zC hI;have hz:w1.heap.size<=W.heap.size:=(by obtain⟨_,_,_,hk,_⟩:=hI;exact hk.size);clear ur hI
   gi_wp2
   exact zA wR _ _ ((KeepsOthers.alloc _ _).from _) ((qH.refl _ _).alloc _) ((zA HI).grown (World.grownBy_alloc W _ none) (λ _ e=>by cases e) MT.1) ⟨W.heap.size,hz,BV.new _ _,rfl⟩
  case body=>
   rintro l pre x a' W T5-⟨lv,f,hL,dX,aP⟩ ⟨Bx,S8,gT,rfl⟩ -;have MT:=zA Fa;have bj:=zA lV;have Np:=zA OP;have PK:=(zA N9).size;have GD:=(List.mem_filter.1 x.2).1;have Lb:∀ g,(g=w.heap.size+1+1+1\/g=w.heap.size+1+1+1+1)->g<w0.heap.size+1:=λ g hg=>by omega
   have zk:j1 (λ i=>i=w.heap.size+1+1+1\/i=w.heap.size+1+1+1+1) W (.slice ap (r.bs.filter (vA false)).length cp) (vV false r.bs):=
    ((zo5 (zA N8) (zA Ot) (zA OG) Lb (λ x hx g hg=>by have:=(((zA H).bJ.bo.each x hx).lt g hg).2;omega) (zA H).t4).below (zA fN)).kZ dX
   have zi:W.heap[wP.heap.size]?=some (.cells #[.slice ap (r.bs.filter (vA false)).length cp] 289 (0,0)):=dX.cells (((zA fN).block _ (by omega)).trans (zA VD)) (by omega);have dH:qR W nb N:=dX.map ((zA Sk).block ((zA fN).block _ (zA Sk).lt)) (by omega);have aY:w1.heap.size<=W.heap.size:=dX.size;have Tu:∀ y∈vV false r.bs,zdu (xV x.1 y.1):=λ y hy=>zA OE x.1 GD y.1 (List.mem_map_of_mem hy)
   have Dx:=zA Ow x.1 GD;rw[<-Mj false r.bs] at zk zi ⊢;have rS:=zC (show qK N (yP r.bs) x.1=(vV false r.bs).map (λ y=>(yS N (xV x.1 y.1)).getD 0) by unfold qK yP;rw[List.map_map];rfl);have Ay:(vV false r.bs).length<=3:=(by rw[Mj];exact Nat.le_trans (List.length_filter_le _ _) (zA H).l3);generalize vV false r.bs=PS at *;have SJ:=(zB zi 0).1;simp only[List.getElem?_toArray,List.getElem?_cons_zero] at SJ;have ji:=zfk PS.length (by omega);have HL:=zC hL;have ow:=zC dX;have dB:=zC aP;have Ho:=zC gT;have VC:=zC zk;have iu:=zC dH;have OF:=zC Tu;clear hL dX aP gT zk zi dH Tu GD Lb bj Np
   gi_upto_region 7 with fail
   generalize hwm:World.alloc W _=wM;have kM:Below W.heap.size W wM:=(by rw[<-hwm];exact (Below.refl W.heap.size W).alloc L9 _);have rM:fj wM W.heap.size 3 PS.length (λ _=>.int .i64 0):=(by rw[<-hwm];exact fj.start W _ _ _);clear hwm ji;have W3:wM.cell? ⟨wP.heap.size,0,none⟩=some (.slice ap PS.length cp):=(kM.cell (p:=⟨wP.heap.size,0,none⟩) (by simp only[];omega)).trans SJ;obtain⟨rv,Uo⟩:∃ rv:Nat->Nat,rv=λ j=>((PS[j]?).map (λ y=>(yS N (xV x.1 y.1)).getD 0)).getD 0:=⟨_,rfl⟩
   have Sw:=zC Uo;have H0:=zC (show z0k W rv PS.length 0 wM from ⟨rM.eq (λ i hi=>by simp),kM⟩);clear kM rM Uo
   gi_upto_region 8 with fail
   gi_loopg [27] PS.length (λ gg i wr=>∃ k:Nat,k<=PS.length/\gg=PS.length-k/\i=.int .i64 k/\z0k W rv PS.length k wr)
   exact⟨0,Nat.zero_le _,rfl,rfl,zA H0⟩
   case round=>
    clear H0;obtain⟨k,hk,eD,rfl,ax⟩:=hrel
    by_cases aF:k<PS.length
    ·have zk:=(zA VC).kZ (qH.ak ax.k);obtain⟨JO,lM⟩:=zk.row;obtain⟨g,cap,hv,iF,aZ,bO,bQ,hc⟩:=vX zo4 lM k aF;injection hv with h1 h2 h3
     subst h1 h3;have hy:PS[k]∈PS:=List.getElem_mem aF;obtain⟨tb,lN⟩:=zk.ae _ hy;obtain⟨ta,tc,AR⟩:=zD lN;have kN:=zk.eJ _ hy;have hT:=zA OF _ hy;have oM:rv k=(yS N (xV x.1 PS[k].1)).getD 0:=(by rw[zA Sw];simp[aF]);rw[AR] at lN;have e0:wr.cell? ⟨g,k*2,none⟩=some (.string PS[k].1.p):=hc 0 (by omega);have e1:wr.cell? ⟨g,k*2+1,none⟩=some (.slice ta PS[k].1.ts.length tc):=(by rw[<-AR];exact hc 1 (by omega));have nu:(k:Int)<PS.length:=(by omega);have bT:=zC ax;have MJ:=zC oM;have Hx:=zC lN;generalize PS[k].1=AT at *;have AV:W.heap.size<wr.heap.size:=ax.row.lt;clear hc zk lM ax oM h2 AR lN hy
     gi_upto_region 10 with fail
     generalize hwa:World.alloc wr _=wA;have kA:Below wr.heap.size wr wA:=(by rw[<-hwa];exact (Below.refl wr.heap.size wr).alloc L9 _);have aA:wA.heap[wr.heap.size]?=some (.cells #[.string AT.p,.slice ta AT.ts.length tc] 79 (0,0)):=(by rw[<-hwa];exact heap_alloc_new wr _);have sA:wA.heap.size=wr.heap.size+1:=(by rw[<-hwa];simp);clear hwa;obtain⟨S,CO⟩:∃ S:W8->Prop,S=λ V=>∀ i,i<wA.heap.size->i≠W.heap.size->V.heap[i]?=wA.heap[i]?:=⟨_,rfl⟩
     have fM:=zC (λ (V:W8) (hV:S V)=>(show V.cell? ⟨w.heap.size+1+1,0,none⟩=some (.map (some nb))/\BV V Bx x.1/\qR V nb N/\V.cell? ⟨wr.heap.size,0,none⟩=some (.string AT.p)/\V.cell? ⟨wr.heap.size,1,none⟩=some (.slice ta AT.ts.length tc) from by
      have ax:=zA bT;rw[CO] at hV;have k2:Below W.heap.size W wA:=ax.k.trans (kA.mono ax.k.size);have bp:∀ i,i<W.heap.size->V.heap[i]?=W.heap[i]?:=λ i hi=>(hV i (by omega) (by omega)).trans (k2.block i hi)
      have aV:=(hV wr.heap.size (by omega) (by omega)).trans aA
      exact⟨(zB ((bp _ (Array.getElem?_eq_some_iff.1 (zA HL).mb).1).trans (zA HL).mb) 0).1,(bp _ (zA Ho).lt).trans (zA Ho),(zA iu).block (bp _ (zA iu).lt),(zB aV 0).1,(zB aV 1).1⟩))
     have B5:=zC (λ (V:W8) (hV:Below wA.heap.size wA V)=>(show S V from by rw[CO];exact λ i hi _=>hV.block i hi));have Hw:=zC (λ (V:W8) (hV:S V) (v:Value)=>(show S (V.setCell ⟨W.heap.size,k,none⟩ v) from by rw[CO] at hV ⊢;exact λ i hi hn=>(Below.heap_setCell _ _ _ _ (by simpa using hn)).trans (hV i hi hn)))
     have Wb:=zC (λ (V:W8) (hV:Below wA.heap.size wA V)=>(show z0k W rv PS.length k V from by
      have ax:=zA bT;have k1:Below wr.heap.size wr V:=kA.trans (hV.mono kA.size)
      exact⟨ax.row.below k1,ax.k.trans (k1.mono ax.k.size)⟩))
     have lJ:=zC (λ (V:W8) (hV:Below wA.heap.size wA V)=>zmg V tb x.1 AT ta tc (zZ (zA Hx) (λ g e=>(kA.trans (hV.mono kA.size)).block g ((zA Hx).lt g e).2)) kN Dx);have oC:=zA B5 wA.drew B9.drew;clear kA aA CO;refine zjy S (by kernel_rfl) (by kernel_rfl) (λ ⟨_,_,h⟩=>h) ?_;refine K9 0 (.slice (some ⟨W.heap.size,0,none⟩) PS.length PS.length) rfl (Or.inl ⟨by rfl,λ w _=>by go_simp⟩) oC ?_;refine K9 1 (.int .i64 k) rfl (Or.inl ⟨by rfl,λ w _=>by go_simp⟩) oC ?_;refine K9 2 (.map (some nb)) rfl (Or.inl ⟨by rfl,λ V hV=>by obtain⟨m4,b4,rX,RG,RH⟩:=zA fM V hV;go_simp⟩) oC ?_;refine K9 3 (zav x.1) rfl (Or.inl ⟨by rfl,λ V hV=>by obtain⟨m4,b4,rX,RG,RH⟩:=zA fM V hV;have ld:=b4.load;go_simp⟩) oC ?_;refine K9 4 (.agg #[.string AT.p,.slice ta AT.ts.length tc]) rfl (Or.inl ⟨by rfl,λ V hV=>by obtain⟨m4,b4,rX,RG,RH⟩:=zA fM V hV;go_simp⟩) oC ?_;refine wpAnyH_ready (rs:=[5]) (by kernel_rfl) (by simp) ?_;refine AllReadyH.cons rfl (λ K hK=>?_) AllReadyH.nil
     go_simp
     refine (zA lJ _ B9.drew).mono ?_;rintro en w4 ⟨bZ,rfl⟩;have dN:=yA bZ;have uu:=zA B5 w4 dN;have i4:=zA Wb w4 dN;have U4:=i4.row.cell aF;have Rq:=i4.row.fz k;have Jb:=zC i4;refine hK.out _ _ uu (λ _=>?_);clear hK K bZ i4;refine K9 6 (.int .i64 (((yS N (xV x.1 AT)).getD 0:Nat):Int)) rfl (Or.inl ⟨by rfl,λ V hV=>by obtain⟨m4,b4,rX,RG,RH⟩:=zA fM V hV;have lk4:=rX.L0 hT Tryz.underlying82;go_simp⟩) uu ?_;refine K9 7 (.pointer (some ⟨W.heap.size,k,none⟩)) rfl (Or.inl ⟨by rfl,λ w _=>by go_simp⟩) uu ?_;refine wpAnyH_ready (rs:=[8]) (by kernel_rfl) (by simp) ?_;refine AllReadyH.cons rfl (λ K hK=>?_) AllReadyH.nil
     go_simp
     refine hK.out _ _ (zA Hw _ uu _) (λ _=>?_);clear hK K;refine wpAnyH_done (by kernel_rfl) ?_ _
     gi_wp2
     gi_roundg (PS.length-(k+1))
     case measure=>omega
     case rel=>
      have i4:=zA Jb;refine⟨k+1,by omega,rfl,by go_num,?_,?_⟩
      ·refine ((i4.row.set k (.int .i64 (((yS N (xV x.1 AT)).getD 0:Nat):Int)))).eq λ j hj=>?_
       by_cases e:j=k
       ·subst e;simp[zA MJ]
       ·have e2:(j<k+1)=(j<k):=(by apply propext;omega);simp only[if_neg e,e2]
      ·exact i4.k.setCell L9 _
    ·have Gb:k=PS.length:=(by omega);subst Gb;have F6:fj wr W.heap.size 3 PS.length (λ j=>.int .i64 (rv j:Nat)):=ax.row.eq (λ j hj=>by rw[if_pos hj]);have aB:(List.range PS.length).map rv=qK N (yP r.bs) x.1:=by
      rw[zA rS,zA Sw];apply List.ext_getElem
      ·simp
      ·intro j h1 h2;simp at h1;simp[h1]
     have nH:(qK N (yP r.bs) x.1).length=PS.length:=(by rw[<-aB];simp);have ay:=F6.ew (by unfold maxLen;omega) (base:=w1.heap.size) aY;rw[aB,<-nH] at ay;have SR:=(zA HL).below ax.k;have HK:=zC ax.k;have CF:=zC ay;have nu:¬ ((PS.length:Int)<PS.length):=(by omega);rcases zA dB with⟨dV,rfl,rfl⟩ | ⟨row,la,lc,rfl,rfl,tf,LI,Nu⟩
     ·obtain⟨l8,z8⟩:=zB SR.lb 0;obtain⟨l9,z9⟩:=zB SR.fb 0;simp only[List.getElem?_toArray,List.getElem?_cons_zero] at l8 l9;have CG:=zC dV;clear ax F6 aB ay SR dV
      gi_wp2_with (refine⟨trivial,?_⟩)
      have:=BQ.put (pre:=pre.map (λ y:nO N r.bs s=>y.1)) (zA HL) (zA ow) (zA HK) (zA Fa).1 (x:=x.1) (zA CF) (λ y hy=>by rw[zA CG] at hy;cases hy);rw[<-List.map_singleton (f:=λ y:nO N r.bs s=>y.1),<-List.map_append,nH] at this;exact this
     ·have LJ:=zJ Nu ax.k (λ g e=>(Nu.lt g e).2);have Oa:=zC (zrb wr w1.heap.size w1.heap.size (some ⟨W.heap.size,0,none⟩) la PS.length lc (qK N (yP r.bs) x.1) row (by rw[<-nH];exact ay) LJ);rw[nH] at Oa;have T6:=zwe (qK N (yP r.bs) x.1) row;obtain⟨l8,z8⟩:=zB SR.lb 0;obtain⟨l9,z9⟩:=zB SR.fb 0;simp only[List.getElem?_toArray,List.getElem?_cons_zero] at l8 l9;have HX:=zC (And.intro tf (And.intro LI Nu));have Sg:=zC T6;clear ax F6 aB ay SR tf LI Nu LJ T6;generalize M8:zpk (qK N (yP r.bs) x.1) row=cv at *;clear M8
      by_cases hneg:cv<0
      ·have Gh:=(zA Sg).1 hneg
       gi_wp2_with (refine⟨trivial,?_⟩;gi_at_call 166;refine (CallsIn.inRound l (callsIn_wide.2 (zA Oa))).mono ?_;rintro en wx ⟨rfl,vs⟩;have vs:=vs.symm;subst vs)
       have:=BQ.put (pre:=pre.map (λ y:nO N r.bs s=>y.1)) (zA HL) (zA ow) (zA HK) (zA Fa).1 (x:=x.1) (zA CF) (λ y hy=>by
        cases hq:zes (qK N (yP r.bs) y) (qK N (yP r.bs) x.1) with
        | false=>rfl
        | true=>have:=zi7 hq Gh;rw[(zA HX).2.1 y hy] at this;cases this)
       rw[<-List.map_singleton (f:=λ y:nO N r.bs s=>y.1),<-List.map_append,nH] at this;exact this
      ·have Gh:zes (qK N (yP r.bs) x.1) row=false:=by
        cases hq:zes (qK N (yP r.bs) x.1) row with
        | false=>rfl
        | true=>exact absurd ((zA Sg).2 hq) hneg
       gi_wp2_with (refine⟨trivial,?_⟩;gi_at_call 166;refine (CallsIn.inRound l (callsIn_wide.2 (zA Oa))).mono ?_;rintro en wx ⟨rfl,vs⟩;have vs:=vs.symm;subst vs)
       have:=BQ.stay (pre:=pre.map (λ y:nO N r.bs s=>y.1)) (zA HL) (zA ow) (zA HK) (x:=x.1) (zA HX).1 (zA HX).2.1 (zA HX).2.2 Gh;rw[<-List.map_singleton (f:=λ y:nO N r.bs s=>y.1),<-List.map_append] at this;exact this
  case done=>
   rintro D xs W hD hS ⟨lv,f,hL,dX,aP⟩ kL;have HL:=zC hL;have HD:=zC hD;have yi:=zC kL;have dB:=zC aP;have Hw:=zC hS;have l8:=(zB hL.lb 0).1;have l9:=(zB hL.fb 0).1;simp only[List.getElem?_toArray,List.getElem?_cons_zero] at l8 l9;clear hL hD kL aP hS dX;go_wp2_with fail;go_quiet (fail);go_wp2_with fail;refine zbm [D] _ (by simp) (λ E hE=>?_) (λ w' hs=>?_)
   ·rw[List.mem_singleton.1 hE];exact zA yi
   ·refine⟨.tuple #[lv,.bool f],by simp[results,Tryz.results109,go_sem],?_⟩;have hL:=zA HL;have hD:=zA HD;have MT:=zA Fa;have aS:∀ z∈zbe N (zcv r.bs) (yP r.bs) s,z∈xs.map (λ y:nO N r.bs s=>y.1):=λ z hz=>List.mem_map.2 ⟨⟨z,hz⟩,zA Hw _,rfl⟩
    refine⟨⟨hs.os.trans hL.k.os,hs.tape.trans hL.k.tape,hs.output.trans hL.k.output,by rw[hs.size];exact hL.k.size,λ i hi=>(hs.block i (by simp;omega)).trans (hL.k.block i hi)⟩,?_⟩;rcases zA dB with⟨h1,rfl,rfl⟩ | ⟨row,a,c,rfl,rfl,⟨y,hy,e⟩,hle,ay⟩
    ·refine .inl ⟨?_,rfl⟩;rw[zA B4];refine List.eq_nil_iff_forall_not_mem.2 λ z hz=>?_
     obtain⟨q,hq,_⟩:=List.mem_map.1 hz;have:=aS q hq;rw[h1] at this
     cases this
    ·refine .inr ⟨row,a,c,?_,λ z hz=>?_,rfl,?_⟩
     ·rw[zA B4];obtain⟨q,hq,rfl⟩:=List.mem_map.1 hy;exact List.mem_map.2 ⟨q.1,q.2,e⟩
     ·rw[zA B4] at hz;obtain⟨q,hq,rfl⟩:=List.mem_map.1 hz;exact hle q (aS q hq)
     ·refine zG (zZ ay λ g hg=>hs.block g ?_) (by omega);intro hm;rw[List.mem_singleton.1 hm] at hg;rcases ay.2 with⟨h0,_⟩ | ⟨g',cap,cur,h0,_,bS,_⟩
      ·rw[h0] at hg;cases hg
      ·rw[h0] at hg;have e:g'=D:=(by simpa[Value.ownBlock] using hg);subst e;have:=zA yi;rw[bS] at this
       cases this
end
end Go.Proofs.YtldkpahaocjdpaaGreat
