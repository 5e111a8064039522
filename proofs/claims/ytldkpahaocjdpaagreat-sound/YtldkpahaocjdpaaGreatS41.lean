/-
  leastRow: the least of the rows by which a rule's head is a thing.
-/
import Derived.Test.YtldkpahaocjdpaaGreatS40
set_option maxHeartbeats 16000000
set_option maxRecDepth 1000000
namespace Go.Proofs.YtldkpahaocjdpaaGreat
section
open Go.RowKit Go.Maps
attribute [local go_sem ↓] to_bLoad to_bStore to_bAlloc bindV_cells to_tLoad to_tStore to_tAlloc thV_cells
attribute [local go_sem] Oper.semAt_some
attribute [local go_sem] bStore_new run_bAlloc tStore_new run_tAlloc
structure LeastArg (w:W8)(nb base:Nat)(r:PR)(N:List (Th × Nat))(t:Th):Prop where
 rule:ep w base r
 m:aP w nb N
 l3:r.bs.length<=3
 t4:∀ x∈r.bs,x.1.ts.length<=4
 h4:r.R.ts.length<=4
 th:ThOk t
 neg:∀ s,aH [] (aS r) t=some s->∀ e∈pmatches N (posOf r.bs) s,∀ x∈negOf r.bs,ThOk (aC e x)
 pos:∀ s,aH [] (aS r) t=some s->∀ e∈pmatches N (posOf r.bs) s,∀ x∈posOf r.bs,ThOk (aC e x)
 env:∀ s,aH [] (aS r) t=some s->aj (posVars r.bs) s
 len:∀ s,aH [] (aS r) t=some s->∀ e∈pmatches N (posOf r.bs) s,e.length<=12
def LeastPost (w:W8)(rows:List (List Nat))(e:Ending)(w':W8):Prop:=
 Below w.heap.size w w'/\((rows=[]/\e=.returned (.tuple #[.slice none 0 0,.bool false])) \/
  ∃ (row:List Nat) (a:O8) (c:Nat),row∈rows/\(∀ x∈rows,lexB x row=false)/\e=.returned (.tuple #[.slice a row.length c,.bool true])/\w'.ownsRow w.heap.size 3 1 (.slice a row.length c) row.length (cO row))
variable {t:Th} {w:W8}
theorem aP.lA {b:Nat}{L:List (Th × Nat)}(h:aP w b L)(ht:ThOk t){T:TypeId}(hT:Tryz.prog.underlying T=some (.map 88 3)):
  (Instr.lookup T (.map (some b)) (thV t) false).run Tryz.prog w=.ok (.int .i64 (((ay L t).getD 0:Nat):Int)) w:=by
 obtain⟨D,hD,hs,hn,bZ,bn,fw⟩:=h;obtain⟨l,hl⟩:=thKey ht;obtain⟨v,ps,fM,hv⟩:=hD.lookup thKeyed hT (z:=.int .i64 0) (by kernel_rfl) (zd:=.held (.int .i64 0)) (zp:=[]) rfl hl;have h1:=held_inj hv
 cases hk:ay L t with
 | some n=>
  obtain⟨h2,h3⟩:=bn _ (bq hk) l hl;rw[h3] at h1;have h1:=DataW.held.inj h1;subst h1;exact fM
 | none=>
  have h2:Maps.has D l=false:=by
   cases hh:Maps.has D l with
   | false=>rfl
   | true=>
    obtain⟨p,hp,dQ⟩:=fw l hh;have e:=thKey_inj (bZ p hp) ht dQ hl;exact absurd (show (t,p.2)∈L by rw[<-e];exact hp) (lookN_none hk _)
  rw[Maps.atKey_of_not_has h2] at h1;have h1:=DataW.held.inj h1;subst h1;exact fM
theorem wto1_stops (n:Nat)(w:W8):SeqStopsK Fence.wide n Tryz.prog 218 #[] (λ x:Empty=>x.elim) (λ _ _=>True) (λ xs=>xs=[]) (λ _=>True) 1 w:=by
 intro l J' Eu W hW Aa hJx' hY tU;have A1:=hide tU;clear hW Aa hJx' hY tU;refine callsIn_wide.2 ?_;go_enter Tryz.func218,Tryz.ntmps218;go_wp2_with fail;go_end0;exact⟨⟨_,rfl⟩,.inl ⟨[],rfl,ad A1⟩⟩
structure fl (w:W8)(r:PR)(ah ab:O8)(ch cb nb:Nat)(t:Th)(lv:Value)(f:Bool)(wr:W8):Prop where
 rb:wr.heap[w.heap.size]?=some (.cells #[.string r.R.pd,.slice ah r.R.ts.length ch,.slice ab r.bs.length cb] 123 (0,0))
 tb:TV wr (w.heap.size+1) t
 mb:wr.heap[w.heap.size+1+1]?=some (.cells #[.map (some nb)] 82 (0,0))
 lb:wr.heap[w.heap.size+1+1+1]?=some (.cells #[lv] 24 (0,0))
 fb:wr.heap[w.heap.size+1+1+1+1]?=some (.cells #[.bool f] 4 (0,0))
 k:Below w.heap.size w wr
theorem fl.below {w:W8}{r:PR}{ah ab:O8}{ch cb nb:Nat}{t:Th}{lv:Value}{f:Bool}{wr w':W8}(h:fl w r ah ab ch cb nb t lv f wr)(k:Below wr.heap.size wr w'):fl w r ah ab ch cb nb t lv f w':=
 ⟨(k.block _ (Array.getElem?_eq_some_iff.1 h.rb).1).trans h.rb,h.tb.below k,(k.block _ (Array.getElem?_eq_some_iff.1 h.mb).1).trans h.mb,(k.block _ (Array.getElem?_eq_some_iff.1 h.lb).1).trans h.lb,(k.block _ (Array.getElem?_eq_some_iff.1 h.fb).1).trans h.fb,h.k.trans (k.mono h.k.size)⟩
variable {wr:W8} {f:Bool} {lv:Value} {ch cb nb:Nat} {ah ab:O8} {r:PR}
theorem fl.grown {w':W8}(h:fl w r ah ab ch cb nb t lv f wr){row:Option Nat}(hg:wr.grownBy w' row)(hr:∀ i,row=some i->w.heap.size+1+1+1+1<i):fl w r ah ab ch cb nb t lv f w':=by
 have blk:∀ i,i<=w.heap.size+1+1+1+1->w'.heap[i]?=wr.heap[i]?:=λ i hi=>hg.block i (by have:=(Array.getElem?_eq_some_iff.1 h.fb).1;omega) (λ e=>by have:=hr i e.symm;omega)
 exact⟨(blk _ (by omega)).trans h.rb,(blk _ (by omega)).trans h.tb,(blk _ (by omega)).trans h.mb,(blk _ (by omega)).trans h.lb,(blk _ (by omega)).trans h.fb,⟨hg.os.trans h.k.os,hg.tape.trans h.k.tape,hg.output.trans h.k.output,Nat.le_trans h.k.size hg.size,λ i hi=>(blk i (by omega)).trans (h.k.block i hi)⟩⟩
theorem fl.start (w:W8)(r:PR)(ah ab:O8)(ch cb nb:Nat)(t:Th):fl w r ah ab ch cb nb t (.slice none 0 0) false (((((w.alloc (.cells #[.string r.R.pd,.slice ah r.R.ts.length ch,.slice ab r.bs.length cb] 123)).alloc (.cells (aw t).toArray 88)).alloc (.cells #[.map (some nb)] 82)).alloc (.cells #[.slice none 0 0] 24)).alloc (.cells #[.bool false] 4)):=by
 refine⟨?_,?_,?_,?_,?_,?_⟩
 ·rw[Below.heap_alloc _ _ _ (by simp only[World.size_alloc];omega),Below.heap_alloc _ _ _ (by simp only[World.size_alloc];omega),Below.heap_alloc _ _ _ (by simp only[World.size_alloc];omega),Below.heap_alloc _ _ _ (by simp)];exact heap_alloc_new w _
 ·show _=_
  rw[Below.heap_alloc _ _ _ (by simp only[World.size_alloc];omega),Below.heap_alloc _ _ _ (by simp only[World.size_alloc];omega),Below.heap_alloc _ _ _ (by simp)];have:=heap_alloc_new (w.alloc (.cells #[.string r.R.pd,.slice ah r.R.ts.length ch,.slice ab r.bs.length cb] 123)) (.cells (aw t).toArray 88);simpa only[World.size_alloc] using this
 ·rw[Below.heap_alloc _ _ _ (by simp only[World.size_alloc];omega),Below.heap_alloc _ _ _ (by simp)];have:=heap_alloc_new ((w.alloc (.cells #[.string r.R.pd,.slice ah r.R.ts.length ch,.slice ab r.bs.length cb] 123)).alloc (.cells (aw t).toArray 88)) (.cells #[.map (some nb)] 82);simpa only[World.size_alloc] using this
 ·rw[Below.heap_alloc _ _ _ (by simp)];have:=heap_alloc_new (((w.alloc (.cells #[.string r.R.pd,.slice ah r.R.ts.length ch,.slice ab r.bs.length cb] 123)).alloc (.cells (aw t).toArray 88)).alloc (.cells #[.map (some nb)] 82)) (.cells #[.slice none 0 0] 24);simpa only[World.size_alloc] using this
 ·have:=heap_alloc_new ((((w.alloc (.cells #[.string r.R.pd,.slice ah r.R.ts.length ch,.slice ab r.bs.length cb] 123)).alloc (.cells (aw t).toArray 88)).alloc (.cells #[.map (some nb)] 82)).alloc (.cells #[.slice none 0 0] 24)) (.cells #[.bool false] 4);simpa only[World.size_alloc] using this
 ·exact (((((Below.refl w.heap.size w).alloc L9 _).alloc (by simp) _).alloc (by simp only[World.size_alloc];omega) _).alloc (by simp only[World.size_alloc];omega) _).alloc (by simp only[World.size_alloc];omega) _
structure LInner (W:W8)(rv:Nat->Nat)(n k:Nat)(wr:W8):Prop where
 row:bU wr W.heap.size 3 n (λ j=>.int .i64 ((if j<k then rv j else 0:Nat)))
 k:Below W.heap.size W wr
def LState (N:List (Th × Nat))(r:PR)(B:Nat)(pre:List aB)(lv:Value)(f:Bool)(W:W8):Prop:=
 (pre=[]/\lv=.slice none 0 0/\f=false)\/∃ (row:List Nat) (a:O8) (c:Nat),lv=.slice a row.length c/\f=true/\(∃ y∈pre,rowOf N (posOf r.bs) y=row)/\(∀ y∈pre,lexB (rowOf N (posOf r.bs) y) row=false)/\W.ownsRow B 3 1 (.slice a row.length c) row.length (cO row)
def dR (w:W8)(r:PR)(ah ab:O8)(ch cb nb:Nat)(t:Th)(N:List (Th × Nat))(w1:W8)(pre:List aB)(W:W8):Prop:=
 ∃ (lv:Value) (f:Bool),fl w r ah ab ch cb nb t lv f W/\aU (λ i=>i=w.heap.size+1+1+1\/i=w.heap.size+1+1+1+1) w1 W/\LState N r w1.heap.size pre lv f W
theorem dR.grown {w:W8}{r:PR}{ah ab:O8}{ch cb nb:Nat}{t:Th}{N:List (Th × Nat)}{w1:W8}{pre:List aB}{A B:W8}(h:dR w r ah ab ch cb nb t N w1 pre A){row:Option Nat}(hg:A.grownBy B row)(hr:∀ i,row=some i->w1.heap.size<=i/\∃ o:Obj,A.heap[i]?=some o/\o.isCells=false)(hb:w.heap.size+1+1+1+1<w1.heap.size):dR w r ah ab ch cb nb t N w1 pre B:=by
 obtain⟨lv,f,h1,h2,h3⟩:=h;refine⟨lv,f,h1.grown hg (λ i e=>by have:=(hr i e).1;omega),h2.grown hg (λ i e=>.inl (hr i e).1),?_⟩;rcases h3 with h3 | ⟨va,a,c,e1,e2,e3,e4,e5⟩
 ·exact .inl h3
 ·exact .inr ⟨va,a,c,e1,e2,e3,e4,own_grown e5 hg (λ i e=>(hr i e).2)⟩
theorem fl.DK (h:fl w r ah ab ch cb nb t lv f wr)(v:Value):fl w r ah ab ch cb nb t v true ((wr.setCell ⟨w.heap.size+1+1+1,0,none⟩ v).setCell ⟨w.heap.size+1+1+1+1,0,none⟩ (.bool true)):=by
 have blk:∀ i,i≠w.heap.size+1+1+1->i≠w.heap.size+1+1+1+1->((wr.setCell ⟨w.heap.size+1+1+1,0,none⟩ v).setCell ⟨w.heap.size+1+1+1+1,0,none⟩ (.bool true)).heap[i]?=wr.heap[i]?:=λ i h1 h2=>by
  rw[Below.heap_setCell _ _ _ _ (by simpa using h2),Below.heap_setCell _ _ _ _ (by simpa using h1)]
 refine⟨(blk _ (by omega) (by omega)).trans h.rb,(blk _ (by omega) (by omega)).trans h.tb,(blk _ (by omega) (by omega)).trans h.mb,?_,?_,⟨h.k.os,h.k.tape,h.k.output,by simpa using h.k.size,λ i hi=>(blk i (by omega) (by omega)).trans (h.k.block i hi)⟩⟩
 ·rw[Below.heap_setCell _ _ _ _ (by simp),setCell_eq_setRow wr _ 0 _ _ (0,0) v h.lb];exact setRow_heap _ _ _ _ _ _ h.lb
 ·have h9:(wr.setCell ⟨w.heap.size+1+1+1,0,none⟩ v).heap[w.heap.size+1+1+1+1]?=some (.cells #[.bool f] 4 (0,0)):=by
   rw[Below.heap_setCell _ _ _ _ (by simp)];exact h.fb
  rw[setCell_eq_setRow _ _ 0 _ _ (0,0) _ h9];exact setRow_heap _ _ _ _ _ _ h9
theorem own_sets {b8 b9 base n:Nat}{e:TypeId}{size:Nat}{v:Value}{xs:V8}(h:wr.ownsRow base e size v n xs)(h8:b8<base)(h9:b9<base)(u u':Value):((wr.setCell ⟨b8,0,none⟩ u).setCell ⟨b9,0,none⟩ u').ownsRow base e size v n xs:=
 own_block h λ g hg=>by
  have:=(h.lt g hg).1;rw[Below.heap_setCell _ _ _ _ (by simp;omega),Below.heap_setCell _ _ _ _ (by simp;omega)]
variable {c:Nat} {a:O8} {x:aB} {pre:List aB} {w1 W:W8} {N:List (Th × Nat)}
theorem dR.put (hL:fl w r ah ab ch cb nb t lv f W)(cV:aU (λ i=>i=w.heap.size+1+1+1\/i=w.heap.size+1+1+1+1) w1 W)(k:Below W.heap.size W wr)(hb:w.heap.size+1+1+1+1<w1.heap.size)(aI:wr.ownsRow w1.heap.size 3 1 (.slice a (rowOf N (posOf r.bs) x).length c) (rowOf N (posOf r.bs) x).length (cO (rowOf N (posOf r.bs) x)))(hle:∀ y∈pre,lexB (rowOf N (posOf r.bs) y) (rowOf N (posOf r.bs) x)=false):
  KeepsFrom w1.heap.size W ((wr.setCell ⟨w.heap.size+1+1+1,0,none⟩ (.slice a (rowOf N (posOf r.bs) x).length c)).setCell ⟨w.heap.size+1+1+1+1,0,none⟩ (.bool true))/\aU (λ i=>i=w.heap.size+1+1+1\/i=w.heap.size+1+1+1+1) W ((wr.setCell ⟨w.heap.size+1+1+1,0,none⟩ (.slice a (rowOf N (posOf r.bs) x).length c)).setCell ⟨w.heap.size+1+1+1+1,0,none⟩ (.bool true))/\dR w r ah ab ch cb nb t N w1 (pre++[x]) ((wr.setCell ⟨w.heap.size+1+1+1,0,none⟩ (.slice a (rowOf N (posOf r.bs) x).length c)).setCell ⟨w.heap.size+1+1+1+1,0,none⟩ (.bool true)):=by
 have hK:aU (λ i=>i=w.heap.size+1+1+1\/i=w.heap.size+1+1+1+1) W ((wr.setCell ⟨w.heap.size+1+1+1,0,none⟩ (.slice a (rowOf N (posOf r.bs) x).length c)).setCell ⟨w.heap.size+1+1+1+1,0,none⟩ (.bool true)):=((aU.aG k).setCell (.inr (.inl rfl)) _).setCell (.inr (.inr rfl)) _;refine⟨⟨by simpa using k.size,λ i o hB hi _=>?_⟩,hK,_,_,(hL.below k).DK _,cV.trans hK,.inr ⟨_,a,c,rfl,rfl,⟨x,by simp,rfl⟩,λ y hy=>?_,own_sets aI (by omega) hb _ _⟩⟩
 ·rw[Below.heap_setCell _ _ _ _ (by simp;omega),Below.heap_setCell _ _ _ _ (by simp;omega)];exact (k.block i (Array.getElem?_eq_some_iff.1 hi).1).trans hi
 ·rcases List.mem_append.1 hy with hy | hy
  ·exact hle y hy
  ·rw[List.mem_singleton.1 hy];exact gO _
theorem dR.stay {row:List Nat}(hL:fl w r ah ab ch cb nb t (.slice a row.length c) true W)(cV:aU (λ i=>i=w.heap.size+1+1+1\/i=w.heap.size+1+1+1+1) w1 W)(k:Below W.heap.size W wr)(h1:∃ y∈pre,rowOf N (posOf r.bs) y=row)(h2:∀ y∈pre,lexB (rowOf N (posOf r.bs) y) row=false)(h3:W.ownsRow w1.heap.size 3 1 (.slice a row.length c) row.length (cO row))(hx:lexB (rowOf N (posOf r.bs) x) row=false):
  KeepsFrom w1.heap.size W wr/\aU (λ i=>i=w.heap.size+1+1+1\/i=w.heap.size+1+1+1+1) W wr/\dR w r ah ab ch cb nb t N w1 (pre++[x]) wr:=by
 refine⟨⟨k.size,λ i o _ hi _=>(k.block i (Array.getElem?_eq_some_iff.1 hi).1).trans hi⟩,aU.aG k,_,_,hL.below k,cV.trans (aU.aG k),.inr ⟨row,a,c,rfl,rfl,?_,λ y hy=>?_,own_below h3 k (λ g e=>(h3.lt g e).2)⟩⟩
 ·obtain⟨y,hy,e⟩:=h1;exact⟨y,List.mem_append.2 (.inl hy),e⟩
 ·rcases List.mem_append.1 hy with hy | hy
  ·exact h2 y hy
  ·rw[List.mem_singleton.1 hy];exact hx
theorem least_any (w:W8)(nb base:Nat)(r:PR)(N:List (Th × Nat))(t:Th)(h:LeastArg w nb base r N t):
  Calls Tryz.prog 109 #[.agg #[.string r.R.pd,r.hv,r.bv],thV t,.map (some nb)] w (LeastPost w (rowsTo N r t)):=by
 obtain⟨ah,ch,fF⟩:=own_slice h.rule.hd;obtain⟨ab,cb,fq⟩:=own_slice h.rule.bo.row;have H:=hide h;obtain⟨ct,eQ⟩:∃ ct,ct=(aw t).toArray:=⟨_,rfl⟩;have fH:=hide eQ;unfold thV;rw[<-eQ,fF,fq];have yO:=h.m.lt;have qw:=hide fF;have qd:=hide fq;clear eQ h fF fq;refine callsIn_wide.1 (callsIn_of_wp_marks (F:=Fence.wide) (n:=5) Tryz.func109 rfl trivial (wpIn_wide.2 ?_) rfl);simp only[Tryz.ntmps109,List.size_toArray,List.length_cons,List.length_nil,Nat.reduceAdd,Nat.reduceSub,Array.replicate_succ,Array.replicate_zero,List.push_toArray,List.append_toArray,List.nil_append,List.cons_append];go_upto_region 3 with fail;generalize hw0:World.alloc (World.alloc (World.alloc (World.alloc (World.alloc w _) _) _) _) _=w0;have dc:fl w r ah ab ch cb nb t (.slice none 0 0) false w0:=by
  rw[<-hw0,ad fH];exact fl.start w r ah ab ch cb nb t
 have k0:Below w.heap.size w w0:=dc.k;have s0:w0.heap.size=w.heap.size+1+1+1+1+1:=by rw[<-hw0];simp
 clear hw0;have c0:=(block_cells dc.rb 0).1;have c1:=(block_cells dc.rb 1).1;have c2:=(block_cells dc.rb 2).1;simp only[List.getElem?_toArray,List.getElem?_cons_zero,List.getElem?_cons_succ] at c0 c1 c2;have kX:=((ad H).rule.bo).below k0;rw[ad qd] at kX;have HP:=hide (positive_any w0 base r.R.pd ah r.R.ts.length ch ab cb r.bs kX (by have:=(ad H).l3;omega));have tk:=hide dc;have fS:=hide s0;have AQ:=hide kX;clear dc k0 s0 kX;go_upto_region 4 with (go_at_call 164;refine (ad HP).mono ?_;rintro en wP ⟨ap,cp,rfl,jD,qU,zt⟩;have og:=hide jD;have oG:=hide qU;clear jD qU zt);generalize br:World.alloc wP _=wQ;have kQ:Below w0.heap.size w0 wQ:=by rw[<-br];exact (ad oG).alloc (ad oG).size _
 have aQ:wQ.heap[wP.heap.size]?=some (.cells #[.slice ap (r.bs.filter (isNeg false)).length cp] 289 (0,0)):=by rw[<-br];exact heap_alloc_new wP _
 have pQ:wQ.ownsRow (w0.heap.size+1) 79 2 (.slice ap (r.bs.filter (isNeg false)).length cp) (r.bs.filter (isNeg false)).length ((r.bs.filter (isNeg false)).flatMap atCells1):=by rw[<-br];exact (ad og).alloc _
 have sQ:wQ.heap.size=wP.heap.size+1:=by rw[<-br];simp
 clear br;have dc:=(ad tk).below kQ;have s0:=ad fS;have Gc:=kQ.size;have CU:=(ad H).m.block (dc.k.block nb yO);have An:=((ad H).rule.bo).below dc.k;rw[ad qd] at An;have Fk:wQ.ownsRow base 191 1 (.slice ah (aS r).ts.length ch) (aS r).ts.length ((aS r).ts.map termV):=by
  have:=own_below (ad H).rule.hd dc.k (λ g e=>((ad H).rule.hd.lt g e).2);rw[ad qw] at this;exact this
 have hA:j4 (λ i=>i=w.heap.size+1+1+1\/i=w.heap.size+1+1+1+1) wQ nb (.slice ah (aS r).ts.length ch) (.slice ab r.bs.length cb) base r.bs N:=
  ⟨An,CU,by omega,λ x hx g hg=>by have:=(((ad H).rule.bo.each x hx).lt g hg).2;omega,λ g hg=>by omega,(ad H).l3,(ad H).t4,_,_,_,rfl⟩
 have KF:=hide (wto_any _ wQ nb r.R.pd (aS r).ts _ _ base r.bs N t hA Fk (ad H).h4);have c0:=(block_cells dc.rb 0).1;have c1:=(block_cells dc.rb 1).1;have c2:=(block_cells dc.rb 2).1;have c5:=(block_cells dc.mb 0).1;simp only[List.getElem?_toArray,List.getElem?_cons_zero,List.getElem?_cons_succ] at c0 c1 c2 c5;have t3:=dc.tb.load;have zH:=hide dc;have GH:=hide aQ;have qE:=hide pQ;have Br:=hide (And.intro sQ Gc);have vq:=hide kQ;have Ea:=hide CU;have HLQ:=hide An;clear dc hA kQ aQ pQ sQ Gc s0 CU An Fk;have rW:=hide (show rowsTo N r t=(match aH [] (aS r) t with | none=>[] | some s=>(pways N (negOf r.bs) (posOf r.bs) s).map (rowOf N (posOf r.bs))) from rfl);rw[show aH [] ⟨r.R.pd,(aS r).ts⟩ t=aH [] (aS r) t from rfl] at KF
 cases ln:aH [] (aS r) t with
 | none=>
  rw[ln] at KF rW;clear ln;go_wp2_with (go_at_call 165;refine (ad KF).mono ?_;rintro en w1 ⟨cC,-⟩;obtain⟨rfl,aX⟩:=cC rfl;have cR:=hide aX;clear cC aX);have dc:=(ad zH).below (ad cR);have ED:=(ad cR).size;have hsz:=ad fS;have uL:=ad Br;refine (wpIn_wide (n:=5)).1 ?_;refine wpIn_rangeFunc_ownH (α:=Empty) rfl (by omega) (gf:=218) (lb:=#[]) rfl trivial (enters_of Tryz.func218 (by kernel_rfl) rfl)
   (encs:=λ x=>x.elim) (Kp:=λ _ _=>True) (S:=λ xs=>xs=[]) (Sp:=λ _=>True) (N:=1) (w0:=w1) (wto1_stops _ w1) (λ _ _=>trivial) (λ _ _ _ _ _ _ _ _=>trivial) B9 (λ x=>x.elim)
   (λ (_:List Empty) (W:W8)=>fl w r ah ab ch cb nb t (.slice none 0 0) false W)
   (λ (_:Code) (_:List Empty) (_:W8)=>False)
   (λ pre A B row hs hg hr=>hs.grown hg (λ i e=>by have:=(hr i e).1;omega))
   (λ c pre A B row hs hg hr=>hs)
   dc (λ x _ _=>x.elim) (λ x=>x.elim)
   (λ l pre x=>x.elim) (λ l pre x=>x.elim) ?done (λ D c pre W _ _ h=>h.elim)
  case done=>
   rintro D xs W hD-hL eF;have HL:=hide hL;have HD:=hide hD;have lU:=hide eF;have l8:=(block_cells hL.lb 0).1;have l9:=(block_cells hL.fb 0).1;simp only[List.getElem?_toArray,List.getElem?_cons_zero] at l8 l9;clear hL hD eF;go_wp2_with fail;go_quiet (fail);go_wp2_with fail;refine leave_marks [D] _ (by simp) (λ E hE=>?_) (λ w' hs=>?_)
   ·rw[List.mem_singleton.1 hE];exact ad lU
   ·refine⟨.tuple #[.slice none 0 0,.bool false],by simp[results,Tryz.results109,go_sem],?_,.inl ⟨ad rW,rfl⟩⟩;have hL:=ad HL;have hD:=ad HD;exact⟨hs.os.trans hL.k.os,hs.tape.trans hL.k.tape,hs.output.trans hL.k.output,by rw[hs.size];exact hL.k.size,λ i hi=>(hs.block i (by simp;omega)).trans (hL.k.block i hi)⟩
 | some s=>
  rw[ln] at KF rW;have bZ:=(ad H).neg s ln;have ou:=(ad H).env s ln;have Hn:=hide ((ad H).pos s ln);have A8:=hide ((ad H).len s ln);clear ln;go_wp2_with (go_at_call 165;refine (ad KF).mono ?_;rintro en w1 ⟨-,eJ⟩;obtain⟨rb,xb,eb,rfl,aX,br⟩:=eJ s rfl;have cR:=hide aX;have xn:=hide br;clear eJ aX br);have dc:=(ad zH).below (ad cR);have ED:=(ad cR).size;have hsz:=ad fS;have uL:=ad Br;have kj:=hide (show w.heap.size+1+1+1+1<w1.heap.size/\wP.heap.size<w1.heap.size by omega);have xI:=ad kj;clear ED hsz uL c0 c1 c2 c5 t3;refine (wpIn_wide (n:=5)).1 ?_;refine wpIn_rangeFunc_ownH (α:=bD N r.bs s) rfl (by omega) (gf:=233) (lb:=#[.pointer (some ⟨rb,0,none⟩),.pointer (some ⟨xb,0,none⟩),.pointer (some ⟨eb,0,none⟩)]) rfl trivial (enters_of Tryz.func233 (by kernel_rfl) rfl)
   (ways1_stops _ _ w1 rb xb eb nb r.R.pd _ _ base r.bs N s (ad xn) bZ ou) (λ h1 h2=>aU.trans h1 h2) (λ W l o o' _ hl hc hwk=>keep_putObj W l o o' hl hc hwk) B9 (λ _=>rfl)
   (λ (pre:List (bD N r.bs s)) (W:W8)=>dR w r ah ab ch cb nb t N w1 (pre.map (λ y:bD N r.bs s=>y.1)) W)
   (λ (_:Code) (_:List (bD N r.bs s)) (_:W8)=>False)
   (λ pre A B row hs hg hr=>hs.grown hg (λ i e=>hr i e) xI.1)
   (λ c pre A B row hs hg hr=>hs)
   ⟨_,_,dc,aU.refl _ _,.inl ⟨rfl,rfl,rfl⟩⟩
   (λ (x:bD N r.bs s) (a':Act) (W:W8)=>∃ Bx,w1.heap.size<=Bx/\BV W Bx x.1/\a'={ tmps:=List.toArray ((Value.agg #[.string r.R.pd,.slice ah r.R.ts.length ch,.slice ab r.bs.length cb])::(Value.agg ct)::(Value.map (some nb))::(Value.pointer (some ⟨w.heap.size,0,none⟩))::(Value.pointer (some ⟨w.heap.size+1,0,none⟩))::(Value.pointer (some ⟨w.heap.size+1+1,0,none⟩))::(Value.slice none 0 0)::(Value.bool false)::(Value.pointer (some ⟨w.heap.size+1+1+1,0,none⟩))::(Value.pointer (some ⟨w.heap.size+1+1+1+1,0,none⟩))::(Value.pointer (some ⟨wP.heap.size,0,none⟩))::(Value.pointer (some ⟨Bx,0,none⟩))::undef::undef::undef::(Value.agg #[.string r.R.pd,.slice ah r.R.ts.length ch,.slice ab r.bs.length cb])::(Value.slice ap (r.bs.filter (isNeg false)).length cp)::(Value.agg #[.string r.R.pd,.slice ah r.R.ts.length ch,.slice ab r.bs.length cb])::(thV t)::(Value.map (some nb))::(Value.func (.func 233) #[] #[.pointer (some ⟨rb,0,none⟩),.pointer (some ⟨xb,0,none⟩),.pointer (some ⟨eb,0,none⟩)])::(bindV x.1)::List.replicate 30 undef),defers:=[] })
   (λ x a' _ A B row hs hg hr=>let ⟨Bx,h1,h2,h3⟩:=hs;⟨Bx,h1,h2.grown hg (λ i e=>(hr i e).2),h3⟩)
   ?assign ?body ?done (λ D c pre W _ _ h=>h.elim)
  case assign=>
   intro l pre x W K2 hI jJ;have kI:=hide jJ;have HI:=hide hI;have hz:w1.heap.size<=W.heap.size:=(by obtain⟨_,_,_,hk,_⟩:=hI;exact hk.size);clear jJ hI
   gi_wp2
   exact ad kI _ _ ((KeepsOthers.alloc _ _).from _) ((aU.refl _ _).alloc _) ((ad HI).grown (World.grownBy_alloc W _ none) (λ _ e=>by cases e) xI.1) ⟨W.heap.size,hz,BV.new _ _,rfl⟩
  case body=>
   rintro l pre x a' W CI-⟨lv,f,hL,cV,dj⟩ ⟨Bx,BR,ko,rfl⟩ -;have xI:=ad kj;have hsz:=ad fS;have uL:=ad Br;have qU:=(ad oG).size;have pT:=(List.mem_filter.1 x.2).1;have yS:∀ g,(g=w.heap.size+1+1+1\/g=w.heap.size+1+1+1+1)->g<w0.heap.size+1:=λ g hg=>by omega
   have oV:bG (λ i=>i=w.heap.size+1+1+1\/i=w.heap.size+1+1+1+1) W (.slice ap (r.bs.filter (isNeg false)).length cp) (aD false r.bs):=
    ((atoms_in (ad AQ) (ad vq) (ad qE) yS (λ x hx g hg=>by have:=(((ad H).rule.bo.each x hx).lt g hg).2;omega) (ad H).t4).below (ad cR)).gN cV
   have Cd:W.heap[wP.heap.size]?=some (.cells #[.slice ap (r.bs.filter (isNeg false)).length cp] 289 (0,0)):=cV.cells (((ad cR).block _ (by omega)).trans (ad GH)) (by omega);have eY:aP W nb N:=cV.map ((ad Ea).block ((ad cR).block _ (ad Ea).lt)) (by omega);have cD:w1.heap.size<=W.heap.size:=cV.size;have EX:∀ y∈aD false r.bs,ThOk (aC x.1 y.1):=λ y hy=>ad Hn x.1 pT y.1 (List.mem_map_of_mem hy)
   have nS:=ad A8 x.1 pT;rw[<-dV false r.bs] at oV Cd ⊢;have zT:=hide (show rowOf N (posOf r.bs) x.1=(aD false r.bs).map (λ y=>(ay N (aC x.1 y.1)).getD 0) by unfold rowOf posOf;rw[List.map_map];rfl);have hn3:(aD false r.bs).length<=3:=(by rw[dV];exact Nat.le_trans (List.length_filter_le _ _) (ad H).l3);generalize aD false r.bs=PS at *;have Ev:=(block_cells Cd 0).1;simp only[List.getElem?_toArray,List.getElem?_cons_zero] at Ev;have ri:=make_ints PS.length (by omega);have HL:=hide hL;have gC:=hide cV;have gP:=hide dj;have vg:=hide ko;have GG:=hide oV;have zM:=hide eY;have Bi:=hide EX;clear hL cV dj ko oV Cd eY EX pT yS hsz uL
   gi_upto_region 7 with fail
   generalize hwm:World.alloc W _=wM;have kM:Below W.heap.size W wM:=(by rw[<-hwm];exact (Below.refl W.heap.size W).alloc L9 _);have rM:bU wM W.heap.size 3 PS.length (λ _=>.int .i64 0):=(by rw[<-hwm];exact bU.start W _ _ _);clear hwm ri;have Iq:wM.cell? ⟨wP.heap.size,0,none⟩=some (.slice ap PS.length cp):=(kM.cell (p:=⟨wP.heap.size,0,none⟩) (by simp only[];omega)).trans Ev;obtain⟨rv,FQ⟩:∃ rv:Nat->Nat,rv=λ j=>((PS[j]?).map (λ y=>(ay N (aC x.1 y.1)).getD 0)).getD 0:=⟨_,rfl⟩
   have Ek:=hide FQ;have H0:=hide (show LInner W rv PS.length 0 wM from ⟨rM.eq (λ i hi=>by simp),kM⟩);clear kM rM FQ
   gi_upto_region 8 with fail
   gi_loopg [27] PS.length (λ gg i wr=>∃ k:Nat,k<=PS.length/\gg=PS.length-k/\i=.int .i64 k/\LInner W rv PS.length k wr)
   exact⟨0,Nat.zero_le _,rfl,rfl,ad H0⟩
   case round=>
    clear H0;obtain⟨k,hk,fK,rfl,ak⟩:=hrel
    by_cases aR:k<PS.length
    ·have oV:=(ad GG).gN (aU.aG ak.k);obtain⟨xw,lr⟩:=oV.row;obtain⟨g,cap,hv,iE,dn,dB,dx,hc⟩:=row_at atom_len lr k aR;injection hv with h1 h2 h3
     subst h1 h3;have hy:PS[k]∈PS:=List.getElem_mem aR;obtain⟨tb,gy⟩:=oV.aW _ hy;obtain⟨ta,tc,ji⟩:=own_slice gy;have gL:=oV.fG _ hy;have hT:=ad Bi _ hy;have tZ:rv k=(ay N (aC x.1 PS[k].1)).getD 0:=(by rw[ad Ek];simp[aR]);rw[ji] at gy;have e0:wr.cell? ⟨g,k*2,none⟩=some (.string PS[k].1.p):=hc 0 (by omega);have e1:wr.cell? ⟨g,k*2+1,none⟩=some (.slice ta PS[k].1.ts.length tc):=(by rw[<-ji];exact hc 1 (by omega));have gM:(k:Int)<PS.length:=(by omega);have bp:=hide ak;have zS:=hide tZ;have Ip:=hide gy;generalize PS[k].1=AT at *;have sX:W.heap.size<wr.heap.size:=ak.row.lt;clear hc oV lr ak tZ h2 ji gy hy
     gi_upto_region 10 with fail
     generalize hwa:World.alloc wr _=wA;have kA:Below wr.heap.size wr wA:=(by rw[<-hwa];exact (Below.refl wr.heap.size wr).alloc L9 _);have aA:wA.heap[wr.heap.size]?=some (.cells #[.string AT.p,.slice ta AT.ts.length tc] 79 (0,0)):=(by rw[<-hwa];exact heap_alloc_new wr _);have sA:wA.heap.size=wr.heap.size+1:=(by rw[<-hwa];simp);clear hwa;obtain⟨S,j6⟩:∃ S:W8->Prop,S=λ V=>∀ i,i<wA.heap.size->i≠W.heap.size->V.heap[i]?=wA.heap[i]?:=⟨_,rfl⟩
     have dv:=hide (λ (V:W8) (hV:S V)=>(show V.cell? ⟨w.heap.size+1+1,0,none⟩=some (.map (some nb))/\BV V Bx x.1/\aP V nb N/\V.cell? ⟨wr.heap.size,0,none⟩=some (.string AT.p)/\V.cell? ⟨wr.heap.size,1,none⟩=some (.slice ta AT.ts.length tc) from by
      have ak:=ad bp;rw[j6] at hV;have k2:Below W.heap.size W wA:=ak.k.trans (kA.mono ak.k.size);have blk:∀ i,i<W.heap.size->V.heap[i]?=W.heap[i]?:=λ i hi=>(hV i (by omega) (by omega)).trans (k2.block i hi)
      have aV:=(hV wr.heap.size (by omega) (by omega)).trans aA
      exact⟨(block_cells ((blk _ (Array.getElem?_eq_some_iff.1 (ad HL).mb).1).trans (ad HL).mb) 0).1,(blk _ (ad vg).lt).trans (ad vg),(ad zM).block (blk _ (ad zM).lt),(block_cells aV 0).1,(block_cells aV 1).1⟩))
     have oi:=hide (λ (V:W8) (hV:Below wA.heap.size wA V)=>(show S V from by rw[j6];exact λ i hi _=>hV.block i hi));have vu:=hide (λ (V:W8) (hV:S V) (v:Value)=>(show S (V.setCell ⟨W.heap.size,k,none⟩ v) from by rw[j6] at hV ⊢;exact λ i hi hn=>(Below.heap_setCell _ _ _ _ (by simpa using hn)).trans (hV i hi hn)))
     have G7:=hide (λ (V:W8) (hV:Below wA.heap.size wA V)=>(show LInner W rv PS.length k V from by
      have ak:=ad bp;have k1:Below wr.heap.size wr V:=kA.trans (hV.mono kA.size)
      exact⟨ak.row.below k1,ak.k.trans (k1.mono ak.k.size)⟩))
     have nZ:=hide (λ (V:W8) (hV:Below wA.heap.size wA V)=>pfill_any V tb x.1 AT ta tc (own_block (ad Ip) (λ g e=>(kA.trans (hV.mono kA.size)).block g ((ad Ip).lt g e).2)) gL nS);have jK:=ad oi wA.drew B9.drew;clear kA aA j6;refine region_round S (by kernel_rfl) (by kernel_rfl) (λ ⟨_,_,h⟩=>h) ?_;refine K9 0 (.slice (some ⟨W.heap.size,0,none⟩) PS.length PS.length) rfl (Or.inl ⟨by rfl,λ w _=>by go_simp⟩) jK ?_;refine K9 1 (.int .i64 k) rfl (Or.inl ⟨by rfl,λ w _=>by go_simp⟩) jK ?_;refine K9 2 (.map (some nb)) rfl (Or.inl ⟨by rfl,λ V hV=>by obtain⟨m4,b4,ju,vc,vd⟩:=ad dv V hV;go_simp⟩) jK ?_;refine K9 3 (bindV x.1) rfl (Or.inl ⟨by rfl,λ V hV=>by obtain⟨m4,b4,ju,vc,vd⟩:=ad dv V hV;have ld:=b4.load;go_simp⟩) jK ?_;refine K9 4 (.agg #[.string AT.p,.slice ta AT.ts.length tc]) rfl (Or.inl ⟨by rfl,λ V hV=>by obtain⟨m4,b4,ju,vc,vd⟩:=ad dv V hV;go_simp⟩) jK ?_;refine wpAnyH_ready (rs:=[5]) (by kernel_rfl) (by simp) ?_;refine AllReadyH.cons rfl (λ K hK=>?_) AllReadyH.nil
     go_simp
     refine (ad nZ _ B9.drew).mono ?_;rintro en w4 ⟨bP,rfl⟩;have bY:=below_of_drew bP;have ja:=ad oi w4 bY;have i4:=ad G7 w4 bY;have Gt:=i4.row.cell aR;have Gu:=i4.row.fz k;have wK:=hide i4;refine hK.out _ _ ja (λ _=>?_);clear hK K bP i4;refine K9 6 (.int .i64 (((ay N (aC x.1 AT)).getD 0:Nat):Int)) rfl (Or.inl ⟨by rfl,λ V hV=>by obtain⟨m4,b4,ju,vc,vd⟩:=ad dv V hV;have sY:=ju.lA hT Tryz.underlying82;go_simp⟩) ja ?_;refine K9 7 (.pointer (some ⟨W.heap.size,k,none⟩)) rfl (Or.inl ⟨by rfl,λ w _=>by go_simp⟩) ja ?_;refine wpAnyH_ready (rs:=[8]) (by kernel_rfl) (by simp) ?_;refine AllReadyH.cons rfl (λ K hK=>?_) AllReadyH.nil
     go_simp
     refine hK.out _ _ (ad vu _ ja _) (λ _=>?_);clear hK K;refine wpAnyH_done (by kernel_rfl) ?_ _
     gi_wp2
     gi_roundg (PS.length-(k+1))
     case measure=>omega
     case rel=>
      have i4:=ad wK;refine⟨k+1,by omega,rfl,by go_num,?_,?_⟩
      ·refine ((i4.row.set k (.int .i64 (((ay N (aC x.1 AT)).getD 0:Nat):Int)))).eq λ j hj=>?_
       by_cases e:j=k
       ·subst e;simp[ad zS]
       ·have e2:(j<k+1)=(j<k):=(by apply propext;omega);simp only[if_neg e,e2]
      ·exact i4.k.setCell L9 _
    ·have ma:k=PS.length:=(by omega);subst ma;have uu:bU wr W.heap.size 3 PS.length (λ j=>.int .i64 (rv j:Nat)):=ak.row.eq (λ j hj=>by rw[if_pos hj]);have aF:(List.range PS.length).map rv=rowOf N (posOf r.bs) x.1:=by
      rw[ad zT,ad Ek];apply List.ext_getElem
      ·simp
      ·intro j h1 h2;simp at h1;simp[h1]
     have iH:(rowOf N (posOf r.bs) x.1).length=PS.length:=(by rw[<-aF];simp);have aI:=uu.cO (by unfold maxLen;omega) (base:=w1.heap.size) cD;rw[aF,<-iH] at aI;have qk:=(ad HL).below ak.k;have HK:=hide ak.k;have qB:=hide aI;have gM:¬ ((PS.length:Int)<PS.length):=(by omega);rcases ad gP with⟨ll,rfl,rfl⟩ | ⟨row,la,lc,rfl,rfl,qq,oB,qs⟩
     ·obtain⟨l8,z8⟩:=block_cells qk.lb 0;obtain⟨l9,z9⟩:=block_cells qk.fb 0;simp only[List.getElem?_toArray,List.getElem?_cons_zero] at l8 l9;have tH:=hide ll;clear ak uu aF aI qk ll
      gi_wp2_with (refine⟨trivial,?_⟩)
      have:=dR.put (pre:=pre.map (λ y:bD N r.bs s=>y.1)) (ad HL) (ad gC) (ad HK) (ad kj).1 (x:=x.1) (ad qB) (λ y hy=>by rw[ad tH] at hy;cases hy);rw[<-List.map_singleton (f:=λ y:bD N r.bs s=>y.1),<-List.map_append,iH] at this;exact this
     ·have zq:=own_below qs ak.k (λ g e=>(qs.lt g e).2);have AS:=hide (compareL_any wr w1.heap.size w1.heap.size (some ⟨W.heap.size,0,none⟩) la PS.length lc (rowOf N (posOf r.bs) x.1) row (by rw[<-iH];exact aI) zq);rw[iH] at AS;have Fv:=lexC_neg (rowOf N (posOf r.bs) x.1) row;obtain⟨l8,z8⟩:=block_cells qk.lb 0;obtain⟨l9,z9⟩:=block_cells qk.fb 0;simp only[List.getElem?_toArray,List.getElem?_cons_zero] at l8 l9;have HX:=hide (And.intro qq (And.intro oB qs));have D7:=hide Fv;clear ak uu aF aI qk qq oB qs zq Fv;generalize Co:lexC (rowOf N (posOf r.bs) x.1) row=cv at *;clear Co
      by_cases eH:cv<0
      ·have CS:=(ad D7).1 eH
       gi_wp2_with (refine⟨trivial,?_⟩;gi_at_call 166;refine (CallsIn.inRound l (callsIn_wide.2 (ad AS))).mono ?_;rintro en wx ⟨rfl,nR⟩;have nR:=nR.symm;subst nR)
       have:=dR.put (pre:=pre.map (λ y:bD N r.bs s=>y.1)) (ad HL) (ad gC) (ad HK) (ad kj).1 (x:=x.1) (ad qB) (λ y hy=>by
        cases hq:lexB (rowOf N (posOf r.bs) y) (rowOf N (posOf r.bs) x.1) with
        | false=>rfl
        | true=>have:=lexB_trans hq CS;rw[(ad HX).2.1 y hy] at this;cases this)
       rw[<-List.map_singleton (f:=λ y:bD N r.bs s=>y.1),<-List.map_append,iH] at this;exact this
      ·have CS:lexB (rowOf N (posOf r.bs) x.1) row=false:=by
        cases hq:lexB (rowOf N (posOf r.bs) x.1) row with
        | false=>rfl
        | true=>exact absurd ((ad D7).2 hq) eH
       gi_wp2_with (refine⟨trivial,?_⟩;gi_at_call 166;refine (CallsIn.inRound l (callsIn_wide.2 (ad AS))).mono ?_;rintro en wx ⟨rfl,nR⟩;have nR:=nR.symm;subst nR)
       have:=dR.stay (pre:=pre.map (λ y:bD N r.bs s=>y.1)) (ad HL) (ad gC) (ad HK) (x:=x.1) (ad HX).1 (ad HX).2.1 (ad HX).2.2 CS;rw[<-List.map_singleton (f:=λ y:bD N r.bs s=>y.1),<-List.map_append] at this;exact this
  case done=>
   rintro D xs W hD hS ⟨lv,f,hL,cV,dj⟩ eF;have HL:=hide hL;have HD:=hide hD;have lU:=hide eF;have gP:=hide dj;have vu:=hide hS;have l8:=(block_cells hL.lb 0).1;have l9:=(block_cells hL.fb 0).1;simp only[List.getElem?_toArray,List.getElem?_cons_zero] at l8 l9;clear hL hD eF dj hS cV;go_wp2_with fail;go_quiet (fail);go_wp2_with fail;refine leave_marks [D] _ (by simp) (λ E hE=>?_) (λ w' hs=>?_)
   ·rw[List.mem_singleton.1 hE];exact ad lU
   ·refine⟨.tuple #[lv,.bool f],by simp[results,Tryz.results109,go_sem],?_⟩;have hL:=ad HL;have hD:=ad HD;have xI:=ad kj;have bn:∀ z∈pways N (negOf r.bs) (posOf r.bs) s,z∈xs.map (λ y:bD N r.bs s=>y.1):=λ z hz=>List.mem_map.2 ⟨⟨z,hz⟩,ad vu _,rfl⟩
    refine⟨⟨hs.os.trans hL.k.os,hs.tape.trans hL.k.tape,hs.output.trans hL.k.output,by rw[hs.size];exact hL.k.size,λ i hi=>(hs.block i (by simp;omega)).trans (hL.k.block i hi)⟩,?_⟩;rcases ad gP with⟨h1,rfl,rfl⟩ | ⟨row,a,c,rfl,rfl,⟨y,hy,e⟩,hle,aI⟩
    ·refine .inl ⟨?_,rfl⟩;rw[ad rW];refine List.eq_nil_iff_forall_not_mem.2 λ z hz=>?_
     obtain⟨q,hq,_⟩:=List.mem_map.1 hz;have:=bn q hq;rw[h1] at this
     cases this
    ·refine .inr ⟨row,a,c,?_,λ z hz=>?_,rfl,?_⟩
     ·rw[ad rW];obtain⟨q,hq,rfl⟩:=List.mem_map.1 hy;exact List.mem_map.2 ⟨q.1,q.2,e⟩
     ·rw[ad rW] at hz;obtain⟨q,hq,rfl⟩:=List.mem_map.1 hz;exact hle q (bn q hq)
     ·refine ax (own_block aI λ g hg=>hs.block g ?_) (by omega);intro hm;rw[List.mem_singleton.1 hm] at hg;rcases aI.2 with⟨h0,_⟩ | ⟨g',cap,cur,h0,_,dm,_⟩
      ·rw[h0] at hg;cases hg
      ·rw[h0] at hg;have e:g'=D:=(by simpa[Value.ownBlock] using hg);subst e;have:=ad lU;rw[dm] at this
       cases this
end
end Go.Proofs.YtldkpahaocjdpaaGreat
