/-
  leastRow: the least of the rows by which a rule's head is a thing.
-/
import Derived.Test.YtldkpahaocjdpaaGreatE38
import Derived.Maps.OwnIn
import Derived.Sort.LoopGhostIn
set_option maxHeartbeats 16000000
set_option maxRecDepth 1000000
namespace Go.Proofs.YtldkpahaocjdpaaGreat
section
open Go.RowKit Go.Maps
attribute [local go_sem ↓] zcf zbb zct j8 za9 qN qQ qM
attribute [local go_sem] Oper.semAt_some
attribute [local go_sem] qR zbi jV jT
structure zvu (w:W8)(nb base:Nat)(r:PR)(N:List (Th × Nat))(t:Th):Prop where
 bK:sM w base r
 m:qU w nb N
 l3:r.bs.length<=3
 t4:∀ x∈r.bs,x.1.ts.length<=4
 h4:r.R.ts.length<=4
 th:zdu t
 neg:∀ s,xG [] (fU r) t=some s->∀ e∈yD N (yP r.bs) s,∀ x∈zco r.bs,zdu (xV e x)
 pos:∀ s,xG [] (fU r) t=some s->∀ e∈yD N (yP r.bs) s,∀ x∈yP r.bs,zdu (xV e x)
 env:∀ s,xG [] (fU r) t=some s->vZ (zg9 r.bs) s
 len:∀ s,xG [] (fU r) t=some s->∀ e∈yD N (yP r.bs) s,e.length<=12
def z2s (w:W8)(rows:List (List Nat))(e:Ending)(w':W8):Prop:=
 Below w.heap.size w w'/\((rows=[]/\e=.returned (.tuple #[.slice none 0 0,.bool false])) \/
  ∃ (row:List Nat) (a:O8) (c:Nat),row∈rows/\(∀ x∈rows,zem x row=false)/\e=.returned (.tuple #[.slice a row.length c,.bool true])/\w'.ownsRow w.heap.size 3 1 (.slice a row.length c) row.length (ez row))
variable {t:Th} {w:W8}
theorem qU.L7 {b:Nat}{L:List (Th × Nat)}(h:qU w b L)(ht:zdu t){T:TypeId}(hT:Tryz.prog.underlying T=some (.map 88 3)):
  (Instr.lookup T (.map (some b)) (thV t) false).run Tryz.prog w=.ok (.int .i64 (((yS L t).getD 0:Nat):Int)) w:=by
 obtain⟨D,hD,hs,hn,bQ,aS,hZ⟩:=h;obtain⟨l,hl⟩:=z6d ht;obtain⟨v,ps,kG,hv⟩:=hD.lookup zdq hT (z:=.int .i64 0) (by kernel_rfl) (zd:=.held (.int .i64 0)) (zp:=[]) rfl hl;have h1:=zga hv
 cases hk:yS L t with
 | some n=>
  obtain⟨h2,h3⟩:=aS _ (jU hk) l hl;rw[h3] at h1;have h1:=DataW.held.inj h1;subst h1;exact kG
 | none=>
  have h2:Maps.has D l=false:=by
   cases hh:Maps.has D l with
   | false=>rfl
   | true=>
    obtain⟨p,hp,bt⟩:=hZ l hh;have e:=zfp (bQ p hp) ht bt hl;exact absurd (show (t,p.2)∈L by rw[<-e];exact hp) (qS hk _)
  rw[Maps.atKey_of_not_has h2] at h1;have h1:=DataW.held.inj h1;subst h1;exact kG
theorem zy2 (n:Nat)(w:W8):SeqStopsK Fence.wide n Tryz.prog 218 #[] (λ x:Empty=>x.elim) (λ _ _=>True) (λ xs=>xs=[]) (λ _=>True) 1 w:=by
 intro l J' Vc W hW MJ hJx' hY Mm;have Om:=zC Mm;clear hW MJ hJx' hY Mm;refine callsIn_wide.2 ?_;go_enter Tryz.func218,Tryz.ntmps218;go_wp2_with fail;go_end0;exact⟨⟨_,rfl⟩,.inl ⟨[],rfl,zA Om⟩⟩
structure qu (w:W8)(r:PR)(ah ab:O8)(ch cb nb:Nat)(t:Th)(lv:Value)(f:Bool)(wr:W8):Prop where
 rb:wr.heap[w.heap.size]?=some (.cells #[.string r.R.pd,.slice ah r.R.ts.length ch,.slice ab r.bs.length cb] 123 (0,0))
 tb:TV wr (w.heap.size+1) t
 mb:wr.heap[w.heap.size+1+1]?=some (.cells #[.map (some nb)] 82 (0,0))
 lb:wr.heap[w.heap.size+1+1+1]?=some (.cells #[lv] 24 (0,0))
 fb:wr.heap[w.heap.size+1+1+1+1]?=some (.cells #[.bool f] 4 (0,0))
 k:Below w.heap.size w wr
theorem qu.below {w:W8}{r:PR}{ah ab:O8}{ch cb nb:Nat}{t:Th}{lv:Value}{f:Bool}{wr w':W8}(h:qu w r ah ab ch cb nb t lv f wr)(k:Below wr.heap.size wr w'):qu w r ah ab ch cb nb t lv f w':=
 ⟨(k.block _ (Array.getElem?_eq_some_iff.1 h.rb).1).trans h.rb,h.tb.below k,(k.block _ (Array.getElem?_eq_some_iff.1 h.mb).1).trans h.mb,(k.block _ (Array.getElem?_eq_some_iff.1 h.lb).1).trans h.lb,(k.block _ (Array.getElem?_eq_some_iff.1 h.fb).1).trans h.fb,h.k.trans (k.mono h.k.size)⟩
variable {wr:W8} {f:Bool} {lv:Value} {ch cb nb:Nat} {ah ab:O8} {r:PR}
theorem qu.grown {w':W8}(h:qu w r ah ab ch cb nb t lv f wr){row:Option Nat}(hg:wr.grownBy w' row)(hr:∀ i,row=some i->w.heap.size+1+1+1+1<i):qu w r ah ab ch cb nb t lv f w':=by
 have bq:∀ i,i<=w.heap.size+1+1+1+1->w'.heap[i]?=wr.heap[i]?:=λ i hi=>hg.block i (by have:=(Array.getElem?_eq_some_iff.1 h.fb).1;omega) (λ e=>by have:=hr i e.symm;omega)
 exact⟨(bq _ (by omega)).trans h.rb,(bq _ (by omega)).trans h.tb,(bq _ (by omega)).trans h.mb,(bq _ (by omega)).trans h.lb,(bq _ (by omega)).trans h.fb,⟨hg.os.trans h.k.os,hg.tape.trans h.k.tape,hg.output.trans h.k.output,Nat.le_trans h.k.size hg.size,λ i hi=>(bq i (by omega)).trans (h.k.block i hi)⟩⟩
theorem qu.start (w:W8)(r:PR)(ah ab:O8)(ch cb nb:Nat)(t:Th):qu w r ah ab ch cb nb t (.slice none 0 0) false (((((w.alloc (.cells #[.string r.R.pd,.slice ah r.R.ts.length ch,.slice ab r.bs.length cb] 123)).alloc (.cells (zV t).toArray 88)).alloc (.cells #[.map (some nb)] 82)).alloc (.cells #[.slice none 0 0] 24)).alloc (.cells #[.bool false] 4)):=by
 refine⟨?_,?_,?_,?_,?_,?_⟩
 ·rw[Below.heap_alloc _ _ _ (by simp only[World.size_alloc];omega),Below.heap_alloc _ _ _ (by simp only[World.size_alloc];omega),Below.heap_alloc _ _ _ (by simp only[World.size_alloc];omega),Below.heap_alloc _ _ _ (by simp)];exact heap_alloc_new w _
 ·show _=_
  rw[Below.heap_alloc _ _ _ (by simp only[World.size_alloc];omega),Below.heap_alloc _ _ _ (by simp only[World.size_alloc];omega),Below.heap_alloc _ _ _ (by simp)];have:=heap_alloc_new (w.alloc (.cells #[.string r.R.pd,.slice ah r.R.ts.length ch,.slice ab r.bs.length cb] 123)) (.cells (zV t).toArray 88);simpa only[World.size_alloc] using this
 ·rw[Below.heap_alloc _ _ _ (by simp only[World.size_alloc];omega),Below.heap_alloc _ _ _ (by simp)];have:=heap_alloc_new ((w.alloc (.cells #[.string r.R.pd,.slice ah r.R.ts.length ch,.slice ab r.bs.length cb] 123)).alloc (.cells (zV t).toArray 88)) (.cells #[.map (some nb)] 82);simpa only[World.size_alloc] using this
 ·rw[Below.heap_alloc _ _ _ (by simp)];have:=heap_alloc_new (((w.alloc (.cells #[.string r.R.pd,.slice ah r.R.ts.length ch,.slice ab r.bs.length cb] 123)).alloc (.cells (zV t).toArray 88)).alloc (.cells #[.map (some nb)] 82)) (.cells #[.slice none 0 0] 24);simpa only[World.size_alloc] using this
 ·have:=heap_alloc_new ((((w.alloc (.cells #[.string r.R.pd,.slice ah r.R.ts.length ch,.slice ab r.bs.length cb] 123)).alloc (.cells (zV t).toArray 88)).alloc (.cells #[.map (some nb)] 82)).alloc (.cells #[.slice none 0 0] 24)) (.cells #[.bool false] 4);simpa only[World.size_alloc] using this
 ·exact (((((Below.refl w.heap.size w).alloc L9 _).alloc (by simp) _).alloc (by simp only[World.size_alloc];omega) _).alloc (by simp only[World.size_alloc];omega) _).alloc (by simp only[World.size_alloc];omega) _
structure z00 (W:W8)(rv:Nat->Nat)(n k:Nat)(wr:W8):Prop where
 row:fi wr W.heap.size 3 n (λ j=>.int .i64 ((if j<k then rv j else 0:Nat)))
 k:Below W.heap.size W wr
def ycy (N:List (Th × Nat))(r:PR)(B:Nat)(pre:List yR)(lv:Value)(f:Bool)(W:W8):Prop:=
 (pre=[]/\lv=.slice none 0 0/\f=false)\/∃ (row:List Nat) (a:O8) (c:Nat),lv=.slice a row.length c/\f=true/\(∃ y∈pre,qK N (yP r.bs) y=row)/\(∀ y∈pre,zem (qK N (yP r.bs) y) row=false)/\W.ownsRow B 3 1 (.slice a row.length c) row.length (ez row)
def Ag (w:W8)(r:PR)(ah ab:O8)(ch cb nb:Nat)(t:Th)(N:List (Th × Nat))(w1:W8)(pre:List yR)(W:W8):Prop:=
 ∃ (lv:Value) (f:Bool),qu w r ah ab ch cb nb t lv f W/\qH (λ i=>i=w.heap.size+1+1+1\/i=w.heap.size+1+1+1+1) w1 W/\ycy N r w1.heap.size pre lv f W
theorem Ag.grown {w:W8}{r:PR}{ah ab:O8}{ch cb nb:Nat}{t:Th}{N:List (Th × Nat)}{w1:W8}{pre:List yR}{A B:W8}(h:Ag w r ah ab ch cb nb t N w1 pre A){row:Option Nat}(hg:A.grownBy B row)(hr:∀ i,row=some i->w1.heap.size<=i/\∃ o:Obj,A.heap[i]?=some o/\o.isCells=false)(hb:w.heap.size+1+1+1+1<w1.heap.size):Ag w r ah ab ch cb nb t N w1 pre B:=by
 obtain⟨lv,f,h1,h2,h3⟩:=h;refine⟨lv,f,h1.grown hg (λ i e=>by have:=(hr i e).1;omega),h2.grown hg (λ i e=>.inl (hr i e).1),?_⟩;rcases h3 with h3 | ⟨C7,a,c,e1,e2,e3,e4,e5⟩
 ·exact .inl h3
 ·exact .inr ⟨C7,a,c,e1,e2,e3,e4,zsj e5 hg (λ i e=>(hr i e).2)⟩
theorem qu.N4 (h:qu w r ah ab ch cb nb t lv f wr)(v:Value):qu w r ah ab ch cb nb t v true ((wr.setCell ⟨w.heap.size+1+1+1,0,none⟩ v).setCell ⟨w.heap.size+1+1+1+1,0,none⟩ (.bool true)):=by
 have bq:∀ i,i≠w.heap.size+1+1+1->i≠w.heap.size+1+1+1+1->((wr.setCell ⟨w.heap.size+1+1+1,0,none⟩ v).setCell ⟨w.heap.size+1+1+1+1,0,none⟩ (.bool true)).heap[i]?=wr.heap[i]?:=λ i h1 h2=>by
  rw[Below.heap_setCell _ _ _ _ (by simpa using h2),Below.heap_setCell _ _ _ _ (by simpa using h1)]
 refine⟨(bq _ (by omega) (by omega)).trans h.rb,(bq _ (by omega) (by omega)).trans h.tb,(bq _ (by omega) (by omega)).trans h.mb,?_,?_,⟨h.k.os,h.k.tape,h.k.output,by simpa using h.k.size,λ i hi=>(bq i (by omega) (by omega)).trans (h.k.block i hi)⟩⟩
 ·rw[Below.heap_setCell _ _ _ _ (by simp),setCell_eq_setRow wr _ 0 _ _ (0,0) v h.lb];exact setRow_heap _ _ _ _ _ _ h.lb
 ·have h9:(wr.setCell ⟨w.heap.size+1+1+1,0,none⟩ v).heap[w.heap.size+1+1+1+1]?=some (.cells #[.bool f] 4 (0,0)):=by
   rw[Below.heap_setCell _ _ _ _ (by simp)];exact h.fb
  rw[setCell_eq_setRow _ _ 0 _ _ (0,0) _ h9];exact setRow_heap _ _ _ _ _ _ h9
theorem z6n {b8 b9 base n:Nat}{e:TypeId}{size:Nat}{v:Value}{xs:V8}(h:wr.ownsRow base e size v n xs)(h8:b8<base)(h9:b9<base)(u u':Value):((wr.setCell ⟨b8,0,none⟩ u).setCell ⟨b9,0,none⟩ u').ownsRow base e size v n xs:=
 zZ h λ g hg=>by
  have:=(h.lt g hg).1;rw[Below.heap_setCell _ _ _ _ (by simp;omega),Below.heap_setCell _ _ _ _ (by simp;omega)]
variable {c:Nat} {a:O8} {x:yR} {pre:List yR} {w1 W:W8} {N:List (Th × Nat)}
theorem Ag.put (hL:qu w r ah ab ch cb nb t lv f W)(dY:qH (λ i=>i=w.heap.size+1+1+1\/i=w.heap.size+1+1+1+1) w1 W)(k:Below W.heap.size W wr)(hb:w.heap.size+1+1+1+1<w1.heap.size)(ay:wr.ownsRow w1.heap.size 3 1 (.slice a (qK N (yP r.bs) x).length c) (qK N (yP r.bs) x).length (ez (qK N (yP r.bs) x)))(hle:∀ y∈pre,zem (qK N (yP r.bs) y) (qK N (yP r.bs) x)=false):
  KeepsFrom w1.heap.size W ((wr.setCell ⟨w.heap.size+1+1+1,0,none⟩ (.slice a (qK N (yP r.bs) x).length c)).setCell ⟨w.heap.size+1+1+1+1,0,none⟩ (.bool true))/\qH (λ i=>i=w.heap.size+1+1+1\/i=w.heap.size+1+1+1+1) W ((wr.setCell ⟨w.heap.size+1+1+1,0,none⟩ (.slice a (qK N (yP r.bs) x).length c)).setCell ⟨w.heap.size+1+1+1+1,0,none⟩ (.bool true))/\Ag w r ah ab ch cb nb t N w1 (pre++[x]) ((wr.setCell ⟨w.heap.size+1+1+1,0,none⟩ (.slice a (qK N (yP r.bs) x).length c)).setCell ⟨w.heap.size+1+1+1+1,0,none⟩ (.bool true)):=by
 have hK:qH (λ i=>i=w.heap.size+1+1+1\/i=w.heap.size+1+1+1+1) W ((wr.setCell ⟨w.heap.size+1+1+1,0,none⟩ (.slice a (qK N (yP r.bs) x).length c)).setCell ⟨w.heap.size+1+1+1+1,0,none⟩ (.bool true)):=((qH.ak k).setCell (.inr (.inl rfl)) _).setCell (.inr (.inr rfl)) _;refine⟨⟨by simpa using k.size,λ i o hB hi _=>?_⟩,hK,_,_,(hL.below k).N4 _,dY.trans hK,.inr ⟨_,a,c,rfl,rfl,⟨x,by simp,rfl⟩,λ y hy=>?_,z6n ay (by omega) hb _ _⟩⟩
 ·rw[Below.heap_setCell _ _ _ _ (by simp;omega),Below.heap_setCell _ _ _ _ (by simp;omega)];exact (k.block i (Array.getElem?_eq_some_iff.1 hi).1).trans hi
 ·rcases List.mem_append.1 hy with hy | hy
  ·exact hle y hy
  ·rw[List.mem_singleton.1 hy];exact zki _
theorem Ag.stay {row:List Nat}(hL:qu w r ah ab ch cb nb t (.slice a row.length c) true W)(dY:qH (λ i=>i=w.heap.size+1+1+1\/i=w.heap.size+1+1+1+1) w1 W)(k:Below W.heap.size W wr)(h1:∃ y∈pre,qK N (yP r.bs) y=row)(h2:∀ y∈pre,zem (qK N (yP r.bs) y) row=false)(h3:W.ownsRow w1.heap.size 3 1 (.slice a row.length c) row.length (ez row))(hx:zem (qK N (yP r.bs) x) row=false):
  KeepsFrom w1.heap.size W wr/\qH (λ i=>i=w.heap.size+1+1+1\/i=w.heap.size+1+1+1+1) W wr/\Ag w r ah ab ch cb nb t N w1 (pre++[x]) wr:=by
 refine⟨⟨k.size,λ i o _ hi _=>(k.block i (Array.getElem?_eq_some_iff.1 hi).1).trans hi⟩,qH.ak k,_,_,hL.below k,dY.trans (qH.ak k),.inr ⟨row,a,c,rfl,rfl,?_,λ y hy=>?_,zJ h3 k (λ g e=>(h3.lt g e).2)⟩⟩
 ·obtain⟨y,hy,e⟩:=h1;exact⟨y,List.mem_append.2 (.inl hy),e⟩
 ·rcases List.mem_append.1 hy with hy | hy
  ·exact h2 y hy
  ·rw[List.mem_singleton.1 hy];exact hx
theorem z0s (w:W8)(nb base:Nat)(r:PR)(N:List (Th × Nat))(t:Th)(h:zvu w nb base r N t):
  Calls Tryz.prog 109 #[.agg #[.string r.R.pd,r.hv,r.bv],thV t,.map (some nb)] w (z2s w (zfd N r t)):=by
 obtain⟨ah,ch,uh⟩:=zD h.bK.hd;obtain⟨ab,cb,tK⟩:=zD h.bK.bo.row;have H:=zC h;obtain⟨ct,lJ⟩:∃ ct,ct=(zV t).toArray:=⟨_,rfl⟩;have pC:=zC lJ;unfold thV;rw[<-lJ,uh,tK];have Qv:=h.m.lt;have Y4:=zC uh;have TY:=zC tK;clear lJ h uh tK;refine callsIn_wide.1 (callsIn_of_wp_marks (F:=Fence.wide) (n:=5) Tryz.func109 rfl trivial (wpIn_wide.2 ?_) rfl);simp only[Tryz.ntmps109,List.size_toArray,List.length_cons,List.length_nil,Nat.reduceAdd,Nat.reduceSub,Array.replicate_succ,Array.replicate_zero,List.push_toArray,List.append_toArray,List.nil_append,List.cons_append];go_upto_region 3 with fail;generalize bC:World.alloc (World.alloc (World.alloc (World.alloc (World.alloc w _) _) _) _) _=w0;have dn:qu w r ah ab ch cb nb t (.slice none 0 0) false w0:=by
  rw[<-bC,zA pC];exact qu.start w r ah ab ch cb nb t
 have k0:Below w.heap.size w w0:=dn.k;have s0:w0.heap.size=w.heap.size+1+1+1+1+1:=by rw[<-bC];simp
 clear bC;have c0:=(zB dn.rb 0).1;have c1:=(zB dn.rb 1).1;have c2:=(zB dn.rb 2).1;simp only[List.getElem?_toArray,List.getElem?_cons_zero,List.getElem?_cons_succ] at c0 c1 c2;have C8:=((zA H).bK.bo).below k0;rw[zA TY] at C8;have HP:=zC (zff w0 base r.R.pd ah r.R.ts.length ch ab cb r.bs C8 (by have:=(zA H).l3;omega));have VQ:=zC dn;have mj:=zC s0;have RI:=zC C8;clear dn k0 s0 C8;go_upto_region 4 with (go_at_call 164;refine (zA HP).mono ?_;rintro en wP ⟨ap,cp,rfl,oW,Qs,VT⟩;have VJ:=zC oW;have P9:=zC Qs;clear oW Qs VT);generalize dX:World.alloc wP _=wQ;have kQ:Below w0.heap.size w0 wQ:=by rw[<-dX];exact (zA P9).alloc (zA P9).size _
 have aQ:wQ.heap[wP.heap.size]?=some (.cells #[.slice ap (r.bs.filter (vA false)).length cp] 289 (0,0)):=by rw[<-dX];exact heap_alloc_new wP _
 have pQ:wQ.ownsRow (w0.heap.size+1) 79 2 (.slice ap (r.bs.filter (vA false)).length cp) (r.bs.filter (vA false)).length ((r.bs.filter (vA false)).flatMap vQ):=by rw[<-dX];exact (zA VJ).alloc _
 have sQ:wQ.heap.size=wP.heap.size+1:=by rw[<-dX];simp
 clear dX;have dn:=(zA VQ).below kQ;have s0:=zA mj;have R8:=kQ.size;have Pm:=(zA H).m.block (dn.k.block nb Qv);have MH:=((zA H).bK.bo).below dn.k;rw[zA TY] at MH;have R4:wQ.ownsRow base 191 1 (.slice ah (fU r).ts.length ch) (fU r).ts.length ((fU r).ts.map zc2):=by
  have:=zJ (zA H).bK.hd dn.k (λ g e=>((zA H).bK.hd.lt g e).2);rw[zA Y4] at this;exact this
 have hA:z91 (λ i=>i=w.heap.size+1+1+1\/i=w.heap.size+1+1+1+1) wQ nb (.slice ah (fU r).ts.length ch) (.slice ab r.bs.length cb) base r.bs N:=
  ⟨MH,Pm,by omega,λ x hx g hg=>by have:=(((zA H).bK.bo.each x hx).lt g hg).2;omega,λ g hg=>by omega,(zA H).l3,(zA H).t4,_,_,_,rfl⟩
 have Ke:=zC (ych _ wQ nb r.R.pd (fU r).ts _ _ base r.bs N t hA R4 (zA H).h4);have c0:=(zB dn.rb 0).1;have c1:=(zB dn.rb 1).1;have c2:=(zB dn.rb 2).1;have c5:=(zB dn.mb 0).1;simp only[List.getElem?_toArray,List.getElem?_cons_zero,List.getElem?_cons_succ] at c0 c1 c2 c5;have t3:=dn.tb.load;have Tr:=zC dn;have VC:=zC aQ;have P1:=zC pQ;have PN:=zC (And.intro sQ R8);have QB:=zC kQ;have Sa:=zC Pm;have HLQ:=zC MH;clear dn hA kQ aQ pQ sQ R8 s0 Pm MH R4;have Cg:=zC (show zfd N r t=(match xG [] (fU r) t with | none=>[] | some s=>(zbg N (zco r.bs) (yP r.bs) s).map (qK N (yP r.bs))) from rfl);rw[show xG [] ⟨r.R.pd,(fU r).ts⟩ t=xG [] (fU r) t from rfl] at Ke
 cases uf:xG [] (fU r) t with
 | none=>
  rw[uf] at Ke Cg;clear uf;go_wp2_with (go_at_call 165;refine (zA Ke).mono ?_;rintro en w1 ⟨aW,-⟩;obtain⟨rfl,aL⟩:=aW rfl;have gh:=zC aL;clear aW aL);have dn:=(zA Tr).below (zA gh);have R2:=(zA gh).size;have bj:=zA mj;have Nt:=zA PN;refine (wpIn_wide (n:=5)).1 ?_;refine wpIn_rangeFunc_ownH (α:=Empty) rfl (by omega) (gf:=218) (lb:=#[]) rfl trivial (enters_of Tryz.func218 (by kernel_rfl) rfl)
   (encs:=λ x=>x.elim) (Kp:=λ _ _=>True) (S:=λ xs=>xs=[]) (Sp:=λ _=>True) (N:=1) (w0:=w1) (zy2 _ w1) (λ _ _=>trivial) (λ _ _ _ _ _ _ _ _=>trivial) B9 (λ x=>x.elim)
   (λ (_:List Empty) (W:W8)=>qu w r ah ab ch cb nb t (.slice none 0 0) false W)
   (λ (_:Code) (_:List Empty) (_:W8)=>False)
   (λ pre A B row hs hg hr=>hs.grown hg (λ i e=>by have:=(hr i e).1;omega))
   (λ c pre A B row hs hg hr=>hs)
   dn (λ x _ _=>x.elim) (λ x=>x.elim)
   (λ l pre x=>x.elim) (λ l pre x=>x.elim) ?done (λ D c pre W _ _ h=>h.elim)
  case done=>
   rintro D xs W hD-hL kK;have HL:=zC hL;have HD:=zC hD;have yz:=zC kK;have l8:=(zB hL.lb 0).1;have l9:=(zB hL.fb 0).1;simp only[List.getElem?_toArray,List.getElem?_cons_zero] at l8 l9;clear hL hD kK;go_wp2_with fail;go_quiet (fail);go_wp2_with fail;refine zbm [D] _ (by simp) (λ E hE=>?_) (λ w' hs=>?_)
   ·rw[List.mem_singleton.1 hE];exact zA yz
   ·refine⟨.tuple #[.slice none 0 0,.bool false],by simp[results,Tryz.results109,go_sem],?_,.inl ⟨zA Cg,rfl⟩⟩;have hL:=zA HL;have hD:=zA HD;exact⟨hs.os.trans hL.k.os,hs.tape.trans hL.k.tape,hs.output.trans hL.k.output,by rw[hs.size];exact hL.k.size,λ i hi=>(hs.block i (by simp;omega)).trans (hL.k.block i hi)⟩
 | some s=>
  rw[uf] at Ke Cg;have bQ:=(zA H).neg s uf;have wS:=(zA H).env s uf;have RL:=zC ((zA H).pos s uf);have Of:=zC ((zA H).len s uf);clear uf;go_wp2_with (go_at_call 165;refine (zA Ke).mono ?_;rintro en w1 ⟨-,kN⟩;obtain⟨rb,xb,eb,rfl,aL,dX⟩:=kN s rfl;have gh:=zC aL;have Od:=zC dX;clear kN aL dX);have dn:=(zA Tr).below (zA gh);have R2:=(zA gh).size;have bj:=zA mj;have Nt:=zA PN;have Fj:=zC (show w.heap.size+1+1+1+1<w1.heap.size/\wP.heap.size<w1.heap.size by omega);have Nn:=zA Fj;clear R2 bj Nt c0 c1 c2 c5 t3;refine (wpIn_wide (n:=5)).1 ?_;refine wpIn_rangeFunc_ownH (α:=nO N r.bs s) rfl (by omega) (gf:=233) (lb:=#[.pointer (some ⟨rb,0,none⟩),.pointer (some ⟨xb,0,none⟩),.pointer (some ⟨eb,0,none⟩)]) rfl trivial (enters_of Tryz.func233 (by kernel_rfl) rfl)
   (zmt _ _ w1 rb xb eb nb r.R.pd _ _ base r.bs N s (zA Od) bQ wS) (λ h1 h2=>qH.trans h1 h2) (λ W l o o' _ hl hc Eu=>zg6 W l o o' hl hc Eu) B9 (λ _=>rfl)
   (λ (pre:List (nO N r.bs s)) (W:W8)=>Ag w r ah ab ch cb nb t N w1 (pre.map (λ y:nO N r.bs s=>y.1)) W)
   (λ (_:Code) (_:List (nO N r.bs s)) (_:W8)=>False)
   (λ pre A B row hs hg hr=>hs.grown hg (λ i e=>hr i e) Nn.1)
   (λ c pre A B row hs hg hr=>hs)
   ⟨_,_,dn,qH.refl _ _,.inl ⟨rfl,rfl,rfl⟩⟩
   (λ (x:nO N r.bs s) (a':Act) (W:W8)=>∃ Bx,w1.heap.size<=Bx/\BV W Bx x.1/\a'={ tmps:=List.toArray ((Value.agg #[.string r.R.pd,.slice ah r.R.ts.length ch,.slice ab r.bs.length cb])::(Value.agg ct)::(Value.map (some nb))::(Value.pointer (some ⟨w.heap.size,0,none⟩))::(Value.pointer (some ⟨w.heap.size+1,0,none⟩))::(Value.pointer (some ⟨w.heap.size+1+1,0,none⟩))::(Value.slice none 0 0)::(Value.bool false)::(Value.pointer (some ⟨w.heap.size+1+1+1,0,none⟩))::(Value.pointer (some ⟨w.heap.size+1+1+1+1,0,none⟩))::(Value.pointer (some ⟨wP.heap.size,0,none⟩))::(Value.pointer (some ⟨Bx,0,none⟩))::undef::undef::undef::(Value.agg #[.string r.R.pd,.slice ah r.R.ts.length ch,.slice ab r.bs.length cb])::(Value.slice ap (r.bs.filter (vA false)).length cp)::(Value.agg #[.string r.R.pd,.slice ah r.R.ts.length ch,.slice ab r.bs.length cb])::(thV t)::(Value.map (some nb))::(Value.func (.func 233) #[] #[.pointer (some ⟨rb,0,none⟩),.pointer (some ⟨xb,0,none⟩),.pointer (some ⟨eb,0,none⟩)])::(zau x.1)::List.replicate 30 undef),defers:=[] })
   (λ x a' _ A B row hs hg hr=>let ⟨Bx,h1,h2,h3⟩:=hs;⟨Bx,h1,h2.grown hg (λ i e=>(hr i e).2),h3⟩)
   ?assign ?body ?done (λ D c pre W _ _ h=>h.elim)
  case assign=>
   intro l pre x W K2 hI uE;have wY:=zC uE;have HI:=zC hI;have hz:w1.heap.size<=W.heap.size:=(by obtain⟨_,_,_,hk,_⟩:=hI;exact hk.size);clear uE hI
   gi_wp2
   exact zA wY _ _ ((KeepsOthers.alloc _ _).from _) ((qH.refl _ _).alloc _) ((zA HI).grown (World.grownBy_alloc W _ none) (λ _ e=>by cases e) Nn.1) ⟨W.heap.size,hz,BV.new _ _,rfl⟩
  case body=>
   rintro l pre x a' W Vo-⟨lv,f,hL,dY,aO⟩ ⟨Bx,UT,gU,rfl⟩ -;have Nn:=zA Fj;have bj:=zA mj;have Nt:=zA PN;have Qs:=(zA P9).size;have Gs:=(List.mem_filter.1 x.2).1;have I4:∀ g,(g=w.heap.size+1+1+1\/g=w.heap.size+1+1+1+1)->g<w0.heap.size+1:=λ g hg=>by omega
   have Ah:j2 (λ i=>i=w.heap.size+1+1+1\/i=w.heap.size+1+1+1+1) W (.slice ap (r.bs.filter (vA false)).length cp) (vW false r.bs):=
    ((zqc (zA RI) (zA QB) (zA P1) I4 (λ x hx g hg=>by have:=(((zA H).bK.bo.each x hx).lt g hg).2;omega) (zA H).t4).below (zA gh)).kt dY
   have Bf:W.heap[wP.heap.size]?=some (.cells #[.slice ap (r.bs.filter (vA false)).length cp] 289 (0,0)):=dY.cells (((zA gh).block _ (by omega)).trans (zA VC)) (by omega);have dJ:qU W nb N:=dY.map ((zA Sa).block ((zA gh).block _ (zA Sa).lt)) (by omega);have aY:w1.heap.size<=W.heap.size:=dY.size;have R1:∀ y∈vW false r.bs,zdu (xV x.1 y.1):=λ y hy=>zA RL x.1 Gs y.1 (List.mem_map_of_mem hy)
   have CZ:=zA Of x.1 Gs;rw[<-Js false r.bs] at Ah Bf ⊢;have sr:=zC (show qK N (yP r.bs) x.1=(vW false r.bs).map (λ y=>(yS N (xV x.1 y.1)).getD 0) by unfold qK yP;rw[List.map_map];rfl);have AL:(vW false r.bs).length<=3:=(by rw[Js];exact Nat.le_trans (List.length_filter_le _ _) (zA H).l3);generalize vW false r.bs=PS at *;have R5:=(zB Bf 0).1;simp only[List.getElem?_toArray,List.getElem?_cons_zero] at R5;have iM:=zfi PS.length (by omega);have HL:=zC hL;have oF:=zC dY;have dD:=zC aO;have IH:=zC gU;have XZ:=zC Ah;have iv:=zC dJ;have Rm:=zC R1;clear hL dY aO gU Ah Bf dJ R1 Gs I4 bj Nt
   gi_upto_region 7 with fail
   generalize hwm:World.alloc W _=wM;have kM:Below W.heap.size W wM:=(by rw[<-hwm];exact (Below.refl W.heap.size W).alloc L9 _);have rM:fi wM W.heap.size 3 PS.length (λ _=>.int .i64 0):=(by rw[<-hwm];exact fi.start W _ _ _);clear hwm iM;have VW:wM.cell? ⟨wP.heap.size,0,none⟩=some (.slice ap PS.length cp):=(kM.cell (p:=⟨wP.heap.size,0,none⟩) (by simp only[];omega)).trans R5;obtain⟨rv,St⟩:∃ rv:Nat->Nat,rv=λ j=>((PS[j]?).map (λ y=>(yS N (xV x.1 y.1)).getD 0)).getD 0:=⟨_,rfl⟩
   have Vt:=zC St;have H0:=zC (show z00 W rv PS.length 0 wM from ⟨rM.eq (λ i hi=>by simp),kM⟩);clear kM rM St
   gi_upto_region 8 with fail
   gi_loopg [27] PS.length (λ gg i wr=>∃ k:Nat,k<=PS.length/\gg=PS.length-k/\i=.int .i64 k/\z00 W rv PS.length k wr)
   exact⟨0,Nat.zero_le _,rfl,rfl,zA H0⟩
   case round=>
    clear H0;obtain⟨k,hk,eA,rfl,ax⟩:=hrel
    by_cases aF:k<PS.length
    ·have Ah:=(zA XZ).kt (qH.ak ax.k);obtain⟨JI,lP⟩:=Ah.row;obtain⟨g,cap,hv,iG,aZ,bO,bP,hc⟩:=vU zqf lP k aF;injection hv with h1 h2 h3
     subst h1 h3;have hy:PS[k]∈PS:=List.getElem_mem aF;obtain⟨tb,lN⟩:=Ah.ae _ hy;obtain⟨ta,tc,Bv⟩:=zD lN;have kV:=Ah.eJ _ hy;have hT:=zA Rm _ hy;have oL:rv k=(yS N (xV x.1 PS[k].1)).getD 0:=(by rw[zA Vt];simp[aF]);rw[Bv] at lN;have e0:wr.cell? ⟨g,k*2,none⟩=some (.string PS[k].1.p):=hc 0 (by omega);have e1:wr.cell? ⟨g,k*2+1,none⟩=some (.slice ta PS[k].1.ts.length tc):=(by rw[<-Bv];exact hc 1 (by omega));have nz:(k:Int)<PS.length:=(by omega);have bT:=zC ax;have NY:=zC oL;have Ig:=zC lN;generalize PS[k].1=AT at *;have yw:W.heap.size<wr.heap.size:=ax.row.lt;clear hc Ah lP ax oL h2 Bv lN hy
     gi_upto_region 10 with fail
     generalize hwa:World.alloc wr _=wA;have kA:Below wr.heap.size wr wA:=(by rw[<-hwa];exact (Below.refl wr.heap.size wr).alloc L9 _);have aA:wA.heap[wr.heap.size]?=some (.cells #[.string AT.p,.slice ta AT.ts.length tc] 79 (0,0)):=(by rw[<-hwa];exact heap_alloc_new wr _);have sA:wA.heap.size=wr.heap.size+1:=(by rw[<-hwa];simp);clear hwa;obtain⟨S,C6⟩:∃ S:W8->Prop,S=λ V=>∀ i,i<wA.heap.size->i≠W.heap.size->V.heap[i]?=wA.heap[i]?:=⟨_,rfl⟩
     have fR:=zC (λ (V:W8) (hV:S V)=>(show V.cell? ⟨w.heap.size+1+1,0,none⟩=some (.map (some nb))/\BV V Bx x.1/\qU V nb N/\V.cell? ⟨wr.heap.size,0,none⟩=some (.string AT.p)/\V.cell? ⟨wr.heap.size,1,none⟩=some (.slice ta AT.ts.length tc) from by
      have ax:=zA bT;rw[C6] at hV;have k2:Below W.heap.size W wA:=ax.k.trans (kA.mono ax.k.size);have bq:∀ i,i<W.heap.size->V.heap[i]?=W.heap[i]?:=λ i hi=>(hV i (by omega) (by omega)).trans (k2.block i hi)
      have aV:=(hV wr.heap.size (by omega) (by omega)).trans aA
      exact⟨(zB ((bq _ (Array.getElem?_eq_some_iff.1 (zA HL).mb).1).trans (zA HL).mb) 0).1,(bq _ (zA IH).lt).trans (zA IH),(zA iv).block (bq _ (zA iv).lt),(zB aV 0).1,(zB aV 1).1⟩))
     have BW:=zC (λ (V:W8) (hV:Below wA.heap.size wA V)=>(show S V from by rw[C6];exact λ i hi _=>hV.block i hi));have Ia:=zC (λ (V:W8) (hV:S V) (v:Value)=>(show S (V.setCell ⟨W.heap.size,k,none⟩ v) from by rw[C6] at hV ⊢;exact λ i hi hn=>(Below.heap_setCell _ _ _ _ (by simpa using hn)).trans (hV i hi hn)))
     have VZ:=zC (λ (V:W8) (hV:Below wA.heap.size wA V)=>(show z00 W rv PS.length k V from by
      have ax:=zA bT;have k1:Below wr.heap.size wr V:=kA.trans (hV.mono kA.size)
      exact⟨ax.row.below k1,ax.k.trans (k1.mono ax.k.size)⟩))
     have lL:=zC (λ (V:W8) (hV:Below wA.heap.size wA V)=>zlt V tb x.1 AT ta tc (zZ (zA Ig) (λ g e=>(kA.trans (hV.mono kA.size)).block g ((zA Ig).lt g e).2)) kV CZ);have oM:=zA BW wA.drew B9.drew;clear kA aA C6;refine zjp S (by kernel_rfl) (by kernel_rfl) (λ ⟨_,_,h⟩=>h) ?_;refine K9 0 (.slice (some ⟨W.heap.size,0,none⟩) PS.length PS.length) rfl (Or.inl ⟨by rfl,λ w _=>by go_simp⟩) oM ?_;refine K9 1 (.int .i64 k) rfl (Or.inl ⟨by rfl,λ w _=>by go_simp⟩) oM ?_;refine K9 2 (.map (some nb)) rfl (Or.inl ⟨by rfl,λ V hV=>by obtain⟨m4,b4,rV,Ry,PB⟩:=zA fR V hV;go_simp⟩) oM ?_;refine K9 3 (zau x.1) rfl (Or.inl ⟨by rfl,λ V hV=>by obtain⟨m4,b4,rV,Ry,PB⟩:=zA fR V hV;have ld:=b4.load;go_simp⟩) oM ?_;refine K9 4 (.agg #[.string AT.p,.slice ta AT.ts.length tc]) rfl (Or.inl ⟨by rfl,λ V hV=>by obtain⟨m4,b4,rV,Ry,PB⟩:=zA fR V hV;go_simp⟩) oM ?_;refine wpAnyH_ready (rs:=[5]) (by kernel_rfl) (by simp) ?_;refine AllReadyH.cons rfl (λ K hK=>?_) AllReadyH.nil
     go_simp
     refine (zA lL _ B9.drew).mono ?_;rintro en w4 ⟨bZ,rfl⟩;have dP:=yA bZ;have uy:=zA BW w4 dP;have i4:=zA VZ w4 dP;have Vf:=i4.row.cell aF;have Pe:=i4.row.fz k;have Ju:=zC i4;refine hK.out _ _ uy (λ _=>?_);clear hK K bZ i4;refine K9 6 (.int .i64 (((yS N (xV x.1 AT)).getD 0:Nat):Int)) rfl (Or.inl ⟨by rfl,λ V hV=>by obtain⟨m4,b4,rV,Ry,PB⟩:=zA fR V hV;have lk4:=rV.L7 hT Tryz.underlying82;go_simp⟩) uy ?_;refine K9 7 (.pointer (some ⟨W.heap.size,k,none⟩)) rfl (Or.inl ⟨by rfl,λ w _=>by go_simp⟩) uy ?_;refine wpAnyH_ready (rs:=[8]) (by kernel_rfl) (by simp) ?_;refine AllReadyH.cons rfl (λ K hK=>?_) AllReadyH.nil
     go_simp
     refine hK.out _ _ (zA Ia _ uy _) (λ _=>?_);clear hK K;refine wpAnyH_done (by kernel_rfl) ?_ _
     gi_wp2
     gi_roundg (PS.length-(k+1))
     case measure=>omega
     case rel=>
      have i4:=zA Ju;refine⟨k+1,by omega,rfl,by go_num,?_,?_⟩
      ·refine ((i4.row.set k (.int .i64 (((yS N (xV x.1 AT)).getD 0:Nat):Int)))).eq λ j hj=>?_
       by_cases e:j=k
       ·subst e;simp[zA NY]
       ·have e2:(j<k+1)=(j<k):=(by apply propext;omega);simp only[if_neg e,e2]
      ·exact i4.k.setCell L9 _
    ·have Gj:k=PS.length:=(by omega);subst Gj;have E9:fi wr W.heap.size 3 PS.length (λ j=>.int .i64 (rv j:Nat)):=ax.row.eq (λ j hj=>by rw[if_pos hj]);have aB:(List.range PS.length).map rv=qK N (yP r.bs) x.1:=by
      rw[zA sr,zA Vt];apply List.ext_getElem
      ·simp
      ·intro j h1 h2;simp at h1;simp[h1]
     have nM:(qK N (yP r.bs) x.1).length=PS.length:=(by rw[<-aB];simp);have ay:=E9.ez (by unfold maxLen;omega) (base:=w1.heap.size) aY;rw[aB,<-nM] at ay;have Ch:=(zA HL).below ax.k;have HK:=zC ax.k;have CI:=zC ay;have nz:¬ ((PS.length:Int)<PS.length):=(by omega);rcases zA dD with⟨dU,rfl,rfl⟩ | ⟨row,la,lc,rfl,rfl,tF,KZ,MQ⟩
     ·obtain⟨l8,z8⟩:=zB Ch.lb 0;obtain⟨l9,z9⟩:=zB Ch.fb 0;simp only[List.getElem?_toArray,List.getElem?_cons_zero] at l8 l9;have Cs:=zC dU;clear ax E9 aB ay Ch dU
      gi_wp2_with (refine⟨trivial,?_⟩)
      have:=Ag.put (pre:=pre.map (λ y:nO N r.bs s=>y.1)) (zA HL) (zA oF) (zA HK) (zA Fj).1 (x:=x.1) (zA CI) (λ y hy=>by rw[zA Cs] at hy;cases hy);rw[<-List.map_singleton (f:=λ y:nO N r.bs s=>y.1),<-List.map_append,nM] at this;exact this
     ·have KH:=zJ MQ ax.k (λ g e=>(MQ.lt g e).2);have Oq:=zC (zr0 wr w1.heap.size w1.heap.size (some ⟨W.heap.size,0,none⟩) la PS.length lc (qK N (yP r.bs) x.1) row (by rw[<-nM];exact ay) KH);rw[nM] at Oq;have Sz:=zxd (qK N (yP r.bs) x.1) row;obtain⟨l8,z8⟩:=zB Ch.lb 0;obtain⟨l9,z9⟩:=zB Ch.fb 0;simp only[List.getElem?_toArray,List.getElem?_cons_zero] at l8 l9;have HX:=zC (And.intro tF (And.intro KZ MQ));have R6:=zC Sz;clear ax E9 aB ay Ch tF KZ MQ KH Sz;generalize MX:zp6 (qK N (yP r.bs) x.1) row=cv at *;clear MX
      by_cases hneg:cv<0
      ·have F7:=(zA R6).1 hneg
       gi_wp2_with (refine⟨trivial,?_⟩;gi_at_call 166;refine (CallsIn.inRound l (callsIn_wide.2 (zA Oq))).mono ?_;rintro en wx ⟨rfl,wK⟩;have wK:=wK.symm;subst wK)
       have:=Ag.put (pre:=pre.map (λ y:nO N r.bs s=>y.1)) (zA HL) (zA oF) (zA HK) (zA Fj).1 (x:=x.1) (zA CI) (λ y hy=>by
        cases hq:zem (qK N (yP r.bs) y) (qK N (yP r.bs) x.1) with
        | false=>rfl
        | true=>have:=zit hq F7;rw[(zA HX).2.1 y hy] at this;cases this)
       rw[<-List.map_singleton (f:=λ y:nO N r.bs s=>y.1),<-List.map_append,nM] at this;exact this
      ·have F7:zem (qK N (yP r.bs) x.1) row=false:=by
        cases hq:zem (qK N (yP r.bs) x.1) row with
        | false=>rfl
        | true=>exact absurd ((zA R6).2 hq) hneg
       gi_wp2_with (refine⟨trivial,?_⟩;gi_at_call 166;refine (CallsIn.inRound l (callsIn_wide.2 (zA Oq))).mono ?_;rintro en wx ⟨rfl,wK⟩;have wK:=wK.symm;subst wK)
       have:=Ag.stay (pre:=pre.map (λ y:nO N r.bs s=>y.1)) (zA HL) (zA oF) (zA HK) (x:=x.1) (zA HX).1 (zA HX).2.1 (zA HX).2.2 F7;rw[<-List.map_singleton (f:=λ y:nO N r.bs s=>y.1),<-List.map_append] at this;exact this
  case done=>
   rintro D xs W hD hS ⟨lv,f,hL,dY,aO⟩ kK;have HL:=zC hL;have HD:=zC hD;have yz:=zC kK;have dD:=zC aO;have Ia:=zC hS;have l8:=(zB hL.lb 0).1;have l9:=(zB hL.fb 0).1;simp only[List.getElem?_toArray,List.getElem?_cons_zero] at l8 l9;clear hL hD kK aO hS dY;go_wp2_with fail;go_quiet (fail);go_wp2_with fail;refine zbm [D] _ (by simp) (λ E hE=>?_) (λ w' hs=>?_)
   ·rw[List.mem_singleton.1 hE];exact zA yz
   ·refine⟨.tuple #[lv,.bool f],by simp[results,Tryz.results109,go_sem],?_⟩;have hL:=zA HL;have hD:=zA HD;have Nn:=zA Fj;have aS:∀ z∈zbg N (zco r.bs) (yP r.bs) s,z∈xs.map (λ y:nO N r.bs s=>y.1):=λ z hz=>List.mem_map.2 ⟨⟨z,hz⟩,zA Ia _,rfl⟩
    refine⟨⟨hs.os.trans hL.k.os,hs.tape.trans hL.k.tape,hs.output.trans hL.k.output,by rw[hs.size];exact hL.k.size,λ i hi=>(hs.block i (by simp;omega)).trans (hL.k.block i hi)⟩,?_⟩;rcases zA dD with⟨h1,rfl,rfl⟩ | ⟨row,a,c,rfl,rfl,⟨y,hy,e⟩,hle,ay⟩
    ·refine .inl ⟨?_,rfl⟩;rw[zA Cg];refine List.eq_nil_iff_forall_not_mem.2 λ z hz=>?_
     obtain⟨q,hq,_⟩:=List.mem_map.1 hz;have:=aS q hq;rw[h1] at this
     cases this
    ·refine .inr ⟨row,a,c,?_,λ z hz=>?_,rfl,?_⟩
     ·rw[zA Cg];obtain⟨q,hq,rfl⟩:=List.mem_map.1 hy;exact List.mem_map.2 ⟨q.1,q.2,e⟩
     ·rw[zA Cg] at hz;obtain⟨q,hq,rfl⟩:=List.mem_map.1 hz;exact hle q (aS q hq)
     ·refine zG (zZ ay λ g hg=>hs.block g ?_) (by omega);intro hm;rw[List.mem_singleton.1 hm] at hg;rcases ay.2 with⟨h0,_⟩ | ⟨g',cap,cur,h0,_,bS,_⟩
      ·rw[h0] at hg;cases hg
      ·rw[h0] at hg;have e:g'=D:=(by simpa[Value.ownBlock] using hg);subst e;have:=zA yz;rw[bS] at this
       cases this
end
end Go.Proofs.YtldkpahaocjdpaaGreat
