/-
  leastRow: the least of the rows by which a rule's head is a thing.
-/
import Derived.Test.YtldkpahaocjdpaaGreatD38
set_option maxHeartbeats 16000000
set_option maxRecDepth 1000000
namespace Go.Proofs.YtldkpahaocjdpaaGreat
section
open Go.RowKit Go.Maps
attribute [local go_sem ↓] qR jO qP xQ vU xY xX xW
attribute [local go_sem] Oper.semAt_some
attribute [local go_sem] jC qB vD vC
structure zu8 (w:W8)(nb base:Nat)(r:PR)(N:List (Th × Nat))(t:Th):Prop where
 rule:bL w base r
 m:jA w nb N
 l3:r.bs.length<=3
 t4:∀ x∈r.bs,x.1.ts.length<=4
 h4:r.R.ts.length<=4
 th:zbj t
 neg:∀ s,zV [] (vJ r) t=some s->∀ e∈zQ N (zK r.bs) s,∀ x∈xU r.bs,zbj (zT e x)
 pos:∀ s,zV [] (vJ r) t=some s->∀ e∈zQ N (zK r.bs) s,∀ x∈zK r.bs,zbj (zT e x)
 env:∀ s,zV [] (vJ r) t=some s->xN (zb5 r.bs) s
 len:∀ s,zV [] (vJ r) t=some s->∀ e∈zQ N (zK r.bs) s,e.length<=12
def zzq (w:W8)(rows:List (List Nat))(e:Ending)(w':W8):Prop:=
 Below w.heap.size w w'/\((rows=[]/\e=.returned (.tuple #[.slice none 0 0,.bool false])) \/
  ∃ (row:List Nat) (a:O8) (c:Nat),row∈rows/\(∀ x∈rows,zim x row=false)/\e=.returned (.tuple #[.slice a row.length c,.bool true])/\w'.ownsRow w.heap.size 3 1 (.slice a row.length c) row.length (cO row))
variable {t:Th} {w:W8}
theorem jA.lr {b:Nat}{L:List (Th × Nat)}(h:jA w b L)(ht:zbj t){T:TypeId}(hT:Tryz.prog.underlying T=some (.map 88 3)):
  (Instr.lookup T (.map (some b)) (thV t) false).run Tryz.prog w=.ok (.int .i64 (((z7 L t).getD 0:Nat):Int)) w:=by
 obtain⟨D,hD,hs,hn,bX,ad,fj⟩:=h;obtain⟨l,hl⟩:=z8c ht;obtain⟨v,ps,fC,hv⟩:=hD.lookup zcq hT (z:=.int .i64 0) (by kernel_rfl) (zd:=.held (.int .i64 0)) (zp:=[]) rfl hl;have h1:=zdq hv
 cases hk:z7 L t with
 | some n=>
  obtain⟨h2,h3⟩:=ad _ (vP hk) l hl;rw[h3] at h1;have h1:=DataW.held.inj h1;subst h1;exact fC
 | none=>
  have h2:Maps.has D l=false:=by
   cases hh:Maps.has D l with
   | false=>rfl
   | true=>
    obtain⟨p,hp,dP⟩:=fj l hh;have e:=zfj (bX p hp) ht dP hl;exact absurd (show (t,p.2)∈L by rw[<-e];exact hp) (j8 hk _)
  rw[Maps.atKey_of_not_has h2] at h1;have h1:=DataW.held.inj h1;subst h1;exact fC
theorem zzc (n:Nat)(w:W8):SeqStopsK Fence.wide n Tryz.prog 218 #[] (λ x:Empty=>x.elim) (λ _ _=>True) (λ xs=>xs=[]) (λ _=>True) 1 w:=by
 intro l J' EC W hW Al hJx' hY sZ;have A8:=zC sZ;clear hW Al hJx' hY sZ;refine callsIn_wide.2 ?_;go_enter Tryz.func218,Tryz.ntmps218;go_wp2_with fail;go_end0;exact⟨⟨_,rfl⟩,.inl ⟨[],rfl,zA A8⟩⟩
structure dR (w:W8)(r:PR)(ah ab:O8)(ch cb nb:Nat)(t:Th)(lv:Value)(f:Bool)(wr:W8):Prop where
 rb:wr.heap[w.heap.size]?=some (.cells #[.string r.R.pd,.slice ah r.R.ts.length ch,.slice ab r.bs.length cb] 123 (0,0))
 tb:TV wr (w.heap.size+1) t
 mb:wr.heap[w.heap.size+1+1]?=some (.cells #[.map (some nb)] 82 (0,0))
 lb:wr.heap[w.heap.size+1+1+1]?=some (.cells #[lv] 24 (0,0))
 fb:wr.heap[w.heap.size+1+1+1+1]?=some (.cells #[.bool f] 4 (0,0))
 k:Below w.heap.size w wr
theorem dR.below {w:W8}{r:PR}{ah ab:O8}{ch cb nb:Nat}{t:Th}{lv:Value}{f:Bool}{wr w':W8}(h:dR w r ah ab ch cb nb t lv f wr)(k:Below wr.heap.size wr w'):dR w r ah ab ch cb nb t lv f w':=
 ⟨(k.block _ (Array.getElem?_eq_some_iff.1 h.rb).1).trans h.rb,h.tb.below k,(k.block _ (Array.getElem?_eq_some_iff.1 h.mb).1).trans h.mb,(k.block _ (Array.getElem?_eq_some_iff.1 h.lb).1).trans h.lb,(k.block _ (Array.getElem?_eq_some_iff.1 h.fb).1).trans h.fb,h.k.trans (k.mono h.k.size)⟩
variable {wr:W8} {f:Bool} {lv:Value} {ch cb nb:Nat} {ah ab:O8} {r:PR}
theorem dR.grown {w':W8}(h:dR w r ah ab ch cb nb t lv f wr){row:Option Nat}(hg:wr.grownBy w' row)(hr:∀ i,row=some i->w.heap.size+1+1+1+1<i):dR w r ah ab ch cb nb t lv f w':=by
 have blk:∀ i,i<=w.heap.size+1+1+1+1->w'.heap[i]?=wr.heap[i]?:=λ i hi=>hg.block i (by have:=(Array.getElem?_eq_some_iff.1 h.fb).1;omega) (λ e=>by have:=hr i e.symm;omega)
 exact⟨(blk _ (by omega)).trans h.rb,(blk _ (by omega)).trans h.tb,(blk _ (by omega)).trans h.mb,(blk _ (by omega)).trans h.lb,(blk _ (by omega)).trans h.fb,⟨hg.os.trans h.k.os,hg.tape.trans h.k.tape,hg.output.trans h.k.output,Nat.le_trans h.k.size hg.size,λ i hi=>(blk i (by omega)).trans (h.k.block i hi)⟩⟩
theorem dR.start (w:W8)(r:PR)(ah ab:O8)(ch cb nb:Nat)(t:Th):dR w r ah ab ch cb nb t (.slice none 0 0) false (((((w.alloc (.cells #[.string r.R.pd,.slice ah r.R.ts.length ch,.slice ab r.bs.length cb] 123)).alloc (.cells (zJ t).toArray 88)).alloc (.cells #[.map (some nb)] 82)).alloc (.cells #[.slice none 0 0] 24)).alloc (.cells #[.bool false] 4)):=by
 refine⟨?_,?_,?_,?_,?_,?_⟩
 ·rw[Below.heap_alloc _ _ _ (by simp only[World.size_alloc];omega),Below.heap_alloc _ _ _ (by simp only[World.size_alloc];omega),Below.heap_alloc _ _ _ (by simp only[World.size_alloc];omega),Below.heap_alloc _ _ _ (by simp)];exact heap_alloc_new w _
 ·show _=_
  rw[Below.heap_alloc _ _ _ (by simp only[World.size_alloc];omega),Below.heap_alloc _ _ _ (by simp only[World.size_alloc];omega),Below.heap_alloc _ _ _ (by simp)];have:=heap_alloc_new (w.alloc (.cells #[.string r.R.pd,.slice ah r.R.ts.length ch,.slice ab r.bs.length cb] 123)) (.cells (zJ t).toArray 88);simpa only[World.size_alloc] using this
 ·rw[Below.heap_alloc _ _ _ (by simp only[World.size_alloc];omega),Below.heap_alloc _ _ _ (by simp)];have:=heap_alloc_new ((w.alloc (.cells #[.string r.R.pd,.slice ah r.R.ts.length ch,.slice ab r.bs.length cb] 123)).alloc (.cells (zJ t).toArray 88)) (.cells #[.map (some nb)] 82);simpa only[World.size_alloc] using this
 ·rw[Below.heap_alloc _ _ _ (by simp)];have:=heap_alloc_new (((w.alloc (.cells #[.string r.R.pd,.slice ah r.R.ts.length ch,.slice ab r.bs.length cb] 123)).alloc (.cells (zJ t).toArray 88)).alloc (.cells #[.map (some nb)] 82)) (.cells #[.slice none 0 0] 24);simpa only[World.size_alloc] using this
 ·have:=heap_alloc_new ((((w.alloc (.cells #[.string r.R.pd,.slice ah r.R.ts.length ch,.slice ab r.bs.length cb] 123)).alloc (.cells (zJ t).toArray 88)).alloc (.cells #[.map (some nb)] 82)).alloc (.cells #[.slice none 0 0] 24)) (.cells #[.bool false] 4);simpa only[World.size_alloc] using this
 ·exact (((((Below.refl w.heap.size w).alloc L9 _).alloc (by simp) _).alloc (by simp only[World.size_alloc];omega) _).alloc (by simp only[World.size_alloc];omega) _).alloc (by simp only[World.size_alloc];omega) _
structure zzp (W:W8)(rv:Nat->Nat)(n k:Nat)(wr:W8):Prop where
 row:aG wr W.heap.size 3 n (λ j=>.int .i64 ((if j<k then rv j else 0:Nat)))
 k:Below W.heap.size W wr
def ycf (N:List (Th × Nat))(r:PR)(B:Nat)(pre:List zX)(lv:Value)(f:Bool)(W:W8):Prop:=
 (pre=[]/\lv=.slice none 0 0/\f=false)\/∃ (row:List Nat) (a:O8) (c:Nat),lv=.slice a row.length c/\f=true/\(∃ y∈pre,jY N (zK r.bs) y=row)/\(∀ y∈pre,zim (jY N (zK r.bs) y) row=false)/\W.ownsRow B 3 1 (.slice a row.length c) row.length (cO row)
def fW (w:W8)(r:PR)(ah ab:O8)(ch cb nb:Nat)(t:Th)(N:List (Th × Nat))(w1:W8)(pre:List zX)(W:W8):Prop:=
 ∃ (lv:Value) (f:Bool),dR w r ah ab ch cb nb t lv f W/\jQ (λ i=>i=w.heap.size+1+1+1\/i=w.heap.size+1+1+1+1) w1 W/\ycf N r w1.heap.size pre lv f W
theorem fW.grown {w:W8}{r:PR}{ah ab:O8}{ch cb nb:Nat}{t:Th}{N:List (Th × Nat)}{w1:W8}{pre:List zX}{A B:W8}(h:fW w r ah ab ch cb nb t N w1 pre A){row:Option Nat}(hg:A.grownBy B row)(hr:∀ i,row=some i->w1.heap.size<=i/\∃ o:Obj,A.heap[i]?=some o/\o.isCells=false)(hb:w.heap.size+1+1+1+1<w1.heap.size):fW w r ah ab ch cb nb t N w1 pre B:=by
 obtain⟨lv,f,h1,h2,h3⟩:=h;refine⟨lv,f,h1.grown hg (λ i e=>by have:=(hr i e).1;omega),h2.grown hg (λ i e=>.inl (hr i e).1),?_⟩;rcases h3 with h3 | ⟨vb,a,c,e1,e2,e3,e4,e5⟩
 ·exact .inl h3
 ·exact .inr ⟨vb,a,c,e1,e2,e3,e4,zr1 e5 hg (λ i e=>(hr i e).2)⟩
theorem dR.DO (h:dR w r ah ab ch cb nb t lv f wr)(v:Value):dR w r ah ab ch cb nb t v true ((wr.setCell ⟨w.heap.size+1+1+1,0,none⟩ v).setCell ⟨w.heap.size+1+1+1+1,0,none⟩ (.bool true)):=by
 have blk:∀ i,i≠w.heap.size+1+1+1->i≠w.heap.size+1+1+1+1->((wr.setCell ⟨w.heap.size+1+1+1,0,none⟩ v).setCell ⟨w.heap.size+1+1+1+1,0,none⟩ (.bool true)).heap[i]?=wr.heap[i]?:=λ i h1 h2=>by
  rw[Below.heap_setCell _ _ _ _ (by simpa using h2),Below.heap_setCell _ _ _ _ (by simpa using h1)]
 refine⟨(blk _ (by omega) (by omega)).trans h.rb,(blk _ (by omega) (by omega)).trans h.tb,(blk _ (by omega) (by omega)).trans h.mb,?_,?_,⟨h.k.os,h.k.tape,h.k.output,by simpa using h.k.size,λ i hi=>(blk i (by omega) (by omega)).trans (h.k.block i hi)⟩⟩
 ·rw[Below.heap_setCell _ _ _ _ (by simp),setCell_eq_setRow wr _ 0 _ _ (0,0) v h.lb];exact setRow_heap _ _ _ _ _ _ h.lb
 ·have h9:(wr.setCell ⟨w.heap.size+1+1+1,0,none⟩ v).heap[w.heap.size+1+1+1+1]?=some (.cells #[.bool f] 4 (0,0)):=by
   rw[Below.heap_setCell _ _ _ _ (by simp)];exact h.fb
  rw[setCell_eq_setRow _ _ 0 _ _ (0,0) _ h9];exact setRow_heap _ _ _ _ _ _ h9
theorem z61 {b8 b9 base n:Nat}{e:TypeId}{size:Nat}{v:Value}{xs:V8}(h:wr.ownsRow base e size v n xs)(h8:b8<base)(h9:b9<base)(u u':Value):((wr.setCell ⟨b8,0,none⟩ u).setCell ⟨b9,0,none⟩ u').ownsRow base e size v n xs:=
 zP h λ g hg=>by
  have:=(h.lt g hg).1;rw[Below.heap_setCell _ _ _ _ (by simp;omega),Below.heap_setCell _ _ _ _ (by simp;omega)]
variable {c:Nat} {a:O8} {x:zX} {pre:List zX} {w1 W:W8} {N:List (Th × Nat)}
theorem fW.put (hL:dR w r ah ab ch cb nb t lv f W)(cV:jQ (λ i=>i=w.heap.size+1+1+1\/i=w.heap.size+1+1+1+1) w1 W)(k:Below W.heap.size W wr)(hb:w.heap.size+1+1+1+1<w1.heap.size)(aI:wr.ownsRow w1.heap.size 3 1 (.slice a (jY N (zK r.bs) x).length c) (jY N (zK r.bs) x).length (cO (jY N (zK r.bs) x)))(hle:∀ y∈pre,zim (jY N (zK r.bs) y) (jY N (zK r.bs) x)=false):
  KeepsFrom w1.heap.size W ((wr.setCell ⟨w.heap.size+1+1+1,0,none⟩ (.slice a (jY N (zK r.bs) x).length c)).setCell ⟨w.heap.size+1+1+1+1,0,none⟩ (.bool true))/\jQ (λ i=>i=w.heap.size+1+1+1\/i=w.heap.size+1+1+1+1) W ((wr.setCell ⟨w.heap.size+1+1+1,0,none⟩ (.slice a (jY N (zK r.bs) x).length c)).setCell ⟨w.heap.size+1+1+1+1,0,none⟩ (.bool true))/\fW w r ah ab ch cb nb t N w1 (pre++[x]) ((wr.setCell ⟨w.heap.size+1+1+1,0,none⟩ (.slice a (jY N (zK r.bs) x).length c)).setCell ⟨w.heap.size+1+1+1+1,0,none⟩ (.bool true)):=by
 have hK:jQ (λ i=>i=w.heap.size+1+1+1\/i=w.heap.size+1+1+1+1) W ((wr.setCell ⟨w.heap.size+1+1+1,0,none⟩ (.slice a (jY N (zK r.bs) x).length c)).setCell ⟨w.heap.size+1+1+1+1,0,none⟩ (.bool true)):=((jQ.aF k).setCell (.inr (.inl rfl)) _).setCell (.inr (.inr rfl)) _;refine⟨⟨by simpa using k.size,λ i o hB hi _=>?_⟩,hK,_,_,(hL.below k).DO _,cV.trans hK,.inr ⟨_,a,c,rfl,rfl,⟨x,by simp,rfl⟩,λ y hy=>?_,z61 aI (by omega) hb _ _⟩⟩
 ·rw[Below.heap_setCell _ _ _ _ (by simp;omega),Below.heap_setCell _ _ _ _ (by simp;omega)];exact (k.block i (Array.getElem?_eq_some_iff.1 hi).1).trans hi
 ·rcases List.mem_append.1 hy with hy | hy
  ·exact hle y hy
  ·rw[List.mem_singleton.1 hy];exact MM _
theorem fW.stay {row:List Nat}(hL:dR w r ah ab ch cb nb t (.slice a row.length c) true W)(cV:jQ (λ i=>i=w.heap.size+1+1+1\/i=w.heap.size+1+1+1+1) w1 W)(k:Below W.heap.size W wr)(h1:∃ y∈pre,jY N (zK r.bs) y=row)(h2:∀ y∈pre,zim (jY N (zK r.bs) y) row=false)(h3:W.ownsRow w1.heap.size 3 1 (.slice a row.length c) row.length (cO row))(hx:zim (jY N (zK r.bs) x) row=false):
  KeepsFrom w1.heap.size W wr/\jQ (λ i=>i=w.heap.size+1+1+1\/i=w.heap.size+1+1+1+1) W wr/\fW w r ah ab ch cb nb t N w1 (pre++[x]) wr:=by
 refine⟨⟨k.size,λ i o _ hi _=>(k.block i (Array.getElem?_eq_some_iff.1 hi).1).trans hi⟩,jQ.aF k,_,_,hL.below k,cV.trans (jQ.aF k),.inr ⟨row,a,c,rfl,rfl,?_,λ y hy=>?_,zG h3 k (λ g e=>(h3.lt g e).2)⟩⟩
 ·obtain⟨y,hy,e⟩:=h1;exact⟨y,List.mem_append.2 (.inl hy),e⟩
 ·rcases List.mem_append.1 hy with hy | hy
  ·exact h2 y hy
  ·rw[List.mem_singleton.1 hy];exact hx
theorem z1p (w:W8)(nb base:Nat)(r:PR)(N:List (Th × Nat))(t:Th)(h:zu8 w nb base r N t):
  Calls Tryz.prog 109 #[.agg #[.string r.R.pd,r.hv,r.bv],thV t,.map (some nb)] w (zzq w (zar N r t)):=by
 obtain⟨ah,ch,fs⟩:=zE h.rule.hd;obtain⟨ab,cb,fi⟩:=zE h.rule.bo.row;have H:=zC h;obtain⟨ct,eM⟩:∃ ct,ct=(zJ t).toArray:=⟨_,rfl⟩;have fw:=zC eM;unfold thV;rw[<-eM,fs,fi];have LQ:=h.m.lt;have qw:=zC fs;have p6:=zC fi;clear eM h fs fi;refine callsIn_wide.1 (callsIn_of_wp_marks (F:=Fence.wide) (n:=5) Tryz.func109 rfl trivial (wpIn_wide.2 ?_) rfl);simp only[Tryz.ntmps109,List.size_toArray,List.length_cons,List.length_nil,Nat.reduceAdd,Nat.reduceSub,Array.replicate_succ,Array.replicate_zero,List.push_toArray,List.append_toArray,List.nil_append,List.cons_append];go_upto_region 3 with fail;generalize hw0:World.alloc (World.alloc (World.alloc (World.alloc (World.alloc w _) _) _) _) _=w0;have da:dR w r ah ab ch cb nb t (.slice none 0 0) false w0:=by
  rw[<-hw0,zA fw];exact dR.start w r ah ab ch cb nb t
 have k0:Below w.heap.size w w0:=da.k;have s0:w0.heap.size=w.heap.size+1+1+1+1+1:=by rw[<-hw0];simp
 clear hw0;have c0:=(zB da.rb 0).1;have c1:=(zB da.rb 1).1;have c2:=(zB da.rb 2).1;simp only[List.getElem?_toArray,List.getElem?_cons_zero,List.getElem?_cons_succ] at c0 c1 c2;have kP:=((zA H).rule.bo).below k0;rw[zA p6] at kP;have HP:=zC (za7 w0 base r.R.pd ah r.R.ts.length ch ab cb r.bs kP (by have:=(zA H).l3;omega));have tj:=zC da;have fH:=zC s0;have AY:=zC kP;clear da k0 s0 kP;go_upto_region 4 with (go_at_call 164;refine (zA HP).mono ?_;rintro en wP ⟨ap,cp,rfl,aO,kq,LZ⟩;have nZ:=zC aO;have oy:=zC kq;clear aO kq LZ);generalize bq:World.alloc wP _=wQ;have kQ:Below w0.heap.size w0 wQ:=by rw[<-bq];exact (zA oy).alloc (zA oy).size _
 have aQ:wQ.heap[wP.heap.size]?=some (.cells #[.slice ap (r.bs.filter (yW false)).length cp] 289 (0,0)):=by rw[<-bq];exact heap_alloc_new wP _
 have pQ:wQ.ownsRow (w0.heap.size+1) 79 2 (.slice ap (r.bs.filter (yW false)).length cp) (r.bs.filter (yW false)).length ((r.bs.filter (yW false)).flatMap xZ):=by rw[<-bq];exact (zA nZ).alloc _
 have sQ:wQ.heap.size=wP.heap.size+1:=by rw[<-bq];simp
 clear bq;have da:=(zA tj).below kQ;have s0:=zA fH;have Gq:=kQ.size;have CY:=(zA H).m.block (da.k.block nb LQ);have Ax:=((zA H).rule.bo).below da.k;rw[zA p6] at Ax;have Fz:wQ.ownsRow base 191 1 (.slice ah (vJ r).ts.length ch) (vJ r).ts.length ((vJ r).ts.map zaz):=by
  have:=zG (zA H).rule.hd da.k (λ g e=>((zA H).rule.hd.lt g e).2);rw[zA qw] at this;exact this
 have hA:lM (λ i=>i=w.heap.size+1+1+1\/i=w.heap.size+1+1+1+1) wQ nb (.slice ah (vJ r).ts.length ch) (.slice ab r.bs.length cb) base r.bs N:=
  ⟨Ax,CY,by omega,λ x hx g hg=>by have:=(((zA H).rule.bo.each x hx).lt g hg).2;omega,λ g hg=>by omega,(zA H).l3,(zA H).t4,_,_,_,rfl⟩
 have xt:=zC (yb2 _ wQ nb r.R.pd (vJ r).ts _ _ base r.bs N t hA Fz (zA H).h4);have c0:=(zB da.rb 0).1;have c1:=(zB da.rb 1).1;have c2:=(zB da.rb 2).1;have c5:=(zB da.mb 0).1;simp only[List.getElem?_toArray,List.getElem?_cons_zero,List.getElem?_cons_succ] at c0 c1 c2 c5;have t3:=da.tb.load;have Mu:=zC da;have GZ:=zC aQ;have ig:=zC pQ;have BB:=zC (And.intro sQ Gq);have vs:=zC kQ;have Ef:=zC CY;have HLQ:=zC Ax;clear da hA kQ aQ pQ sQ Gq s0 CY Ax Fz;have rQ:=zC (show zar N r t=(match zV [] (vJ r) t with | none=>[] | some s=>(qO N (xU r.bs) (zK r.bs) s).map (jY N (zK r.bs))) from rfl);rw[show zV [] ⟨r.R.pd,(vJ r).ts⟩ t=zV [] (vJ r) t from rfl] at xt
 cases lg:zV [] (vJ r) t with
 | none=>
  rw[lg] at xt rQ;clear lg;go_wp2_with (go_at_call 165;refine (zA xt).mono ?_;rintro en w1 ⟨cP,-⟩;obtain⟨rfl,aT⟩:=cP rfl;have cR:=zC aT;clear cP aT);have da:=(zA Mu).below (zA cR);have EL:=(zA cR).size;have hsz:=zA fH;have uN:=zA BB;refine (wpIn_wide (n:=5)).1 ?_;refine wpIn_rangeFunc_ownH (α:=Empty) rfl (by omega) (gf:=218) (lb:=#[]) rfl trivial (enters_of Tryz.func218 (by kernel_rfl) rfl)
   (encs:=λ x=>x.elim) (Kp:=λ _ _=>True) (S:=λ xs=>xs=[]) (Sp:=λ _=>True) (N:=1) (w0:=w1) (zzc _ w1) (λ _ _=>trivial) (λ _ _ _ _ _ _ _ _=>trivial) B9 (λ x=>x.elim)
   (λ (_:List Empty) (W:W8)=>dR w r ah ab ch cb nb t (.slice none 0 0) false W)
   (λ (_:Code) (_:List Empty) (_:W8)=>False)
   (λ pre A B row hs hg hr=>hs.grown hg (λ i e=>by have:=(hr i e).1;omega))
   (λ c pre A B row hs hg hr=>hs)
   da (λ x _ _=>x.elim) (λ x=>x.elim)
   (λ l pre x=>x.elim) (λ l pre x=>x.elim) ?done (λ D c pre W _ _ h=>h.elim)
  case done=>
   rintro D xs W hD-hL eF;have HL:=zC hL;have HD:=zC hD;have lO:=zC eF;have l8:=(zB hL.lb 0).1;have l9:=(zB hL.fb 0).1;simp only[List.getElem?_toArray,List.getElem?_cons_zero] at l8 l9;clear hL hD eF;go_wp2_with fail;go_quiet (fail);go_wp2_with fail;refine j4 [D] _ (by simp) (λ E hE=>?_) (λ w' hs=>?_)
   ·rw[List.mem_singleton.1 hE];exact zA lO
   ·refine⟨.tuple #[.slice none 0 0,.bool false],by simp[results,Tryz.results109,go_sem],?_,.inl ⟨zA rQ,rfl⟩⟩;have hL:=zA HL;have hD:=zA HD;exact⟨hs.os.trans hL.k.os,hs.tape.trans hL.k.tape,hs.output.trans hL.k.output,by rw[hs.size];exact hL.k.size,λ i hi=>(hs.block i (by simp;omega)).trans (hL.k.block i hi)⟩
 | some s=>
  rw[lg] at xt rQ;have bX:=(zA H).neg s lg;have oj:=(zA H).env s lg;have H3:=zC ((zA H).pos s lg);have Bf:=zC ((zA H).len s lg);clear lg;go_wp2_with (go_at_call 165;refine (zA xt).mono ?_;rintro en w1 ⟨-,eJ⟩;obtain⟨rb,xb,eb,rfl,aT,bq⟩:=eJ s rfl;have cR:=zC aT;have xr:=zC bq;clear eJ aT bq);have da:=(zA Mu).below (zA cR);have EL:=(zA cR).size;have hsz:=zA fH;have uN:=zA BB;have dm:=zC (show w.heap.size+1+1+1+1<w1.heap.size/\wP.heap.size<w1.heap.size by omega);have Li:=zA dm;clear EL hsz uN c0 c1 c2 c5 t3;refine (wpIn_wide (n:=5)).1 ?_;refine wpIn_rangeFunc_ownH (α:=jN N r.bs s) rfl (by omega) (gf:=233) (lb:=#[.pointer (some ⟨rb,0,none⟩),.pointer (some ⟨xb,0,none⟩),.pointer (some ⟨eb,0,none⟩)]) rfl trivial (enters_of Tryz.func233 (by kernel_rfl) rfl)
   (zg8 _ _ w1 rb xb eb nb r.R.pd _ _ base r.bs N s (zA xr) bX oj) (λ h1 h2=>jQ.trans h1 h2) (λ W l o o' _ hl hc hwk=>zds W l o o' hl hc hwk) B9 (λ _=>rfl)
   (λ (pre:List (jN N r.bs s)) (W:W8)=>fW w r ah ab ch cb nb t N w1 (pre.map (λ y:jN N r.bs s=>y.1)) W)
   (λ (_:Code) (_:List (jN N r.bs s)) (_:W8)=>False)
   (λ pre A B row hs hg hr=>hs.grown hg (λ i e=>hr i e) Li.1)
   (λ c pre A B row hs hg hr=>hs)
   ⟨_,_,da,jQ.refl _ _,.inl ⟨rfl,rfl,rfl⟩⟩
   (λ (x:jN N r.bs s) (a':Act) (W:W8)=>∃ Bx,w1.heap.size<=Bx/\BV W Bx x.1/\a'={ tmps:=List.toArray ((Value.agg #[.string r.R.pd,.slice ah r.R.ts.length ch,.slice ab r.bs.length cb])::(Value.agg ct)::(Value.map (some nb))::(Value.pointer (some ⟨w.heap.size,0,none⟩))::(Value.pointer (some ⟨w.heap.size+1,0,none⟩))::(Value.pointer (some ⟨w.heap.size+1+1,0,none⟩))::(Value.slice none 0 0)::(Value.bool false)::(Value.pointer (some ⟨w.heap.size+1+1+1,0,none⟩))::(Value.pointer (some ⟨w.heap.size+1+1+1+1,0,none⟩))::(Value.pointer (some ⟨wP.heap.size,0,none⟩))::(Value.pointer (some ⟨Bx,0,none⟩))::undef::undef::undef::(Value.agg #[.string r.R.pd,.slice ah r.R.ts.length ch,.slice ab r.bs.length cb])::(Value.slice ap (r.bs.filter (yW false)).length cp)::(Value.agg #[.string r.R.pd,.slice ah r.R.ts.length ch,.slice ab r.bs.length cb])::(thV t)::(Value.map (some nb))::(Value.func (.func 233) #[] #[.pointer (some ⟨rb,0,none⟩),.pointer (some ⟨xb,0,none⟩),.pointer (some ⟨eb,0,none⟩)])::(jD x.1)::List.replicate 30 undef),defers:=[] })
   (λ x a' _ A B row hs hg hr=>let ⟨Bx,h1,h2,h3⟩:=hs;⟨Bx,h1,h2.grown hg (λ i e=>(hr i e).2),h3⟩)
   ?assign ?body ?done (λ D c pre W _ _ h=>h.elim)
  case assign=>
   intro l pre x W K2 hI bM;have ky:=zC bM;have HI:=zC hI;have hz:w1.heap.size<=W.heap.size:=(by obtain⟨_,_,_,hk,_⟩:=hI;exact hk.size);clear bM hI
   gi_wp2
   exact zA ky _ _ ((KeepsOthers.alloc _ _).from _) ((jQ.refl _ _).alloc _) ((zA HI).grown (World.grownBy_alloc W _ none) (λ _ e=>by cases e) Li.1) ⟨W.heap.size,hz,BV.new _ _,rfl⟩
  case body=>
   rintro l pre x a' W CP-⟨lv,f,hL,cV,dj⟩ ⟨Bx,B3,kf,rfl⟩ -;have Li:=zA dm;have hsz:=zA fH;have uN:=zA BB;have kq:=(zA oy).size;have pK:=(List.mem_filter.1 x.2).1;have LV:∀ g,(g=w.heap.size+1+1+1\/g=w.heap.size+1+1+1+1)->g<w0.heap.size+1:=λ g hg=>by omega
   have oP:jG (λ i=>i=w.heap.size+1+1+1\/i=w.heap.size+1+1+1+1) W (.slice ap (r.bs.filter (yW false)).length cp) (zY false r.bs):=
    ((zog (zA AY) (zA vs) (zA ig) LV (λ x hx g hg=>by have:=(((zA H).rule.bo.each x hx).lt g hg).2;omega) (zA H).t4).below (zA cR)).gH cV
   have Cl:W.heap[wP.heap.size]?=some (.cells #[.slice ap (r.bs.filter (yW false)).length cp] 289 (0,0)):=cV.cells (((zA cR).block _ (by omega)).trans (zA GZ)) (by omega);have fa:jA W nb N:=cV.map ((zA Ef).block ((zA cR).block _ (zA Ef).lt)) (by omega);have cB:w1.heap.size<=W.heap.size:=cV.size;have E8:∀ y∈zY false r.bs,zbj (zT x.1 y.1):=λ y hy=>zA H3 x.1 pK y.1 (List.mem_map_of_mem hy)
   have nO:=zA Bf x.1 pK;rw[<-Mj false r.bs] at oP Cl ⊢;have Ac:=zC (show jY N (zK r.bs) x.1=(zY false r.bs).map (λ y=>(z7 N (zT x.1 y.1)).getD 0) by unfold jY zK;rw[List.map_map];rfl);have hn3:(zY false r.bs).length<=3:=(by rw[Mj];exact Nat.le_trans (List.length_filter_le _ _) (zA H).l3);generalize zY false r.bs=PS at *;have ED:=(zB Cl 0).1;simp only[List.getElem?_toArray,List.getElem?_cons_zero] at ED;have kL:=zld PS.length (by omega);have HL:=zC hL;have gw:=zC cV;have fT:=zC dj;have vj:=zC kf;have vh:=zC oP;have My:=zC fa;have Br:=zC E8;clear hL cV dj kf oP Cl fa E8 pK LV hsz uN
   gi_upto_region 7 with fail
   generalize hwm:World.alloc W _=wM;have kM:Below W.heap.size W wM:=(by rw[<-hwm];exact (Below.refl W.heap.size W).alloc L9 _);have rM:aG wM W.heap.size 3 PS.length (λ _=>.int .i64 0):=(by rw[<-hwm];exact aG.start W _ _ _);clear hwm kL;have IE:wM.cell? ⟨wP.heap.size,0,none⟩=some (.slice ap PS.length cp):=(kM.cell (p:=⟨wP.heap.size,0,none⟩) (by simp only[];omega)).trans ED;obtain⟨rv,F5⟩:∃ rv:Nat->Nat,rv=λ j=>((PS[j]?).map (λ y=>(z7 N (zT x.1 y.1)).getD 0)).getD 0:=⟨_,rfl⟩
   have Et:=zC F5;have H0:=zC (show zzp W rv PS.length 0 wM from ⟨rM.eq (λ i hi=>by simp),kM⟩);clear kM rM F5
   gi_upto_region 8 with fail
   gi_loopg [27] PS.length (λ gg i wr=>∃ k:Nat,k<=PS.length/\gg=PS.length-k/\i=.int .i64 k/\zzp W rv PS.length k wr)
   exact⟨0,Nat.zero_le _,rfl,rfl,zA H0⟩
   case round=>
    clear H0;obtain⟨k,hk,fM,rfl,ak⟩:=hrel
    by_cases aN:k<PS.length
    ·have oP:=(zA vh).gH (jQ.aF ak.k);obtain⟨xz,lh⟩:=oP.row;obtain⟨g,cap,hv,iC,dp,dG,dx,hc⟩:=vL zhf lh k aN;injection hv with h1 h2 h3
     subst h1 h3;have hy:PS[k]∈PS:=List.getElem_mem aN;obtain⟨tb,gl⟩:=oP.aS _ hy;obtain⟨ta,tc,ji⟩:=zE gl;have gE:=oP.ft _ hy;have hT:=zA Br _ hy;have qn:rv k=(z7 N (zT x.1 PS[k].1)).getD 0:=(by rw[zA Et];simp[aN]);rw[ji] at gl;have e0:wr.cell? ⟨g,k*2,none⟩=some (.string PS[k].1.p):=hc 0 (by omega);have e1:wr.cell? ⟨g,k*2+1,none⟩=some (.slice ta PS[k].1.ts.length tc):=(by rw[<-ji];exact hc 1 (by omega));have gW:(k:Int)<PS.length:=(by omega);have bt:=zC ak;have Ab:=zC qn;have vy:=zC gl;generalize PS[k].1=AT at *;have sU:W.heap.size<wr.heap.size:=ak.row.lt;clear hc oP lh ak qn h2 ji gl hy
     gi_upto_region 10 with fail
     generalize hwa:World.alloc wr _=wA;have kA:Below wr.heap.size wr wA:=(by rw[<-hwa];exact (Below.refl wr.heap.size wr).alloc L9 _);have aA:wA.heap[wr.heap.size]?=some (.cells #[.string AT.p,.slice ta AT.ts.length tc] 79 (0,0)):=(by rw[<-hwa];exact heap_alloc_new wr _);have sA:wA.heap.size=wr.heap.size+1:=(by rw[<-hwa];simp);clear hwa;obtain⟨S,cK⟩:∃ S:W8->Prop,S=λ V=>∀ i,i<wA.heap.size->i≠W.heap.size->V.heap[i]?=wA.heap[i]?:=⟨_,rfl⟩
     have dv:=zC (λ (V:W8) (hV:S V)=>(show V.cell? ⟨w.heap.size+1+1,0,none⟩=some (.map (some nb))/\BV V Bx x.1/\jA V nb N/\V.cell? ⟨wr.heap.size,0,none⟩=some (.string AT.p)/\V.cell? ⟨wr.heap.size,1,none⟩=some (.slice ta AT.ts.length tc) from by
      have ak:=zA bt;rw[cK] at hV;have k2:Below W.heap.size W wA:=ak.k.trans (kA.mono ak.k.size);have blk:∀ i,i<W.heap.size->V.heap[i]?=W.heap[i]?:=λ i hi=>(hV i (by omega) (by omega)).trans (k2.block i hi)
      have aV:=(hV wr.heap.size (by omega) (by omega)).trans aA
      exact⟨(zB ((blk _ (Array.getElem?_eq_some_iff.1 (zA HL).mb).1).trans (zA HL).mb) 0).1,(blk _ (zA vj).lt).trans (zA vj),(zA My).block (blk _ (zA My).lt),(zB aV 0).1,(zB aV 1).1⟩))
     have n9:=zC (λ (V:W8) (hV:Below wA.heap.size wA V)=>(show S V from by rw[cK];exact λ i hi _=>hV.block i hi));have vx:=zC (λ (V:W8) (hV:S V) (v:Value)=>(show S (V.setCell ⟨W.heap.size,k,none⟩ v) from by rw[cK] at hV ⊢;exact λ i hi hn=>(Below.heap_setCell _ _ _ _ (by simpa using hn)).trans (hV i hi hn)))
     have Hk:=zC (λ (V:W8) (hV:Below wA.heap.size wA V)=>(show zzp W rv PS.length k V from by
      have ak:=zA bt;have k1:Below wr.heap.size wr V:=kA.trans (hV.mono kA.size)
      exact⟨ak.row.below k1,ak.k.trans (k1.mono ak.k.size)⟩))
     have nT:=zC (λ (V:W8) (hV:Below wA.heap.size wA V)=>zc8 V tb x.1 AT ta tc (zP (zA vy) (λ g e=>(kA.trans (hV.mono kA.size)).block g ((zA vy).lt g e).2)) gE nO);have bN:=zA n9 wA.drew B9.drew;clear kA aA cK;refine zfb S (by kernel_rfl) (by kernel_rfl) (λ ⟨_,_,h⟩=>h) ?_;refine K9 0 (.slice (some ⟨W.heap.size,0,none⟩) PS.length PS.length) rfl (Or.inl ⟨by rfl,λ w _=>by go_simp⟩) bN ?_;refine K9 1 (.int .i64 k) rfl (Or.inl ⟨by rfl,λ w _=>by go_simp⟩) bN ?_;refine K9 2 (.map (some nb)) rfl (Or.inl ⟨by rfl,λ V hV=>by obtain⟨m4,b4,jr,ve,vf⟩:=zA dv V hV;go_simp⟩) bN ?_;refine K9 3 (jD x.1) rfl (Or.inl ⟨by rfl,λ V hV=>by obtain⟨m4,b4,jr,ve,vf⟩:=zA dv V hV;have ld:=b4.load;go_simp⟩) bN ?_;refine K9 4 (.agg #[.string AT.p,.slice ta AT.ts.length tc]) rfl (Or.inl ⟨by rfl,λ V hV=>by obtain⟨m4,b4,jr,ve,vf⟩:=zA dv V hV;go_simp⟩) bN ?_;refine wpAnyH_ready (rs:=[5]) (by kernel_rfl) (by simp) ?_;refine AllReadyH.cons rfl (λ K hK=>?_) AllReadyH.nil
     go_simp
     refine (zA nT _ B9.drew).mono ?_;rintro en w4 ⟨bQ,rfl⟩;have bY:=zL bQ;have iZ:=zA n9 w4 bY;have i4:=zA Hk w4 bY;have GH:=i4.row.cell aN;have GI:=i4.row.fz k;have wL:=zC i4;refine hK.out _ _ iZ (λ _=>?_);clear hK K bQ i4;refine K9 6 (.int .i64 (((z7 N (zT x.1 AT)).getD 0:Nat):Int)) rfl (Or.inl ⟨by rfl,λ V hV=>by obtain⟨m4,b4,jr,ve,vf⟩:=zA dv V hV;have sW:=jr.lr hT Tryz.underlying82;go_simp⟩) iZ ?_;refine K9 7 (.pointer (some ⟨W.heap.size,k,none⟩)) rfl (Or.inl ⟨by rfl,λ w _=>by go_simp⟩) iZ ?_;refine wpAnyH_ready (rs:=[8]) (by kernel_rfl) (by simp) ?_;refine AllReadyH.cons rfl (λ K hK=>?_) AllReadyH.nil
     go_simp
     refine hK.out _ _ (zA vx _ iZ _) (λ _=>?_);clear hK K;refine wpAnyH_done (by kernel_rfl) ?_ _
     gi_wp2
     gi_roundg (PS.length-(k+1))
     case measure=>omega
     case rel=>
      have i4:=zA wL;refine⟨k+1,by omega,rfl,by go_num,?_,?_⟩
      ·refine ((i4.row.set k (.int .i64 (((z7 N (zT x.1 AT)).getD 0:Nat):Int)))).eq λ j hj=>?_
       by_cases e:j=k
       ·subst e;simp[zA Ab]
       ·have e2:(j<k+1)=(j<k):=(by apply propext;omega);simp only[if_neg e,e2]
      ·exact i4.k.setCell L9 _
    ·have lX:k=PS.length:=(by omega);subst lX;have uv:aG wr W.heap.size 3 PS.length (λ j=>.int .i64 (rv j:Nat)):=ak.row.eq (λ j hj=>by rw[if_pos hj]);have aE:(List.range PS.length).map rv=jY N (zK r.bs) x.1:=by
      rw[zA Ac,zA Et];apply List.ext_getElem
      ·simp
      ·intro j h1 h2;simp at h1;simp[h1]
     have iG:(jY N (zK r.bs) x.1).length=PS.length:=(by rw[<-aE];simp);have aI:=uv.cO (by unfold maxLen;omega) (base:=w1.heap.size) cB;rw[aE,<-iG] at aI;have qe:=(zA HL).below ak.k;have HK:=zC ak.k;have gQ:=zC aI;have gW:¬ ((PS.length:Int)<PS.length):=(by omega);rcases zA fT with⟨lf,rfl,rfl⟩ | ⟨row,la,lc,rfl,rfl,mg,mh,qp⟩
     ·obtain⟨l8,z8⟩:=zB qe.lb 0;obtain⟨l9,z9⟩:=zB qe.fb 0;simp only[List.getElem?_toArray,List.getElem?_cons_zero] at l8 l9;have tG:=zC lf;clear ak uv aE aI qe lf
      gi_wp2_with (refine⟨trivial,?_⟩)
      have:=fW.put (pre:=pre.map (λ y:jN N r.bs s=>y.1)) (zA HL) (zA gw) (zA HK) (zA dm).1 (x:=x.1) (zA gQ) (λ y hy=>by rw[zA tG] at hy;cases hy);rw[<-List.map_singleton (f:=λ y:jN N r.bs s=>y.1),<-List.map_append,iG] at this;exact this
     ·have zy:=zG qp ak.k (λ g e=>(qp.lt g e).2);have A0:=zC (zq5 wr w1.heap.size w1.heap.size (some ⟨W.heap.size,0,none⟩) la PS.length lc (jY N (zK r.bs) x.1) row (by rw[<-iG];exact aI) zy);rw[iG] at A0;have FJ:=zv1 (jY N (zK r.bs) x.1) row;obtain⟨l8,z8⟩:=zB qe.lb 0;obtain⟨l9,z9⟩:=zB qe.fb 0;simp only[List.getElem?_toArray,List.getElem?_cons_zero] at l8 l9;have HX:=zC (And.intro mg (And.intro mh qp));have Ec:=zC FJ;clear ak uv aE aI qe mg mh qp zy FJ;generalize Cw:zpj (jY N (zK r.bs) x.1) row=cv at *;clear Cw
      by_cases eH:cv<0
      ·have CW:=(zA Ec).1 eH
       gi_wp2_with (refine⟨trivial,?_⟩;gi_at_call 166;refine (CallsIn.inRound l (callsIn_wide.2 (zA A0))).mono ?_;rintro en wx ⟨rfl,nN⟩;have nN:=nN.symm;subst nN)
       have:=fW.put (pre:=pre.map (λ y:jN N r.bs s=>y.1)) (zA HL) (zA gw) (zA HK) (zA dm).1 (x:=x.1) (zA gQ) (λ y hy=>by
        cases hq:zim (jY N (zK r.bs) y) (jY N (zK r.bs) x.1) with
        | false=>rfl
        | true=>have:=zin hq CW;rw[(zA HX).2.1 y hy] at this;cases this)
       rw[<-List.map_singleton (f:=λ y:jN N r.bs s=>y.1),<-List.map_append,iG] at this;exact this
      ·have CW:zim (jY N (zK r.bs) x.1) row=false:=by
        cases hq:zim (jY N (zK r.bs) x.1) row with
        | false=>rfl
        | true=>exact absurd ((zA Ec).2 hq) eH
       gi_wp2_with (refine⟨trivial,?_⟩;gi_at_call 166;refine (CallsIn.inRound l (callsIn_wide.2 (zA A0))).mono ?_;rintro en wx ⟨rfl,nN⟩;have nN:=nN.symm;subst nN)
       have:=fW.stay (pre:=pre.map (λ y:jN N r.bs s=>y.1)) (zA HL) (zA gw) (zA HK) (x:=x.1) (zA HX).1 (zA HX).2.1 (zA HX).2.2 CW;rw[<-List.map_singleton (f:=λ y:jN N r.bs s=>y.1),<-List.map_append] at this;exact this
  case done=>
   rintro D xs W hD hS ⟨lv,f,hL,cV,dj⟩ eF;have HL:=zC hL;have HD:=zC hD;have lO:=zC eF;have fT:=zC dj;have vx:=zC hS;have l8:=(zB hL.lb 0).1;have l9:=(zB hL.fb 0).1;simp only[List.getElem?_toArray,List.getElem?_cons_zero] at l8 l9;clear hL hD eF dj hS cV;go_wp2_with fail;go_quiet (fail);go_wp2_with fail;refine j4 [D] _ (by simp) (λ E hE=>?_) (λ w' hs=>?_)
   ·rw[List.mem_singleton.1 hE];exact zA lO
   ·refine⟨.tuple #[lv,.bool f],by simp[results,Tryz.results109,go_sem],?_⟩;have hL:=zA HL;have hD:=zA HD;have Li:=zA dm;have ad:∀ z∈qO N (xU r.bs) (zK r.bs) s,z∈xs.map (λ y:jN N r.bs s=>y.1):=λ z hz=>List.mem_map.2 ⟨⟨z,hz⟩,zA vx _,rfl⟩
    refine⟨⟨hs.os.trans hL.k.os,hs.tape.trans hL.k.tape,hs.output.trans hL.k.output,by rw[hs.size];exact hL.k.size,λ i hi=>(hs.block i (by simp;omega)).trans (hL.k.block i hi)⟩,?_⟩;rcases zA fT with⟨h1,rfl,rfl⟩ | ⟨row,a,c,rfl,rfl,⟨y,hy,e⟩,hle,aI⟩
    ·refine .inl ⟨?_,rfl⟩;rw[zA rQ];refine List.eq_nil_iff_forall_not_mem.2 λ z hz=>?_
     obtain⟨q,hq,_⟩:=List.mem_map.1 hz;have:=ad q hq;rw[h1] at this
     cases this
    ·refine .inr ⟨row,a,c,?_,λ z hz=>?_,rfl,?_⟩
     ·rw[zA rQ];obtain⟨q,hq,rfl⟩:=List.mem_map.1 hy;exact List.mem_map.2 ⟨q.1,q.2,e⟩
     ·rw[zA rQ] at hz;obtain⟨q,hq,rfl⟩:=List.mem_map.1 hz;exact hle q (ad q hq)
     ·refine zI (zP aI λ g hg=>hs.block g ?_) (by omega);intro hm;rw[List.mem_singleton.1 hm] at hg;rcases aI.2 with⟨h0,_⟩ | ⟨g',cap,cur,h0,_,dn,_⟩
      ·rw[h0] at hg;cases hg
      ·rw[h0] at hg;have e:g'=D:=(by simpa[Value.ownBlock] using hg);subst e;have:=zA lO;rw[dn] at this
       cases this
end
end Go.Proofs.YtldkpahaocjdpaaGreat
