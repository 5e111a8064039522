/-
  A region inside a round: where no operation defers, it goes as outside.
-/
import Derived.OrdersIn
import Derived.OrdersHeld
import Derived.Deep.RegionHeld
import Derived.Test.YtldkpahaocjdpaaGreatD37
import Derived.Maps.OwnIn
import Derived.Sort.CutIn
set_option maxHeartbeats 16000000
set_option maxRecDepth 1000000
namespace Go.Proofs.YtldkpahaocjdpaaGreat
section
open Go
def zua (ops:Array Oper):Bool:=ops.all λ o=>match o.op with | .defer _=>false | _=>true
theorem zup {o:Oper}(h:(match o.op with | .defer _=>false | _=>true)=true)(l:Nat)(ρ:Operand->Value):o.semAt (some l) ρ=o.semAt none ρ:=by
 unfold Oper.semAt
 split
 ·rename_i h1;rw[h1] at h;cases h
 ·rfl
variable {w:W8} {a:Act} {Q:Exit->Act->W8->Prop} {ops:Array Oper} {P:Program} {n:Nat}
theorem zs7 {i:Nat}{K K':Act->W8->Prop}(hd:zua ops=true)(hQ:¬ LetsOut Q)(l:Nat)(hK:∀ a w,K a w->K' a w)(h:wpOp P ops Q i K a w):wpOpIn (Fence.wide.inRound l) n P ops Q i K' a w:=by
 refine wpOpIn_mono hK ?_;unfold wpOp at h;unfold wpOpIn
 split
 ·rename_i ho;rw[ho] at h;exact h
 ·rename_i o ho;rw[ho] at h;simp only at h;have cP:=Array.all_eq_true.1 hd i (Array.getElem?_eq_some_iff.1 ho).1;rw[(Array.getElem?_eq_some_iff.1 ho).2] at cP
  split
  ·rename_i hw;rw[if_pos hw] at h;refine⟨λ _ _=>trivial,?_⟩
   show o.uponIn (Fence.wide.inRound l) n P a K Q ((o.semAt (some l) a.eval).run P w)
   rw[zup cP l];rcases h with h | h
   ·unfold Oper.wp at h;have e:o.semAt none a.eval=execOp a.eval o:=rfl;rw[e];generalize (execOp a.eval o).run P w=r at h ⊢
    cases r with
    | ok x w'=>
     cases x <;> first
      | exact h
      | exact h.elim
      | exact⟨λ e=>(by cases e),callsIn_wide.2 h⟩
      | exact⟨λ e=>(by cases e),λ c cs _=>(let ⟨v,w',r,s⟩:=h c cs;⟨v,w',r,stepsIn_wide.2 s⟩)⟩
    | halt x w'=>cases x <;> first | exact h | exact h.elim
   ·exact absurd h.2 hQ
  ·rename_i hw;rw[if_neg hw] at h;exact⟨λ _ _=>trivial,h⟩
theorem zgj {n:Nat}{P:Program}{md:Region.Mode}{ops:Array Oper}{Q:Exit->Act->W8->Prop}(hd:zua ops=true)(hQ:¬ LetsOut Q)(l:Nat):∀ (fuel:Nat) (pS:Array Bool) (a:Act) (w:W8),wpAny P md ops Q fuel pS a w->wpAnyIn (Fence.wide.inRound l) n P md ops Q fuel pS a w
 | 0,_,_,_,h=>h
 | fuel+1,_,_,_,h=>⟨h.1,λ i hi=>zs7 hd hQ l (λ a w h=>zgj hd hQ l fuel _ a w h) (h.2 i hi)⟩
theorem zfb {id:Nat}(S:W8->Prop)(hm:P.follows .mixedOrders=true)(hd:zua ops=true)(hQ:¬ LetsOut Q){l:Nat}(h:wpAnyH P .any ops Q S ops.size (Array.replicate ops.size false) a w.drew):(Code.region id ops true).wpIn (Fence.wide.inRound l) n P Q a w:=
 wpIn_region_any hm (zgj hd hQ l _ _ _ _ (wpAny_of_held _ _ _ _ h))
end
section
open Go.RowKit Go.Maps
attribute [local go_sem ↓] qR jO qP xQ vU xY xX xW
attribute [local go_sem] Oper.semAt_some
attribute [local go_sem] jC qB vD vC
structure fy (w:W8)(r:PR)(ah ab:O8)(ch cb mb:Nat)(K:List (Th × Nat))(wr:W8):Prop where
 rb:wr.heap[w.heap.size]?=some (.cells #[.string r.R.pd,.slice ah r.R.ts.length ch,.slice ab r.bs.length cb] 123 (0,0))
 AO:wr.heap[w.heap.size+1]?=some (.cells #[.map (some mb)] 82 (0,0))
 fb:wr.heap[w.heap.size+1+1]?=some (.cells #[.bool false] 4 (0,0))
 k:Below w.heap.size w wr
 m:jA wr mb K
 ml:mb<w.heap.size
variable {wr w' w:W8} {K:List (Th × Nat)} {ch cb mb:Nat} {ah ab:O8} {r:PR}
theorem fy.grown (x:fy w r ah ab ch cb mb K wr){row:Option Nat}(hg:wr.grownBy w' row)(hr:∀ i,row=some i->w.heap.size+1+1<i):fy w r ah ab ch cb mb K w':=by
 have blk:∀ i,i<=w.heap.size+1+1->w'.heap[i]?=wr.heap[i]?:=λ i hi=>hg.block i (by have:=(Array.getElem?_eq_some_iff.1 x.fb).1;omega) (λ e=>by have:=hr i e.symm;omega)
 have hk:=x.ml;exact⟨(blk _ (by omega)).trans x.rb,(blk _ (by omega)).trans x.AO,(blk _ (by omega)).trans x.fb,⟨hg.os.trans x.k.os,hg.tape.trans x.k.tape,hg.output.trans x.k.output,Nat.le_trans x.k.size hg.size,λ i hi=>(blk i (by omega)).trans (x.k.block i hi)⟩,x.m.block (blk _ (by omega)),x.ml⟩
theorem fy.below (x:fy w r ah ab ch cb mb K wr)(k:Below wr.heap.size wr w'):fy w r ah ab ch cb mb K w':=x.grown (row:=none) ⟨k.os,k.tape,k.output,k.size,λ i hi _=>k.block i hi⟩ (λ _ e=>by cases e)
theorem fy.start (w:W8)(r:PR)(ah ab:O8)(ch cb mb:Nat)(K:List (Th × Nat))(hm:jA w mb K):fy w r ah ab ch cb mb K (((w.alloc (.cells #[.string r.R.pd,.slice ah r.R.ts.length ch,.slice ab r.bs.length cb] 123)).alloc (.cells #[.map (some mb)] 82)).alloc (.cells #[.bool false] 4)):=by
 have kk:Below w.heap.size w (((w.alloc (.cells #[.string r.R.pd,.slice ah r.R.ts.length ch,.slice ab r.bs.length cb] 123)).alloc (.cells #[.map (some mb)] 82)).alloc (.cells #[.bool false] 4)):=(((Below.refl w.heap.size w).alloc L9 _).alloc (by simp) _).alloc (by simp only[World.size_alloc];omega) _;refine⟨?_,?_,?_,kk,hm.block (kk.block _ hm.lt),hm.lt⟩
 ·rw[Below.heap_alloc _ _ _ (by simp only[World.size_alloc];omega),Below.heap_alloc _ _ _ (by simp)];exact heap_alloc_new w _
 ·rw[Below.heap_alloc _ _ _ (by simp)];have:=heap_alloc_new (w.alloc (.cells #[.string r.R.pd,.slice ah r.R.ts.length ch,.slice ab r.bs.length cb] 123)) (.cells #[.map (some mb)] 82);rw[World.size_alloc] at this;exact this
 ·have:=heap_alloc_new ((w.alloc (.cells #[.string r.R.pd,.slice ah r.R.ts.length ch,.slice ab r.bs.length cb] 123)).alloc (.cells #[.map (some mb)] 82)) (.cells #[.bool false] 4);rw[World.size_alloc,World.size_alloc] at this;exact this
def zib (K:List (Th × Nat))(r:PR):Prop:=∀ e∈qO K (xU r.bs) (zK r.bs) [],zT e (vJ r)∈K.map (·.1)
theorem z7n (w:W8)(base mb:Nat)(r:PR)(K:List (Th × Nat))(ak:bL w base r)(hm:jA w mb K)(mM:zu9 K r):
  Calls Tryz.prog 224 #[.agg #[.string r.R.pd,r.hv,r.bv],.map (some mb)] w λ e w'=>Below w.heap.size w w'/\∃ c:Bool,e=.returned (.bool c)/\(c=true↔zib K r):=by
 obtain⟨ah,ch,fs⟩:=zE ak.hd;obtain⟨ab,cb,fi⟩:=zE ak.bo.row;rw[fs,fi];have bt:=zC ak;have HM:=zC hm;have ly:=zC mM;have qw:=zC fs;have p6:=zC fi;have ed:=hm.lt;clear ak hm mM fs fi;refine callsIn_wide.1 (callsIn_of_wp_marks (F:=Fence.wide) (n:=5) Tryz.func224 rfl trivial (wpIn_wide.2 ?_) rfl);simp only[Tryz.ntmps224,List.size_toArray,List.length_cons,List.length_nil,Nat.reduceAdd,Nat.reduceSub,Array.replicate_succ,Array.replicate_zero,List.push_toArray,List.append_toArray,List.nil_append,List.cons_append];go_upto_region 1 with fail;generalize hw0:World.alloc (World.alloc (World.alloc w _) _) _=w0;have da:fy w r ah ab ch cb mb K w0:=by
  rw[<-hw0];exact fy.start w r ah ab ch cb mb K (zA HM)
 have s0:w0.heap.size=w.heap.size+1+1+1:=by rw[<-hw0];simp
 clear hw0;have c0:=(zB da.rb 0).1;have c1:=(zB da.rb 1).1;have c2:=(zB da.rb 2).1;have c5:=(zB da.AO 0).1;simp only[List.getElem?_toArray,List.getElem?_cons_zero,List.getElem?_cons_succ] at c0 c1 c2 c5;have eL:=(zA bt).bo.below da.k;rw[zA p6] at eL;have hA:lM (λ _=>False) w0 mb (.slice ah r.R.ts.length ch) (.slice ab r.bs.length cb) base r.bs K:=⟨eL,da.m,λ h=>h,λ _ _ _ _ h=>h,λ _ h=>h.elim,(zA ly).l3,(zA ly).t4,_,_,_,rfl⟩;have HW:=zC (zs5 _ w0 mb r.R.pd _ _ base r.bs K hA);have tj:=zC da;have fH:=zC s0;clear da hA eL s0;go_wp2_with (go_at_call 145;refine (zA HW).mono ?_;rintro en w1 ⟨rb,xb,eb,rfl,aT,bq⟩;have cR:=zC aT;have xr:=zC bq;clear aT bq);have aT:=zA cR;have da:=(zA tj).below aT;have dm:=zC (show w.heap.size+1+1<w1.heap.size by have:=aT.size;have:=zA fH;omega);have Li:=zA dm;have bq:=zA xr;have bX:=(zA ly).neg;clear c0 c1 c2 c5 aT;refine (wpIn_wide (n:=5)).1 ?_;refine wpIn_rangeFunc_ownH (α:=jN K r.bs []) rfl (by omega) (gf:=233) (lb:=#[.pointer (some ⟨rb,0,none⟩),.pointer (some ⟨xb,0,none⟩),.pointer (some ⟨eb,0,none⟩)]) rfl trivial (enters_of Tryz.func233 (by kernel_rfl) rfl)
  (zg8 _ _ w1 rb xb eb mb r.R.pd _ _ base r.bs K [] bq bX (xN.nil _)) (λ h1 h2=>jQ.trans h1 h2) (λ W l o o' _ hl hc hwk=>zds W l o o' hl hc hwk) B9 (λ _=>rfl)
  (λ (pre:List (jN K r.bs [])) (W:W8)=>fy w r ah ab ch cb mb K W/\w1.heap.size<=W.heap.size/\∀ y∈pre,zT y.1 (vJ r)∈K.map (λ p:Th × Nat=>p.1))
  (λ (c:Code) (_:List (jN K r.bs [])) (W:W8)=>c=.ret/\fy w r ah ab ch cb mb K W/\¬ zib K r)
  (λ pre A B row hs hg hr=>let ⟨h1,h2,h3⟩:=hs;⟨h1.grown hg (λ i e=>by have:=(hr i e).1;omega),Nat.le_trans h2 hg.size,h3⟩)
  (λ c pre A B row hs hg hr=>let ⟨h1,h2,h3⟩:=hs;⟨h1,h2.grown hg (λ i e=>by have:=(hr i e).1;omega),h3⟩)
  ⟨da,Nat.le_refl _,by simp⟩
  (λ (x:jN K r.bs []) (a':Act) (W:W8)=>∃ Bx,w1.heap.size<=Bx/\BV W Bx x.1/\a'={ tmps:=List.toArray ((Value.agg #[.string r.R.pd,.slice ah r.R.ts.length ch,.slice ab r.bs.length cb])::(Value.map (some mb))::(Value.pointer (some ⟨w.heap.size,0,none⟩))::(Value.pointer (some ⟨w.heap.size+1,0,none⟩))::(Value.pointer (some ⟨w.heap.size+1+1,0,none⟩))::(Value.pointer (some ⟨Bx,0,none⟩))::undef::undef::(Value.agg #[.string r.R.pd,.slice ah r.R.ts.length ch,.slice ab r.bs.length cb])::(Value.map (some mb))::(Value.func (.func 233) #[] #[.pointer (some ⟨rb,0,none⟩),.pointer (some ⟨xb,0,none⟩),.pointer (some ⟨eb,0,none⟩)])::(jD x.1)::List.replicate 11 undef),defers:=[] })
  (λ x a' _ A B row hs hg hr=>let ⟨Bx,h1,h2,h3⟩:=hs;⟨Bx,h1,h2.grown hg (λ i e=>(hr i e).2),h3⟩)
  ?assign ?body ?done ?stop
 case assign=>
  intro l pre x W K2 hI bM;have ky:=zC bM;have HI:=zC hI;have hz:w1.heap.size<=W.heap.size:=hI.2.1;clear bM hI
  gi_wp2
  exact zA ky _ _ ((KeepsOthers.alloc _ _).from _) ((jQ.refl _ _).alloc _) ⟨(zA HI).1.grown (World.grownBy_alloc W _ none) (λ _ e=>by cases e),by simp;omega,(zA HI).2.2⟩ ⟨W.heap.size,hz,BV.new _ _,rfl⟩
 case body=>
  rintro l pre x a' W CP-⟨hL,hz,zi⟩ ⟨Bx,B3,kf,rfl⟩ -;obtain⟨T,ko⟩:∃ T,T=zT x.1 (vJ r):=⟨_,rfl⟩;have pK:=(List.mem_filter.1 x.2).1;have hT:zbj T:=by rw[ko];exact (zA ly).hd x.1 pK
  have nO:=(zA ly).len x.1 pK;have aE:w.ownsRow base 191 1 (.slice ah (vJ r).ts.length ch) (vJ r).ts.length ((vJ r).ts.map zaz):=by
   have:=(zA bt).hd;rw[zA qw] at this;exact this
  have nT:=zC (λ (V:W8) (hV:Below W.heap.size W V)=>zc8 V base x.1 (vJ r) ah ch (zG aE (hL.k.trans (hV.mono hL.k.size)) (λ g e=>(aE.lt g e).2)) (zA ly).h4 nO);rw[<-ko] at nT;obtain⟨S,cK⟩:∃ S:W8->Prop,S=λ V=>∀ i,i<W.heap.size->V.heap[i]?=W.heap[i]?:=⟨_,rfl⟩
  have dv:=zC (λ (V:W8) (hV:S V)=>(show V.cell? ⟨w.heap.size+1,0,none⟩=some (.map (some mb))/\BV V Bx x.1/\jA V mb K/\V.cell? ⟨w.heap.size,0,none⟩=some (.string r.R.pd)/\V.cell? ⟨w.heap.size,1,none⟩=some (.slice ah r.R.ts.length ch) from by
   rw[cK] at hV;have rV:=(hV _ (Array.getElem?_eq_some_iff.1 hL.rb).1).trans hL.rb
   exact⟨(zB ((hV _ (Array.getElem?_eq_some_iff.1 hL.AO).1).trans hL.AO) 0).1,(hV _ kf.lt).trans kf,hL.m.block (hV _ hL.m.lt),(zB rV 0).1,(zB rV 1).1⟩))
  have n9:=zC (λ (V:W8) (hV:Below W.heap.size W V)=>(show S V from by rw[cK];exact λ i hi=>hV.block i hi));have bN:=zA n9 W.drew B9.drew;have HL:=zC hL;have Bs:=zC zi;have rT:=zC ko;clear hL zi ko pK aE cK kf
  gi_upto_region 3 with fail
  refine zfb S (by kernel_rfl) (by kernel_rfl) (λ ⟨_,_,h⟩=>h) ?_;refine K9 0 (.map (some mb)) rfl (Or.inl ⟨by rfl,λ V hV=>by obtain⟨m4,b4,jr,ve,vf⟩:=zA dv V hV;go_simp⟩) bN ?_;refine K9 1 (jD x.1) rfl (Or.inl ⟨by rfl,λ V hV=>by obtain⟨m4,b4,jr,ve,vf⟩:=zA dv V hV;have ld:=b4.load;go_simp⟩) bN ?_;refine K9 2 (.pointer (some ⟨w.heap.size,0,none⟩)) rfl (Or.inl ⟨by rfl,λ w _=>by go_simp⟩) bN ?_;refine K9 3 (.agg #[.string r.R.pd,.slice ah r.R.ts.length ch]) rfl (Or.inl ⟨by rfl,λ V hV=>by obtain⟨m4,b4,jr,ve,vf⟩:=zA dv V hV;go_simp⟩) bN ?_;refine wpAnyH_ready (rs:=[4]) (by kernel_rfl) (by simp) ?_;refine AllReadyH.cons rfl (λ K2 bM=>?_) AllReadyH.nil
  go_simp
  refine (zA nT _ B9.drew).mono ?_;rintro en w4 ⟨bQ,rfl⟩;have bY:=zL bQ;have iZ:=zA n9 w4 bY;have eC:=zC bY;refine bM.out _ _ iZ (λ _=>?_);clear bM K2 bQ bY;obtain⟨c,hc⟩:∃ c,c=(z7 K T).isSome:=⟨_,rfl⟩;refine K9 5 (.tuple #[.int .i64 (((z7 K T).getD 0:Nat):Int),.bool c]) rfl (Or.inl ⟨by rfl,λ V hV=>by obtain⟨m4,b4,jr,ve,vf⟩:=zA dv V hV;have sW:=jr.look hT Tryz.underlying82;rw[<-hc] at sW;go_simp⟩) iZ ?_;have HC:=zC hc;clear hc;refine K9 6 (.tuple #[.int .i64 (((z7 K T).getD 0:Nat):Int),.bool c]) rfl (Or.inl ⟨by rfl,λ w _=>by go_simp⟩) iZ ?_;refine K9 7 (.int .i64 (((z7 K T).getD 0:Nat):Int)) rfl (Or.inl ⟨by rfl,λ w _=>by go_simp⟩) iZ ?_;refine K9 8 (.bool c) rfl (Or.inl ⟨by rfl,λ w _=>by go_simp⟩) iZ ?_;refine K9 9 (.int .i64 (((z7 K T).getD 0:Nat):Int)) rfl (Or.inl ⟨by rfl,λ w _=>by go_simp⟩) iZ ?_;refine K9 10 (.bool c) rfl (Or.inl ⟨by rfl,λ w _=>by go_simp⟩) iZ ?_;refine wpAnyH_done (by kernel_rfl) ?_ _;have b5:=zA eC;have B7:=(zA HL).below b5;have om:KeepsFrom w1.heap.size W w4:=(KeepsOthers.of_grownBy (row:=none) ⟨b5.os,b5.tape,b5.output,b5.size,λ i hi _=>b5.block i hi⟩ (λ _ _ e=>by cases e)).from _
  have Eb:=zC om;have Be:=zC B7;obtain⟨l9,z9⟩:=zB B7.fb 0;simp only[List.getElem?_toArray,List.getElem?_cons_zero] at l9;clear b5 B7 om iZ bN
  cases qg:c with
  | true=>
   rw[qg] at HC
   gi_wp2
   refine⟨zA Eb,jQ.aF (zA eC),zA Be,Nat.le_trans hz (zA eC).size,λ y hy=>?_⟩;rcases List.mem_append.1 hy with hy | hy
   ·exact zA Bs y hy
   ·rw[List.mem_singleton.1 hy,<-zA rT];exact xB.1 (zA HC).symm
  | false=>
   rw[qg] at HC
   gi_wp2
   rw[zi5 (zA Be).fb rfl];refine⟨zA Eb,rfl,zA Be,λ hA=>?_⟩;have:=xB.2 (hA x.1 x.2);rw[<-zA rT,<-zA HC] at this
   cases this
 case done=>
  rintro D xs W hD hS ⟨hL,hz,ad⟩ eF;have dv:=zC (show zib K r from λ e he=>ad ⟨e,he⟩ (hS _));have HL:=zC hL;have HD:=zC hD;have lO:=zC eF;obtain⟨l9,z9⟩:=zB hL.fb 0;simp only[List.getElem?_toArray,List.getElem?_cons_zero] at l9;clear hL hD eF hS ad;go_wp2_with fail;have hDD:=zA HD;have cT:=zA dm;refine j4 [D] _ (by simp) (λ E hE=>?_) (λ w' hs=>?_)
  ·rw[List.mem_singleton.1 hE,Below.heap_setCell _ _ _ _ (by simp;omega)];exact zA lO
  ·have cP:∀ i,i<=w.heap.size+1+1->i∉[D]:=λ i hi hm=>by have:=List.mem_singleton.1 hm;omega
   have q9:w'.cell? ⟨w.heap.size+1+1,0,none⟩=some (.bool true):=by
    rw[World.cell?_of_block (by exact hs.block (w.heap.size+1+1) (cP _ (by omega))),World.cell?_setCell_same' _ _ _ (by rw[l9];rfl)]
   have hL:=zA HL;refine⟨.bool true,by simp[results,Tryz.results224,go_sem,q9],⟨hs.os.trans hL.k.os,hs.tape.trans hL.k.tape,hs.output.trans hL.k.output,by rw[hs.size];simp;exact hL.k.size,λ i hi=>?_⟩,true,rfl,⟨λ _=>zA dv,λ _=>rfl⟩⟩;rw[hs.block i (cP i (by omega)),Below.heap_setCell _ _ _ _ (by simp;omega)];exact hL.k.block i hi
 case stop=>
  rintro D c pre W hD-⟨rfl,hL,cP⟩ eF;have HL:=zC hL;have HD:=zC hD;have lO:=zC eF;have mX:=zC cP;clear hL hD eF cP
  gi_wp2
  have hL:=zA HL;have hD:=zA HD;have cT:=zA dm;refine j4 [D] _ (by simp) (λ E hE=>?_) (λ w' hs=>?_)
  ·rw[List.mem_singleton.1 hE];exact zA lO
  ·have cP:∀ i,i<=w.heap.size+1+1->i∉[D]:=λ i hi hm=>by have:=List.mem_singleton.1 hm;omega
   have q9:w'.cell? ⟨w.heap.size+1+1,0,none⟩=some (.bool false):=(zB ((hs.block (w.heap.size+1+1) (cP _ (by omega))).trans hL.fb) 0).1;exact⟨.bool false,by simp[results,Tryz.results224,go_sem,q9],⟨hs.os.trans hL.k.os,hs.tape.trans hL.k.tape,hs.output.trans hL.k.output,by rw[hs.size];exact hL.k.size,λ i hi=>(hs.block i (cP i (by omega))).trans (hL.k.block i hi)⟩,false,rfl,⟨λ h=>(by cases h),λ h=>absurd h (zA mX)⟩⟩
end
end Go.Proofs.YtldkpahaocjdpaaGreat
