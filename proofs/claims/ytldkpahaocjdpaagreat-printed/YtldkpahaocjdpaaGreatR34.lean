/-
  Things with their places in the order: Under.
-/
import Derived.Test.YtldkpahaocjdpaaGreatR29
import Derived.Sort.LoopGhostIn
import Derived.StepT
set_option maxHeartbeats 16000000
set_option maxRecDepth 1000000
namespace Go.Proofs.YtldkpahaocjdpaaGreat
section
open Go.RowKit
structure Pl where
 t:Th
 s:Nat
 h:Nat
instance:Inhabited Pl:=⟨⟨({ data:=#[] },[]),0,0⟩⟩
def bM (p:Pl):V8:=[.string p.t.p,.string (nth4 p.t.ts 0),.string (nth4 p.t.ts 1),.string (nth4 p.t.ts 2),.string (nth4 p.t.ts 3),.int .i64 p.s,.int .i64 p.h]
def plV (p:Pl):Value:=.agg (bM p).toArray
theorem plaC_len (p:Pl):(bM p).length=7:=rfl
theorem plaC_ones (p:Pl):∀ v∈bM p,v.oneCell'=true:=by
 intro v hv;simp[bM] at hv;rcases hv with rfl | rfl | rfl | rfl | rfl | rfl | rfl <;> rfl
def underP (p q:Pl):Bool:=decide (p.s<q.s)||(decide (p.s=q.s)&&decide (p.h<q.h))
theorem under_any (w:W8)(p q:Pl):
  Calls Tryz.prog 163 #[plV p,plV q] w λ e w'=>e=.returned (.bool (underP p q))/\Below w.heap.size w w':=by
 have b0:=((Below.refl w.heap.size w).alloc L9 (.cells (bM p).toArray 148)).alloc (by simp) (.cells (bM q).toArray 148);have gd:=hide b0;clear b0;unfold plV
 by_cases h1:p.s<q.s
 ·have HE:=hide (show underP p q=true by unfold underP;simp[h1]);have hi:(p.s:Int)<q.s:=by omega
  clear h1;unfold bM at gd ⊢;go_enter Tryz.func163,Tryz.ntmps163;go_wp2_with fail;go_ret;exact⟨by rw[ad HE];rfl,ad gd⟩
 ·by_cases h2:p.s=q.s
  ·have HE:=hide (show underP p q=decide (p.h<q.h) by unfold underP;simp[h2]);have hi:¬ (p.s:Int)<q.s:=(by omega);clear h1;unfold bM at gd ⊢;rw[h2] at hi gd ⊢;clear h2;go_enter Tryz.func163,Tryz.ntmps163;go_wp2_with fail
   all_goals go_ret
   all_goals exact⟨by rw[ad HE];simp,ad gd⟩
  ·have HE:=hide (show underP p q=false by unfold underP;simp[h1,h2]);have hi:¬ (p.s:Int)<q.s:=(by omega);have hj:¬ (p.s:Int)=q.s:=(by omega);clear h1 h2;unfold bM at gd ⊢;go_enter Tryz.func163,Tryz.ntmps163;go_wp2_with fail;go_ret;exact⟨by rw[ad HE];rfl,ad gd⟩
end
section
open Go.RowKit Go.Maps
def backs (n m:Nat):List (Fin n):=((List.finRange n).drop m).reverse
theorem gQ (n:Nat):backs n n=[]:=by unfold backs;rw[List.drop_of_length_le (by simp)];rfl
theorem backs_step {n m:Nat}(h:m<n):backs n m=backs n (m+1)++[⟨m,h⟩]:=by
 unfold backs;rw[List.drop_eq_getElem_cons (by simpa using h),List.reverse_cons];simp
theorem backs_len (n m:Nat):(backs n m).length=n-m:=by unfold backs;simp
theorem back_any (w:W8)(a:O8)(n c:Nat):
  Calls Tryz.prog 68 #[.slice a n c] w λ e w'=>e=.returned (.func (.func 107) #[] #[.pointer (some ⟨w.heap.size,0,none⟩)])/\w'=w.alloc (.cells #[.slice a n c] 141):=by
 go_enter Tryz.func68,Tryz.ntmps68;go_wp2_with fail;go_ret;exact⟨rfl,rfl⟩
theorem back_stops (No:Nat->Prop)(n:Nat)(w:W8)(sb bo:Nat)(ao:O8)(co:Nat)(O:List Pl)(hs:w.heap[sb]?=some (.cells #[.slice ao O.length co] 141 (0,0)))(ho:w.ownsRow bo 148 7 (.slice ao O.length co) O.length (O.flatMap bM))(lH:¬ No sb)(FN:∀ g,(Value.slice ao O.length co).ownBlock=some g->¬ No g)(hl:O.length<=1000):
  SeqStopsK Fence.wide n Tryz.prog 107 #[.pointer (some ⟨sb,0,none⟩)] (λ x:Fin O.length=>#[.int .i64 (x.1:Nat),plV O[x]]) (aR No) (λ xs=>xs=backs O.length 0) (λ _=>True) O.length w:=by
 intro l J Jx W hW hJ hJx hY h0;have js:=(hW.block sb (Array.getElem?_eq_some_iff.1 hs).1).trans hs;have za:=own_below ho hW (λ g e=>(ho.lt g e).2);have c0:=(block_cells js 0).1;simp only[List.getElem?_toArray,List.getElem?_cons_zero] at c0;have HS:=hide js;have HO:=hide za;have HY:=hide hY;have H0:=hide h0;have vu:=hide lH;have Hr:=hide FN;clear hs ho hY h0 lH FN hW hJ hJx js za;refine callsIn_wide.2 ?_;go_enter Tryz.func107,Tryz.ntmps107;go_upto_region 1 with fail;refine (wpIn_wide (n:=2)).1 ?_
 gi_loopg [3] O.length (λ gg i wr=>∃ m:Nat,m<=O.length/\gg=m/\i=.int .i64 ((m:Int)-1)/\J (backs O.length m) wr/\aR No W wr)
 exact⟨O.length,Nat.le_refl _,rfl,rfl,by rw[gQ];exact ad H0,aR.refl _ _⟩
 case round=>
  clear H0 c0;obtain⟨m,hm,hgm,rfl,hj,hk⟩:=hrel;have HJ:=hide hj;have HK:=hide hk;have c0:=(block_cells (hk.cells (ad HS) (ad vu)) 0).1;simp only[List.getElem?_toArray,List.getElem?_cons_zero] at c0;have aE:=hk.row (ad HO) (ad Hr);clear hj hk
  cases m with
  | zero=>
   have hz:¬ (0:Int)<=((0:Nat):Int)-1:=(by omega);clear aE c0
   gi_wp2
   go_end0;exact⟨⟨_,rfl⟩,.inl (ad HJ)⟩
  | succ q=>
   have hq:q<O.length:=(by omega);rw[show (((q+1:Nat):Int)-1)=(q:Int) by omega];obtain⟨g,cap,hv,iC,dp,dG,dx,hc⟩:=row_at plaC_len aE q hq;injection hv with h1 h2 h3
   subst h1 h3;have d0:wr.cell? ⟨g,q*7,none⟩=some (.string O[q].t.p):=hc 0 (by omega);have d1:wr.cell? ⟨g,q*7+1,none⟩=some (.string (nth4 O[q].t.ts 0)):=hc 1 (by omega);have d2:wr.cell? ⟨g,q*7+2,none⟩=some (.string (nth4 O[q].t.ts 1)):=hc 2 (by omega);have d3:wr.cell? ⟨g,q*7+3,none⟩=some (.string (nth4 O[q].t.ts 2)):=hc 3 (by omega);have d4:wr.cell? ⟨g,q*7+4,none⟩=some (.string (nth4 O[q].t.ts 3)):=hc 4 (by omega);have d5:wr.cell? ⟨g,q*7+5,none⟩=some (.int .i64 O[q].s):=hc 5 (by omega);have d6:wr.cell? ⟨g,q*7+6,none⟩=some (.int .i64 O[q].h):=hc 6 (by omega);have AE:(q:Int)<O.length:=(by omega);have FX:(0:Int)<=q:=(by omega);obtain⟨fn,tmps,assign,body,hy,hR⟩:=yield_any (m':=1) (ad HY (backs O.length (q+1)) ⟨q,hq⟩ wr (ad HJ) (by rw[backs_len];omega));clear hc aE h2;have vU:(Instr.yield l #[.int .i64 (q:Nat),.agg #[.string O[q].t.p,.string (nth4 O[q].t.ts 0),.string (nth4 O[q].t.ts 1),.string (nth4 O[q].t.ts 2),.string (nth4 O[q].t.ts 3),.int .i64 O[q].s,.int .i64 O[q].h]]).run Tryz.prog wr=.ok (.round l fn tmps assign body) wr:=hy;clear hy
   gi_wp2_with (refine hR.mono ?_;rintro en w5 (⟨rfl,h5,h6⟩ | ⟨rfl,h5⟩) <;> (have H5:=hide h5;clear h5 hR vU))
   ·have H6:=hide h6;clear h6
    gi_roundg q
    case measure=>omega
    case rel=>
     refine⟨q,by omega,rfl,by go_num,?_,(ad HK).trans (ad H6)⟩;rw[backs_step hq];exact ad H5
   ·refine bodyPost_ret (v:=.tuple #[]) (results_none Tryz.results107 _ _ _) rfl ?_;exact⟨⟨_,rfl⟩,.inr ⟨_,trivial,ad H5⟩⟩
end
section
theorem ask_drawn {α:Type}:∀ (k:Ask α) (w:W8),w.drawn<=(w.ask k).2.drawn
 | .done a,w=>Nat.le_refl _
 | .ask what range k,w=>by
  rw[World.ask]
  split
  ·exact ask_drawn (k 0) w
  ·exact Nat.le_trans (Nat.le_succ _) (ask_drawn (k _) { w with drawn:=w.drawn+1 })
theorem sys_drawn (w:W8)(c:Sys):w.drawn<=(w.sys c).2.drawn:=by
 have h:=ask_drawn (Kernel.perform c w.os) w;unfold World.sys
 split
 ·exact Nat.le_refl _
 ·rename_i h1;rw[h1] at h;exact h
def rWorld {α:Type}:Result α->W8
 | .ok _ w=>w
 | .halt _ w=>w
variable {v:Value} {a:Addr} {w w':W8} {p:Program}
theorem farStore_drawn {b:Bool}{l:List Addr}(h:w.farStore p a v b=.ok (w',l)):w'.drawn=w.drawn:=by
 unfold World.farStore at h
 split at h
 ·split at h
  ·rename_i h1
   cases h
   simp only[World.viewStore,bind,Except.bind,pure,Except.pure] at h1
   repeat' split at h1
   all_goals first | (cases h1;done) | (cases h1;rfl) | skip
  ·cases h
 ·cases h
theorem run_drawn {α:Type}(p:Program):∀ (m:Sem α) (w:W8),w.drawn<=(rWorld (m.run p w)).drawn:=by
 intro m
 induction m with
 | pure a=>intro w;exact Nat.le_refl _
 | load m a k ih=>
  intro w;rw[Sem.run]
  split
  ·exact ih _ w
  ·split
   ·exact ih _ w
   ·exact Nat.le_refl _
 | store m a v k ih=>
  intro w
  have key:w.drawn<=(rWorld (match w.cell? a with
   | some _ => if w.frozen? a then .halt (.unsupported (.unsafePointer "a write to bytes that a string shares")) w else k.run p (w.setCell a v)
   | none=>match w.farStore p a v (m==.atomic) with
    | .ok (w,_)=>k.run p w
    | .error h=>.halt h w)).drawn:=by
   split
   ·split
    ·exact Nat.le_refl _
    ·exact ih (w.setCell a v)
   ·split
    ·rename_i h1;have:=farStore_drawn h1;exact Nat.le_trans (Nat.le_of_eq this.symm) (ih _)
    ·exact Nat.le_refl _
  cases v <;> first | exact Nat.le_refl _ | exact key
 | new o k ih=>intro w;exact ih _ { w with heap:=w.heap.push o }
 | shape r k ih=>intro w;exact ih _ w
 | freeze a n k ih=>
  intro w;have:(w.freeze a n).drawn=w.drawn:=by unfold World.freeze;split <;> rfl
  exact Nat.le_trans (Nat.le_of_eq this.symm) (ih (w.freeze a n))
 | frozen a k ih=>intro w;exact ih _ w
 | getObj r k ih=>
  intro w;rw[Sem.run]
  split
  ·exact Nat.le_refl _
  ·exact ih _ w
  ·exact Nat.le_refl _
 | setObj r o k ih=>
  intro w;rw[Sem.run]
  split
  ·exact Nat.le_refl _
  ·exact ih { w with heap:=w.heap.setIfInBounds r o }
  ·exact Nat.le_refl _
 | choose q k ih=>
  intro w;rw[Sem.run]
  split
  ·exact ih _ w
  ·exact Nat.le_trans (Nat.le_succ _) (ih _ { w with drawn:=w.drawn+1 })
 | sys c k ih=>intro w;exact Nat.le_trans (sys_drawn w c) (ih _ (w.sys c).2)
 | program k ih=>intro w;exact ih _ w
 | mark m k ih=>intro w;exact ih w
 | halt h=>intro w;exact Nat.le_refl _
theorem run_ok {α:Type}{m:Sem α}{a:α}(h:m.run p w=.ok a w'):w.drawn<=w'.drawn:=by
 have:=run_drawn p m w;rw[h] at this;exact this
theorem run_halt {α:Type}{m:Sem α}{x:Halt}(h:m.run p w=.halt x w'):w.drawn<=w'.drawn:=by
 have:=run_drawn p m w;rw[h] at this;exact this
def gWorld:GStep->W8
 | .go _ w _=>w
 | .comm _ _ _ _ w _=>w
 | .spawn _ _ w _=>w
 | .count _ w _=>w
 | .timer _ _ w _=>w
 | .alone _ _ w _=>w
 | .newcoro _ _ _ w _=>w
 | .coroswitch _ _ _ w _=>w
 | .collect _ w _=>w
 | .watch _ w _=>w
 | .ended _ w _=>w
theorem gWorld_after (es:Array Event)(s:GStep):gWorld (s.after es)=gWorld s:=by cases s <;> rfl
theorem endPrinting_drawn (p:Program)(fr:Frame)(v:Value)(w:W8):gWorld (endPrinting p fr v w)=w:=by
 unfold endPrinting;simp only
 repeat' split
 all_goals rfl
theorem endWith_drawn (w:W8)(fd:Nat)(t:B8)(o:Outcome):w.drawn<=(gWorld (endWith w fd t o)).drawn:=by
 have h:=sys_drawn w (.write fd t);unfold endWith;simp only
 split
 ·rename_i h1;rw[h1] at h;split <;> exact h
 ·rename_i h1;rw[h1] at h;exact h
 ·rename_i h1;rw[h1] at h;exact h
theorem endFatal_drawn (p:Program)(fr:Frame)(cs:List Frame)(d:Option Dying)(m:String)(w:W8):w.drawn<=(gWorld (endFatal p fr cs d m w)).drawn:=by
 unfold endFatal;simp only
 split
 ·rename_i h;exact run_ok h
 ·rename_i h;exact run_halt h
 ·rename_i h;exact run_halt h
theorem writeOn_drawn (p:Program)(fr:Frame)(d:Dying)(f:Fatal)(w:W8):w.drawn<=(gWorld (writeOn p fr d f w)).drawn:=by
 unfold writeOn;simp only[Sem.runT_eq]
 split
 ·exact Nat.le_refl _
 ·split
  ·rename_i h;exact run_ok (Prod.mk.inj h).1
  ·rename_i h;exact run_halt (Prod.mk.inj h).1
  ·rename_i h;exact run_halt (Prod.mk.inj h).1
  ·rename_i h;exact run_halt (Prod.mk.inj h).1
theorem die_drawn (p:Program)(fr:Frame)(d:Dying)(w:W8):w.drawn<=(gWorld (die p fr d w)).drawn:=by
 unfold die;simp only[Sem.runT_eq]
 split
 ·exact writeOn_drawn _ _ _ _ _
 ·split
  ·split
   ·exact Nat.le_refl _
   ·exact endWith_drawn _ _ _ _
  ·split
   ·exact Nat.le_refl _
   ·split
    ·rename_i h;exact run_ok h
    ·rename_i h;exact run_halt h
   ·rw[gWorld_after]
    split
    ·rename_i h;exact run_ok h
    ·rename_i h;exact run_ok h
    ·rename_i h;exact run_halt h
    ·rename_i h;rw[endPrinting_drawn];exact run_halt h
    ·exact Nat.le_refl _
   ·exact Nat.le_refl _
theorem early_drawn (p:Program)(fr:Frame)(cs:List Frame)(d:Option Dying)(g:Nat)(w:W8):w.drawn<=(gWorld (early p fr cs d g w)).drawn:=by
 unfold early;simp only
 repeat' split
 all_goals first | exact Nat.le_refl _ | (have h:=run_ok ‹Sem.run _ _ _=Result.ok _ _›;exact h) | (have h:=run_halt ‹Sem.run _ _ _=Result.halt _ _›;exact h)
theorem doReturn_drawn (p:Program)(b:Bool)(fr:Frame)(cs:List Frame)(d:Option Dying)(v:Value)(w:W8):gWorld (doReturn p b fr cs d v w)=w:=by
 unfold doReturn
 repeat' split
 all_goals rfl
theorem callDeferred_drawn (p:Program)(fr:Frame)(cs:List Frame)(dy:Option Dying)(d:Deferred)(w:W8):w.drawn<=(gWorld (callDeferred p fr cs dy d w)).drawn:=by
 unfold callDeferred;simp only[Sem.runT_eq];generalize (_&&_:Bool)=c
 split
 ·exact Nat.le_refl _
 ·rw[gWorld_after]
  split
  all_goals rename_i h
  all_goals first
   | exact run_ok h
   | exact run_halt h
   | exact Nat.le_trans (run_halt h) (endFatal_drawn _ _ _ _ _ _)
   | (split <;> exact run_ok h)
theorem unwind_drawn (p:Program)(b:Bool)(fr:Frame)(cs:List Frame)(dy:Option Dying)(w:W8):w.drawn<=(gWorld (unwind p b fr cs dy w)).drawn:=by
 unfold unwind;simp only[Sem.runT_eq]
 split
 ·rw[gWorld_after]
  split
  ·rename_i h;exact run_ok h
  ·rename_i h;exact run_halt h
 ·exact callDeferred_drawn _ _ _ _ _ _
 ·split
  ·exact Nat.le_refl _
  ·split
   ·exact Nat.le_refl _
   ·split
    ·exact Nat.le_refl _
    ·split
     ·split
      ·exact Nat.le_refl _
      ·split
       ·rename_i h;exact run_ok h
       ·rename_i h;exact run_halt h
       ·rename_i h;exact run_halt h
     ·split
      ·rw[endPrinting_drawn];exact Nat.le_refl _
      ·exact Nat.le_refl _
  ·split
   ·rw[doReturn_drawn];exact Nat.le_refl _
   ·rw[gWorld_after]
    split
    ·rename_i h;rw[doReturn_drawn];exact run_ok h
    ·rename_i h;exact run_halt h
    ·rename_i h;exact run_halt h
theorem apply_drawn (p:Program)(listen:Bool)(fr:Frame)(cs:List Frame)(dy:Option Dying)(m:Sem Next)(w:W8):w.drawn<=(gWorld (stepG.apply p listen fr cs dy m w)).drawn:=by
 have e:(if listen=true then m.runT p w #[] else (m.run p w,#[])).1=m.run p w:=by split <;> simp
 unfold stepG.apply;simp only;generalize (if listen=true then m.runT p w #[] else (m.run p w,#[]))=r at e ⊢;obtain⟨r,es⟩:=r;simp only at e;subst e;simp only;rw[gWorld_after]
 split
 all_goals rename_i h
 all_goals first
  | exact run_ok h
  | exact run_halt h
  | exact Nat.le_trans (run_halt h) (endFatal_drawn _ _ _ _ _ _)
  | exact Nat.le_trans (run_halt h) (early_drawn _ _ _ _ _ _)
  | ((repeat' split);all_goals exact run_ok h)
theorem oper_drawn (p:Program)(listen:Bool)(fr:Frame)(cs:List Frame)(dy:Option Dying)(w:W8):w.drawn<=(gWorld (stepG.oper p listen fr cs dy w)).drawn:=by
 unfold stepG.oper
 split
 ·exact Nat.le_refl _
 ·split
  ·exact apply_drawn _ _ _ _ _ _ _
  ·exact apply_drawn _ _ _ _ _ _ _
theorem exec_drawn (p:Program)(main listen:Bool)(fr:Frame)(cs:List Frame)(dy:Option Dying)(w:W8):w.drawn<=(gWorld (stepG.exec p main listen fr cs dy w)).drawn:=by
 have nx:=apply_drawn p listen;have jQ:=oper_drawn p listen;unfold stepG.exec;simp only[Sem.runT_eq];generalize stepG.apply p listen=ap at nx ⊢;generalize stepG.oper p listen=op at jQ ⊢
 split
 all_goals first
  | exact Nat.le_refl _
  | exact nx _ _ _ _ _
  | skip
 all_goals try simp only[Option.elim]
 all_goals repeat' (first | rw[gWorld_after] | split)
 all_goals first
  | exact Nat.le_refl _
  | exact jQ _ _ _ _
  | exact nx _ _ _ _ _
  | (have h:=run_ok ‹Sem.run _ _ _=Result.ok _ _›;exact h)
  | (have h:=run_halt ‹Sem.run _ _ _=Result.halt _ _›;exact h)
  | (rw[doReturn_drawn];have h:=run_ok ‹Sem.run _ _ _=Result.ok _ _›;exact h)
  | (have h:=run_ok ‹Sem.run _ _ _=Result.ok _ _›;exact Nat.le_trans h (nx _ _ _ _ _))
theorem stepG_drawn (p:Program)(main:Bool)(g:Goroutine)(w:W8)(listen:Bool):w.drawn<=(gWorld (stepG p main g w listen)).drawn:=by
 unfold stepG;simp only
 split
 ·exact die_drawn _ _ _ _
 ·exact exec_drawn _ _ _ _ _ _ _
 ·exact unwind_drawn _ _ _ _ _ _
def sOk (n:Nat)(s:Stepped):Prop:=∀ m,s=.next m->n<=m.world.drawn
variable {m:Machine} {n:Nat}
theorem sOk_next (h:n<=m.world.drawn):sOk n (.next m):=λ _ e=>by cases e;exact h
theorem sOk_ended {o:Outcome}:sOk n (.ended o w):=λ _ e=>by cases e
theorem waitingAt_drawn {rest:Rest}{cs:Array CommCase}(h:waitingAt rest cs w=some w'):w.drawn<=w'.drawn:=by
 unfold waitingAt at h
 split at h
 ·split at h
  ·cases h;exact Nat.le_refl _
  ·cases h
 ·cases h;exact Nat.le_refl _
theorem communicate_drawn (p:Program)(rest:Rest)(gs:Array Goroutine)(i:Nat)(g:Goroutine)(tS:Array CommCase)(oH:Bool)(shape:CommShape)(w:W8):sOk w.drawn (communicate p rest gs i g tS oH shape w).1:=by
 unfold communicate;simp only
 repeat' split
 all_goals first
  | exact sOk_ended
  | exact sOk_next L9
  | (have h:=run_ok ‹Sem.run _ _ _=Result.ok _ _›;exact sOk_next h)
  | (have h:=waitingAt_drawn ‹waitingAt _ _ _=some _›;exact sOk_next h)
  | (have h1:=run_ok ‹Sem.run _ _ _=Result.ok _ _›;have h2:=run_halt ‹Sem.run _ _ _=Result.halt _ _›;exact sOk_next (Nat.le_trans h1 h2))
  | (have h1:=run_ok ‹Sem.run _ _ w=Result.ok _ _›;have h2:=run_ok ‹Sem.run _ (choose _) _=Result.ok _ _›;exact sOk_next (Nat.le_trans h1 h2))
theorem look_drawn (p:Program)(gs:Array Goroutine)(rest:Rest)(w:W8):sOk w.drawn (look p gs rest w):=by
 unfold look;simp only
 repeat' split
 all_goals first
  | exact sOk_ended
  | exact sOk_next L9
  | (have h:=run_ok ‹Sem.run _ _ w=Result.ok _ _›;exact sOk_next h)
theorem serve_drawn (p:Program)(m:Machine)(k:Nat):sOk m.world.drawn (serve p m k):=by
 unfold serve;simp only
 repeat' split
 all_goals first
  | exact sOk_ended
  | exact sOk_next L9
  | (have h:=run_ok ‹Sem.run _ _ _=Result.ok _ _›;exact sOk_next h)
theorem drain_drawn (w:W8)(c:Nat):(drain w c).2.drawn=w.drawn:=by
 unfold drain
 split <;> rfl
theorem retime_drawn (m:Machine)(k:Nat)(t:Timer)(a b:Nat):(retime m k t a b).2.world.drawn=m.world.drawn:=by
 unfold retime;simp only
 split
 ·exact drain_drawn _ _
 ·rfl
variable {m':Machine}
theorem opened_drawn (h:timerOp.opened m a=some m'):m.world.drawn<=m'.world.drawn:=by
 unfold timerOp.opened at h
 split at h
 ·split at h
  ·cases h;exact Nat.le_refl _
  ·cases h
 ·cases h;exact Nat.le_refl _
theorem timerOp_drawn {op:TimerOp}(h:timerOp m op=.ok (v,m')):m.world.drawn<=m'.world.drawn:=by
 unfold timerOp timerOp.named at h
 repeat' split at h
 all_goals first
  | (cases h;done)
  | (cases h;exact Nat.le_refl _)
  | (have e:=congrArg (λ x=>(Prod.snd x).world.drawn) (Except.ok.inj h);simp only[retime_drawn] at e;exact Nat.le_of_eq e)
  | (have h1:=opened_drawn ‹timerOp.opened _ _=some _›;have e:=congrArg (λ x=>(Prod.snd x).world.drawn) (Except.ok.inj h);simp only[retime_drawn] at e;exact Nat.le_trans h1 (Nat.le_of_eq e))
theorem runT_next_drawn (p:Program)(m:Machine)(i:Nat)(listen:Bool):sOk m.world.drawn (runT p m i listen).1:=by
 unfold runT;simp only;have h:=stepG_drawn p (i==0) (m.gs.swapAt! i { (default:Goroutine) with status:=.finished }).1 m.world listen;generalize stepG p (i==0) _ m.world listen=s at h ⊢
 cases s with
 | ended o w es=>exact sOk_ended
 | comm g cs b sh w es=>exact λ m' e=>Nat.le_trans h (communicate_drawn _ _ _ _ _ _ _ _ _ m' e)
 | go g w es=>exact sOk_next h
 | spawn g c w es=>exact sOk_next h
 | count g w es=>
  simp only
  split
  ·exact sOk_ended
  ·exact sOk_next h
 | alone g on w es=>exact sOk_next h
 | collect g w es=>exact λ m' e=>Nat.le_trans h (look_drawn _ _ _ _ m' e)
 | watch g w es=>exact sOk_next h
 | newcoro g c d w es=>exact sOk_next h
 | coroswitch g c ex w es=>
  simp only
  split
  ·exact sOk_next h
  ·exact sOk_next h
  ·exact sOk_ended
 | timer g op w es=>
  simp only
  split
  ·rename_i h1;exact sOk_next (Nat.le_trans h (timerOp_drawn h1))
  ·exact sOk_next h
  ·exact sOk_ended
  ·exact sOk_ended
def nQ (n:Nat)(v:Move):Prop:=match v with
 | .goroutine m _=>n<=m.world.drawn
 | .machine s _=>sOk n s
theorem askOn_drawn (p:Program)(m:Machine):nQ m.world.drawn (askOn p m):=by
 unfold askOn;simp only
 split
 ·exact sOk_ended
 ·rename_i h0;have h0:=run_ok h0
  split
  ·exact λ m' e=>Nat.le_trans h0 (serve_drawn p _ _ m' e)
  ·split
   ·split
    ·exact sOk_next h0
    ·split
     ·exact sOk_next h0
     ·split <;> exact sOk_ended
   ·split
    ·split
     ·exact sOk_ended
     ·rename_i h1;have h1:=Nat.le_trans h0 (run_ok h1)
      split
      ·exact h1
      ·split
       ·exact sOk_ended
       ·rename_i h2;exact Nat.le_trans h1 (run_ok h2)
    ·split
     ·exact sOk_ended
     ·rename_i hc;have hc:=Nat.le_trans h0 (run_ok hc)
      split
      ·exact sOk_ended
      ·rename_i h1;have h1:=Nat.le_trans hc (run_ok h1)
       split
       ·exact h1
       ·split
        ·exact sOk_ended
        ·rename_i h2;exact Nat.le_trans h1 (run_ok h2)
     ·rename_i hc;have hc:=Nat.le_trans h0 (run_ok hc);exact sOk_next hc
     ·rename_i hc;have hc:=Nat.le_trans h0 (run_ok hc)
      split
      ·exact sOk_ended
      ·rename_i h1;have h1:=run_ok h1;have h1:=Nat.le_trans hc h1
       split
       ·exact h1
       ·split
        ·exact sOk_ended
        ·rename_i h2;exact Nat.le_trans h1 (run_ok h2)
theorem nQ.mono {a b:Nat}{v:Move}(h:nQ b v)(Ao:a<=b):nQ a v:=by
 cases v with
 | goroutine m i=>exact Nat.le_trans Ao h
 | machine s ops=>exact λ m' e=>Nat.le_trans Ao (h m' e)
theorem ask_move_drawn (p:Program)(m:Machine):nQ m.world.drawn (ask p m):=by
 unfold ask
 split
 ·split
  ·exact sOk_ended
  ·rename_i h;have h:=run_ok h
   split
   ·rename_i h1;exact (askOn_drawn p _).mono (Nat.le_trans h (look_drawn _ _ _ _ _ h1))
   ·rename_i h1;exact λ m' e=>Nat.le_trans h (look_drawn _ _ _ _ _ e)
  ·rename_i h;exact (askOn_drawn p _).mono (run_ok h)
 ·exact askOn_drawn p m
theorem move_drawn (p:Program)(m:Machine):nQ m.world.drawn (move p m):=by
 unfold move
 split
 ·split
  ·exact Nat.le_refl _
  ·exact sOk_ended
 ·split
  ·split
   ·exact Nat.le_refl _
   ·exact ask_move_drawn p _
  ·exact ask_move_drawn p m
theorem step_drawn (h:step p m=.next m'):m.world.drawn<=m'.world.drawn:=by
 have hm:=move_drawn p m;unfold step stepT at h
 split at h
 ·rename_i m1 i h1;rw[h1] at hm;exact Nat.le_trans hm (runT_next_drawn p m1 i _ m' h)
 ·rename_i s ops h1;rw[h1] at hm;exact hm m' h
theorem runN_drawn {p:Program}:∀ (n:Nat) {m m':Machine},runN p n m=.next m'->m.world.drawn<=m'.world.drawn
 | 0,m,m',h=>by rw[runN] at h;cases h;exact Nat.le_refl _
 | n+1,m,m',h=>by
  rw[runN] at h
  split at h
  ·rename_i m1 h1;exact Nat.le_trans (step_drawn h1) (runN_drawn n h)
  ·rename_i h1;exact absurd h (λ e=>h1 m' e)
theorem calls_drawn {f:FuncId}{args:Array Value}{R:Ending->W8->Prop}(h:Calls p f args w R):Calls p f args w λ e w'=>R e w'/\(∀ v,e=.returned v->w.drawn<=w'.drawn):=λ cs=>by
 obtain⟨e,w',fr,h1,h2,h3⟩:=h cs;refine⟨e,w',fr,⟨h1,λ v hv=>?_⟩,h2,h3⟩;subst hv;obtain⟨n,hn⟩:=h2;exact runN_drawn n hn
end
section
open Go.RowKit
theorem compare0 (TX:B8->B8->B8->B8->B8->B8->Prop)(w:W8)(p0 p1 p2 p3 p4 q0 q1 q2 q3 q4 tp tq:B8)(s1 h1 s2 h2:Nat)(hp:TX p0 p1 p2 p3 p4 tp)(hq:TX q0 q1 q2 q3 q4 tq)
  (HT:∀ (x0 x1 x2 x3 x4 t:B8),TX x0 x1 x2 x3 x4 t->∀ W:W8,Calls Tryz.prog 63 #[.agg #[.string x0,.string x1,.string x2,.string x3,.string x4]] W λ e w'=>e=.returned (.string t)/\Below W.heap.size W w'):
  Calls Tryz.prog 106 #[.agg #[.string p0,.string p1,.string p2,.string p3,.string p4,.int .i64 s1,.int .i64 h1],.agg #[.string q0,.string q1,.string q2,.string q3,.string q4,.int .i64 s2,.int .i64 h2]] w λ e w'=>e=.returned (.int .i64 (orC (cmpN s1 s2) (cmpN h1 h2) (cmpB tp tq)))/\Below w.heap.size w w':=by
 have T1:=hide HT;have C1:=hide compareI_any;have C3:=hide (λ W=>compare_any tp tq W);have O3:=hide (λ (W:W8) (a b c:Int)=>or3_any (W.alloc (.cells #[.int .i64 a,.int .i64 b,.int .i64 c] 3)) W.heap.size a b c (heap_alloc_new W _));clear HT;generalize cmpB tp tq=r3 at *;go_enter Tryz.func106,Tryz.ntmps106;go_upto_region 1 with fail;generalize hw0:World.alloc (World.alloc w _) _=w0;have k0:Below w.heap.size w w0:=by
  rw[<-hw0];exact ((Below.refl w.heap.size w).alloc L9 _).alloc (by simp) _
 have x0:w0.heap[w.heap.size]?=some (.cells #[.string p0,.string p1,.string p2,.string p3,.string p4,.int .i64 s1,.int .i64 h1] 148 (0,0)):=by
  rw[<-hw0,Below.heap_alloc _ _ _ (by simp)];exact heap_alloc_new w _
 have x1:w0.heap[w.heap.size+1]?=some (.cells #[.string q0,.string q1,.string q2,.string q3,.string q4,.int .i64 s2,.int .i64 h2] 148 (0,0)):=by
  rw[<-hw0];have:=heap_alloc_new (w.alloc (.cells #[.string p0,.string p1,.string p2,.string p3,.string p4,.int .i64 s1,.int .i64 h1] 148)) (.cells #[.string q0,.string q1,.string q2,.string q3,.string q4,.int .i64 s2,.int .i64 h2] 148);rw[World.size_alloc] at this;exact this
 clear hw0;have cq:=hide k0
 have HA:=hide (λ (W:W8) (hW:Below w0.heap.size w0 W)=>(show W.cell? ⟨w.heap.size,0,none⟩=some (.string p0)/\W.cell? ⟨w.heap.size,1,none⟩=some (.string p1)/\W.cell? ⟨w.heap.size,2,none⟩=some (.string p2)/\W.cell? ⟨w.heap.size,3,none⟩=some (.string p3)/\W.cell? ⟨w.heap.size,4,none⟩=some (.string p4)/\W.cell? ⟨w.heap.size,5,none⟩=some (.int .i64 s1)/\W.cell? ⟨w.heap.size,6,none⟩=some (.int .i64 h1)/\W.cell? ⟨w.heap.size+1,0,none⟩=some (.string q0)/\W.cell? ⟨w.heap.size+1,1,none⟩=some (.string q1)/\W.cell? ⟨w.heap.size+1,2,none⟩=some (.string q2)/\W.cell? ⟨w.heap.size+1,3,none⟩=some (.string q3)/\W.cell? ⟨w.heap.size+1,4,none⟩=some (.string q4)/\W.cell? ⟨w.heap.size+1,5,none⟩=some (.int .i64 s2)/\W.cell? ⟨w.heap.size+1,6,none⟩=some (.int .i64 h2) from by
  have y0:=(hW.block _ (Array.getElem?_eq_some_iff.1 x0).1).trans x0;have y1:=(hW.block _ (Array.getElem?_eq_some_iff.1 x1).1).trans x1
  exact⟨(block_cells y0 0).1,(block_cells y0 1).1,(block_cells y0 2).1,(block_cells y0 3).1,(block_cells y0 4).1,(block_cells y0 5).1,(block_cells y0 6).1,(block_cells y1 0).1,(block_cells y1 1).1,(block_cells y1 2).1,(block_cells y1 3).1,(block_cells y1 4).1,(block_cells y1 5).1,(block_cells y1 6).1⟩))
 clear x0 x1 k0;have xJ:Below w0.heap.size w0 w0.drew:=B9.drew
 go_region_held3 (λ W=>W.cell? ⟨w.heap.size,0,none⟩=some (.string p0)/\W.cell? ⟨w.heap.size,1,none⟩=some (.string p1)/\W.cell? ⟨w.heap.size,2,none⟩=some (.string p2)/\W.cell? ⟨w.heap.size,3,none⟩=some (.string p3)/\W.cell? ⟨w.heap.size,4,none⟩=some (.string p4)/\W.cell? ⟨w.heap.size,5,none⟩=some (.int .i64 s1)/\W.cell? ⟨w.heap.size,6,none⟩=some (.int .i64 h1)/\W.cell? ⟨w.heap.size+1,0,none⟩=some (.string q0)/\W.cell? ⟨w.heap.size+1,1,none⟩=some (.string q1)/\W.cell? ⟨w.heap.size+1,2,none⟩=some (.string q2)/\W.cell? ⟨w.heap.size+1,3,none⟩=some (.string q3)/\W.cell? ⟨w.heap.size+1,4,none⟩=some (.string q4)/\W.cell? ⟨w.heap.size+1,5,none⟩=some (.int .i64 s2)/\W.cell? ⟨w.heap.size+1,6,none⟩=some (.int .i64 h2)) ((refine ad HA _ ?_;first | exact xJ | exact bY | exact gi | exact gi.alloc gi.size _)) ((first
  | (go_at_call 161;refine (ad C1 _ _ _).mono ?_;rintro en wx ⟨rfl,nN⟩;subst nN)
  | (go_at_call 63;refine (ad T1 _ _ _ _ _ _ (by assumption) _).mono ?_;rintro en wT ⟨rfl,Cq⟩;first | (have gi:Below w0.heap.size w0 wT:=bY.trans (Cq.mono bY.size)) | (have bY:Below w0.heap.size w0 wT:=below_of_drew Cq);clear Cq)
  | (go_at_call 162;refine (ad C3 _).mono ?_;rintro en wx ⟨rfl,nN⟩;subst nN)
  | (go_at_call 160;refine (ad O3 _ _ _ _).mono ?_;rintro en wx ⟨rfl,nN⟩;subst nN)))
 all_goals
  go_wp2_with fail;go_ret;exact⟨rfl,(ad cq).trans ((gi.alloc gi.size _).mono (ad cq).size)⟩
def mu (p q:Pl):Int:=orC (cmpN p.s q.s) (cmpN p.h q.h) (cmpB (thText p.t) (thText q.t))
theorem compare_pl (w:W8)(p q:Pl)(hp:ThOk p.t)(hq:ThOk q.t)(lp:(atomT p.t.1 (thTerms p.t)).length<=1000000000)(lq:(atomT q.t.1 (thTerms q.t)).length<=1000000000):
  Calls Tryz.prog 106 #[plV p,plV q] w λ e w'=>e=.returned (.int .i64 (mu p q))/\Below w.heap.size w w':=
 compare0 (λ x0 x1 x2 x3 x4 t=>∃ y:Th,ThOk y/\(atomT y.1 (thTerms y)).length<=1000000000/\y.p=x0/\nth4 y.ts 0=x1/\nth4 y.ts 1=x2/\nth4 y.ts 2=x3/\nth4 y.ts 3=x4/\thText y=t) w _ _ _ _ _ _ _ _ _ _ _ _ p.s p.h q.s q.h ⟨p.t,hp,lp,rfl,rfl,rfl,rfl,rfl,rfl⟩ ⟨q.t,hq,lq,rfl,rfl,rfl,rfl,rfl,rfl⟩ (λ x0 x1 x2 x3 x4 t ⟨y,h1,h2,e0,e1,e2,e3,e4,e5⟩ W=>by subst e0 e1 e2 e3 e4 e5;exact thtext_any W y h1 h2)
theorem grown_of_below {w w':W8}(h:Below w.heap.size w w')(hd:w.drawn<=w'.drawn):∃ q os,w'=Sort.grow (w.drewN q) os:=by
 refine⟨w'.drawn-w.drawn,w'.heap.extract w.heap.size w'.heap.size,?_⟩;obtain⟨h1,h2,h3,h4,h5⟩:=h
 cases w' with
 | mk heap tape drawn os output=>
  simp only at h1 h2 h3 h4 h5 hd;subst h1 h2 h3;unfold Sort.grow World.drewN;simp only
  congr 1
  ·apply Array.ext_getElem?;intro i;rw[Array.getElem?_append]
   split
   ·rename_i hi;exact h5 i hi
   ·rename_i hi;rw[Array.getElem?_extract]
    split
    ·congr 1;omega
    ·rw[Array.getElem?_eq_none (by omega)]
  ·omega
end
end Go.Proofs.YtldkpahaocjdpaaGreat
