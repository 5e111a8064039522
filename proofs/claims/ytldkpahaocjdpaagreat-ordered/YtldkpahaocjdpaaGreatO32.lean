/-
  Draws are never taken back: whatever a call does, behind it at least as much has been drawn.
-/
import Derived.Test.YtldkpahaocjdpaaGreatO00
import Derived.Calls
import Derived.StepT
set_option maxHeartbeats 16000000
set_option maxRecDepth 1000000
namespace Go.Proofs.YtldkpahaocjdpaaGreat
section
theorem ask_drawn {α:Type}:∀ (k:Ask α) (w:W8),w.drawn<=(w.ask k).2.drawn
 | .done a,w=>Nat.le_refl _
 | .ask what range k,w=>by
  rw[World.ask]
  split
  ·exact ask_drawn (k 0) w
  ·exact Nat.le_trans (Nat.le_succ _) (ask_drawn (k _) { w with drawn:=w.drawn+1 })
theorem sys_drawn (w:W8)(c:Sys):w.drawn<=(w.sys c).2.drawn:=by
 have h:=ask_drawn (Kernel.perform c w.os) w;unfold World.sys
 split
 ·exact Nat.le_refl _
 ·rename_i h1;rw[h1] at h;exact h
def rWorld {α:Type}:Result α->W8
 | .ok _ w=>w
 | .halt _ w=>w
variable {v:Value} {a:Addr} {w w':W8} {p:Program}
theorem farStore_drawn {b:Bool}{l:List Addr}(h:w.farStore p a v b=.ok (w',l)):w'.drawn=w.drawn:=by
 unfold World.farStore at h
 split at h
 ·split at h
  ·rename_i h1
   cases h
   simp only[World.viewStore,bind,Except.bind,pure,Except.pure] at h1
   repeat' split at h1
   all_goals first | (cases h1;done) | (cases h1;rfl) | skip
  ·cases h
 ·cases h
theorem run_drawn {α:Type}(p:Program):∀ (m:Sem α) (w:W8),w.drawn<=(rWorld (m.run p w)).drawn:=by
 intro m
 induction m with
 | pure a=>intro w;exact Nat.le_refl _
 | load m a k ih=>
  intro w;rw[Sem.run]
  split
  ·exact ih _ w
  ·split
   ·exact ih _ w
   ·exact Nat.le_refl _
 | store m a v k ih=>
  intro w
  have key:w.drawn<=(rWorld (match w.cell? a with
   | some _ => if w.frozen? a then .halt (.unsupported (.unsafePointer "a write to bytes that a string shares")) w else k.run p (w.setCell a v)
   | none=>match w.farStore p a v (m==.atomic) with
    | .ok (w,_)=>k.run p w
    | .error h=>.halt h w)).drawn:=by
   split
   ·split
    ·exact Nat.le_refl _
    ·exact ih (w.setCell a v)
   ·split
    ·rename_i h1;have:=farStore_drawn h1;exact Nat.le_trans (Nat.le_of_eq this.symm) (ih _)
    ·exact Nat.le_refl _
  cases v <;> first | exact Nat.le_refl _ | exact key
 | new o k ih=>intro w;exact ih _ { w with heap:=w.heap.push o }
 | shape r k ih=>intro w;exact ih _ w
 | freeze a n k ih=>
  intro w;have:(w.freeze a n).drawn=w.drawn:=by unfold World.freeze;split <;> rfl
  exact Nat.le_trans (Nat.le_of_eq this.symm) (ih (w.freeze a n))
 | frozen a k ih=>intro w;exact ih _ w
 | getObj r k ih=>
  intro w;rw[Sem.run]
  split
  ·exact Nat.le_refl _
  ·exact ih _ w
  ·exact Nat.le_refl _
 | setObj r o k ih=>
  intro w;rw[Sem.run]
  split
  ·exact Nat.le_refl _
  ·exact ih { w with heap:=w.heap.setIfInBounds r o }
  ·exact Nat.le_refl _
 | choose q k ih=>
  intro w;rw[Sem.run]
  split
  ·exact ih _ w
  ·exact Nat.le_trans (Nat.le_succ _) (ih _ { w with drawn:=w.drawn+1 })
 | sys c k ih=>intro w;exact Nat.le_trans (sys_drawn w c) (ih _ (w.sys c).2)
 | program k ih=>intro w;exact ih _ w
 | mark m k ih=>intro w;exact ih w
 | halt h=>intro w;exact Nat.le_refl _
theorem run_ok {α:Type}{m:Sem α}{a:α}(h:m.run p w=.ok a w'):w.drawn<=w'.drawn:=by
 have:=run_drawn p m w;rw[h] at this;exact this
theorem run_halt {α:Type}{m:Sem α}{x:Halt}(h:m.run p w=.halt x w'):w.drawn<=w'.drawn:=by
 have:=run_drawn p m w;rw[h] at this;exact this
def gWorld:GStep->W8
 | .go _ w _=>w
 | .comm _ _ _ _ w _=>w
 | .spawn _ _ w _=>w
 | .count _ w _=>w
 | .timer _ _ w _=>w
 | .alone _ _ w _=>w
 | .newcoro _ _ _ w _=>w
 | .coroswitch _ _ _ w _=>w
 | .collect _ w _=>w
 | .watch _ w _=>w
 | .ended _ w _=>w
theorem gWorld_after (es:Array Event)(s:GStep):gWorld (s.after es)=gWorld s:=by cases s <;> rfl
theorem endPrinting_drawn (p:Program)(fr:Frame)(v:Value)(w:W8):gWorld (endPrinting p fr v w)=w:=by
 unfold endPrinting;simp only
 repeat' split
 all_goals rfl
theorem endWith_drawn (w:W8)(fd:Nat)(t:B8)(o:Outcome):w.drawn<=(gWorld (endWith w fd t o)).drawn:=by
 have h:=sys_drawn w (.write fd t);unfold endWith;simp only
 split
 ·rename_i h1;rw[h1] at h;split <;> exact h
 ·rename_i h1;rw[h1] at h;exact h
 ·rename_i h1;rw[h1] at h;exact h
theorem endFatal_drawn (p:Program)(fr:Frame)(cs:List Frame)(d:Option Dying)(m:String)(w:W8):w.drawn<=(gWorld (endFatal p fr cs d m w)).drawn:=by
 unfold endFatal;simp only
 split
 ·rename_i h;exact run_ok h
 ·rename_i h;exact run_halt h
 ·rename_i h;exact run_halt h
theorem writeOn_drawn (p:Program)(fr:Frame)(d:Dying)(f:Fatal)(w:W8):w.drawn<=(gWorld (writeOn p fr d f w)).drawn:=by
 unfold writeOn;simp only[Sem.runT_eq]
 split
 ·exact Nat.le_refl _
 ·split
  ·rename_i h;exact run_ok (Prod.mk.inj h).1
  ·rename_i h;exact run_halt (Prod.mk.inj h).1
  ·rename_i h;exact run_halt (Prod.mk.inj h).1
  ·rename_i h;exact run_halt (Prod.mk.inj h).1
theorem die_drawn (p:Program)(fr:Frame)(d:Dying)(w:W8):w.drawn<=(gWorld (die p fr d w)).drawn:=by
 unfold die;simp only[Sem.runT_eq]
 split
 ·exact writeOn_drawn _ _ _ _ _
 ·split
  ·split
   ·exact Nat.le_refl _
   ·exact endWith_drawn _ _ _ _
  ·split
   ·exact Nat.le_refl _
   ·split
    ·rename_i h;exact run_ok h
    ·rename_i h;exact run_halt h
   ·rw[gWorld_after]
    split
    ·rename_i h;exact run_ok h
    ·rename_i h;exact run_ok h
    ·rename_i h;exact run_halt h
    ·rename_i h;rw[endPrinting_drawn];exact run_halt h
    ·exact Nat.le_refl _
   ·exact Nat.le_refl _
theorem early_drawn (p:Program)(fr:Frame)(cs:List Frame)(d:Option Dying)(g:Nat)(w:W8):w.drawn<=(gWorld (early p fr cs d g w)).drawn:=by
 unfold early;simp only
 repeat' split
 all_goals first | exact Nat.le_refl _ | (have h:=run_ok ‹Sem.run _ _ _=Result.ok _ _›;exact h) | (have h:=run_halt ‹Sem.run _ _ _=Result.halt _ _›;exact h)
theorem doReturn_drawn (p:Program)(b:Bool)(fr:Frame)(cs:List Frame)(d:Option Dying)(v:Value)(w:W8):gWorld (doReturn p b fr cs d v w)=w:=by
 unfold doReturn
 repeat' split
 all_goals rfl
theorem callDeferred_drawn (p:Program)(fr:Frame)(cs:List Frame)(dy:Option Dying)(d:Deferred)(w:W8):w.drawn<=(gWorld (callDeferred p fr cs dy d w)).drawn:=by
 unfold callDeferred;simp only[Sem.runT_eq];generalize (_&&_:Bool)=c
 split
 ·exact Nat.le_refl _
 ·rw[gWorld_after]
  split
  all_goals rename_i h
  all_goals first
   | exact run_ok h
   | exact run_halt h
   | exact Nat.le_trans (run_halt h) (endFatal_drawn _ _ _ _ _ _)
   | (split <;> exact run_ok h)
theorem unwind_drawn (p:Program)(b:Bool)(fr:Frame)(cs:List Frame)(dy:Option Dying)(w:W8):w.drawn<=(gWorld (unwind p b fr cs dy w)).drawn:=by
 unfold unwind;simp only[Sem.runT_eq]
 split
 ·rw[gWorld_after]
  split
  ·rename_i h;exact run_ok h
  ·rename_i h;exact run_halt h
 ·exact callDeferred_drawn _ _ _ _ _ _
 ·split
  ·exact Nat.le_refl _
  ·split
   ·exact Nat.le_refl _
   ·split
    ·exact Nat.le_refl _
    ·split
     ·split
      ·exact Nat.le_refl _
      ·split
       ·rename_i h;exact run_ok h
       ·rename_i h;exact run_halt h
       ·rename_i h;exact run_halt h
     ·split
      ·rw[endPrinting_drawn];exact Nat.le_refl _
      ·exact Nat.le_refl _
  ·split
   ·rw[doReturn_drawn];exact Nat.le_refl _
   ·rw[gWorld_after]
    split
    ·rename_i h;rw[doReturn_drawn];exact run_ok h
    ·rename_i h;exact run_halt h
    ·rename_i h;exact run_halt h
theorem apply_drawn (p:Program)(listen:Bool)(fr:Frame)(cs:List Frame)(dy:Option Dying)(m:Sem Next)(w:W8):w.drawn<=(gWorld (stepG.apply p listen fr cs dy m w)).drawn:=by
 have e:(if listen=true then m.runT p w #[] else (m.run p w,#[])).1=m.run p w:=by split <;> simp
 unfold stepG.apply;simp only;generalize (if listen=true then m.runT p w #[] else (m.run p w,#[]))=r at e ⊢;obtain⟨r,es⟩:=r;simp only at e;subst e;simp only;rw[gWorld_after]
 split
 all_goals rename_i h
 all_goals first
  | exact run_ok h
  | exact run_halt h
  | exact Nat.le_trans (run_halt h) (endFatal_drawn _ _ _ _ _ _)
  | exact Nat.le_trans (run_halt h) (early_drawn _ _ _ _ _ _)
  | ((repeat' split);all_goals exact run_ok h)
theorem oper_drawn (p:Program)(listen:Bool)(fr:Frame)(cs:List Frame)(dy:Option Dying)(w:W8):w.drawn<=(gWorld (stepG.oper p listen fr cs dy w)).drawn:=by
 unfold stepG.oper
 split
 ·exact Nat.le_refl _
 ·split
  ·exact apply_drawn _ _ _ _ _ _ _
  ·exact apply_drawn _ _ _ _ _ _ _
theorem exec_drawn (p:Program)(main listen:Bool)(fr:Frame)(cs:List Frame)(dy:Option Dying)(w:W8):w.drawn<=(gWorld (stepG.exec p main listen fr cs dy w)).drawn:=by
 have nx:=apply_drawn p listen;have jQ:=oper_drawn p listen;unfold stepG.exec;simp only[Sem.runT_eq];generalize stepG.apply p listen=ap at nx ⊢;generalize stepG.oper p listen=op at jQ ⊢
 split
 all_goals first
  | exact Nat.le_refl _
  | exact nx _ _ _ _ _
  | skip
 all_goals try simp only[Option.elim]
 all_goals repeat' (first | rw[gWorld_after] | split)
 all_goals first
  | exact Nat.le_refl _
  | exact jQ _ _ _ _
  | exact nx _ _ _ _ _
  | (have h:=run_ok ‹Sem.run _ _ _=Result.ok _ _›;exact h)
  | (have h:=run_halt ‹Sem.run _ _ _=Result.halt _ _›;exact h)
  | (rw[doReturn_drawn];have h:=run_ok ‹Sem.run _ _ _=Result.ok _ _›;exact h)
  | (have h:=run_ok ‹Sem.run _ _ _=Result.ok _ _›;exact Nat.le_trans h (nx _ _ _ _ _))
theorem stepG_drawn (p:Program)(main:Bool)(g:Goroutine)(w:W8)(listen:Bool):w.drawn<=(gWorld (stepG p main g w listen)).drawn:=by
 unfold stepG;simp only
 split
 ·exact die_drawn _ _ _ _
 ·exact exec_drawn _ _ _ _ _ _ _
 ·exact unwind_drawn _ _ _ _ _ _
def sOk (n:Nat)(s:Stepped):Prop:=∀ m,s=.next m->n<=m.world.drawn
variable {m:Machine} {n:Nat}
theorem sOk_next (h:n<=m.world.drawn):sOk n (.next m):=λ _ e=>by cases e;exact h
theorem sOk_ended {o:Outcome}:sOk n (.ended o w):=λ _ e=>by cases e
theorem waitingAt_drawn {rest:Rest}{cs:Array CommCase}(h:waitingAt rest cs w=some w'):w.drawn<=w'.drawn:=by
 unfold waitingAt at h
 split at h
 ·split at h
  ·cases h;exact Nat.le_refl _
  ·cases h
 ·cases h;exact Nat.le_refl _
theorem communicate_drawn (p:Program)(rest:Rest)(gs:Array Goroutine)(i:Nat)(g:Goroutine)(tS:Array CommCase)(oH:Bool)(shape:CommShape)(w:W8):sOk w.drawn (communicate p rest gs i g tS oH shape w).1:=by
 unfold communicate;simp only
 repeat' split
 all_goals first
  | exact sOk_ended
  | exact sOk_next L9
  | (have h:=run_ok ‹Sem.run _ _ _=Result.ok _ _›;exact sOk_next h)
  | (have h:=waitingAt_drawn ‹waitingAt _ _ _=some _›;exact sOk_next h)
  | (have h1:=run_ok ‹Sem.run _ _ _=Result.ok _ _›;have h2:=run_halt ‹Sem.run _ _ _=Result.halt _ _›;exact sOk_next (Nat.le_trans h1 h2))
  | (have h1:=run_ok ‹Sem.run _ _ w=Result.ok _ _›;have h2:=run_ok ‹Sem.run _ (choose _) _=Result.ok _ _›;exact sOk_next (Nat.le_trans h1 h2))
theorem look_drawn (p:Program)(gs:Array Goroutine)(rest:Rest)(w:W8):sOk w.drawn (look p gs rest w):=by
 unfold look;simp only
 repeat' split
 all_goals first
  | exact sOk_ended
  | exact sOk_next L9
  | (have h:=run_ok ‹Sem.run _ _ w=Result.ok _ _›;exact sOk_next h)
theorem serve_drawn (p:Program)(m:Machine)(k:Nat):sOk m.world.drawn (serve p m k):=by
 unfold serve;simp only
 repeat' split
 all_goals first
  | exact sOk_ended
  | exact sOk_next L9
  | (have h:=run_ok ‹Sem.run _ _ _=Result.ok _ _›;exact sOk_next h)
theorem drain_drawn (w:W8)(c:Nat):(drain w c).2.drawn=w.drawn:=by
 unfold drain
 split <;> rfl
theorem retime_drawn (m:Machine)(k:Nat)(t:Timer)(a b:Nat):(retime m k t a b).2.world.drawn=m.world.drawn:=by
 unfold retime;simp only
 split
 ·exact drain_drawn _ _
 ·rfl
variable {m':Machine}
theorem opened_drawn (h:timerOp.opened m a=some m'):m.world.drawn<=m'.world.drawn:=by
 unfold timerOp.opened at h
 split at h
 ·split at h
  ·cases h;exact Nat.le_refl _
  ·cases h
 ·cases h;exact Nat.le_refl _
theorem timerOp_drawn {op:TimerOp}(h:timerOp m op=.ok (v,m')):m.world.drawn<=m'.world.drawn:=by
 unfold timerOp timerOp.named at h
 repeat' split at h
 all_goals first
  | (cases h;done)
  | (cases h;exact Nat.le_refl _)
  | (have e:=congrArg (λ x=>(Prod.snd x).world.drawn) (Except.ok.inj h);simp only[retime_drawn] at e;exact Nat.le_of_eq e)
  | (have h1:=opened_drawn ‹timerOp.opened _ _=some _›;have e:=congrArg (λ x=>(Prod.snd x).world.drawn) (Except.ok.inj h);simp only[retime_drawn] at e;exact Nat.le_trans h1 (Nat.le_of_eq e))
theorem runT_next_drawn (p:Program)(m:Machine)(i:Nat)(listen:Bool):sOk m.world.drawn (runT p m i listen).1:=by
 unfold runT;simp only;have h:=stepG_drawn p (i==0) (m.gs.swapAt! i { (default:Goroutine) with status:=.finished }).1 m.world listen;generalize stepG p (i==0) _ m.world listen=s at h ⊢
 cases s with
 | ended o w es=>exact sOk_ended
 | comm g cs b sh w es=>exact λ m' e=>Nat.le_trans h (communicate_drawn _ _ _ _ _ _ _ _ _ m' e)
 | go g w es=>exact sOk_next h
 | spawn g c w es=>exact sOk_next h
 | count g w es=>
  simp only
  split
  ·exact sOk_ended
  ·exact sOk_next h
 | alone g on w es=>exact sOk_next h
 | collect g w es=>exact λ m' e=>Nat.le_trans h (look_drawn _ _ _ _ m' e)
 | watch g w es=>exact sOk_next h
 | newcoro g c d w es=>exact sOk_next h
 | coroswitch g c ex w es=>
  simp only
  split
  ·exact sOk_next h
  ·exact sOk_next h
  ·exact sOk_ended
 | timer g op w es=>
  simp only
  split
  ·rename_i h1;exact sOk_next (Nat.le_trans h (timerOp_drawn h1))
  ·exact sOk_next h
  ·exact sOk_ended
  ·exact sOk_ended
def nQ (n:Nat)(v:Move):Prop:=match v with
 | .goroutine m _=>n<=m.world.drawn
 | .machine s _=>sOk n s
theorem askOn_drawn (p:Program)(m:Machine):nQ m.world.drawn (askOn p m):=by
 unfold askOn;simp only
 split
 ·exact sOk_ended
 ·rename_i h0;have h0:=run_ok h0
  split
  ·exact λ m' e=>Nat.le_trans h0 (serve_drawn p _ _ m' e)
  ·split
   ·split
    ·exact sOk_next h0
    ·split
     ·exact sOk_next h0
     ·split <;> exact sOk_ended
   ·split
    ·split
     ·exact sOk_ended
     ·rename_i h1;have h1:=Nat.le_trans h0 (run_ok h1)
      split
      ·exact h1
      ·split
       ·exact sOk_ended
       ·rename_i h2;exact Nat.le_trans h1 (run_ok h2)
    ·split
     ·exact sOk_ended
     ·rename_i hc;have hc:=Nat.le_trans h0 (run_ok hc)
      split
      ·exact sOk_ended
      ·rename_i h1;have h1:=Nat.le_trans hc (run_ok h1)
       split
       ·exact h1
       ·split
        ·exact sOk_ended
        ·rename_i h2;exact Nat.le_trans h1 (run_ok h2)
     ·rename_i hc;have hc:=Nat.le_trans h0 (run_ok hc);exact sOk_next hc
     ·rename_i hc;have hc:=Nat.le_trans h0 (run_ok hc)
      split
      ·exact sOk_ended
      ·rename_i h1;have h1:=run_ok h1;have h1:=Nat.le_trans hc h1
       split
       ·exact h1
       ·split
        ·exact sOk_ended
        ·rename_i h2;exact Nat.le_trans h1 (run_ok h2)
theorem nQ.mono {a b:Nat}{v:Move}(h:nQ b v)(Ao:a<=b):nQ a v:=by
 cases v with
 | goroutine m i=>exact Nat.le_trans Ao h
 | machine s ops=>exact λ m' e=>Nat.le_trans Ao (h m' e)
theorem ask_move_drawn (p:Program)(m:Machine):nQ m.world.drawn (ask p m):=by
 unfold ask
 split
 ·split
  ·exact sOk_ended
  ·rename_i h;have h:=run_ok h
   split
   ·rename_i h1;exact (askOn_drawn p _).mono (Nat.le_trans h (look_drawn _ _ _ _ _ h1))
   ·rename_i h1;exact λ m' e=>Nat.le_trans h (look_drawn _ _ _ _ _ e)
  ·rename_i h;exact (askOn_drawn p _).mono (run_ok h)
 ·exact askOn_drawn p m
theorem move_drawn (p:Program)(m:Machine):nQ m.world.drawn (move p m):=by
 unfold move
 split
 ·split
  ·exact Nat.le_refl _
  ·exact sOk_ended
 ·split
  ·split
   ·exact Nat.le_refl _
   ·exact ask_move_drawn p _
  ·exact ask_move_drawn p m
theorem step_drawn (h:step p m=.next m'):m.world.drawn<=m'.world.drawn:=by
 have hm:=move_drawn p m;unfold step stepT at h
 split at h
 ·rename_i m1 i h1;rw[h1] at hm;exact Nat.le_trans hm (runT_next_drawn p m1 i _ m' h)
 ·rename_i s ops h1;rw[h1] at hm;exact hm m' h
theorem runN_drawn {p:Program}:∀ (n:Nat) {m m':Machine},runN p n m=.next m'->m.world.drawn<=m'.world.drawn
 | 0,m,m',h=>by rw[runN] at h;cases h;exact Nat.le_refl _
 | n+1,m,m',h=>by
  rw[runN] at h
  split at h
  ·rename_i m1 h1;exact Nat.le_trans (step_drawn h1) (runN_drawn n h)
  ·rename_i h1;exact absurd h (λ e=>h1 m' e)
theorem calls_drawn {f:FuncId}{args:Array Value}{R:Ending->W8->Prop}(h:Calls p f args w R):Calls p f args w λ e w'=>R e w'/\(∀ v,e=.returned v->w.drawn<=w'.drawn):=λ cs=>by
 obtain⟨e,w',fr,h1,h2,h3⟩:=h cs;refine⟨e,w',fr,⟨h1,λ v hv=>?_⟩,h2,h3⟩;subst hv;obtain⟨n,hn⟩:=h2;exact runN_drawn n hn
end
end Go.Proofs.YtldkpahaocjdpaaGreat
