/-
  Draws are never taken back: whatever a call does, behind it at least as much has been drawn.
-/
import Derived.Test.YtldkpahaocjdpaaGreatE00
import Derived.Calls
import Derived.StepT
set_option maxHeartbeats 16000000
set_option maxRecDepth 1000000
namespace Go.Proofs.YtldkpahaocjdpaaGreat
section
theorem zk0 {α:Type}:∀ (k:Ask α) (w:W8),w.drawn<=(w.ask k).2.drawn
 | .done a,w=>Nat.le_refl _
 | .ask what range k,w=>by
  rw[World.ask]
  split
  ·exact zk0 (k 0) w
  ·exact Nat.le_trans (Nat.le_succ _) (zk0 (k _) { w with drawn:=w.drawn+1 })
theorem zs2 (w:W8)(c:Sys):w.drawn<=(w.sys c).2.drawn:=by
 have h:=zk0 (Kernel.perform c w.os) w;unfold World.sys
 split
 ·exact Nat.le_refl _
 ·rename_i h1;rw[h1] at h;exact h
def z90 {α:Type}:Result α->W8
 | .ok _ w=>w
 | .halt _ w=>w
variable {v:Value} {a:Addr} {w w':W8} {p:Program}
theorem znl {b:Bool}{l:List Addr}(h:w.farStore p a v b=.ok (w',l)):w'.drawn=w.drawn:=by
 unfold World.farStore at h
 split at h
 ·split at h
  ·rename_i h1
   cases h
   simp only[World.viewStore,bind,Except.bind,pure,Except.pure] at h1
   repeat' split at h1
   all_goals first | (cases h1;done) | (cases h1;rfl) | skip
  ·cases h
 ·cases h
theorem zsw {α:Type}(p:Program):∀ (m:Sem α) (w:W8),w.drawn<=(z90 (m.run p w)).drawn:=by
 intro m
 induction m with
 | pure a=>intro w;exact Nat.le_refl _
 | load m a k ih=>
  intro w;rw[Sem.run]
  split
  ·exact ih _ w
  ·split
   ·exact ih _ w
   ·exact Nat.le_refl _
 | store m a v k ih=>
  intro w
  have key:w.drawn<=(z90 (match w.cell? a with
   | some _ => if w.frozen? a then .halt (.unsupported (.unsafePointer "a write to bytes that a string shares")) w else k.run p (w.setCell a v)
   | none=>match w.farStore p a v (m==.atomic) with
    | .ok (w,_)=>k.run p w
    | .error h=>.halt h w)).drawn:=by
   split
   ·split
    ·exact Nat.le_refl _
    ·exact ih (w.setCell a v)
   ·split
    ·rename_i h1;have:=znl h1;exact Nat.le_trans (Nat.le_of_eq this.symm) (ih _)
    ·exact Nat.le_refl _
  cases v <;> first | exact Nat.le_refl _ | exact key
 | new o k ih=>intro w;exact ih _ { w with heap:=w.heap.push o }
 | shape r k ih=>intro w;exact ih _ w
 | freeze a n k ih=>
  intro w;have:(w.freeze a n).drawn=w.drawn:=by unfold World.freeze;split <;> rfl
  exact Nat.le_trans (Nat.le_of_eq this.symm) (ih (w.freeze a n))
 | frozen a k ih=>intro w;exact ih _ w
 | getObj r k ih=>
  intro w;rw[Sem.run]
  split
  ·exact Nat.le_refl _
  ·exact ih _ w
  ·exact Nat.le_refl _
 | setObj r o k ih=>
  intro w;rw[Sem.run]
  split
  ·exact Nat.le_refl _
  ·exact ih { w with heap:=w.heap.setIfInBounds r o }
  ·exact Nat.le_refl _
 | choose q k ih=>
  intro w;rw[Sem.run]
  split
  ·exact ih _ w
  ·exact Nat.le_trans (Nat.le_succ _) (ih _ { w with drawn:=w.drawn+1 })
 | sys c k ih=>intro w;exact Nat.le_trans (zs2 w c) (ih _ (w.sys c).2)
 | program k ih=>intro w;exact ih _ w
 | mark m k ih=>intro w;exact ih w
 | halt h=>intro w;exact Nat.le_refl _
theorem vJ {α:Type}{m:Sem α}{a:α}(h:m.run p w=.ok a w'):w.drawn<=w'.drawn:=by
 have:=zsw p m w;rw[h] at this;exact this
theorem vE {α:Type}{m:Sem α}{x:Halt}(h:m.run p w=.halt x w'):w.drawn<=w'.drawn:=by
 have:=zsw p m w;rw[h] at this;exact this
def zcr:GStep->W8
 | .go _ w _=>w
 | .comm _ _ _ _ w _=>w
 | .spawn _ _ w _=>w
 | .count _ w _=>w
 | .timer _ _ w _=>w
 | .alone _ _ w _=>w
 | .newcoro _ _ _ w _=>w
 | .coroswitch _ _ _ w _=>w
 | .collect _ w _=>w
 | .watch _ w _=>w
 | .ended _ w _=>w
theorem zar (es:Array Event)(s:GStep):zcr (s.after es)=zcr s:=by cases s <;> rfl
theorem zd2 (p:Program)(fr:Frame)(v:Value)(w:W8):zcr (endPrinting p fr v w)=w:=by
 unfold endPrinting;simp only
 repeat' split
 all_goals rfl
theorem zpa (w:W8)(fd:Nat)(t:B8)(o:Outcome):w.drawn<=(zcr (endWith w fd t o)).drawn:=by
 have h:=zs2 w (.write fd t);unfold endWith;simp only
 split
 ·rename_i h1;rw[h1] at h;split <;> exact h
 ·rename_i h1;rw[h1] at h;exact h
 ·rename_i h1;rw[h1] at h;exact h
theorem zgs (p:Program)(fr:Frame)(cs:List Frame)(d:Option Dying)(m:String)(w:W8):w.drawn<=(zcr (endFatal p fr cs d m w)).drawn:=by
 unfold endFatal;simp only
 split
 ·rename_i h;exact vJ h
 ·rename_i h;exact vE h
 ·rename_i h;exact vE h
theorem zqj (p:Program)(fr:Frame)(d:Dying)(f:Fatal)(w:W8):w.drawn<=(zcr (writeOn p fr d f w)).drawn:=by
 unfold writeOn;simp only[Sem.runT_eq]
 split
 ·exact Nat.le_refl _
 ·split
  ·rename_i h;exact vJ (Prod.mk.inj h).1
  ·rename_i h;exact vE (Prod.mk.inj h).1
  ·rename_i h;exact vE (Prod.mk.inj h).1
  ·rename_i h;exact vE (Prod.mk.inj h).1
theorem z1z (p:Program)(fr:Frame)(d:Dying)(w:W8):w.drawn<=(zcr (die p fr d w)).drawn:=by
 unfold die;simp only[Sem.runT_eq]
 split
 ·exact zqj _ _ _ _ _
 ·split
  ·split
   ·exact Nat.le_refl _
   ·exact zpa _ _ _ _
  ·split
   ·exact Nat.le_refl _
   ·split
    ·rename_i h;exact vJ h
    ·rename_i h;exact vE h
   ·rw[zar]
    split
    ·rename_i h;exact vJ h
    ·rename_i h;exact vJ h
    ·rename_i h;exact vE h
    ·rename_i h;rw[zd2];exact vE h
    ·exact Nat.le_refl _
   ·exact Nat.le_refl _
theorem zt2 (p:Program)(fr:Frame)(cs:List Frame)(d:Option Dying)(g:Nat)(w:W8):w.drawn<=(zcr (early p fr cs d g w)).drawn:=by
 unfold early;simp only
 repeat' split
 all_goals first | exact Nat.le_refl _ | (have h:=vJ ‹Sem.run _ _ _=Result.ok _ _›;exact h) | (have h:=vE ‹Sem.run _ _ _=Result.halt _ _›;exact h)
theorem zdm (p:Program)(b:Bool)(fr:Frame)(cs:List Frame)(d:Option Dying)(v:Value)(w:W8):zcr (doReturn p b fr cs d v w)=w:=by
 unfold doReturn
 repeat' split
 all_goals rfl
theorem zh0 (p:Program)(fr:Frame)(cs:List Frame)(dy:Option Dying)(d:Deferred)(w:W8):w.drawn<=(zcr (callDeferred p fr cs dy d w)).drawn:=by
 unfold callDeferred;simp only[Sem.runT_eq];generalize (_&&_:Bool)=c
 split
 ·exact Nat.le_refl _
 ·rw[zar]
  split
  all_goals rename_i h
  all_goals first
   | exact vJ h
   | exact vE h
   | exact Nat.le_trans (vE h) (zgs _ _ _ _ _ _)
   | (split <;> exact vJ h)
theorem ztb (p:Program)(b:Bool)(fr:Frame)(cs:List Frame)(dy:Option Dying)(w:W8):w.drawn<=(zcr (unwind p b fr cs dy w)).drawn:=by
 unfold unwind;simp only[Sem.runT_eq]
 split
 ·rw[zar]
  split
  ·rename_i h;exact vJ h
  ·rename_i h;exact vE h
 ·exact zh0 _ _ _ _ _ _
 ·split
  ·exact Nat.le_refl _
  ·split
   ·exact Nat.le_refl _
   ·split
    ·exact Nat.le_refl _
    ·split
     ·split
      ·exact Nat.le_refl _
      ·split
       ·rename_i h;exact vJ h
       ·rename_i h;exact vE h
       ·rename_i h;exact vE h
     ·split
      ·rw[zd2];exact Nat.le_refl _
      ·exact Nat.le_refl _
  ·split
   ·rw[zdm];exact Nat.le_refl _
   ·rw[zar]
    split
    ·rename_i h;rw[zdm];exact vJ h
    ·rename_i h;exact vE h
    ·rename_i h;exact vE h
theorem zg6 (p:Program)(listen:Bool)(fr:Frame)(cs:List Frame)(dy:Option Dying)(m:Sem Next)(w:W8):w.drawn<=(zcr (stepG.apply p listen fr cs dy m w)).drawn:=by
 have e:(if listen=true then m.runT p w #[] else (m.run p w,#[])).1=m.run p w:=by split <;> simp
 unfold stepG.apply;simp only;generalize (if listen=true then m.runT p w #[] else (m.run p w,#[]))=r at e ⊢;obtain⟨r,es⟩:=r;simp only at e;subst e;simp only;rw[zar]
 split
 all_goals rename_i h
 all_goals first
  | exact vJ h
  | exact vE h
  | exact Nat.le_trans (vE h) (zgs _ _ _ _ _ _)
  | exact Nat.le_trans (vE h) (zt2 _ _ _ _ _ _)
  | ((repeat' split);all_goals exact vJ h)
theorem zyz (p:Program)(listen:Bool)(fr:Frame)(cs:List Frame)(dy:Option Dying)(w:W8):w.drawn<=(zcr (stepG.oper p listen fr cs dy w)).drawn:=by
 unfold stepG.oper
 split
 ·exact Nat.le_refl _
 ·split
  ·exact zg6 _ _ _ _ _ _ _
  ·exact zg6 _ _ _ _ _ _ _
theorem zyc (p:Program)(main listen:Bool)(fr:Frame)(cs:List Frame)(dy:Option Dying)(w:W8):w.drawn<=(zcr (stepG.exec p main listen fr cs dy w)).drawn:=by
 have qk:=zg6 p listen;have pE:=zyz p listen;unfold stepG.exec;simp only[Sem.runT_eq];generalize stepG.apply p listen=ap at qk ⊢;generalize stepG.oper p listen=op at pE ⊢
 split
 all_goals first
  | exact Nat.le_refl _
  | exact qk _ _ _ _ _
  | skip
 all_goals try simp only[Option.elim]
 all_goals repeat' (first | rw[zar] | split)
 all_goals first
  | exact Nat.le_refl _
  | exact pE _ _ _ _
  | exact qk _ _ _ _ _
  | (have h:=vJ ‹Sem.run _ _ _=Result.ok _ _›;exact h)
  | (have h:=vE ‹Sem.run _ _ _=Result.halt _ _›;exact h)
  | (rw[zdm];have h:=vJ ‹Sem.run _ _ _=Result.ok _ _›;exact h)
  | (have h:=vJ ‹Sem.run _ _ _=Result.ok _ _›;exact Nat.le_trans h (qk _ _ _ _ _))
theorem zu7 (p:Program)(main:Bool)(g:Goroutine)(w:W8)(listen:Bool):w.drawn<=(zcr (stepG p main g w listen)).drawn:=by
 unfold stepG;simp only
 split
 ·exact z1z _ _ _ _
 ·exact zyc _ _ _ _ _ _ _
 ·exact ztb _ _ _ _ _ _
def sOk (n:Nat)(s:Stepped):Prop:=∀ m,s=.next m->n<=m.world.drawn
variable {m:Machine} {n:Nat}
theorem xX (h:n<=m.world.drawn):sOk n (.next m):=λ _ e=>by cases e;exact h
theorem xS {o:Outcome}:sOk n (.ended o w):=λ _ e=>by cases e
theorem zm6 {rest:Rest}{cs:Array CommCase}(h:waitingAt rest cs w=some w'):w.drawn<=w'.drawn:=by
 unfold waitingAt at h
 split at h
 ·split at h
  ·cases h;exact Nat.le_refl _
  ·cases h
 ·cases h;exact Nat.le_refl _
theorem zi2 (p:Program)(rest:Rest)(gs:Array Goroutine)(i:Nat)(g:Goroutine)(FF:Array CommCase)(yt:Bool)(shape:CommShape)(w:W8):sOk w.drawn (communicate p rest gs i g FF yt shape w).1:=by
 unfold communicate;simp only
 repeat' split
 all_goals first
  | exact xS
  | exact xX L9
  | (have h:=vJ ‹Sem.run _ _ _=Result.ok _ _›;exact xX h)
  | (have h:=zm6 ‹waitingAt _ _ _=some _›;exact xX h)
  | (have h1:=vJ ‹Sem.run _ _ _=Result.ok _ _›;have h2:=vE ‹Sem.run _ _ _=Result.halt _ _›;exact xX (Nat.le_trans h1 h2))
  | (have h1:=vJ ‹Sem.run _ _ w=Result.ok _ _›;have h2:=vJ ‹Sem.run _ (choose _) _=Result.ok _ _›;exact xX (Nat.le_trans h1 h2))
theorem zi9 (p:Program)(gs:Array Goroutine)(rest:Rest)(w:W8):sOk w.drawn (look p gs rest w):=by
 unfold look;simp only
 repeat' split
 all_goals first
  | exact xS
  | exact xX L9
  | (have h:=vJ ‹Sem.run _ _ w=Result.ok _ _›;exact xX h)
theorem zu6 (p:Program)(m:Machine)(k:Nat):sOk m.world.drawn (serve p m k):=by
 unfold serve;simp only
 repeat' split
 all_goals first
  | exact xS
  | exact xX L9
  | (have h:=vJ ‹Sem.run _ _ _=Result.ok _ _›;exact xX h)
theorem zt1 (w:W8)(c:Nat):(drain w c).2.drawn=w.drawn:=by
 unfold drain
 split <;> rfl
theorem zjz (m:Machine)(k:Nat)(t:Timer)(a b:Nat):(retime m k t a b).2.world.drawn=m.world.drawn:=by
 unfold retime;simp only
 split
 ·exact zt1 _ _
 ·rfl
variable {m':Machine}
theorem zsb (h:timerOp.opened m a=some m'):m.world.drawn<=m'.world.drawn:=by
 unfold timerOp.opened at h
 split at h
 ·split at h
  ·cases h;exact Nat.le_refl _
  ·cases h
 ·cases h;exact Nat.le_refl _
theorem zp9 {op:TimerOp}(h:timerOp m op=.ok (v,m')):m.world.drawn<=m'.world.drawn:=by
 unfold timerOp timerOp.named at h
 repeat' split at h
 all_goals first
  | (cases h;done)
  | (cases h;exact Nat.le_refl _)
  | (have e:=congrArg (λ x=>(Prod.snd x).world.drawn) (Except.ok.inj h);simp only[zjz] at e;exact Nat.le_of_eq e)
  | (have h1:=zsb ‹timerOp.opened _ _=some _›;have e:=congrArg (λ x=>(Prod.snd x).world.drawn) (Except.ok.inj h);simp only[zjz] at e;exact Nat.le_trans h1 (Nat.le_of_eq e))
theorem zms (p:Program)(m:Machine)(i:Nat)(listen:Bool):sOk m.world.drawn (runT p m i listen).1:=by
 unfold runT;simp only;have h:=zu7 p (i==0) (m.gs.swapAt! i { (default:Goroutine) with status:=.finished }).1 m.world listen;generalize stepG p (i==0) _ m.world listen=s at h ⊢
 cases s with
 | ended o w es=>exact xS
 | comm g cs b sh w es=>exact λ m' e=>Nat.le_trans h (zi2 _ _ _ _ _ _ _ _ _ m' e)
 | go g w es=>exact xX h
 | spawn g c w es=>exact xX h
 | count g w es=>
  simp only
  split
  ·exact xS
  ·exact xX h
 | alone g on w es=>exact xX h
 | collect g w es=>exact λ m' e=>Nat.le_trans h (zi9 _ _ _ _ m' e)
 | watch g w es=>exact xX h
 | newcoro g c d w es=>exact xX h
 | coroswitch g c ex w es=>
  simp only
  split
  ·exact xX h
  ·exact xX h
  ·exact xS
 | timer g op w es=>
  simp only
  split
  ·rename_i h1;exact xX (Nat.le_trans h (zp9 h1))
  ·exact xX h
  ·exact xS
  ·exact xS
def IG (n:Nat)(v:Move):Prop:=match v with
 | .goroutine m _=>n<=m.world.drawn
 | .machine s _=>sOk n s
theorem zg7 (p:Program)(m:Machine):IG m.world.drawn (askOn p m):=by
 unfold askOn;simp only
 split
 ·exact xS
 ·rename_i h0;have h0:=vJ h0
  split
  ·exact λ m' e=>Nat.le_trans h0 (zu6 p _ _ m' e)
  ·split
   ·split
    ·exact xX h0
    ·split
     ·exact xX h0
     ·split <;> exact xS
   ·split
    ·split
     ·exact xS
     ·rename_i h1;have h1:=Nat.le_trans h0 (vJ h1)
      split
      ·exact h1
      ·split
       ·exact xS
       ·rename_i h2;exact Nat.le_trans h1 (vJ h2)
    ·split
     ·exact xS
     ·rename_i hc;have hc:=Nat.le_trans h0 (vJ hc)
      split
      ·exact xS
      ·rename_i h1;have h1:=Nat.le_trans hc (vJ h1)
       split
       ·exact h1
       ·split
        ·exact xS
        ·rename_i h2;exact Nat.le_trans h1 (vJ h2)
     ·rename_i hc;have hc:=Nat.le_trans h0 (vJ hc);exact xX hc
     ·rename_i hc;have hc:=Nat.le_trans h0 (vJ hc)
      split
      ·exact xS
      ·rename_i h1;have h1:=vJ h1;have h1:=Nat.le_trans hc h1
       split
       ·exact h1
       ·split
        ·exact xS
        ·rename_i h2;exact Nat.le_trans h1 (vJ h2)
theorem IG.mono {a b:Nat}{v:Move}(h:IG b v)(CP:a<=b):IG a v:=by
 cases v with
 | goroutine m i=>exact Nat.le_trans CP h
 | machine s ops=>exact λ m' e=>Nat.le_trans CP (h m' e)
theorem zgp (p:Program)(m:Machine):IG m.world.drawn (ask p m):=by
 unfold ask
 split
 ·split
  ·exact xS
  ·rename_i h;have h:=vJ h
   split
   ·rename_i h1;exact (zg7 p _).mono (Nat.le_trans h (zi9 _ _ _ _ _ h1))
   ·rename_i h1;exact λ m' e=>Nat.le_trans h (zi9 _ _ _ _ _ e)
  ·rename_i h;exact (zg7 p _).mono (vJ h)
 ·exact zg7 p m
theorem zyx (p:Program)(m:Machine):IG m.world.drawn (move p m):=by
 unfold move
 split
 ·split
  ·exact Nat.le_refl _
  ·exact xS
 ·split
  ·split
   ·exact Nat.le_refl _
   ·exact zgp p _
  ·exact zgp p m
theorem zzr (h:step p m=.next m'):m.world.drawn<=m'.world.drawn:=by
 have hm:=zyx p m;unfold step stepT at h
 split at h
 ·rename_i m1 i h1;rw[h1] at hm;exact Nat.le_trans hm (zms p m1 i _ m' h)
 ·rename_i s ops h1;rw[h1] at hm;exact hm m' h
theorem zol {p:Program}:∀ (n:Nat) {m m':Machine},runN p n m=.next m'->m.world.drawn<=m'.world.drawn
 | 0,m,m',h=>by rw[runN] at h;cases h;exact Nat.le_refl _
 | n+1,m,m',h=>by
  rw[runN] at h
  split at h
  ·rename_i m1 h1;exact Nat.le_trans (zzr h1) (zol n h)
  ·rename_i h1;exact absurd h (λ e=>h1 m' e)
theorem ztw {f:FuncId}{args:Array Value}{R:Ending->W8->Prop}(h:Calls p f args w R):Calls p f args w λ e w'=>R e w'/\(∀ v,e=.returned v->w.drawn<=w'.drawn):=λ cs=>by
 obtain⟨e,w',fr,h1,h2,h3⟩:=h cs;refine⟨e,w',fr,⟨h1,λ v hv=>?_⟩,h2,h3⟩;subst hv;obtain⟨n,hn⟩:=h2;exact zol n hn
end
end Go.Proofs.YtldkpahaocjdpaaGreat
