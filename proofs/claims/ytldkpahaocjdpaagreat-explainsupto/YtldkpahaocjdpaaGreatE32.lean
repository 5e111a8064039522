/-
  Fill: an atom with what its variables stand for.
-/
import Derived.Test.YtldkpahaocjdpaaGreatE31
import Derived.Deep.MidRow
import Derived.RangeFuncNested
import Derived.Deep.WholeRow
import Derived.RangeFuncBound
import Derived.RangeFuncCalls
import Derived.RangeFuncLeaves
import Derived.Shelf.Abstract
import Derived.Shelf.RegionOpen
import Derived.OwnWalkIn
import Derived.TacticsInMore
import Derived.LoopNIn
import Derived.LoopIn
import Derived.Stop.RegionWithIn
import Derived.Laws.EntriesVeiled
set_option maxHeartbeats 16000000
set_option maxRecDepth 1000000
namespace Go.Proofs.YtldkpahaocjdpaaGreat
section
open Go.RowKit
def bP (e:yR)(t:zdy):B8:=if t.1 then oj e t.2 else t.2
def xV (e:yR)(A:jZ):Th:=⟨A.p,A.ts.map (bP e)⟩
theorem z3u (L:List B8)(x:B8)(i:Nat):xW (L++[x]) i=if i=L.length then x else xW L i:=by
 unfold xW;rw[List.getElem?_append]
 split
 ·rename_i h;rw[if_neg (by omega)]
 ·rename_i h
  split
  ·rename_i h2;subst h2;simp
  ·rename_i h2;rw[List.getElem?_eq_none (by simp;omega),List.getElem?_eq_none (by omega)]
theorem zvc (p:B8)(L:List B8)(x:B8)(h:L.length<4):(zV ⟨p,L⟩).toArray.setIfInBounds (1+L.length) (.string x)=(zV ⟨p,L++[x]⟩).toArray:=by
 unfold zV;simp only[Th.p,Th.ts,z3u]
 match hl:L.length,h with
 | 0,_ | 1,_ | 2,_ | 3,_=>simp
theorem zh8:(Tryz.prog.info? 88).map (·.size)=some 5:=by kernel_rfl
theorem zez (t:Th):(zV t).toArray.all (·.oneCell')=true:=by simp[zV,.oneCell']
theorem zpe {wr:W8}{b:Nat}{p:B8}{L:List B8}(h:wr.heap[b]?=some (.cells (zV ⟨p,L⟩).toArray 88 (0,0)))(hl:L.length<4)(x:B8):(wr.setCell ⟨b,1+L.length,none⟩ (.string x)).heap[b]?=some (.cells (zV ⟨p,L++[x]⟩).toArray 88 (0,0)):=by
 rw[setCell_eq_setRow wr b _ _ _ (0,0) _ h,zvc p L x hl];exact setRow_heap _ _ _ _ _ _ h
def z59 (w:W8)(t:Th)(en:Ending)(w':W8):Prop:=Below w.heap.size w w'/\en=.returned (thV t)
theorem zmg (w:W8)(base:Nat)(e:yR)(A:jZ)(a:O8)(c:Nat)(h:w.ownsRow base 191 1 (.slice a A.ts.length c) A.ts.length (A.ts.map zc3))(h4:A.ts.length<=4)(hl:e.length<=12):
  Calls Tryz.prog 146 #[zav e,.agg #[.string A.p,.slice a A.ts.length c]] w (z59 w (xV e A)):=by
 obtain⟨cs,ij⟩:∃ cs,cs=(yQ e).toArray:=⟨_,rfl⟩;have DS:=zC ij;unfold zav;rw[<-ij];clear ij;have H:=zC h;clear h;have q0:cs.size=25:=by rw[zA DS];rfl
 have a1:=zkz;have a2:=zi1;have a3:=zky;go_enter Tryz.func146,Tryz.ntmps146;go_upto_region 2 with fail;generalize bC:World.alloc (World.alloc (World.alloc (World.alloc w _) _) _) _=w0;have k0:Below w.heap.size w w0:=by
  rw[<-bC];exact ((((Below.refl w.heap.size w).alloc L9 _).alloc (by simp) _).alloc (by simp only[World.size_alloc];omega) _).alloc (by simp only[World.size_alloc];omega) _
 have x0:w0.heap[w.heap.size]?=some (.cells cs 135 (0,0)):=by
  rw[<-bC,Below.heap_alloc _ _ _ (by simp only[World.size_alloc];omega),Below.heap_alloc _ _ _ (by simp only[World.size_alloc];omega),Below.heap_alloc _ _ _ (by simp)];exact heap_alloc_new w _
 have x1:w0.heap[w.heap.size+1]?=some (.cells #[.string A.p,.slice a A.ts.length c] 79 (0,0)):=by
  rw[<-bC,Below.heap_alloc _ _ _ (by simp only[World.size_alloc];omega),Below.heap_alloc _ _ _ (by simp)];have:=heap_alloc_new (w.alloc (.cells cs 135)) (.cells #[.string A.p,.slice a A.ts.length c] 79);rw[World.size_alloc] at this;exact this
 have x2:w0.heap[w.heap.size+1+1]?=some (.cells (zV ⟨{ data:=#[] },[]⟩).toArray 88 (0,0)):=by
  rw[<-bC,Below.heap_alloc _ _ _ (by simp)];have:=heap_alloc_new ((w.alloc (.cells cs 135)).alloc (.cells #[.string A.p,.slice a A.ts.length c] 79)) (.cells (zV ⟨{ data:=#[] },[]⟩).toArray 88);rw[World.size_alloc,World.size_alloc] at this;exact this
 have x3:w0.heap[w.heap.size+1+1+1]?=some (.cells (zV ⟨A.p,[]⟩).toArray 88 (0,0)):=by
  rw[<-bC];have:=heap_alloc_new (((w.alloc (.cells cs 135)).alloc (.cells #[.string A.p,.slice a A.ts.length c] 79)).alloc (.cells (zV ⟨{ data:=#[] },[]⟩).toArray 88)) (.cells (zV ⟨A.p,[]⟩).toArray 88);rw[World.size_alloc,World.size_alloc,World.size_alloc] at this;exact this
 have s0:w.heap.size+1+1+1+1=w0.heap.size:=by rw[<-bC];simp
 have b0:j0 w0 w.heap.size e:=j0.of (by rw[x0,zA DS]);have fu:=zZ (zA H) (λ g e=>k0.block g ((zA H).lt g e).2);have HG:=zC (λ g (e1:(Value.slice a A.ts.length c).ownBlock=some g)=>((zA H).lt g e1).2);clear bC H;have ou:=zC b0;have lV:=zC s0;have FA:=zC x3;have JD:=zC x2;have py:=zC fu;have dr:=zC k0;obtain⟨p1,-⟩:=zB x1 1;have yp:=zC x1;clear x0 x1 x2 x3 b0 fu k0 s0;go_wp2_with fail
 go_loopg [16] A.ts.length (λ gg i wr=>∃ (k:Nat) (L:List B8),k<=A.ts.length/\gg=A.ts.length-k/\i=.int .i64 k/\L=(A.ts.take k).map (bP e)/\wr.heap[w.heap.size+1+1+1]?=some (.cells (zV ⟨A.p,L⟩).toArray 88 (0,0))/\zK [w.heap.size+1+1+1] w0 wr)
 exact⟨0,[],Nat.zero_le _,rfl,rfl,rfl,zA FA,zK.refl _ _⟩
 case round=>
  obtain⟨k,L,hk,eD,rfl,hL,hx,dX⟩:=hrel;have hZ:L.length=k:=by rw[hL];simp;omega
  have EO:=zA lV;have rR:=zC (show Below w.heap.size w wr from ⟨dX.os.trans (zA dr).os,dX.tape.trans (zA dr).tape,dX.output.trans (zA dr).output,Nat.le_trans (zA dr).size dX.size,λ i hi=>(dX.block i (by omega) (by simp;omega)).trans ((zA dr).block i hi)⟩);have HX:=zC hx;have ow:=zC dX;have HL:=zC hL;have BY:=zC hZ
  by_cases aF:k<A.ts.length
  ·obtain⟨g,rfl,xi,bO,bQ,hc⟩:=zu9 (zA py) k aF;have jg:=zA HG g rfl;have gY:wr.cell? ⟨g,k,none⟩=some (zc3 A.ts[k]):=((zA ow).cell (p:=⟨g,k,none⟩) xi (by simp;omega)).trans hc;have uK:=zC ((zA ou).block (dX.block _ (by omega) (by simp;omega)));obtain⟨cd,Im⟩:=zB hx (1+k);replace cd:wr.cell? ⟨w.heap.size+1+1+1,1+k,none⟩=some (.string (xW L k)):=by
    rw[cd,List.getElem?_toArray];exact zdg ⟨A.p,L⟩ (by omega)
   have nu:(k:Int)<A.ts.length:=(by omega);have my:(1+k:Int)<5:=(by omega);have dB:=zC (show (A.ts.take (k+1)).map (bP e)=L++[bP e A.ts[k]] by rw[List.take_succ_eq_append_getElem aF,List.map_append,zA HL];rfl);clear hc EO hx dX hL hZ
   cases hv:A.ts[k].1 with
   | false=>
    have HF:=zC (show bP e A.ts[k]=A.ts[k].2 by unfold bP;rw[hv];rfl);have nS:wr.cell? ⟨g,k,none⟩=some (.iface 193 (.string A.ts[k].2)):=(by rw[gY];unfold zc3;rw[hv];rfl);clear gY;go_wp2_with fail;go_roundg (A.ts.length-(k+1))
    case measure=>omega
    case rel=>
     have:=zpe (zA HX) (by rw[zA BY];omega) A.ts[k].2;rw[zA BY] at this;exact⟨k+1,L++[A.ts[k].2],by omega,rfl,by go_num,by rw[zA dB,zA HF],this,(zA ow).setCell (by simp) _⟩
   | true=>
    have HF:=zC (show bP e A.ts[k]=oj e A.ts[k].2 by unfold bP;rw[hv];rfl);have nS:wr.cell? ⟨g,k,none⟩=some (.iface 130 (.string A.ts[k].2)):=(by rw[gY];unfold zc3;rw[hv];rfl);have HN:=zC (zsk wr w.heap.size e A.ts[k].2 (zA uK).cells hl);clear gY;go_wp2_with (go_at_call 201;refine (zA HN).mono ?_;rintro en w1 ⟨rfl,dY⟩;subst dY);go_roundg (A.ts.length-(k+1))
    case measure=>omega
    case rel=>
     have:=zpe (zA HX) (by rw[zA BY];omega) (oj e A.ts[k].2);rw[zA BY] at this;exact⟨k+1,L++[oj e A.ts[k].2],by omega,rfl,by go_num,by rw[zA dB,zA HF],this,(zA ow).setCell (by simp) _⟩
  ·have HE:=zC (show (⟨A.p,L⟩:Th)=xV e A by unfold xV;rw[hL,List.take_of_length_le (by omega)]);have yq:=zC ((dX.block (w.heap.size+1+1) (by omega) (by simp)).trans (zA JD));clear EO hx dX hL hZ;go_wp2_with (first | (refine wpList_load_row rfl 88 _ rfl _ rfl _ _ _ _ (zA HX) Tryz.underlying88 rfl (by rw[zh8];rfl) ?_) | (refine wpList_store_row rfl 88 _ _ rfl _ _ rfl rfl _ _ (zA yq) (by rw[zh8];rfl) rfl (zez _) ?_) | fail);refine bodyPost_ret (v:=thV ⟨A.p,L⟩) (results_cell_row Tryz.results146 _ _ _ _ _ _ _ rfl (setRow_heap _ _ _ _ _ _ (zA yq)) Tryz.underlying88 rfl (by rw[zh8];rfl)) rfl ?_;exact⟨xN (zA rR) (by omega) _,by rw[zA HE]⟩
end
section
open Go.RowKit
structure qH (No:Nat->Prop)(w w':W8):Prop where
 os:w'.os=w.os
 tape:w'.tape=w.tape
 output:w'.output=w.output
 size:w.heap.size<=w'.heap.size
 same:∀ (k:Nat) (o:Obj),w.heap[k]?=some o->¬ No k->(o.isCells=true\/o.isWalk=true)->w'.heap[k]?=some o
theorem qH.refl (No:Nat->Prop)(w:W8):qH No w w:=⟨rfl,rfl,rfl,Nat.le_refl _,λ _ _ h _ _=>h⟩
theorem qH.trans {No:Nat->Prop}{a b c:W8}(h:qH No a b)(k:qH No b c):qH No a c:=
 ⟨k.os.trans h.os,k.tape.trans h.tape,k.output.trans h.output,Nat.le_trans h.size k.size,λ i o hi hn ho=>k.same i o (h.same i o hi hn ho) hn ho⟩
variable {w w':W8} {No:Nat->Prop}
theorem qH.ak (k:Below w.heap.size w w'):qH No w w':=
 ⟨k.os,k.tape,k.output,k.size,λ i _ hi _ _=>(k.block i (Array.getElem?_eq_some_iff.1 hi).1).trans hi⟩
theorem qH.grown {a:W8}{row:Option Nat}(h:qH No a w)(hg:w.grownBy w' row)(hr:∀ r,row=some r->a.heap.size<=r\/No r):qH No a w':=
 ⟨hg.os.trans h.os,hg.tape.trans h.tape,hg.output.trans h.output,Nat.le_trans h.size hg.size,λ i o hi hn ho=>by
  have h1:=h.same i o hi hn ho;refine (hg.block i (Array.getElem?_eq_some_iff.1 h1).1 λ e=>?_).trans h1;rcases hr i e.symm with h2 | h2
  ·have:=(Array.getElem?_eq_some_iff.1 hi).1;omega
  ·exact hn h2⟩
theorem qH.alloc {a:W8}(h:qH No a w)(o:Obj):qH No a (w.alloc o):=h.grown (World.grownBy_alloc w o none) (λ _ e=>by cases e)
variable {b:Nat}
theorem qH.cells (h:qH No w w'){cs:Array Value}{t:TypeId}{fr:Nat × Nat}(hb:w.heap[b]?=some (.cells cs t fr))(hn:¬ No b):w'.heap[b]?=some (.cells cs t fr):=h.same b _ hb hn (.inl rfl)
theorem qH.map (h:qH No w w'){L:List (Th × Nat)}(hb:qR w b L)(hn:¬ No b):qR w' b L:=by
 obtain⟨es,c,h1⟩:=hb.isMap;exact hb.block ((h.same b _ h1 hn (.inr rfl)).trans h1.symm)
variable {v:Value}
theorem qH.row (h:qH No w w'){base:Nat}{e:TypeId}{size n:Nat}{xs:V8}(hr:w.ownsRow base e size v n xs)(hn:∀ g,v.ownBlock=some g->¬ No g):w'.ownsRow base e size v n xs:=by
 refine zZ hr λ g hg=>?_
 rcases hr.2 with⟨h0,_⟩ | ⟨g',cap,cur,rfl,hb,nE,_⟩
 ·rw[h0] at hg;cases hg
 ·have e:g'=g:=by simpa[Value.ownBlock] using hg
  subst e;exact (h.same _ _ nE (hn _ hg) (.inl rfl)).trans nE.symm
def zk1 (x:jZ × Value):V8:=[.string x.1.p,x.2]
structure j1 (No:Nat->Prop)(w:W8)(v:Value)(As:List (jZ × Value)):Prop where
 row:∃ base,w.ownsRow base 79 2 v As.length (As.flatMap zk1)
 ae:∀ x∈As,∃ base,w.ownsRow base 191 1 x.2 x.1.ts.length (x.1.ts.map zc3)
 ap:∀ g,v.ownBlock=some g->¬ No g
 O7:∀ x∈As,∀ g,x.2.ownBlock=some g->¬ No g
 eJ:∀ x∈As,x.1.ts.length<=4
theorem j1.kZ {As:List (jZ × Value)}(h:j1 No w v As)(k:qH No w w'):j1 No w' v As:=
 ⟨let ⟨b,hb⟩:=h.row;⟨b,k.row hb h.ap⟩,λ x hx=>let ⟨b,hb⟩:=h.ae x hx;⟨b,k.row hb (h.O7 x hx)⟩,h.ap,h.O7,h.eJ⟩
structure Hj (No:Nat->Prop)(w:W8)(sb mb l:Nat)(pos neg:List (jZ × Value))(pv nv:Value)(K:List (Th × Nat)):Prop where
 s:w.heap[sb]?=some (.cells #[pv,nv,.map (some mb),.func (.yield l) #[] #[]] 361 (0,0))
 ns:¬ No sb
 p:j1 No w pv pos
 n:j1 No w nv neg
 m:qR w mb K
 nm:¬ No mb
 p3:pos.length<=3
theorem Hj.kZ {No:Nat->Prop}{w w':W8}{sb mb l:Nat}{pos neg:List (jZ × Value)}{pv nv:Value}{K:List (Th × Nat)}(h:Hj No w sb mb l pos neg pv nv K)(k:qH No w w'):Hj No w' sb mb l pos neg pv nv K:=
 ⟨k.cells h.s h.ns,h.ns,h.p.kZ k,h.n.kZ k,k.map h.m h.nm,h.nm,h.p3⟩
def j6 (K:List (Th × Nat))(neg:List jZ)(e:yR):Bool:=neg.any λ x=>(yS K (xV e x)).isSome
def yD (K:List (Th × Nat)):List jZ->yR->List yR
 | [],e=>[e]
 | a::r,e=>K.flatMap λ t=>match xG e a t.1 with
  | some e'=>yD K r e'
  | none=>[]
def zbe (K:List (Th × Nat))(neg pos:List jZ)(e:yR):List yR:=(yD K pos e).filter λ x=>!j6 K neg x
end
section
open Go.RowKit
def BV (w:W8)(b:Nat)(e:yR):Prop:=w.heap[b]?=some (.cells (yQ e).toArray 135 (0,0))
noncomputable def ztv (v:Value):Sem Value:=Instr.loadAt 135 v
noncomputable def zvq (p v:Value):Sem Unit:=Instr.storeAt 135 p v
noncomputable def yaq:Sem Value:=zeroValue 135
theorem zcf (v:Value):Instr.loadAt 135 v=ztv v:=rfl
theorem zba (p v:Value):Instr.storeAt 135 p v=zvq p v:=rfl
theorem zxf:zeroValue 135=yaq:=rfl
theorem zsv (w:W8):yaq.run Tryz.prog w=.ok (zav []) w:=by unfold yaq;kernel_rfl
theorem j2 (e:yR):(zav e).cells=(yQ e).toArray:=rfl
variable {e:yR} {b:Nat} {w:W8}
theorem BV.load (h:BV w b e):(ztv (.pointer (some ⟨b,0,none⟩))).run Tryz.prog w=.ok (zav e) w:=by
 unfold ztv Instr.loadAt Instr.sureAddr;simp only[Sem.run_bind,Sem.run_pure,Result.andThen_ok];exact run_loadVar_row w b _ 135 _ _ _ h Tryz.underlying135 rfl (by rw[zen];rfl)
theorem BV.store (h:BV w b e)(e':yR):(zvq (.pointer (some ⟨b,0,none⟩)) (zav e')).run Tryz.prog w=.ok () (w.setRow b (yQ e').toArray):=by
 unfold zvq Instr.storeAt Instr.sureAddr;simp only[Sem.run_bind,Sem.run_pure,Result.andThen_ok];exact run_storeVar_row w b _ 135 _ _ h (by rw[zen];rfl) rfl (zca e')
theorem BV.new (w:W8)(e:yR):BV (w.alloc (.cells (yQ e).toArray 135)) w.heap.size e:=heap_alloc_new w _
theorem qS (w:W8)(e e':yR):(zvq (.pointer (some ⟨w.heap.size,0,none⟩)) (zav e')).run Tryz.prog (w.alloc (.cells (yQ e).toArray 135))=.ok () (w.alloc (.cells (yQ e').toArray 135)):=by
 rw[(BV.new w e).store e',World.setRow_alloc_new]
theorem BV.lt (h:BV w b e):b<w.heap.size:=(Array.getElem?_eq_some_iff.1 h).1
theorem BV.alloc (h:BV w b e)(o:Obj):BV (w.alloc o) b e:=(Below.heap_alloc w o b h.lt).trans h
variable {w':W8}
theorem BV.below (h:BV w b e)(k:Below w.heap.size w w'):BV w' b e:=(k.block b h.lt).trans h
theorem z0e:BV w.drew b e↔BV w b e:=Iff.rfl
theorem BV.kZ {No:Nat->Prop}(h:BV w b e)(k:qH No w w')(hn:¬ No b):BV w' b e:=k.cells h hn
def TV (w:W8)(b:Nat)(t:Th):Prop:=w.heap[b]?=some (.cells (zV t).toArray 88 (0,0))
noncomputable def zmx (v:Value):Sem Value:=Instr.loadAt 88 v
noncomputable def zs3 (p v:Value):Sem Unit:=Instr.storeAt 88 p v
noncomputable def ydx:Sem Value:=zeroValue 88
theorem zbb (v:Value):Instr.loadAt 88 v=zmx v:=rfl
theorem qQ (p v:Value):Instr.storeAt 88 p v=zs3 p v:=rfl
theorem z4w (w:W8):ydx.run Tryz.prog w=.ok (thV ({ data:=#[] },[])) w:=by unfold ydx;kernel_rfl
theorem qO (t:Th):(thV t).cells=(zV t).toArray:=rfl
variable {t:Th}
theorem TV.load (h:TV w b t):(zmx (.pointer (some ⟨b,0,none⟩))).run Tryz.prog w=.ok (thV t) w:=by
 unfold zmx Instr.loadAt Instr.sureAddr;simp only[Sem.run_bind,Sem.run_pure,Result.andThen_ok];exact run_loadVar_row w b _ 88 _ _ _ h Tryz.underlying88 rfl (by rw[zh8];rfl)
theorem TV.store (h:TV w b t)(t':Th):(zs3 (.pointer (some ⟨b,0,none⟩)) (thV t')).run Tryz.prog w=.ok () (w.setRow b (zV t').toArray):=by
 unfold zs3 Instr.storeAt Instr.sureAddr;simp only[Sem.run_bind,Sem.run_pure,Result.andThen_ok];exact run_storeVar_row w b _ 88 _ _ h (by rw[zh8];rfl) rfl (zez t')
theorem TV.new (w:W8)(t:Th):TV (w.alloc (.cells (zV t).toArray 88)) w.heap.size t:=heap_alloc_new w _
theorem jY (w:W8)(t t':Th):(zs3 (.pointer (some ⟨w.heap.size,0,none⟩)) (thV t')).run Tryz.prog (w.alloc (.cells (zV t).toArray 88))=.ok () (w.alloc (.cells (zV t').toArray 88)):=by
 rw[(TV.new w t).store t',World.setRow_alloc_new]
theorem TV.lt (h:TV w b t):b<w.heap.size:=(Array.getElem?_eq_some_iff.1 h).1
theorem TV.alloc (h:TV w b t)(o:Obj):TV (w.alloc o) b t:=(Below.heap_alloc w o b h.lt).trans h
theorem TV.below (h:TV w b t)(k:Below w.heap.size w w'):TV w' b t:=(k.block b h.lt).trans h
noncomputable def z49 (h:Bool)(v:Value):Sem Value:=Instr.alloc 88 h v
theorem qP (h:Bool)(v:Value):Instr.alloc 88 h v=z49 h v:=rfl
theorem jX (w:W8)(v:Value):(z49 true v).run Tryz.prog w=.ok (.pointer (some ⟨w.heap.size,0,none⟩)) (w.alloc (.cells (zV ({ data:=#[] },[])).toArray 88)):=by
 unfold z49;simp[Instr.alloc,newVar,newRow,go_sem,zV,xW,Th.p,Th.ts]
noncomputable def z1e (h:Bool)(v:Value):Sem Value:=Instr.alloc 135 h v
theorem zc1 (h:Bool)(v:Value):Instr.alloc 135 h v=z1e h v:=rfl
theorem zbo (w:W8)(v:Value):(z1e true v).run Tryz.prog w=.ok (.pointer (some ⟨w.heap.size,0,none⟩)) (w.alloc (.cells (yQ []).toArray 135)):=by
 unfold z1e;simp[Instr.alloc,newVar,newRow,go_sem,yQ,eAt]
theorem zf3 {w1 w4:W8}(h:Below w.heap.size w w1)(h4:Below w1.drew.heap.size w1.drew w4):Below w.heap.size w w4:=h.trans ((⟨h4.os,h4.tape,h4.output,h4.size,h4.block⟩:Below w1.heap.size w1 w4).mono h.size)
theorem yA (h:Below w.drew.heap.size w.drew w'):Below w.heap.size w w':=⟨h.os,h.tape,h.output,h.size,h.block⟩
end
section
open Go.RowKit
attribute [local go_sem ↓] zcf zba zxf
attribute [local go_sem] j2 qS zsv
theorem zo4 (x:jZ × Value):(zk1 x).length=2:=rfl
theorem zx5 (No:Nat->Prop)(w:W8)(sb mb l:Nat)(pos neg:List (jZ × Value))(pv nv:Value)(K:List (Th × Nat))(h:Hj No w sb mb l pos neg pv nv K)(e:yR)(hl:e.length<=12)(bR:∀ x∈neg,zdu (xV e x.1)):
  Calls Tryz.prog 248 #[.pointer (some ⟨sb,0,none⟩),zav e] w λ en w'=>en=.returned (.bool (j6 K (neg.map (·.1)) e))/\Below w.heap.size w w':=by
 obtain⟨cs,ij⟩:∃ cs,cs=(yQ e).toArray:=⟨_,rfl⟩;have DS:=zC ij;unfold zav;rw[<-ij];clear ij;obtain⟨base,aB⟩:=h.n.row;obtain⟨an,cn,rfl⟩:=zD aB;have gR:=yU aB;unfold maxLen at gR;have gC:=zC aB;have EC:=(Array.getElem?_eq_some_iff.1 h.s).1;have Jr:=zC EC;have H:=zC h;have iN:=zC bR;have q0:cs.size=25:=by rw[zA DS];rfl
 clear h aB bR EC;go_enter Tryz.func248,Tryz.ntmps248;go_upto_region 1 with fail;generalize bC:World.alloc w _=w0;have k0:Below w.heap.size w w0:=by rw[<-bC];exact (Below.refl w.heap.size w).alloc L9 _
 have x0:w0.heap[w.heap.size]?=some (.cells cs 135 (0,0)):=by rw[<-bC];exact heap_alloc_new w _
 have s0:w.heap.size+1=w0.heap.size:=by rw[<-bC];simp
 have ri:w0.heap[sb]?=some (.cells #[pv,.slice an neg.length cn,.map (some mb),.func (.yield l) #[] #[]] 361 (0,0)):=(k0.block sb (zA Jr)).trans (zA H).s;have fu:=zZ (zA gC) (λ g e=>k0.block g ((zA gC).lt g e).2);clear bC;obtain⟨c1,-⟩:=zB ri 1;have rT:=zC x0;have HS:=zC ri;have dr:=zC k0;have py:=zC fu;clear x0 ri k0 fu;go_wp2_with fail
 go_loopg [14] neg.length (λ gg i wr=>∃ k:Nat,k<=neg.length/\gg=neg.length-k/\i=.int .i64 k/\j6 K ((neg.drop k).map (·.1)) e=j6 K (neg.map (·.1)) e/\Below w0.heap.size w0 wr)
 exact⟨0,Nat.zero_le _,rfl,rfl,rfl,Below.refl _ _⟩
 case round=>
  obtain⟨k,hk,eD,rfl,aE,hb⟩:=hrel;have HF:=zC aE;have HB:=zC hb;have sz:=hb.size;have eo:Below w.heap.size w wr:=(zA dr).trans (hb.mono (by omega));have uK:=zC eo;clear aE hb eo
  by_cases aF:k<neg.length
  ·obtain⟨g,cap,hv,iF,aZ,bO,bQ,hc⟩:=vX zo4 (zA py) k aF;injection hv with h1 h2 h3
   subst h1 h3;have d0:=hc 0 (by omega);have d1:=hc 1 (by omega);have hx:neg[k]∈neg:=List.getElem_mem aF;obtain⟨tb,lN⟩:=(zA H).n.ae _ hx;obtain⟨ta,tc,AR⟩:=zD lN;have kN:=(zA H).n.eJ _ hx;obtain⟨D,hD⟩:∃ D,D=neg[k].1:=⟨_,rfl⟩;have vr:w.ownsRow tb 191 1 (.slice ta D.ts.length tc) D.ts.length (D.ts.map zc3):=(by rw[hD,<-AR];exact lN);have e0:wr.cell? ⟨g,k*2+0,none⟩=some (.string D.p):=by
    rw[hD];exact ((zA HB).cell (p:=⟨g,k*2+0,none⟩) aZ).trans (hc 0 (by omega))
   have e1:wr.cell? ⟨g,k*2+1,none⟩=some (.slice ta D.ts.length tc):=by
    rw[hD,<-AR];exact ((zA HB).cell (p:=⟨g,k*2+1,none⟩) aZ).trans (hc 1 (by omega))
   have Hx:=zC vr;have uk:=zC (show j6 K ((neg.drop k).map (·.1)) e=((yS K (xV e D)).isSome||j6 K ((neg.drop (k+1)).map (·.1)) e) by rw[List.drop_eq_getElem_cons aF,hD];rfl);have Jv:=zC (show zdu (xV e D) by rw[hD];exact zA iN _ hx);rw[<-hD] at kN;have nu:(k:Int)<neg.length:=(by omega);rw[Nat.add_zero] at e0;clear hc d0 d1 lN AR vr hx hD;go_upto_region 4 with fail;generalize xo:World.alloc wr _=w3;have k3:Below wr.heap.size wr w3:=(by rw[<-xo];exact (Below.refl wr.heap.size wr).alloc L9 _);have s3:wr.heap.size+1=w3.heap.size:=(by rw[<-xo];simp);have b3:Below w.heap.size w w3:=(zA uK).trans (k3.mono (by omega));have JL:Below w0.heap.size w0 w3:=(zA HB).trans (k3.mono (by omega));obtain⟨a0,-⟩:=zB (show w3.heap[wr.heap.size]?=some (.cells #[.string D.p,.slice ta D.ts.length tc] 79 (0,0)) by rw[<-xo];exact heap_alloc_new wr _) 0;obtain⟨a1,-⟩:=zB (show w3.heap[wr.heap.size]?=some (.cells #[.string D.p,.slice ta D.ts.length tc] 79 (0,0)) by rw[<-xo];exact heap_alloc_new wr _) 1;obtain⟨a2,-⟩:=zB ((JL.block sb (by have:=zA Jr;omega)).trans (zA HS)) 2;have r0:BV w3 w.heap.size e:=(by unfold BV;rw[<-zA DS];exact (JL.block _ (by omega)).trans (zA rT));have Iq:∀ w':W8,BV w' w.heap.size e->(ztv (.pointer (some ⟨w.heap.size,0,none⟩))).run Tryz.prog w'=.ok (zav e) w':=λ _ h=>h.load
   simp only[List.getElem?_toArray,List.getElem?_cons_zero,List.getElem?_cons_succ] at a0 a1 a2;have Lx:=zA Jr;have CA:=zC (λ (W:W8) (hW:Below w3.heap.size w3 W)=>(zA H).m.block ((hW.block mb (by have:=(zA H).m.lt;omega)).trans (b3.block mb (zA H).m.lt)));have lJ:=zC (λ (W:W8) (hW:Below w3.heap.size w3 W)=>(zmg W tb e D ta tc (zZ (zA Hx) (λ g e1=>(hW.block g (by have:=((zA Hx).lt g e1).2;omega)).trans (b3.block g ((zA Hx).lt g e1).2))) kN hl));have HA:=zC (λ (W:W8) (hW:Below w3.heap.size w3 W)=>(show BV W w.heap.size e/\W.cell? ⟨sb,2,none⟩=some (.map (some mb))/\W.cell? ⟨wr.heap.size,0,none⟩=some (.string D.p)/\W.cell? ⟨wr.heap.size,1,none⟩=some (.slice ta D.ts.length tc) from ⟨r0.below hW,(hW.cell (p:=⟨sb,2,none⟩) (by simp only[];omega)).trans a2,(hW.cell (p:=⟨wr.heap.size,0,none⟩) (by simp only[];omega)).trans a0,(hW.cell (p:=⟨wr.heap.size,1,none⟩) (by simp only[];omega)).trans a1⟩));have yg:=zC b3;have IY:=zC JL;have HS3:=zC s3;clear xo k3 s3 b3 JL e0 e1 c1 q0 s0 sz
   cases hq:(yS K (xV e D)).isSome with
   | true=>
    have HE:=zC (show j6 K (neg.map (·.1)) e=true by rw[<-zA HF,zA uk,hq];rfl);have HQ:=zC hq;have Fp:=zC (λ (W:W8) (hW:Below w3.heap.size w3 W)=>(show (Instr.lookup 82 (.map (some mb)) (thV (xV e D)) true).run Tryz.prog W=.ok (.tuple #[.int .i64 (((yS K (xV e D)).getD 0:Nat):Int),.bool true]) W from by have:=(zA CA W hW).look (t:=xV e D) (zA Jv) Tryz.underlying82;rw[hq] at this;exact this));clear hq
    go_region_held3 (λ w'=>BV w' w.heap.size e/\w'.cell? ⟨sb,2,none⟩=some (.map (some mb))/\w'.cell? ⟨wr.heap.size,0,none⟩=some (.string D.p)/\w'.cell? ⟨wr.heap.size,1,none⟩=some (.slice ta D.ts.length tc)) ((simp[*,z0e])) ((first | (go_at_call 146;refine (zA lJ _ (by exact B9.drew)).mono ?_;rintro en w4 ⟨bZ,rfl⟩;have uu:=zA HA w4 (yA bZ);have Qi:=zA Fp w4 (yA bZ);have iM:=zC (yA bZ);clear bZ)))
    go_wp2_with fail;go_ret;exact⟨by rw[zA HE];rfl,(zA yg).trans ((zA iM).mono (by exact (zA yg).size))⟩
   | false=>
    have HE:=zC (show j6 K ((neg.drop (k+1)).map (·.1)) e=j6 K (neg.map (·.1)) e by rw[<-zA HF,zA uk,hq];rfl);have HQ:=zC hq;have Fp:=zC (λ (W:W8) (hW:Below w3.heap.size w3 W)=>(show (Instr.lookup 82 (.map (some mb)) (thV (xV e D)) true).run Tryz.prog W=.ok (.tuple #[.int .i64 (((yS K (xV e D)).getD 0:Nat):Int),.bool false]) W from by have:=(zA CA W hW).look (t:=xV e D) (zA Jv) Tryz.underlying82;rw[hq] at this;exact this));clear hq
    go_region_held3 (λ w'=>BV w' w.heap.size e/\w'.cell? ⟨sb,2,none⟩=some (.map (some mb))/\w'.cell? ⟨wr.heap.size,0,none⟩=some (.string D.p)/\w'.cell? ⟨wr.heap.size,1,none⟩=some (.slice ta D.ts.length tc)) ((simp[*,z0e])) ((first | (go_at_call 146;refine (zA lJ _ (by exact B9.drew)).mono ?_;rintro en w4 ⟨bZ,rfl⟩;have uu:=zA HA w4 (yA bZ);have Qi:=zA Fp w4 (yA bZ);have iM:=zC (yA bZ);clear bZ)))
    go_wp2_with fail;go_roundg (neg.length-(k+1));exact⟨k+1,by omega,rfl,by go_num,zA HE,(zA IY).trans ((zA iM).mono (zA IY).size)⟩;omega
  ·have HE:=zC (show j6 K (neg.map (·.1)) e=false by rw[<-zA HF,List.drop_of_length_le (by omega)];rfl);go_wp2_with fail;go_ret;exact⟨by rw[zA HE];rfl,zA uK⟩
end
section
open Go.RowKit Go.Shelf
attribute [local go_sem ↓] zcf zba zxf
attribute [local go_sem] j2 qS zsv
def z0z (No:Nat->Prop)(l N:Nat)(Qx:yR->Prop)(J Jx:List yR->W8->Prop):Prop:=
 ∀ (m:Nat) (pre:List yR) (x:yR) (W:W8),Qx x->J pre W->pre.length<N->YieldAt Fence.wide m Tryz.prog l #[zav x] W λ en W'=>
  ∃ c:Bool,en=.returned (.bool c)/\(c=true->J (pre++[x]) W'/\qH No W W')/\(c=false->Jx (pre++[x]) W')
def zvi (No:Nat->Prop)(J Jx:List yR->W8->Prop)(pre ws:List yR)(M:Nat)(w:W8)(en:Ending)(w':W8):Prop:=
 (en=.returned (.bool true)/\∃ ys,(∀ x,x∈ys↔x∈ws)/\ys.length<=M/\J (pre++ys) w'/\qH No w w')\/(en=.returned (.bool false)/\∃ ys,(∀ x∈ys,x∈ws)/\Jx (pre++ys) w')
theorem zap {B:Nat}{J:List yR->W8->Prop}(hJ:AbidesFrom B J){s:List yR}{w w':W8}(h:J s w)(k:Below w.heap.size w w'):J s w':=
 hJ s w w' none h ⟨k.os,k.tape,k.output,k.size,λ i hi _=>k.block i hi⟩ (λ _ e=>by cases e)
theorem z2d (No:Nat->Prop)(w:W8)(sb mb l:Nat)(pos neg:List (jZ × Value))(pv nv:Value)(K:List (Th × Nat))(h:Hj No w sb mb l pos neg pv nv K)(e:yR)(hl:e.length<=12)(bR:∀ x∈neg,zdu (xV e x.1))
  (Qx:yR->Prop) (hq:∀ x∈zbe K (neg.map (·.1)) [] e,Qx x) (J Jx:List yR->W8->Prop) (B N:Nat) (hJ:AbidesFrom B J) (hY:z0z No l N Qx J Jx) (pre:List yR) (hp:J pre w) (hN:pre.length<N) (eY:∀ g,No g->g<w.heap.size):
  Calls Tryz.prog 234 #[.pointer (some ⟨sb,0,none⟩),.int .i64 (pos.length:Nat),zav e] w (zvi No J Jx pre (zbe K (neg.map (·.1)) [] e) 1 w):=by
 obtain⟨base,aB⟩:=h.p.row;obtain⟨an,cn,rfl⟩:=zD aB;have gR:=yU aB;unfold maxLen at gR;have EC:=(Array.getElem?_eq_some_iff.1 h.s).1;have Jr:=zC EC;have H:=zC h;have HP:=zC hp;have HY:=zC hY;have HJ:=zC hJ;have OB:=zC hN;have iN:=zC bR;have B0:=zC eY;have HQ:=zC hq;clear hq;clear h aB EC hp hY hJ hN bR eY;go_enter Tryz.func234,Tryz.ntmps234;go_upto_region 1 with fail;generalize bC:World.alloc w _=w0;have k0:Below w.heap.size w w0:=by rw[<-bC];exact (Below.refl w.heap.size w).alloc L9 _
 have x0:BV w0 w.heap.size e:=by rw[<-bC];exact BV.new w e
 have s0:w.heap.size+1=w0.heap.size:=by rw[<-bC];simp
 have zt:=(zA H).kZ (qH.ak k0);clear bC;obtain⟨c1,-⟩:=zB zt.s 0;have rT:=zC x0;have dr:=zC k0;have I4:=zC zt;have CG:=zC (zap (zA HJ) (zA HP) k0);clear zt x0 k0;go_upto_region 2 with fail;obtain⟨c3,-⟩:=zB (zA I4).s 3;have Iq:∀ w':W8,BV w' w.heap.size e->(ztv (.pointer (some ⟨w.heap.size,0,none⟩))).run Tryz.prog w'=.ok (zav e) w':=λ _ h=>h.load
 have KQ:=Iq w0.drew (zA rT);have HD:=zC (λ (W:W8) (hW:Below w0.heap.size w0 W)=>(zx5 No W sb mb l pos neg _ nv K ((zA I4).kZ (qH.ak hW)) e hl (zA iN)));have Mq:=zC (λ (W:W8) (hW:Below w0.heap.size w0 W)=>Iq W ((zA rT).below hW));have Hp:=zC (λ (W:W8) (hW:Below w0.heap.size w0 W)=>(hW.cell (p:=⟨sb,3,none⟩) (by have:=zA Jr;simp only[];omega)).trans c3);have Sa:=zC (λ (W:W8) (hW:Below w0.heap.size w0 W)=>zap (zA HJ) (zA CG) hW);clear Iq c1 c3
 cases hd:j6 K (neg.map (·.1)) e with
 | true=>
  rw[hd] at HD;have HW:=zC (show zbe K (neg.map (·.1)) [] e=[] by unfold zbe yD;simp[hd]);clear hd
  first | go_region_with (go_at_call 248;refine (zA HD _ (by exact B9.drew)).mono ?_;rintro en w4 ⟨rfl,bZ⟩;have iM:=zC (yA bZ);clear bZ) | fail
  all_goals
   go_wp2_with fail;go_ret;rw[zA HW];exact .inl ⟨rfl,[],λ _=>Iff.rfl,by simp,by rw[List.append_nil];exact zA Sa _ (zA iM),(qH.ak (zA dr)).trans (qH.ak (zA iM))⟩
 | false=>
  rw[hd] at HD;have HW:=zC (show zbe K (neg.map (·.1)) [] e=[e] by unfold zbe yD;simp[hd]);have OI:Qx e:=zA HQ e (by rw[zA HW];exact List.mem_singleton.2 rfl);clear hd;refine (wpIn_wide (n:=2)).1 ?_
  first | gi_region_with (first | (refine⟨trivial,?_⟩;gi_at_call 248;refine (callsIn_wide.2 (zA HD _ (by exact B9.drew))).mono ?_;rintro en w4 ⟨rfl,bZ⟩;have iM:=zC (yA bZ);have l4:=zA Mq w4 (zA iM);have y4:=zA Hp w4 (zA iM);obtain⟨fn,tmps,assign,body,hy,hR⟩:=zA HY 1 pre e w4 OI (zA Sa w4 (zA iM)) (zA OB);clear bZ) | (refine hR.mono ?_;rintro en w5 ⟨c,rfl,h5⟩;have H5:=zC h5;clear h5 hR hy)) | fail
  all_goals
   go_wp2_with fail;go_ret;rw[zA HW]
   cases c with
   | true=>exact .inl ⟨rfl,[e],λ _=>Iff.rfl,by simp,((zA H5).1 rfl).1,((qH.ak (zA dr)).trans (qH.ak (zA iM))).trans ((zA H5).1 rfl).2⟩
   | false=>exact .inr ⟨rfl,[e],λ _ h=>h,(zA H5).2 rfl⟩
end
section
open Go.RowKit Go.Maps
attribute [local go_sem ↓] zcf zba zc1 zbb qQ qP j2 qO
attribute [local go_sem] qS zbo jY jX
def ID (K:List (Th × Nat))(neg:List jZ)(a:jZ)(r:List jZ)(e:yR)(Lf:Th->Prop)(x:yR):Prop:=∃ p∈K,¬ Lf p.1/\∃ e',xG e a p.1=some e'/\x∈zbe K neg r e'
variable {e x:yR} {r neg:List jZ} {a:jZ} {K:List (Th × Nat)}
theorem zl7:x∈zbe K neg (a::r) e↔∃ p∈K,∃ e',xG e a p.1=some e'/\x∈zbe K neg r e':=by
 unfold zbe;rw[List.mem_filter,yD,List.mem_flatMap]
 constructor
 ·rintro⟨⟨p,hp,hx⟩,hd⟩
  cases hm:xG e a p.1 with
  | none=>rw[hm] at hx;cases hx
  | some e'=>rw[hm] at hx;exact⟨p,hp,e',hm,List.mem_filter.2 ⟨hx,hd⟩⟩
 ·rintro⟨p,hp,e',hm,hx⟩;obtain⟨h1,h2⟩:=List.mem_filter.1 hx;exact⟨⟨p,hp,by rw[hm];exact h1⟩,h2⟩
theorem zr2 {e':yR}{p:Th × Nat}(hp:p∈K)(hm:xG e a p.1=some e')(hx:x∈yD K r e'):x∈yD K (a::r) e:=by
 rw[yD,List.mem_flatMap];exact⟨p,hp,by rw[hm];exact hx⟩
theorem ID.step {Lf:Th->Prop}{t:Th}{n:Nat}(ht:(t,n)∈K):ID K neg a r e (λ y=>Lf y/\y≠t) x↔ID K neg a r e Lf x\/∃ e',xG e a t=some e'/\x∈zbe K neg r e':=by
 constructor
 ·rintro⟨p,hp,hn,hx⟩
  by_cases e1:p.1=t
  ·right;rw[e1] at hx;exact hx
  ·left;exact⟨p,hp,λ h=>hn ⟨h,e1⟩,hx⟩
 ·rintro (⟨p,hp,hn,hx⟩ | hx)
  ·exact⟨p,hp,λ h=>hn h.1,hx⟩
  ·exact⟨(t,n),ht,λ h=>h.2 rfl,hx⟩
structure z9c (No:Nat->Prop)(J:List yR->W8->Prop)(w:W8)(mb rb:Nat)(K:List (Th × Nat))(neg:List jZ)(a:jZ)(r:List jZ)(e:yR)(pre:List yR)(M:Nat)(Lf:Th->Prop)(ys:List yR)(eC:Nat)(wr:W8):Prop where
 rg:so wr mb rb K Lf eC
 cn:eC<=K.length
 mem:∀ x,x∈ys↔ID K neg a r e Lf x
 len:ys.length<=(K.length-eC)*M
 j:J (pre++ys) wr
 kp:qH No w wr
 bv:BV wr w.heap.size e
variable {M g d:Nat}
theorem z79 (h0:0<g)(h:g<=M):(M-g)*M ^ d+M ^ d<=M ^ (d+1):=by
 have e1:(M-g)*M ^ d+M ^ d=(M-g+1)*M ^ d:=by rw[Nat.succ_mul]
 rw[e1,Nat.pow_succ,Nat.mul_comm];exact Nat.mul_le_mul_left _ (by omega)
theorem z42 {c:Nat}(h:c<g)(hg:g<=M):(M-g)*M ^ d+M ^ d<=(M-c)*M ^ d:=by
 have e1:(M-g)*M ^ d+M ^ d=(M-g+1)*M ^ d:=by rw[Nat.succ_mul]
 rw[e1];exact Nat.mul_le_mul_right _ (by omega)
theorem z65 (No:Nat->Prop)(sb mb l:Nat)(pos neg:List (jZ × Value))(pv nv:Value)(K:List (Th × Nat))(Qx:yR->Prop)(J Jx:List yR->W8->Prop)(B N:Nat)(hJ:AbidesFrom B J)(hY:z0z No l N Qx J Jx)(Pv:∀ g,No g->g<B)(Vs:List B8)(hV:Vs.length<=12)(Uy:∀ x∈pos,∀ t∈x.1.ts,t.1=true->t.2∈Vs):∀ (d i:Nat) (e:yR) (w:W8) (pre:List yR),i+d=pos.length->Hj No w sb mb l pos neg pv nv K->J pre w->B<=w.heap.size->vZ Vs e->(∀ e'∈yD K ((pos.drop i).map (·.1)) e,∀ x∈neg,zdu (xV e' x.1))->pre.length+K.length ^ d<=N->(∀ x∈zbe K (neg.map (·.1)) ((pos.drop i).map (·.1)) e,Qx x) ->
  Calls Tryz.prog 234 #[.pointer (some ⟨sb,0,none⟩),.int .i64 (i:Nat),zav e] w (zvi No J Jx pre (zbe K (neg.map (·.1)) ((pos.drop i).map (·.1)) e) (K.length ^ d) w):=by
 intro d
 induction d with
 | zero=>
  intro i e w pre hi hC hp hB hl bR hN hq;rw[Nat.add_zero] at hi;subst hi;have hd:(pos.drop pos.length).map (·.1)=([]:List jZ):=by rw[List.drop_length];rfl
  rw[hd] at bR hq ⊢;exact z2d No w sb mb l pos neg pv nv K hC e (by have:=hl.len;omega) (bR e (by simp[yD])) Qx hq J Jx B N hJ hY pre hp (by rw[Nat.pow_zero] at hN;omega) (λ g hg=>by have:=Pv g hg;omega)
 | succ d ih=>
  intro i e w pre hi hC hp hB hl bR hN hq;have HQ:=zC hq;clear hq;have kP:i<pos.length:=by omega
  obtain⟨base,aB⟩:=hC.p.row;obtain⟨an,cn,rfl⟩:=zD aB;have gR:=yU aB;unfold maxLen at gR;have VY:=zC ih;have Ff:=zC hl;have WM:=zC Uy;have H:=zC hC;have HP:=zC hp;have HJ:=zC hJ;have HY:=zC hY;have OB:=zC hN;have iN:=zC bR;have pU:=zC Pv;have HB:=zC hB;have HI:=zC hi;have EC:=(Array.getElem?_eq_some_iff.1 hC.s).1;have bF:(i:Int)≠pos.length:=by omega
  clear ih hC hp hJ hY hN bR Pv hB aB hi hl Uy;go_enter Tryz.func234,Tryz.ntmps234;go_upto_region 1 with fail;generalize bC:World.alloc w _=w0;have k0:Below w.heap.size w w0:=by rw[<-bC];exact (Below.refl w.heap.size w).alloc L9 _
  have x0:BV w0 w.heap.size e:=by rw[<-bC];exact BV.new w e
  have s0:w0.heap.size=w.heap.size+1:=by rw[<-bC];simp
  have zt:=(zA H).kZ (qH.ak k0);clear bC;obtain⟨c0,-⟩:=zB zt.s 0;obtain⟨c2,-⟩:=zB zt.s 2;have Cd:=zt.m;have rT:=zC x0;have dr:=zC k0;have CG:=zC (zap (zA HJ) (zA HP) k0);have lV:=zC s0;clear zt x0 k0 s0;go_wp2_with (first | (at_range;refine znb _ rfl _ 82 rfl Tryz.underlying82 mb K rfl Cd ?_;intro w1 hrg1 jg sg) | go_in)
  try go_frame
  obtain⟨AT,Pm⟩:∃ AT,AT=pos[i].1:=⟨_,rfl⟩;obtain⟨RS,Px⟩:∃ RS,RS=(pos.drop (i+1)).map (·.1):=⟨_,rfl⟩;have KC:(pos.drop i).map (·.1)=AT::RS:=by rw[Pm,Px,List.drop_eq_getElem_cons kP,List.map_cons]
  have h0:z9c No J w mb w0.heap.size K (neg.map (·.1)) AT RS e pre (K.length ^ d) (λ _=>True) [] K.length w1:=by
   have kk:Below w0.heap.size w0 w1:=⟨jg.os,jg.tape,jg.output,jg.size,λ j hj=>jg.block j hj (by simp)⟩;refine⟨hrg1,Nat.le_refl _,λ x=>⟨λ h=>absurd h List.not_mem_nil,λ ⟨p,hp,hn,_⟩=>absurd trivial hn⟩,by simp,?_,(qH.ak (zA dr)).trans (qH.ak kk),(zA rT).below kk⟩;rw[List.append_nil];exact zap (zA HJ) (zA CG) kk
  have Mu:=zC KC;have sx:=zC Pm;have DX:=zC Px;clear hrg1 jg sg Cd c0 c2 KC Pm Px
  go_loopg [] K.length (λ gg wr=>∃ (Lf:Th->Prop) (ys:List yR),z9c No J w mb w0.heap.size K (neg.map (·.1)) AT RS e pre (K.length ^ d) Lf ys gg wr)
  exact⟨_,_,h0⟩
  case round=>
   clear h0;obtain⟨Lf,ys,ax⟩:=hrel;have oL:=ax.rg;have bT:=zC ax;clear ax;go_wp2_with (first | (at_next;refine zqi _ rfl _ rfl mb w0.heap.size K Lf gk rfl oL ?_ ?_) | go_in)
   ·intro dj;have HD:=zC dj;clear dj oL;go_wp2_with fail;go_ret;rw[zA Mu];have ax:=zA bT;refine .inl ⟨rfl,ys,λ x=>?_,?_,ax.j,ax.kp⟩
    ·rw[ax.mem,zl7];exact⟨λ ⟨p,hp,_,h⟩=>⟨p,hp,h⟩,λ ⟨p,hp,h⟩=>⟨p,hp,zA HD p.1.1 p.1.2 p.2 hp,h⟩⟩
    ·refine Nat.le_trans ax.len ?_;rw[Nat.pow_succ,Nat.mul_comm];exact Nat.mul_le_mul_left _ (Nat.sub_le _ _)
   ·intro tp tts n w2 cnt2 nz qx hrg2 gn fL sj hen2;generalize ((tp,tts):Th)=t at *;have ax:=zA bT;have ri:=zA lV;have Rh:qH No w w2:=ax.kp.grown fL (λ r e1=>.inl (by cases e1;omega));have SN:BV w2 w.heap.size e:=(fL.block _ ax.bv.lt (by simp;omega)).trans ax.bv;have TW:J (pre++ys) w2:=zA HJ _ _ _ _ ax.j fL (λ r e1=>by cases e1;exact⟨by have:=zA HB;omega,ax.rg.iter⟩);have J2:=(zA H).kZ Rh;have sF:=zC hrg2;have Oq:=zC Rh;have VZ:=zC TW;have Mr:=zC J2;have I1:=zC SN;have oy:=zC nz;have hlen:=ax.len;have pR:=zC hlen;have M7:=ax.cn;have eD:=gn;have kr:=zC ax.mem;have V9:=zC qx;clear sj oL hrg2 fL Rh SN TW J2 nz hlen ax bT qx ri;go_upto_region 6 with fail;generalize xo:World.alloc w2 _=w3;have k3:Below w2.heap.size w2 w3:=(by rw[<-xo];exact (Below.refl w2.heap.size w2).alloc L9 _);have t3:TV w3 w2.heap.size t:=(by rw[<-xo];exact TV.new w2 t);have s3:w3.heap.size=w2.heap.size+1:=(by rw[<-xo];simp);have b3:BV w3 w.heap.size e:=(zA I1).below k3;have zb:=(zA Mr).kZ (qH.ak k3);obtain⟨a0,-⟩:=zB zb.s 0;obtain⟨JO,lM⟩:=zb.p.row;obtain⟨g,cap,hv,iF,aZ,bO,bQ,hc⟩:=vX zo4 lM i kP;injection hv with h1 h2 h3
    subst h1 h3;have hx:pos[i]∈pos:=List.getElem_mem kP;obtain⟨tb,lN⟩:=zb.p.ae _ hx;obtain⟨ta,tc,AR⟩:=zD lN;have kN:=zb.p.eJ _ hx;rw[<-zA sx] at kN;have e0:w3.cell? ⟨g,i*2,none⟩=some (.string AT.p):=(by have:=hc 0 (by omega);rw[zA sx];exact this);have e1:w3.cell? ⟨g,i*2+1,none⟩=some (.slice ta AT.ts.length tc):=(by have:=hc 1 (by omega);rw[zA sx,<-AR];exact this);have vr:w3.ownsRow tb 191 1 (.slice ta AT.ts.length tc) AT.ts.length (AT.ts.map zc3):=(by rw[zA sx,<-AR];exact lN);have Jy:=zC (show ∀ t∈AT.ts,t.1=true->t.2∈Vs by rw[zA sx];exact zA WM _ hx);have HM:=zC (λ (W:W8) (hW:Below w3.heap.size w3 W)=>zof W tb e AT ta tc t (zZ vr (λ g e1=>hW.block g (vr.lt g e1).2)) kN Vs hV (zA Ff) (zA Jy));have HA:=zC (λ (W:W8) (hW:Below w3.heap.size w3 W)=>(show BV W w.heap.size e/\TV W w2.heap.size t/\W.cell? ⟨sb,0,none⟩=some (.slice (some ⟨g,0,none⟩) pos.length cn)/\W.cell? ⟨g,i*2,none⟩=some (.string AT.p)/\W.cell? ⟨g,i*2+1,none⟩=some (.slice ta AT.ts.length tc) from ⟨b3.below hW,t3.below hW,(hW.cell (p:=⟨sb,0,none⟩) (by have:=(Array.getElem?_eq_some_iff.1 zb.s).1;exact this)).trans a0,(hW.cell (p:=⟨g,i*2,none⟩) aZ).trans e0,(hW.cell (p:=⟨g,i*2+1,none⟩) aZ).trans e1⟩));have Qg:∀ w':W8,BV w' w.heap.size e->(ztv (.pointer (some ⟨w.heap.size,0,none⟩))).run Tryz.prog w'=.ok (zav e) w':=λ _ h=>h.load
    have Qh:∀ w':W8,TV w' w2.heap.size t->(zmx (.pointer (some ⟨w2.heap.size,0,none⟩))).run Tryz.prog w'=.ok (thV t) w':=λ _ h=>h.load
    have Hp:=zC zb;have Je:=zC k3;have Cc:(i:Int)<pos.length:=(by omega);have d1:w.heap.size≠w3.heap.size:=(by have:=b3.lt;omega);have d2:w2.heap.size≠w3.heap.size:=(by omega);have d3:sb≠w3.heap.size:=(by have:=(Array.getElem?_eq_some_iff.1 zb.s).1;omega);have d4:g≠w3.heap.size:=(by omega);clear s3;simp only[List.getElem?_toArray,List.getElem?_cons_zero] at a0;clear xo k3 zb lM hc hx lN AR vr h2;obtain⟨R,hR⟩:∃ R,R=xG e AT t:=⟨_,rfl⟩;rw[<-hR] at HM;have HR:=zC hR;clear hR
    go_cut [8,9] from 37 to 59 (λ p c wc=>∃ nb,p=.pointer (some ⟨nb,0,none⟩)/\c=.bool R.isSome/\BV wc nb (R.getD [])/\Below w3.heap.size w3 wc)
    case first=>
     go_region_held3 (λ w'=>BV w' w.heap.size e/\TV w' w2.heap.size t/\w'.cell? ⟨sb,0,none⟩=some (.slice (some ⟨g,0,none⟩) pos.length cn)/\w'.cell? ⟨g,i*2,none⟩=some (.string AT.p)/\w'.cell? ⟨g,i*2+1,none⟩=some (.slice ta AT.ts.length tc)) ((refine zA HA _ ?_;first | exact dN | exact B9.drew | exact (B9.alloc L9 _).drew | exact dN.alloc dN.size _ | exact xN dN L9 _)) ((go_at_call 62;refine (zA HM _ (by first | exact B9.drew | exact (B9.alloc L9 _).drew)).mono ?_;rintro en w4 ⟨bZ,rfl⟩;have dN:Below w3.heap.size w3 w4:=(by first | exact yA bZ | exact zf3 (B9.alloc L9 _) bZ);first | (have Gw:=((BV.new w3 []).below (yA bZ)).store (R.getD [])) | skip))
     all_goals
      go_wp2_with fail;go_meet
      case rel=>first | exact⟨_,rfl,rfl,BV.new _ _,dN.alloc dN.size _⟩ | exact⟨_,rfl,rfl,setRow_heap _ _ _ _ _ _ ((BV.new w3 []).below (yA bZ)),xN dN L9 _⟩
    case rest=>
     generalize wc=wA at *;obtain⟨nb,rfl,rfl,gT,ql⟩:=hcut;have P6:qH No w2 wA:=(qH.ak (zA Je)).trans (qH.ak ql);have LV:Below w2.heap.size w2 wA:=(zA Je).trans (ql.mono (zA Je).size);have TY:J (pre++ys) wA:=zap (zA HJ) (zA VZ) LV;have Lt:so wA mb w0.heap.size K (λ x=>Lf x/\¬ x=t) cnt2:=(zA sF).blocks (LV.block _ (zA sF).map.lt) (LV.block _ (zA sF).lt);have Tc:=(zA Mr).kZ P6;have Gd:(ztv (.pointer (some ⟨nb,0,none⟩))).run Tryz.prog wA=.ok (zav (R.getD [])) wA:=gT.load;have R9:=zC TY;have CJ:=zC Lt;have I5:=zC Tc;have Fo:=zC ((zA Oq).trans P6);have I2:=zC ((zA I1).below LV);have Vc:=Nat.le_trans (zA Fo).size L9;have OQ:=zC Vc;clear gT ql P6 LV TY Lt Tc Qg Qh t3 b3 e0 e1 a0 d1 d2 d3 d4 HA HM Hp Je Vc aZ iF hen2
     cases hr:R with
     | none=>
      have uL:=zC ((zA HR).symm.trans hr);rw[hr] at Gd;clear hr Gd;go_wp2_with fail;go_roundg cnt2
      case measure=>omega
      case rel=>
       refine⟨_,ys,zA CJ,by omega,λ x=>?_,?_,zA R9,zA Fo,zA I2⟩
       ·rw[zA kr x,ID.step (zA oy)];exact⟨.inl,λ h=>h.elim id λ ⟨e',h1,_⟩=>by rw[zA uL] at h1;cases h1⟩
       ·exact Nat.le_trans (zA pR) (Nat.mul_le_mul_right _ (by omega))
     | some e2=>
      have uL:=zC ((zA HR).symm.trans hr);rw[hr] at Gd;have cJ:=zC (zA VY (i+1) e2 wA (pre++ys) (by have:=zA HI;omega) (zA I5) (zA R9) (Nat.le_trans (zA HB) (zA OQ)) ((zA Ff).matched (zA Jy) (zA uL)) (λ e' ma=>zA iN e' (by rw[zA Mu,zA DX];exact zr2 (zA oy) (zA uL) ma)) (by have h1:=zA pR;have h2:=zA OB;have h3:=z79 (M:=K.length) (g:=gk) (d:=d) (by omega) M7;rw[List.length_append];omega) (λ x hx=>zA HQ x (by rw[zA Mu,zl7];exact⟨(t,n),zA oy,e2,zA uL,by rw[zA DX];exact hx⟩)));clear hr;go_wp2_with (go_at_call 234;refine (zA cJ).mono ?_;rintro en w5 (⟨rfl,h5⟩ | ⟨rfl,h5⟩) <;> (have H5:=zC h5;clear h5))
      ·go_roundg cnt2
       case measure=>omega
       case rel=>
        obtain⟨zs,aY,bg,A4,sl⟩:=zA H5;obtain⟨o,Le,Gq⟩:=(zA CJ).iter;obtain⟨es,ck,dH⟩:=(zA CJ).map.isMap;refine⟨_,ys++zs,(zA CJ).blocks ((sl.same _ _ dH (zA I5).nm (.inr rfl)).trans dH.symm) ((sl.same _ _ Le (λ hn=>by have:=zA pU _ hn;have:=zA HB;have:=zA lV;omega) (.inr Gq)).trans Le.symm),by omega,λ x=>?_,?_,by rw[<-List.append_assoc];exact A4,(zA Fo).trans sl,(zA I2).kZ sl (λ hn=>by have:=zA pU _ hn;have:=zA HB;omega)⟩
        ·rw[List.mem_append,zA kr x,ID.step (zA oy),aY,zA DX];exact⟨λ h=>h.imp id λ h=>⟨e2,zA uL,h⟩,λ h=>h.imp id λ ⟨e',h1,h2⟩=>by rw[zA uL] at h1;cases h1;exact h2⟩
        ·have h1:=zA pR;have h3:=z42 (M:=K.length) (g:=gk) (c:=cnt2) (d:=d) gn M7;rw[List.length_append];omega
      ·go_ret;obtain⟨zs,aY,bg⟩:=zA H5;rw[zA Mu];refine .inr ⟨rfl,ys++zs,λ x hx=>?_,by rw[<-List.append_assoc];exact bg⟩;rw[zl7];rcases List.mem_append.1 hx with hx | hx
       ·obtain⟨p,hp,_,h⟩:=(zA kr x).1 hx;exact⟨p,hp,h⟩
       ·exact⟨(t,n),zA oy,e2,zA uL,by rw[zA DX];exact aY x hx⟩
end
section
open Go.RowKit Go.Maps
theorem zr6 (w:W8)(base:Nat)(pd:B8)(ah:O8)(nh ch:Nat)(ab:O8)(cb:Nat)(ls:List (vK × Value))(h:iL w base (.slice ab ls.length cb) ls)(hl:ls.length<=1000):
  Calls Tryz.prog 223 #[.agg #[.string pd,.slice ah nh ch,.slice ab ls.length cb]] w λ e w'=>∃ (a:O8) (c:Nat),e=.returned (.slice a (ls.filter (vA true)).length c)/\w'.ownsRow (w.heap.size+1) 79 2 (.slice a (ls.filter (vA true)).length c) (ls.filter (vA true)).length ((ls.filter (vA true)).flatMap vQ)/\Below w.heap.size w w'/\w.heap.size<w'.heap.size:=by
 have b1:=(Below.refl w.heap.size w).alloc L9 (.cells #[.string pd,.slice ah nh ch,.slice ab ls.length cb] 123);have h0:=h.below b1;clear h;go_enter Tryz.func223,Tryz.ntmps223;go_wp2_with fail;refine (zq5 _ base pd ah nh ch ab cb ls true h0 hl).mono ?_;rintro e w1 ⟨a,c,rfl,hr,hb,hz⟩;go_wp2_with fail;go_ret;refine⟨a,c,rfl,zG hr (by simp),b1.trans (hb.mono (by simp)),by simp at hz;omega⟩
def zl2 (x:vK × Value):jZ × Value:=(⟨x.1.pd,x.1.ts⟩,x.2)
def vV (b:Bool)(ls:List (vK × Value)):List (jZ × Value):=(ls.filter (vA b)).map zl2
theorem Zu (b:Bool)(ls:List (vK × Value)):(vV b ls).flatMap zk1=(ls.filter (vA b)).flatMap vQ:=by
 unfold vV;rw[List.flatMap_map];rfl
theorem Mj (b:Bool)(ls:List (vK × Value)):(vV b ls).length=(ls.filter (vA b)).length:=by unfold vV;simp
variable {w:W8}
theorem zo5 {No:Nat->Prop}{w':W8}{base base':Nat}{bv v:Value}{ls:List (vK × Value)}{b:Bool}(h:iL w base bv ls)(hk:Below w.heap.size w w')(hr:w'.ownsRow base' 79 2 v (ls.filter (vA b)).length ((ls.filter (vA b)).flatMap vQ))(hb:∀ g,No g->g<base')(ht:∀ x∈ls,∀ g,x.2.ownBlock=some g->¬ No g)(hf:∀ x∈ls,x.1.ts.length<=4):j1 No w' v (vV b ls):=by
 have key:∀ x∈vV b ls,∃ y∈ls,x=zl2 y:=λ x hx=>by
  obtain⟨y,hy,rfl⟩:=List.mem_map.1 hx;exact⟨y,(List.mem_filter.1 hy).1,rfl⟩
 refine⟨⟨base',by rw[Mj,Zu];exact hr⟩,λ x hx=>?_,λ g hg hn=>?_,λ x hx g hg=>?_,λ x hx=>?_⟩
 ·obtain⟨y,hy,rfl⟩:=key x hx;exact⟨base,zJ (h.each y hy) hk (λ g e=>((h.each y hy).lt g e).2)⟩
 ·have:=(hr.lt g hg).1;have:=hb g hn;omega
 ·obtain⟨y,hy,rfl⟩:=key x hx;exact ht y hy g hg
 ·obtain⟨y,hy,rfl⟩:=key x hx;exact hf y hy
def SV (w:W8)(b:Nat)(pv nv mv fv:Value):Prop:=w.heap[b]?=some (.cells #[pv,nv,mv,fv] 361 (0,0))
noncomputable def zsx (p v:Value):Sem Unit:=Instr.storeAt 361 p v
noncomputable def z4x (h:Bool)(v:Value):Sem Value:=Instr.alloc 361 h v
theorem z5h (p v:Value):Instr.storeAt 361 p v=zsx p v:=rfl
theorem z5g (h:Bool)(v:Value):Instr.alloc 361 h v=z4x h v:=rfl
theorem zzk (w:W8)(v:Value):(z4x true v).run Tryz.prog w=.ok (.pointer (some ⟨w.heap.size,0,none⟩)) (w.alloc (.cells #[.slice none 0 0,.slice none 0 0,.map none,.nilFunc] 361)):=by
 unfold z4x;simp[Instr.alloc,newVar,newRow,go_sem]
theorem zyl:(Tryz.prog.info? 361).map (·.size)=some 4:=by kernel_rfl
theorem SV.store {b:Nat}{p0 n0 m0 f0:Value}(h:SV w b p0 n0 m0 f0){pv nv mv fv:Value}(h1:pv.oneCell'=true)(h2:nv.oneCell'=true)(h3:mv.oneCell'=true)(h4:fv.oneCell'=true):(zsx (.pointer (some ⟨b,0,none⟩)) (.agg #[pv,nv,mv,fv])).run Tryz.prog w=.ok () (w.setRow b #[pv,nv,mv,fv]):=by
 unfold zsx Instr.storeAt Instr.sureAddr;simp only[Sem.run_bind,Sem.run_pure,Result.andThen_ok];exact run_storeVar_row w b _ 361 _ _ h (by rw[zyl];rfl) rfl (by simp[h1,h2,h3,h4])
end
end Go.Proofs.YtldkpahaocjdpaaGreat
