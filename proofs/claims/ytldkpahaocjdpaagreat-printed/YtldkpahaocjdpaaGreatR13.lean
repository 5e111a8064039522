/-
  Fill: an atom with what its variables stand for.
-/
import Derived.Test.YtldkpahaocjdpaaGreatR12
import Derived.Deep.MidRow
import Derived.RangeFuncNested
import Derived.Deep.WholeRow
set_option maxHeartbeats 16000000
set_option maxRecDepth 1000000
namespace Go.Proofs.YtldkpahaocjdpaaGreat
section
open Go.RowKit
def cd (e:ax)(t:PTerm):B8:=if t.1 then dD e t.2 else t.2
def aB (e:ax)(A:PAtm):Th:=⟨A.p,A.ts.map (cd e)⟩
theorem nth4_snoc (L:List B8)(x:B8)(i:Nat):nth4 (L++[x]) i=if i=L.length then x else nth4 L i:=by
 unfold nth4;rw[List.getElem?_append]
 split
 ·rename_i h;rw[if_neg (by omega)]
 ·rename_i h
  split
  ·rename_i h2;subst h2;simp
  ·rename_i h2;rw[List.getElem?_eq_none (by simp;omega),List.getElem?_eq_none (by omega)]
theorem thCells_set (p:B8)(L:List B8)(x:B8)(h:L.length<4):(aq ⟨p,L⟩).toArray.setIfInBounds (1+L.length) (.string x)=(aq ⟨p,L++[x]⟩).toArray:=by
 unfold aq;simp only[Th.p,Th.ts,nth4_snoc]
 match hl:L.length,h with
 | 0,_ | 1,_ | 2,_ | 3,_=>simp
theorem infoTh:(Tryz.prog.info? 88).map (·.size)=some 5:=by kernel_rfl
theorem thCells_one (t:Th):(aq t).toArray.all (·.oneCell')=true:=by simp[aq,Value.oneCell']
theorem fill_set {wr:W8}{b:Nat}{p:B8}{L:List B8}(h:wr.heap[b]?=some (.cells (aq ⟨p,L⟩).toArray 88 (0,0)))(hl:L.length<4)(x:B8):(wr.setCell ⟨b,1+L.length,none⟩ (.string x)).heap[b]?=some (.cells (aq ⟨p,L++[x]⟩).toArray 88 (0,0)):=by
 rw[setCell_eq_setRow wr b _ _ _ (0,0) _ h,thCells_set p L x hl];exact setRow_heap _ _ _ _ _ _ h
def FillPost (w:W8)(t:Th)(en:Ending)(w':W8):Prop:=Below w.heap.size w w'/\en=.returned (thV t)
theorem pfill_any (w:W8)(base:Nat)(e:ax)(A:PAtm)(a:O8)(c:Nat)(h:w.ownsRow base 191 1 (.slice a A.ts.length c) A.ts.length (A.ts.map termV))(h4:A.ts.length<=4)(hl:e.length<=12):
  Calls Tryz.prog 146 #[bindV e,.agg #[.string A.p,.slice a A.ts.length c]] w (FillPost w (aB e A)):=by
 obtain⟨cs,eZ⟩:∃ cs,cs=(aD e).toArray:=⟨_,rfl⟩;have rI:=hide eZ;unfold bindV;rw[<-eZ];clear eZ;have H:=hide h;clear h;have q0:cs.size=25:=by rw[ad rI];rfl
 have a1:=asVar_yes;have a2:=asName_yes;have a3:=asName_no;go_enter Tryz.func146,Tryz.ntmps146;go_upto_region 2 with fail;generalize hw0:World.alloc (World.alloc (World.alloc (World.alloc w _) _) _) _=w0;have k0:Below w.heap.size w w0:=by
  rw[<-hw0];exact ((((Below.refl w.heap.size w).alloc L9 _).alloc (by simp) _).alloc (by simp only[World.size_alloc];omega) _).alloc (by simp only[World.size_alloc];omega) _
 have x0:w0.heap[w.heap.size]?=some (.cells cs 135 (0,0)):=by
  rw[<-hw0,Below.heap_alloc _ _ _ (by simp only[World.size_alloc];omega),Below.heap_alloc _ _ _ (by simp only[World.size_alloc];omega),Below.heap_alloc _ _ _ (by simp)];exact heap_alloc_new w _
 have x1:w0.heap[w.heap.size+1]?=some (.cells #[.string A.p,.slice a A.ts.length c] 79 (0,0)):=by
  rw[<-hw0,Below.heap_alloc _ _ _ (by simp only[World.size_alloc];omega),Below.heap_alloc _ _ _ (by simp)];have:=heap_alloc_new (w.alloc (.cells cs 135)) (.cells #[.string A.p,.slice a A.ts.length c] 79);rw[World.size_alloc] at this;exact this
 have x2:w0.heap[w.heap.size+1+1]?=some (.cells (aq ⟨{ data:=#[] },[]⟩).toArray 88 (0,0)):=by
  rw[<-hw0,Below.heap_alloc _ _ _ (by simp)];have:=heap_alloc_new ((w.alloc (.cells cs 135)).alloc (.cells #[.string A.p,.slice a A.ts.length c] 79)) (.cells (aq ⟨{ data:=#[] },[]⟩).toArray 88);rw[World.size_alloc,World.size_alloc] at this;exact this
 have x3:w0.heap[w.heap.size+1+1+1]?=some (.cells (aq ⟨A.p,[]⟩).toArray 88 (0,0)):=by
  rw[<-hw0];have:=heap_alloc_new (((w.alloc (.cells cs 135)).alloc (.cells #[.string A.p,.slice a A.ts.length c] 79)).alloc (.cells (aq ⟨{ data:=#[] },[]⟩).toArray 88)) (.cells (aq ⟨A.p,[]⟩).toArray 88);rw[World.size_alloc,World.size_alloc,World.size_alloc] at this;exact this
 have s0:w.heap.size+1+1+1+1=w0.heap.size:=by rw[<-hw0];simp
 have b0:br w0 w.heap.size e:=br.of (by rw[x0,ad rI]);have ee:=own_block (ad H) (λ g e=>k0.block g ((ad H).lt g e).2);have HG:=hide (λ g (e1:(Value.slice a A.ts.length c).ownBlock=some g)=>((ad H).lt g e1).2);clear hw0 H;have gd:=hide b0;have fH:=hide s0;have qJ:=hide x3;have oF:=hide x2;have na:=hide ee;have cq:=hide k0;obtain⟨p1,-⟩:=block_cells x1 1;have qb:=hide x1;clear x0 x1 x2 x3 b0 ee k0 s0;go_wp2_with fail
 go_loopg [16] A.ts.length (λ gg i wr=>∃ (k:Nat) (L:List B8),k<=A.ts.length/\gg=A.ts.length-k/\i=.int .i64 k/\L=(A.ts.take k).map (cd e)/\wr.heap[w.heap.size+1+1+1]?=some (.cells (aq ⟨A.p,L⟩).toArray 88 (0,0))/\Kept [w.heap.size+1+1+1] w0 wr)
 exact⟨0,[],Nat.zero_le _,rfl,rfl,rfl,ad qJ,Kept.refl _ _⟩
 case round=>
  obtain⟨k,L,hk,fM,rfl,hL,hx,cV⟩:=hrel;have ik:L.length=k:=by rw[hL];simp;omega
  have sY:=ad fH;have lu:=hide (show Below w.heap.size w wr from ⟨cV.os.trans (ad cq).os,cV.tape.trans (ad cq).tape,cV.output.trans (ad cq).output,Nat.le_trans (ad cq).size cV.size,λ i hi=>(cV.block i (by omega) (by simp;omega)).trans ((ad cq).block i hi)⟩);have HX:=hide hx;have gw:=hide cV;have HL:=hide hL;have p8:=hide ik
  by_cases aN:k<A.ts.length
  ·obtain⟨g,rfl,nB,dG,dx,hc⟩:=termsAt (ad na) k aN;have eP:=ad HG g rfl;have gD:wr.cell? ⟨g,k,none⟩=some (termV A.ts[k]):=((ad gw).cell (p:=⟨g,k,none⟩) nB (by simp;omega)).trans hc;have vk:=hide ((ad gd).block (cV.block _ (by omega) (by simp;omega)));obtain⟨dV,Fx⟩:=block_cells hx (1+k);replace dV:wr.cell? ⟨w.heap.size+1+1+1,1+k,none⟩=some (.string (nth4 L k)):=by
    rw[dV,List.getElem?_toArray];exact thCells_name ⟨A.p,L⟩ (by omega)
   have gW:(k:Int)<A.ts.length:=(by omega);have jq:(1+k:Int)<5:=(by omega);have fT:=hide (show (A.ts.take (k+1)).map (cd e)=L++[cd e A.ts[k]] by rw[List.take_succ_eq_append_getElem aN,List.map_append,ad HL];rfl);clear hc sY hx cV hL ik
   cases hv:A.ts[k].1 with
   | false=>
    have HF:=hide (show cd e A.ts[k]=A.ts[k].2 by unfold cd;rw[hv];rfl);have nA:wr.cell? ⟨g,k,none⟩=some (.iface 193 (.string A.ts[k].2)):=(by rw[gD];unfold termV;rw[hv];rfl);clear gD;go_wp2_with fail;go_roundg (A.ts.length-(k+1))
    case measure=>omega
    case rel=>
     have:=fill_set (ad HX) (by rw[ad p8];omega) A.ts[k].2;rw[ad p8] at this;exact⟨k+1,L++[A.ts[k].2],by omega,rfl,by go_num,by rw[ad fT,ad HF],this,(ad gw).setCell (by simp) _⟩
   | true=>
    have HF:=hide (show cd e A.ts[k]=dD e A.ts[k].2 by unfold cd;rw[hv];rfl);have nA:wr.cell? ⟨g,k,none⟩=some (.iface 130 (.string A.ts[k].2)):=(by rw[gD];unfold termV;rw[hv];rfl);have HN:=hide (pname_any wr w.heap.size e A.ts[k].2 (ad vk).cells hl);clear gD;go_wp2_with (go_at_call 201;refine (ad HN).mono ?_;rintro en w1 ⟨rfl,bq⟩;subst bq);go_roundg (A.ts.length-(k+1))
    case measure=>omega
    case rel=>
     have:=fill_set (ad HX) (by rw[ad p8];omega) (dD e A.ts[k].2);rw[ad p8] at this;exact⟨k+1,L++[dD e A.ts[k].2],by omega,rfl,by go_num,by rw[ad fT,ad HF],this,(ad gw).setCell (by simp) _⟩
  ·have HE:=hide (show (⟨A.p,L⟩:Th)=aB e A by unfold aB;rw[hL,List.take_of_length_le (by omega)]);have qc:=hide ((cV.block (w.heap.size+1+1) (by omega) (by simp)).trans (ad oF));clear sY hx cV hL ik;go_wp2_with (first | (refine wpList_load_row rfl 88 _ rfl _ rfl _ _ _ _ (ad HX) Tryz.underlying88 rfl (by rw[infoTh];rfl) ?_) | (refine wpList_store_row rfl 88 _ _ rfl _ _ rfl rfl _ _ (ad qc) (by rw[infoTh];rfl) rfl (thCells_one _) ?_) | fail);refine bodyPost_ret (v:=thV ⟨A.p,L⟩) (results_cell_row Tryz.results146 _ _ _ _ _ _ _ rfl (setRow_heap _ _ _ _ _ _ (ad qc)) Tryz.underlying88 rfl (by rw[infoTh];rfl)) rfl ?_;exact⟨below_setRow (ad lu) (by omega) _,by rw[ad HE]⟩
end
section
open Go.RowKit
structure aR (No:Nat->Prop)(w w':W8):Prop where
 os:w'.os=w.os
 tape:w'.tape=w.tape
 output:w'.output=w.output
 size:w.heap.size<=w'.heap.size
 same:∀ (k:Nat) (o:Obj),w.heap[k]?=some o->¬ No k->(o.isCells=true\/o.isWalk=true)->w'.heap[k]?=some o
theorem aR.refl (No:Nat->Prop)(w:W8):aR No w w:=⟨rfl,rfl,rfl,Nat.le_refl _,λ _ _ h _ _=>h⟩
theorem aR.trans {No:Nat->Prop}{a b c:W8}(h:aR No a b)(k:aR No b c):aR No a c:=
 ⟨k.os.trans h.os,k.tape.trans h.tape,k.output.trans h.output,Nat.le_trans h.size k.size,λ i o hi hn ho=>k.same i o (h.same i o hi hn ho) hn ho⟩
variable {w w':W8} {No:Nat->Prop}
theorem aR.aF (k:Below w.heap.size w w'):aR No w w':=
 ⟨k.os,k.tape,k.output,k.size,λ i _ hi _ _=>(k.block i (Array.getElem?_eq_some_iff.1 hi).1).trans hi⟩
theorem aR.grown {a:W8}{row:Option Nat}(h:aR No a w)(hg:w.grownBy w' row)(hr:∀ r,row=some r->a.heap.size<=r\/No r):aR No a w':=
 ⟨hg.os.trans h.os,hg.tape.trans h.tape,hg.output.trans h.output,Nat.le_trans h.size hg.size,λ i o hi hn ho=>by
  have h1:=h.same i o hi hn ho;refine (hg.block i (Array.getElem?_eq_some_iff.1 h1).1 λ e=>?_).trans h1;rcases hr i e.symm with h2 | h2
  ·have:=(Array.getElem?_eq_some_iff.1 hi).1;omega
  ·exact hn h2⟩
theorem aR.alloc {a:W8}(h:aR No a w)(o:Obj):aR No a (w.alloc o):=h.grown (World.grownBy_alloc w o none) (λ _ e=>by cases e)
variable {b:Nat}
theorem aR.cells (h:aR No w w'){cs:Array Value}{t:TypeId}{fr:Nat × Nat}(hb:w.heap[b]?=some (.cells cs t fr))(hn:¬ No b):w'.heap[b]?=some (.cells cs t fr):=h.same b _ hb hn (.inl rfl)
theorem aR.map (h:aR No w w'){L:List (Th × Nat)}(hb:aM w b L)(hn:¬ No b):aM w' b L:=by
 obtain⟨es,c,h1⟩:=hb.isMap;exact hb.block ((h.same b _ h1 hn (.inr rfl)).trans h1.symm)
variable {v:Value}
theorem aR.row (h:aR No w w'){base:Nat}{e:TypeId}{size n:Nat}{xs:V8}(hr:w.ownsRow base e size v n xs)(hn:∀ g,v.ownBlock=some g->¬ No g):w'.ownsRow base e size v n xs:=by
 refine own_block hr λ g hg=>?_
 rcases hr.2 with⟨h0,_⟩ | ⟨g',cap,cur,rfl,hb,jo,_⟩
 ·rw[h0] at hg;cases hg
 ·have e:g'=g:=by simpa[Value.ownBlock] using hg
  subst e;exact (h.same _ _ jo (hn _ hg) (.inl rfl)).trans jo.symm
def atomCells (x:PAtm × Value):V8:=[.string x.1.p,x.2]
structure bE (No:Nat->Prop)(w:W8)(v:Value)(As:List (PAtm × Value)):Prop where
 row:∃ base,w.ownsRow base 79 2 v As.length (As.flatMap atomCells)
 aS:∀ x∈As,∃ base,w.ownsRow base 191 1 x.2 x.1.ts.length (x.1.ts.map termV)
 ap:∀ g,v.ownBlock=some g->¬ No g
 BP:∀ x∈As,∀ g,x.2.ownBlock=some g->¬ No g
 ft:∀ x∈As,x.1.ts.length<=4
theorem bE.gH {As:List (PAtm × Value)}(h:bE No w v As)(k:aR No w w'):bE No w' v As:=
 ⟨let ⟨b,hb⟩:=h.row;⟨b,k.row hb h.ap⟩,λ x hx=>let ⟨b,hb⟩:=h.aS x hx;⟨b,k.row hb (h.BP x hx)⟩,h.ap,h.BP,h.ft⟩
structure lN (No:Nat->Prop)(w:W8)(sb mb l:Nat)(pos neg:List (PAtm × Value))(pv nv:Value)(K:List (Th × Nat)):Prop where
 s:w.heap[sb]?=some (.cells #[pv,nv,.map (some mb),.func (.yield l) #[] #[]] 361 (0,0))
 ns:¬ No sb
 p:bE No w pv pos
 n:bE No w nv neg
 m:aM w mb K
 nm:¬ No mb
 p3:pos.length<=3
theorem lN.gH {No:Nat->Prop}{w w':W8}{sb mb l:Nat}{pos neg:List (PAtm × Value)}{pv nv:Value}{K:List (Th × Nat)}(h:lN No w sb mb l pos neg pv nv K)(k:aR No w w'):lN No w' sb mb l pos neg pv nv K:=
 ⟨k.cells h.s h.ns,h.ns,h.p.gH k,h.n.gH k,k.map h.m h.nm,h.nm,h.p3⟩
def deniedB (K:List (Th × Nat))(neg:List PAtm)(e:ax):Bool:=neg.any λ x=>(ay K (aB e x)).isSome
def pmatches (K:List (Th × Nat)):List PAtm->ax->List ax
 | [],e=>[e]
 | a::r,e=>K.flatMap λ t=>match aG e a t.1 with
  | some e'=>pmatches K r e'
  | none=>[]
def pways (K:List (Th × Nat))(neg pos:List PAtm)(e:ax):List ax:=(pmatches K pos e).filter λ x=>!deniedB K neg x
end
section
open Go.RowKit
def BV (w:W8)(b:Nat)(e:ax):Prop:=w.heap[b]?=some (.cells (aD e).toArray 135 (0,0))
noncomputable def bLoad (v:Value):Sem Value:=Instr.loadAt 135 v
noncomputable def bStore (p v:Value):Sem Unit:=Instr.storeAt 135 p v
noncomputable def bZero:Sem Value:=zeroValue 135
theorem to_bLoad (v:Value):Instr.loadAt 135 v=bLoad v:=rfl
theorem to_bStore (p v:Value):Instr.storeAt 135 p v=bStore p v:=rfl
theorem to_bZero:zeroValue 135=bZero:=rfl
theorem run_bZero (w:W8):bZero.run Tryz.prog w=.ok (bindV []) w:=by unfold bZero;kernel_rfl
theorem bindV_cells (e:ax):(bindV e).cells=(aD e).toArray:=rfl
variable {e:ax} {b:Nat} {w:W8}
theorem BV.load (h:BV w b e):(bLoad (.pointer (some ⟨b,0,none⟩))).run Tryz.prog w=.ok (bindV e) w:=by
 unfold bLoad Instr.loadAt Instr.sureAddr;simp only[Sem.run_bind,Sem.run_pure,Result.andThen_ok];exact run_loadVar_row w b _ 135 _ _ _ h Tryz.underlying135 rfl (by rw[infoBind];rfl)
theorem BV.store (h:BV w b e)(e':ax):(bStore (.pointer (some ⟨b,0,none⟩)) (bindV e')).run Tryz.prog w=.ok () (w.setRow b (aD e').toArray):=by
 unfold bStore Instr.storeAt Instr.sureAddr;simp only[Sem.run_bind,Sem.run_pure,Result.andThen_ok];exact run_storeVar_row w b _ 135 _ _ h (by rw[infoBind];rfl) rfl (bindCells_one e')
theorem BV.new (w:W8)(e:ax):BV (w.alloc (.cells (aD e).toArray 135)) w.heap.size e:=heap_alloc_new w _
theorem bStore_new (w:W8)(e e':ax):(bStore (.pointer (some ⟨w.heap.size,0,none⟩)) (bindV e')).run Tryz.prog (w.alloc (.cells (aD e).toArray 135))=.ok () (w.alloc (.cells (aD e').toArray 135)):=by
 rw[(BV.new w e).store e',World.setRow_alloc_new]
theorem BV.lt (h:BV w b e):b<w.heap.size:=(Array.getElem?_eq_some_iff.1 h).1
theorem BV.alloc (h:BV w b e)(o:Obj):BV (w.alloc o) b e:=(Below.heap_alloc w o b h.lt).trans h
variable {w':W8}
theorem BV.below (h:BV w b e)(k:Below w.heap.size w w'):BV w' b e:=(k.block b h.lt).trans h
theorem BV_drew:BV w.drew b e↔BV w b e:=Iff.rfl
theorem BV.gH {No:Nat->Prop}(h:BV w b e)(k:aR No w w')(hn:¬ No b):BV w' b e:=k.cells h hn
def TV (w:W8)(b:Nat)(t:Th):Prop:=w.heap[b]?=some (.cells (aq t).toArray 88 (0,0))
noncomputable def tLoad (v:Value):Sem Value:=Instr.loadAt 88 v
noncomputable def tStore (p v:Value):Sem Unit:=Instr.storeAt 88 p v
noncomputable def tZero:Sem Value:=zeroValue 88
theorem to_tLoad (v:Value):Instr.loadAt 88 v=tLoad v:=rfl
theorem to_tStore (p v:Value):Instr.storeAt 88 p v=tStore p v:=rfl
theorem run_tZero (w:W8):tZero.run Tryz.prog w=.ok (thV ({ data:=#[] },[])) w:=by unfold tZero;kernel_rfl
theorem thV_cells (t:Th):(thV t).cells=(aq t).toArray:=rfl
variable {t:Th}
theorem TV.load (h:TV w b t):(tLoad (.pointer (some ⟨b,0,none⟩))).run Tryz.prog w=.ok (thV t) w:=by
 unfold tLoad Instr.loadAt Instr.sureAddr;simp only[Sem.run_bind,Sem.run_pure,Result.andThen_ok];exact run_loadVar_row w b _ 88 _ _ _ h Tryz.underlying88 rfl (by rw[infoTh];rfl)
theorem TV.store (h:TV w b t)(t':Th):(tStore (.pointer (some ⟨b,0,none⟩)) (thV t')).run Tryz.prog w=.ok () (w.setRow b (aq t').toArray):=by
 unfold tStore Instr.storeAt Instr.sureAddr;simp only[Sem.run_bind,Sem.run_pure,Result.andThen_ok];exact run_storeVar_row w b _ 88 _ _ h (by rw[infoTh];rfl) rfl (thCells_one t')
theorem TV.new (w:W8)(t:Th):TV (w.alloc (.cells (aq t).toArray 88)) w.heap.size t:=heap_alloc_new w _
theorem tStore_new (w:W8)(t t':Th):(tStore (.pointer (some ⟨w.heap.size,0,none⟩)) (thV t')).run Tryz.prog (w.alloc (.cells (aq t).toArray 88))=.ok () (w.alloc (.cells (aq t').toArray 88)):=by
 rw[(TV.new w t).store t',World.setRow_alloc_new]
theorem TV.lt (h:TV w b t):b<w.heap.size:=(Array.getElem?_eq_some_iff.1 h).1
theorem TV.alloc (h:TV w b t)(o:Obj):TV (w.alloc o) b t:=(Below.heap_alloc w o b h.lt).trans h
theorem TV.below (h:TV w b t)(k:Below w.heap.size w w'):TV w' b t:=(k.block b h.lt).trans h
noncomputable def tAlloc (h:Bool)(v:Value):Sem Value:=Instr.alloc 88 h v
theorem to_tAlloc (h:Bool)(v:Value):Instr.alloc 88 h v=tAlloc h v:=rfl
theorem run_tAlloc (w:W8)(v:Value):(tAlloc true v).run Tryz.prog w=.ok (.pointer (some ⟨w.heap.size,0,none⟩)) (w.alloc (.cells (aq ({ data:=#[] },[])).toArray 88)):=by
 unfold tAlloc;simp[Instr.alloc,newVar,newRow,go_sem,aq,nth4,Th.p,Th.ts]
noncomputable def bAlloc (h:Bool)(v:Value):Sem Value:=Instr.alloc 135 h v
theorem to_bAlloc (h:Bool)(v:Value):Instr.alloc 135 h v=bAlloc h v:=rfl
theorem run_bAlloc (w:W8)(v:Value):(bAlloc true v).run Tryz.prog w=.ok (.pointer (some ⟨w.heap.size,0,none⟩)) (w.alloc (.cells (aD []).toArray 135)):=by
 unfold bAlloc;simp[Instr.alloc,newVar,newRow,go_sem,aD,eAt]
variable {cs:Array Value} {g:Nat}
theorem BV.lA (h:BV w b e)(bG:b≠g):BV (w.setRow g cs) b e:=(setRow_other w g b cs bG).trans h
theorem cell_far {o:Nat}{v:Value}(h:w.cell? ⟨b,o,none⟩=some v)(bG:b≠g):(w.setRow g cs).cell? ⟨b,o,none⟩=some v:=(cell_setRow_other w g cs ⟨b,o,none⟩ bG).trans h
theorem below_past {w1 w4:W8}(h:Below w.heap.size w w1)(h4:Below w1.drew.heap.size w1.drew w4):Below w.heap.size w w4:=h.trans ((⟨h4.os,h4.tape,h4.output,h4.size,h4.block⟩:Below w1.heap.size w1 w4).mono h.size)
theorem below_of_drew (h:Below w.drew.heap.size w.drew w'):Below w.heap.size w w':=⟨h.os,h.tape,h.output,h.size,h.block⟩
end
end Go.Proofs.YtldkpahaocjdpaaGreat
