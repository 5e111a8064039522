/-
  What variables are, as the program has it: an array of pairs. name: what a variable stands for.
-/
import Derived.Test.YtldkpahaocjdpaaGreatR11
import Derived.BigRegion
import Derived.Deep.CutBlock
set_option maxHeartbeats 16000000
set_option maxRecDepth 1000000
namespace Go.Proofs.YtldkpahaocjdpaaGreat
section
open Go.RowKit
abbrev ax:=List (B8 × B8)
abbrev PTerm:=Bool × B8
def pAt:ax->B8->Option B8
 | [],_=>none
 | x::r,n=>if x.1.toList==n.toList then some x.2 else pAt r n
def dD (e:ax)(n:B8):B8:=(pAt e n).getD { data:=#[] }
variable {e:ax}
theorem pAt_step {k:Nat}{n:B8}(h:k<e.length):pAt (e.drop k) n=if e[k].1.toList==n.toList then some e[k].2 else pAt (e.drop (k+1)) n:=by
 rw[List.drop_eq_getElem_cons h];rfl
def eAt (e:ax)(i:Nat):B8 × B8:=(e[i]?).getD ({ data:=#[] },{ data:=#[] })
def aD (e:ax):V8:=
 [.int .i64 (e.length:Nat),.string (eAt e 0).1,.string (eAt e 0).2,.string (eAt e 1).1,.string (eAt e 1).2,.string (eAt e 2).1,.string (eAt e 2).2,.string (eAt e 3).1,.string (eAt e 3).2,.string (eAt e 4).1,.string (eAt e 4).2,.string (eAt e 5).1,.string (eAt e 5).2,
 .string (eAt e 6).1,.string (eAt e 6).2,.string (eAt e 7).1,.string (eAt e 7).2,.string (eAt e 8).1,.string (eAt e 8).2,.string (eAt e 9).1,.string (eAt e 9).2,.string (eAt e 10).1,.string (eAt e 10).2,.string (eAt e 11).1,.string (eAt e 11).2]
def bindV (e:ax):Value:=.agg (aD e).toArray
variable {i:Nat}
theorem bindCells_var (e:ax)(h:i<12):(aD e)[1+i*2]?=some (.string (eAt e i).1):=by
 match i,h with
 | 0,_ | 1,_ | 2,_ | 3,_ | 4,_ | 5,_ | 6,_ | 7,_ | 8,_ | 9,_ | 10,_ | 11,_=>rfl
theorem bindCells_name (e:ax)(h:i<12):(aD e)[1+i*2+1]?=some (.string (eAt e i).2):=by
 match i,h with
 | 0,_ | 1,_ | 2,_ | 3,_ | 4,_ | 5,_ | 6,_ | 7,_ | 8,_ | 9,_ | 10,_ | 11,_=>rfl
theorem eAt_lt (h:i<e.length):eAt e i=e[i]:=by unfold eAt;rw[List.getElem?_eq_getElem h];rfl
def BindAt (w:W8)(b:Nat)(e:ax):Prop:=∀ j v,(aD e)[j]?=some v->w.cell? ⟨b,j,none⟩=some v
theorem pname_any (w:W8)(b:Nat)(e:ax)(v:B8)(h:BindAt w b e)(hl:e.length<=12):
  Calls Tryz.prog 201 #[.pointer (some ⟨b,0,none⟩),.string v] w λ en w'=>en=.returned (.tuple #[.string (dD e v),.bool (pAt e v).isSome])/\w'=w:=by
 have c0:=h 0 _ rfl;have HB:=hide h;clear h;go_enter Tryz.func201,Tryz.ntmps201;go_wp2_with fail
 go_loop [11] (λ i=>∃ k:Nat,k<=e.length/\i=.int .i64 k/\pAt (e.drop k) v=pAt e v) (λ i=>e.length-(intOf i).toNat)
 exact⟨0,Nat.zero_le _,rfl,rfl⟩
 case round=>
  obtain⟨k,hk,rfl,bj⟩:=hrel;have HF:=hide bj;clear bj
  by_cases aN:k<e.length
  ·have d1:=ad HB _ _ (bindCells_var e (i:=k) (by omega));have d2:=ad HB _ _ (bindCells_name e (i:=k) (by omega));rw[eAt_lt aN] at d1 d2;have HS:=hide (pAt_step (n:=v) aN);have qj:(k:Int)<e.length:=(by omega);have lG:(k:Int)<12:=by omega
   cases hq:e[k].1.toList==v.toList with
   | true=>
    have HE:=hide (show pAt e v=some e[k].2 by rw[<-ad HF,ad HS,if_pos hq]);go_wp2_with fail
    go_ret2
    exact⟨by unfold dD;rw[ad HE];rfl,rfl⟩
   | false=>
    have HE:=hide (show pAt (e.drop (k+1)) v=pAt e v by rw[<-ad HF,ad HS,if_neg (by rw[hq];decide)]);go_wp2_with fail
    go_round
    case rel=>exact⟨k+1,by omega,by go_num,ad HE⟩
    case measure=>simp[intOf];omega
  ·have HE:=hide (show pAt e v=none by rw[<-ad HF,List.drop_of_length_le (by omega)];rfl);go_wp2_with fail
   go_ret2
   exact⟨by unfold dD;rw[ad HE];rfl,rfl⟩
end
section
open Go.RowKit
variable {v:Value} {j:Nat}
theorem bindCells_cases (e:ax)(h:(aD e)[j]?=some v):(j=0/\v=.int .i64 (e.length:Nat))\/∃ i,i<12/\((j=1+i*2/\v=.string (eAt e i).1)\/(j=1+i*2+1/\v=.string (eAt e i).2)):=by
 have hj:j<25:=(List.getElem?_eq_some_iff.1 h).1;rcases Nat.eq_zero_or_pos j with rfl | hp
 ·left;refine⟨rfl,?_⟩;exact (Option.some.inj h).symm
 ·right
  refine⟨(j-1)/2,by omega,?_⟩;rcases Nat.mod_two_eq_zero_or_one (j-1) with hm | hm
  ·left
   have e1:j=1+(j-1)/2*2:=(by omega);refine⟨e1,?_⟩;have:=bindCells_var e (i:=(j-1)/2) (by omega);rw[<-e1] at this;exact Option.some.inj (h.symm.trans this)
  ·right
   have e1:j=1+(j-1)/2*2+1:=(by omega);refine⟨e1,?_⟩;have:=bindCells_name e (i:=(j-1)/2) (by omega);rw[<-e1] at this;exact Option.some.inj (h.symm.trans this)
theorem eAt_snoc (e:ax)(x:B8 × B8)(i:Nat):eAt (e++[x]) i=if i=e.length then x else eAt e i:=by
 unfold eAt;rw[List.getElem?_append]
 split
 ·rename_i h;rw[if_neg (by omega)]
 ·rename_i h
  split
  ·rename_i h2;subst h2;simp
  ·rename_i h2;rw[List.getElem?_eq_none (by simp;omega),List.getElem?_eq_none (by omega)]
structure br (w:W8)(b:Nat)(e:ax):Prop where
 cells:BindAt w b e
 arr:∃ cs,w.heap[b]?=some (.cells cs 135 (0,0))/\cs.size=25
variable {e:ax} {b:Nat} {w:W8}
theorem br.fz (h:br w b e)(j:Nat):w.frozen? ⟨b,j,none⟩=false:=by
 obtain⟨cs,h1,_⟩:=h.arr;simp[World.frozen?,h1]
theorem br.lt (h:br w b e):b<w.heap.size:=by
 obtain⟨cs,h1,_⟩:=h.arr;exact (Array.getElem?_eq_some_iff.1 h1).1
theorem br.whole (h:br w b e):w.heap[b]?=some (.cells (aD e).toArray 135 (0,0)):=by
 obtain⟨cs,h1,h2⟩:=h.arr;have:cs=(aD e).toArray:=by
  apply Array.ext
  ·rw[h2];rfl
  ·intro j hj CG;have:=h.cells j _ (by rw[<-List.getElem?_toArray];exact Array.getElem?_eq_getElem CG);rw[cell_of_row w b j cs _ _ h1,Array.getElem?_eq_getElem hj] at this;exact Option.some.inj this
 rw[h1,this]
theorem br.of (h:w.heap[b]?=some (.cells (aD e).toArray 135 (0,0))):br w b e:=
 ⟨λ j v hj=>by rw[cell_of_row w b j _ _ _ h,List.getElem?_toArray];exact hj,_,h,rfl⟩
theorem br.block {w':W8}(h:br w b e)(hb:w'.heap[b]?=w.heap[b]?):br w' b e:=br.of (hb.trans h.whole)
theorem br.drew (h:br w b e):br w.drew b e:=⟨h.cells,h.arr⟩
theorem arr_set {T:TypeId}{n:Nat}(h:∃ cs,w.heap[b]?=some (.cells cs T (0,0))/\cs.size=n):∃ cs,(w.setCell ⟨b,j,none⟩ v).heap[b]?=some (.cells cs T (0,0))/\cs.size=n:=by
 obtain⟨cs,h1,h2⟩:=h;rw[setCell_eq_setRow w b j cs T (0,0) v h1];exact⟨_,setRow_heap w b cs _ T _ h1,by simpa using h2⟩
def gy (w:W8)(b k:Nat)(v n:B8):W8:=((w.setCell ⟨b,1+k*2,none⟩ (.string v)).setCell ⟨b,1+k*2+1,none⟩ (.string n)).setCell ⟨b,0,none⟩ (.int .i64 ((k:Int)+1))
theorem br.set (h:br w b e)(hl:e.length<12)(v n:B8):br (gy w b e.length v n) b (e++[(v,n)]):=by
 refine⟨λ j x hj=>?_,arr_set (arr_set (arr_set h.arr))⟩;have c0:=h.cells 0 _ rfl;have cv:=h.cells _ _ (bindCells_var e hl);have cn:=h.cells _ _ (bindCells_name e hl);unfold gy;rcases bindCells_cases _ hj with⟨rfl,rfl⟩ | ⟨i,hi,⟨rfl,rfl⟩ | ⟨rfl,rfl⟩⟩
 ·rw[World.cell?_setCell_same' _ _ _ (by rw[World.cell?_setCell_other _ _ _ _ (by intro e;injection e;omega),World.cell?_setCell_other _ _ _ _ (by intro e;injection e;omega),c0];rfl)];simp
 ·rw[World.cell?_setCell_other _ _ _ _ (by intro e;injection e;omega),World.cell?_setCell_other _ _ _ _ (by intro e;injection e;omega),eAt_snoc]
  by_cases hk:i=e.length
  ·subst hk;rw[World.cell?_setCell_same' _ _ _ (by rw[cv];rfl),if_pos rfl]
  ·rw[World.cell?_setCell_other _ _ _ _ (by intro e;injection e;omega),if_neg hk];exact h.cells _ _ (bindCells_var e hi)
 ·rw[World.cell?_setCell_other _ _ _ _ (by intro e;injection e;omega),eAt_snoc]
  by_cases hk:i=e.length
  ·subst hk;rw[World.cell?_setCell_same' _ _ _ (by rw[World.cell?_setCell_other _ _ _ _ (by intro e;injection e;omega),cn];rfl),if_pos rfl]
  ·rw[World.cell?_setCell_other _ _ _ _ (by intro e;injection e;omega),World.cell?_setCell_other _ _ _ _ (by intro e;injection e;omega),if_neg hk];exact h.cells _ _ (bindCells_name e hi)
theorem Kept.gy {B:List Nat}{a:W8}(h:Kept B a w)(hp:b∈B\/a.heap.size<=b)(k:Nat)(v n:B8):Kept B a (Go.Proofs.YtldkpahaocjdpaaGreat.gy w b k v n):=
 ((h.setCell (p:=⟨b,1+k*2,none⟩) hp _).setCell (p:=⟨b,1+k*2+1,none⟩) hp _).setCell (p:=⟨b,0,none⟩) hp _
def pmB (e:ax)(v n:B8):Option ax:=
 match pAt e v with
 | some x=>if x.toList==n.toList then some e else none
 | none=>some (e++[(v,n)])
def BindPost (w:W8)(b:Nat)(r:Option ax)(en:Ending)(w':W8):Prop:=Kept [b] w w'/\en=.returned (.bool r.isSome)/\∀ e',r=some e'->br w' b e'
theorem pbind_any (w:W8)(b:Nat)(e:ax)(v n:B8)(h:br w b e)(hl:e.length<=12)(hr:pAt e v=none->e.length<12):
  Calls Tryz.prog 147 #[.pointer (some ⟨b,0,none⟩),.string v,.string n] w (BindPost w b (pmB e v n)):=by
 have HN:=hide (pname_any w b e v h.cells hl);have HP:=hide (show BindPost w b (pmB e v n)=BindPost w b (match pAt e v with | some x=>if x.toList==n.toList then some e else none | none=>some (e++[(v,n)])) from rfl);have c0:=h.cells 0 _ rfl;have f0:=h.fz 0;have HB:=hide h;have hb:=h.lt;clear h
 cases hp:pAt e v with
 | some x=>
  have HX:=hide (show dD e v=x by unfold dD;rw[hp];rfl);rw[hp] at HP HN;clear hr;have xa:=hide hp;clear hp;go_enter Tryz.func147,Tryz.ntmps147;go_wp2_with (go_at_call 201;refine (ad HN).mono ?_;rintro en w1 ⟨rfl,bq⟩;subst bq);rw[ad HX];go_wp2_with fail;go_ret;rw[ad HP];refine⟨Kept.refl _ _,?_,λ e' iE=>?_⟩
  ·split <;> rename_i hq <;> simp[hq]
  ·split at iE
   ·cases iE;exact ad HB
   ·cases iE
 | none=>
  have bP:=hr hp;have HX:=hide (show dD e v={ data:=#[] } by unfold dD;rw[hp];rfl);rw[hp] at HP HN;clear hr;have xa:=hide hp;clear hp;have cv:=(ad HB).cells _ _ (bindCells_var e bP);have cn:=(ad HB).cells _ _ (bindCells_name e bP);have fv:=(ad HB).fz (1+e.length*2);have fn:=(ad HB).fz (1+e.length*2+1);have lG:(e.length:Int)<12:=by omega
  go_enter Tryz.func147,Tryz.ntmps147;go_wp2_with (go_at_call 201;refine (ad HN).mono ?_;rintro en w1 ⟨rfl,bq⟩;subst bq)
  go_region
  go_wp2_with fail;go_ret;rw[ad HP];exact⟨((Kept.refl [b] w1).gy (b:=b) (by simp) e.length v n).drew,rfl,λ e' iE=>by cases iE;exact ((ad HB).set bP v n).drew⟩
end
section
open Go.RowKit
theorem asVar_yes (W:W8)(v:Value):(Instr.typeAssert (.iface 130 v) 191 130 true).run Tryz.prog W=.ok (.tuple #[v,.bool true]) W:=by kernel_rfl
theorem asName_yes (W:W8)(v:Value):(Instr.typeAssert (.iface 193 v) 191 193 true).run Tryz.prog W=.ok (.tuple #[v,.bool true]) W:=by kernel_rfl
theorem asName_no (W:W8)(v:Value):(Instr.typeAssert (.iface 130 v) 191 193 true).run Tryz.prog W=.ok (.tuple #[.string { data:=#[] },.bool false]) W:=by kernel_rfl
def termV (t:PTerm):Value:=.iface (if t.1 then 130 else 193) (.string t.2)
def pmT (e:ax)(t:PTerm)(n:B8):Option ax:=if t.1 then pmB e t.2 n else if t.2.toList==n.toList then some e else none
theorem pmterm_any (w:W8)(b:Nat)(e:ax)(t:PTerm)(n:B8)(h:br w b e)(hl:e.length<=12)(hr:t.1=true->pAt e t.2=none->e.length<12):
  Calls Tryz.prog 101 #[.pointer (some ⟨b,0,none⟩),termV t,.string n] w (BindPost w b (pmT e t n)):=by
 obtain⟨c,v⟩:=t;have HB:=hide h;have HI:=hide h;clear h;have h1:=asVar_yes;have h2:=asName_yes;have h3:=asName_no
 cases c with
 | true=>
  have HN:=hide (pbind_any w b e v n (ad HI) hl (hr rfl));clear hr;have HP:=hide (show BindPost w b (pmT e (true,v) n)=BindPost w b (pmB e v n) from rfl);rw[show termV (true,v)=.iface 130 (.string v) from rfl];go_enter Tryz.func101,Tryz.ntmps101;go_wp2_with (go_at_call 147;refine (ad HN).mono ?_;rintro en w1 ⟨hk,rfl,ak⟩;have HK:=hide hk;have HI:=hide ak;clear hk ak);go_ret;rw[ad HP];exact⟨ad HK,rfl,ad HI⟩
 | false=>
  have HP:=hide (show BindPost w b (pmT e (false,v) n)=BindPost w b (if v.toList==n.toList then some e else none) from rfl);rw[show termV (false,v)=.iface 193 (.string v) from rfl];go_enter Tryz.func101,Tryz.ntmps101;go_wp2_with fail;go_ret;rw[ad HP];refine⟨Kept.refl _ _,?_,λ e' iE=>?_⟩
  ·split <;> rename_i hq <;> simp[hq]
  ·split at iE
   ·cases iE;exact ad HB
   ·cases iE
end
section
open Go.RowKit
def pmTs:ax->List PTerm->List B8->Option ax
 | e,[],_=>some e
 | e,t::ts,ns=>match pmT e t (ns.headD { data:=#[] }) with
  | some e'=>pmTs e' ts ns.tail
  | none=>none
structure PAtm where
 p:B8
 ts:List PTerm
def aG (e:ax)(a:PAtm)(t:Th):Option ax:=if a.p.toList==t.p.toList then pmTs e a.ts t.ts else none
theorem headD_drop (l:List B8)(k:Nat):(l.drop k).headD { data:=#[] }=nth4 l k:=by
 unfold nth4;rw[List.headD_eq_head?_getD,List.head?_drop]
variable {e:ax}
theorem pmTs_step {ts:List PTerm}{ns:List B8}{k:Nat}(h:k<ts.length):pmTs e (ts.drop k) (ns.drop k)=match pmT e ts[k] (nth4 ns k) with | some e'=>pmTs e' (ts.drop (k+1)) (ns.drop (k+1)) | none=>none:=by
 rw[List.drop_eq_getElem_cons h,pmTs,headD_drop,List.tail_drop]
structure aY (Vs:List B8)(e:ax):Prop where
 nd:(e.map (·.1)).Nodup
 sub:∀ x∈e,x.1∈Vs
theorem aY.nil (Vs:List B8):aY Vs []:=⟨by simp,by simp⟩
theorem nodup_sub {α:Type}[DecidableEq α]:∀ (xs ys:List α),xs.Nodup->(∀ x∈xs,x∈ys)->xs.length<=ys.length
 | [],_,_,_=>by simp
 | x::xs,ys,hn,h=>by
  obtain⟨h1,h2⟩:=List.nodup_cons.1 hn;have hx:=h x List.mem_cons_self;have:=nodup_sub xs (ys.erase x) h2 (λ y hy=>(List.mem_erase_of_ne (λ e:y=x=>h1 (e ▸ hy))).2 (h y (List.mem_cons_of_mem _ hy)));rw[List.length_erase_of_mem hx] at this;have:0<ys.length:=List.length_pos_of_mem hx;simp;omega
variable {Vs:List B8}
theorem aY.len (h:aY Vs e):e.length<=Vs.length:=by
 have:=nodup_sub _ Vs h.nd (λ x hx=>by obtain⟨y,hy,rfl⟩:=List.mem_map.1 hx;exact h.sub y hy);simpa using this
theorem pAt_none {v:B8}:∀ {e:ax},pAt e v=none->v∉e.map (·.1)
 | [],_=>by simp
 | x::r,h=>by
  rw[pAt] at h
  split at h
  ·cases h
  ·rename_i hx;rw[List.map_cons,List.mem_cons];rintro (e | e)
   ·rw[e] at hx;simp at hx
   ·exact pAt_none h e
variable {v n:B8}
theorem aY.snoc (h:aY Vs e)(hv:v∈Vs)(hn:pAt e v=none):aY Vs (e++[(v,n)]):=by
 refine⟨?_,λ x hx=>?_⟩
 ·rw[List.map_append,List.nodup_append];exact⟨h.nd,by simp,λ a ha b hb e=>pAt_none hn (by rw[<-(List.mem_singleton.1 hb:b=v),<-e];exact ha)⟩
 ·rcases List.mem_append.1 hx with hx | hx
  ·exact h.sub x hx
  ·rw[List.mem_singleton.1 hx];exact hv
theorem aY.room (h:aY Vs e)(hv:v∈Vs)(hn:pAt e v=none):e.length<Vs.length:=by
 have:=(h.snoc (n:=v) hv hn).len;rw[List.length_append] at this;exact this
variable {e':ax}
theorem aY.term (h:aY Vs e){t:PTerm}(ht:t.1=true->t.2∈Vs)(hm:pmT e t n=some e'):aY Vs e':=by
 unfold pmT pmB at hm
 split at hm
 ·rename_i h1
  split at hm
  ·split at hm
   ·cases hm;exact h
   ·cases hm
  ·rename_i h2;cases hm;exact h.snoc (ht h1) h2
 ·split at hm
  ·cases hm;exact h
  ·cases hm
theorem aY.aS {Vs:List B8}:∀ {ts:List PTerm} {ns:List B8} {e e':ax},aY Vs e->(∀ t∈ts,t.1=true->t.2∈Vs)->pmTs e ts ns=some e'->aY Vs e'
 | [],_,e,e',h,_,hm=>by rw[pmTs] at hm;cases hm;exact h
 | t::ts,ns,e,e',h,ht,hm=>by
  rw[pmTs] at hm
  split at hm
  ·rename_i e1 h1;exact aY.aS (h.term (ht t List.mem_cons_self) h1) (λ x hx=>ht x (List.mem_cons_of_mem _ hx)) hm
  ·cases hm
theorem aY.matched {A:PAtm}{t:Th}(h:aY Vs e)(ht:∀ t∈A.ts,t.1=true->t.2∈Vs)(hm:aG e A t=some e'):aY Vs e':=by
 unfold aG at hm
 split at hm
 ·exact h.aS ht hm
 ·cases hm
theorem thCells_name (t:Th){i:Nat}(h:i<4):(aq t)[1+i]?=some (.string (nth4 t.ts i)):=by
 match i,h with
 | 0,_ | 1,_ | 2,_ | 3,_=>rfl
variable {w:W8}
theorem termsAt {base:Nat}{a:O8}{c:Nat}{ts:List PTerm}(h:w.ownsRow base 191 1 (.slice a ts.length c) ts.length (ts.map termV))(k:Nat)(hk:k<ts.length):∃ g,a=some ⟨g,0,none⟩/\g<w.heap.size/\ts.length<=c/\c<=maxLen/\w.cell? ⟨g,k,none⟩=some (termV ts[k]):=by
 rcases h.2 with⟨_,h0⟩ | ⟨g,cap,cur,hv,hb,hg,dG,dx,eZ,ht⟩
 ·omega
 ·injection hv with h1 h2 h3
  subst h1 h3;refine⟨g,rfl,(Array.getElem?_eq_some_iff.1 hg).1,dG,dx,?_⟩;rw[h.cellAt k (by omega),List.getElem?_map,List.getElem?_eq_getElem hk];rfl
def MatchedPost (w:W8)(r:Option ax)(en:Ending)(w':W8):Prop:=Below w.heap.size w w'/\en=.returned (.tuple #[bindV (r.getD []),.bool r.isSome])
theorem infoBind:(Tryz.prog.info? 135).map (·.size)=some 25:=by kernel_rfl
theorem bindCells_one (e:ax):(aD e).toArray.all (·.oneCell')=true:=by simp[aD,Value.oneCell']
theorem results_bind {fn:Func}{p u:Tmp}(h:fn.results=#[.cell p 135,.tmp u])(tmps:Array Value)(w:W8)(g:Nat)(e:ax)(hp:tmps.getD p undef=.pointer (some ⟨g,0,none⟩))(hg:w.heap[g]?=some (.cells (aD e).toArray 135 (0,0))):
  (results fn tmps).run Tryz.prog w=.ok (.tuple #[bindV e,tmps.getD u undef]) w:=by
 have rf:tmps[p]?.getD undef=.pointer (some ⟨g,0,none⟩):=by simpa using hp
 have jT:tmps.getD u undef=tmps[u]?.getD undef:=by simp
 rw[jT];simp[results,h,rf,asAddr,run_loadVar_row w g _ 135 _ _ _ hg Tryz.underlying135 rfl (by rw[infoBind];rfl),bindV]
theorem below_setRow {B:Nat}{w':W8}(h:Below B w w'){g:Nat}(hg:B<=g)(cs:Array Value):Below B w (w'.setRow g cs):=
 ⟨h.os,h.tape,h.output,by rw[setRow_size];exact h.size,λ k hk=>(setRow_other w' g k cs (by omega)).trans (h.block k hk)⟩
theorem pmatch_any (w:W8)(base:Nat)(e:ax)(A:PAtm)(a:O8)(c:Nat)(t:Th)(h:w.ownsRow base 191 1 (.slice a A.ts.length c) A.ts.length (A.ts.map termV))(h4:A.ts.length<=4)(Vs:List B8)(hV:Vs.length<=12)(he:aY Vs e)(ht:∀ t∈A.ts,t.1=true->t.2∈Vs):
  Calls Tryz.prog 62 #[bindV e,.agg #[.string A.p,.slice a A.ts.length c],thV t] w (MatchedPost w (aG e A t)):=by
 obtain⟨cs,eZ⟩:∃ cs,cs=(aD e).toArray:=⟨_,rfl⟩;obtain⟨ct,eM⟩:∃ ct,ct=(aq t).toArray:=⟨_,rfl⟩;have rI:=hide eZ;have fw:=hide eM;unfold bindV thV;rw[<-eZ,<-eM];clear eZ eM;have H:=hide h;have G6:=hide he;have xo:=hide ht;clear h he ht;have q0:cs.size=25:=by rw[ad rI];rfl
 have q1:ct.size=5:=by rw[ad fw];rfl
 go_enter Tryz.func62,Tryz.ntmps62;go_upto_region 1 with fail;generalize hw0:World.alloc (World.alloc (World.alloc (World.alloc w _) _) _) _=w0;have k0:Below w.heap.size w w0:=by
  rw[<-hw0];exact ((((Below.refl w.heap.size w).alloc L9 _).alloc (by simp) _).alloc (by simp only[World.size_alloc];omega) _).alloc (by simp only[World.size_alloc];omega) _
 have x0:w0.heap[w.heap.size]?=some (.cells cs 135 (0,0)):=by
  rw[<-hw0,Below.heap_alloc _ _ _ (by simp only[World.size_alloc];omega),Below.heap_alloc _ _ _ (by simp only[World.size_alloc];omega),Below.heap_alloc _ _ _ (by simp)];exact heap_alloc_new w _
 have x1:w0.heap[w.heap.size+1]?=some (.cells #[.string A.p,.slice a A.ts.length c] 79 (0,0)):=by
  rw[<-hw0,Below.heap_alloc _ _ _ (by simp only[World.size_alloc];omega),Below.heap_alloc _ _ _ (by simp)];have:=heap_alloc_new (w.alloc (.cells cs 135)) (.cells #[.string A.p,.slice a A.ts.length c] 79);rw[World.size_alloc] at this;exact this
 have x2:w0.heap[w.heap.size+1+1]?=some (.cells ct 88 (0,0)):=by
  rw[<-hw0,Below.heap_alloc _ _ _ (by simp)];have:=heap_alloc_new ((w.alloc (.cells cs 135)).alloc (.cells #[.string A.p,.slice a A.ts.length c] 79)) (.cells ct 88);rw[World.size_alloc,World.size_alloc] at this;exact this
 have x3:w0.heap[w.heap.size+1+1+1]?=some (.cells (aD []).toArray 135 (0,0)):=by
  rw[<-hw0];have:=heap_alloc_new (((w.alloc (.cells cs 135)).alloc (.cells #[.string A.p,.slice a A.ts.length c] 79)).alloc (.cells ct 88)) (.cells (aD []).toArray 135);rw[World.size_alloc,World.size_alloc,World.size_alloc] at this;exact this
 have s0:w.heap.size+1+1+1+1=w0.heap.size:=by rw[<-hw0];simp
 have b0:br w0 w.heap.size e:=br.of (by rw[x0,ad rI]);have ee:=own_block (ad H) (λ g e=>k0.block g ((ad H).lt g e).2);clear hw0 H;have gd:=hide b0;have fH:=hide s0;have qJ:=hide x3;have na:=hide ee;have cq:=hide k0;obtain⟨p0,-⟩:=block_cells x1 0;obtain⟨p1,-⟩:=block_cells x1 1;obtain⟨t0,-⟩:=block_cells x2 0;replace t0:w0.cell? ⟨w.heap.size+1+1,0,none⟩=some (.string t.p):=by rw[t0,ad fw];rfl
 have qb:=hide x1;have oF:=hide x2;clear x0 x1 x2 x3 b0 ee k0 s0
 cases hq:A.p.toList==t.p.toList with
 | false=>
  have HP:=hide (show aG e A t=none by unfold aG;rw[hq];rfl);go_wp2_with (first | (refine wpList_store_row rfl 135 _ _ rfl _ _ rfl rfl _ _ (ad qJ) (by rw[infoBind];rfl) rfl (bindCells_one []) ?_) | fail);refine bodyPost_ret (v:=.tuple #[bindV [],.bool false]) (results_bind Tryz.results62 _ _ _ [] rfl (setRow_heap _ _ _ _ _ _ (ad qJ))) rfl ?_;rw[ad HP];exact⟨below_setRow (ad cq) (by omega) _,rfl⟩
 | true=>
  have HP:=hide (show aG e A t=pmTs e A.ts t.ts by unfold aG;rw[hq];rfl);go_wp2_with fail
  go_loopg [19] A.ts.length (λ gg i wr=>∃ (k:Nat) (e':ax),k<=A.ts.length/\gg=A.ts.length-k/\i=.int .i64 k/\pmTs e' (A.ts.drop k) (t.ts.drop k)=pmTs e A.ts t.ts/\br wr w.heap.size e'/\Kept [w.heap.size] w0 wr/\aY Vs e')
  exact⟨0,e,Nat.zero_le _,rfl,rfl,rfl,ad gd,Kept.refl _ _,ad G6⟩
  case round=>
   obtain⟨k,e',hk,fM,rfl,bj,hb,cV,qV⟩:=hrel;have rJ:=hide qV;have HF:=hide bj;have HB:=hide hb;have gw:=hide cV;have sY:=ad fH;have y3:wr.heap[w.heap.size+1+1+1]?=some (.cells (aD []).toArray 135 (0,0)):=(cV.block _ (by omega) (by simp;omega)).trans (ad qJ);have xx:=hide y3;have lu:=hide (show Below w.heap.size w wr from ⟨cV.os.trans (ad cq).os,cV.tape.trans (ad cq).tape,cV.output.trans (ad cq).output,Nat.le_trans (ad cq).size cV.size,λ i hi=>(cV.block i (by omega) (by simp;omega)).trans ((ad cq).block i hi)⟩);clear bj hb cV y3 qV
   by_cases aN:k<A.ts.length
   ·obtain⟨g,rfl,nB,dG,dx,hc⟩:=termsAt (ad na) k aN;have jB:wr.cell? ⟨w.heap.size+1+1,1+k,none⟩=some (.string (nth4 t.ts k)):=by
     have:=(block_cells ((ad gw).block _ (by omega) (by simp;omega) |>.trans (ad oF)) (1+k)).1;rw[this,ad fw,List.getElem?_toArray];exact thCells_name t (by omega)
    have Jq:g≠w.heap.size:=λ e1=>by
     have h1:=(ad gd).whole;rcases (ad na).2 with⟨_,h0⟩ | ⟨g2,cap,cur,hv,aU,dd,_⟩
     ·omega
     ·injection hv with h2 _ _
      injection h2 with h2
      injection h2 with h2
      rw[<-h2,e1,h1] at dd;injection dd with dd
      injection dd with _ dd _
      cases dd
    have gD:wr.cell? ⟨g,k,none⟩=some (termV A.ts[k]):=((ad gw).cell (p:=⟨g,k,none⟩) nB (by simp;exact Jq)).trans hc;have HM:=hide (pmterm_any wr w.heap.size e' A.ts[k] (nth4 t.ts k) (ad HB) (by have:=(ad rJ).len;omega) (λ h1 h2=>Nat.lt_of_lt_of_le ((ad rJ).room (ad xo _ (List.getElem_mem aN) h1) h2) hV));have HS:=hide (pmTs_step (e:=e') (ns:=t.ts) aN);have gW:(k:Int)<A.ts.length:=(by omega);have jq:(1+k:Int)<5:=(by omega);clear hc sY
    cases hr:pmT e' A.ts[k] (nth4 t.ts k) with
    | none=>
     rw[hr] at HS HM;have HE:=hide (show pmTs e A.ts t.ts=none by rw[<-ad HF,ad HS]);go_upto_region 7 with (go_at_call 101;refine (ad HM).mono ?_;rintro en w1 ⟨de,rfl,ak⟩;have gM:=hide de;clear de ak);have y3:w1.heap[w.heap.size+1+1+1]?=some (.cells (aD []).toArray 135 (0,0)):=((ad gM).block _ (by have:=ad fH;have:=(ad gw).size;omega) (by simp;omega)).trans (ad xx);have HY:=hide y3;have Bb:=hide (show Below w.heap.size w w1 from ⟨(ad gM).os.trans (ad lu).os,(ad gM).tape.trans (ad lu).tape,(ad gM).output.trans (ad lu).output,Nat.le_trans (ad lu).size (ad gM).size,λ i hi=>((ad gM).block i (by have:=(ad lu).size;omega) (by simp;omega)).trans ((ad lu).block i hi)⟩);clear y3;go_wp2_with (first | (refine wpList_store_row rfl 135 _ _ rfl _ _ rfl rfl _ _ (ad HY) (by rw[infoBind];rfl) rfl (bindCells_one []) ?_) | fail);refine bodyPost_ret (v:=.tuple #[bindV [],.bool false]) (results_bind Tryz.results62 _ _ _ [] rfl (setRow_heap _ _ _ _ _ _ (ad HY))) rfl ?_;rw[ad HP,ad HE];exact⟨below_setRow (ad Bb) (by omega) _,rfl⟩
    | some e2=>
     have A4:=hide ((ad rJ).term (ad xo _ (List.getElem_mem aN)) hr);rw[hr] at HS HM;have bK:=hide (show pmTs e2 (A.ts.drop (k+1)) (t.ts.drop (k+1))=pmTs e A.ts t.ts by rw[<-ad HF,ad HS]);go_wp2_with (go_at_call 101;refine (ad HM).mono ?_;rintro en w1 ⟨de,rfl,ak⟩;have gM:=hide de;have fG:=hide (ak e2 rfl);clear de ak);go_roundg (A.ts.length-(k+1));exact⟨k+1,e2,by omega,rfl,by go_num,ad bK,ad fG,(ad gw).trans (ad gM),ad A4⟩;omega
   ·have HE:=hide (show pmTs e A.ts t.ts=some e' by rw[<-ad HF,List.drop_of_length_le (by omega)];rfl);have AI:=(ad HB).whole;have HW:=hide AI;clear AI sY;go_wp2_with (first | (refine wpList_load_row rfl 135 _ rfl _ rfl _ _ _ _ (ad HW) Tryz.underlying135 rfl (by rw[infoBind];rfl) ?_) | (refine wpList_store_row rfl 135 _ _ rfl _ _ rfl rfl _ _ (ad xx) (by rw[infoBind];rfl) rfl (bindCells_one _) ?_) | fail);refine bodyPost_ret (v:=.tuple #[bindV e',.bool true]) (results_bind Tryz.results62 _ _ _ e' rfl (setRow_heap _ _ _ _ _ _ (ad xx))) rfl ?_;rw[ad HP,ad HE];exact⟨below_setRow (ad lu) (by omega) _,rfl⟩
end
end Go.Proofs.YtldkpahaocjdpaaGreat
