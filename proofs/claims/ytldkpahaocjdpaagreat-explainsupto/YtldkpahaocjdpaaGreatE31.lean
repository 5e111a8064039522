/-
  What variables are, as the program has it: an array of pairs. name: what a variable stands for.
-/
import Derived.Test.YtldkpahaocjdpaaGreatE30
import Derived.Deep.CutBlock
set_option maxHeartbeats 16000000
set_option maxRecDepth 1000000
namespace Go.Proofs.YtldkpahaocjdpaaGreat
section
open Go.RowKit
abbrev yR:=List (B8 × B8)
abbrev zd8:=Bool × B8
def pAt:yR->B8->Option B8
 | [],_=>none
 | x::r,n=>if x.1.toList==n.toList then some x.2 else pAt r n
def nW (e:yR)(n:B8):B8:=(pAt e n).getD { data:=#[] }
variable {e:yR}
theorem z58 {k:Nat}{n:B8}(h:k<e.length):pAt (e.drop k) n=if e[k].1.toList==n.toList then some e[k].2 else pAt (e.drop (k+1)) n:=by
 rw[List.drop_eq_getElem_cons h];rfl
def eAt (e:yR)(i:Nat):B8 × B8:=(e[i]?).getD ({ data:=#[] },{ data:=#[] })
def yQ (e:yR):V8:=
 [.int .i64 (e.length:Nat),.string (eAt e 0).1,.string (eAt e 0).2,.string (eAt e 1).1,.string (eAt e 1).2,.string (eAt e 2).1,.string (eAt e 2).2,.string (eAt e 3).1,.string (eAt e 3).2,.string (eAt e 4).1,.string (eAt e 4).2,.string (eAt e 5).1,.string (eAt e 5).2,
 .string (eAt e 6).1,.string (eAt e 6).2,.string (eAt e 7).1,.string (eAt e 7).2,.string (eAt e 8).1,.string (eAt e 8).2,.string (eAt e 9).1,.string (eAt e 9).2,.string (eAt e 10).1,.string (eAt e 10).2,.string (eAt e 11).1,.string (eAt e 11).2]
def zau (e:yR):Value:=.agg (yQ e).toArray
variable {i:Nat}
theorem za7 (e:yR)(h:i<12):(yQ e)[1+i*2]?=some (.string (eAt e i).1):=by
 match i,h with
 | 0,_ | 1,_ | 2,_ | 3,_ | 4,_ | 5,_ | 6,_ | 7,_ | 8,_ | 9,_ | 10,_ | 11,_=>rfl
theorem zad (e:yR)(h:i<12):(yQ e)[1+i*2+1]?=some (.string (eAt e i).2):=by
 match i,h with
 | 0,_ | 1,_ | 2,_ | 3,_ | 4,_ | 5,_ | 6,_ | 7,_ | 8,_ | 9,_ | 10,_ | 11,_=>rfl
theorem yc8 (h:i<e.length):eAt e i=e[i]:=by unfold eAt;rw[List.getElem?_eq_getElem h];rfl
def z9p (w:W8)(b:Nat)(e:yR):Prop:=∀ j v,(yQ e)[j]?=some v->w.cell? ⟨b,j,none⟩=some v
theorem zsx (w:W8)(b:Nat)(e:yR)(v:B8)(h:z9p w b e)(hl:e.length<=12):
  Calls Tryz.prog 201 #[.pointer (some ⟨b,0,none⟩),.string v] w λ en w'=>en=.returned (.tuple #[.string (nW e v),.bool (pAt e v).isSome])/\w'=w:=by
 have c0:=h 0 _ rfl;have HB:=zC h;clear h;go_enter Tryz.func201,Tryz.ntmps201;go_wp2_with fail
 go_loop [11] (λ i=>∃ k:Nat,k<=e.length/\i=.int .i64 k/\pAt (e.drop k) v=pAt e v) (λ i=>e.length-(intOf i).toNat)
 exact⟨0,Nat.zero_le _,rfl,rfl⟩
 case round=>
  obtain⟨k,hk,rfl,aE⟩:=hrel;have HF:=zC aE;clear aE
  by_cases aF:k<e.length
  ·have d1:=zA HB _ _ (za7 e (i:=k) (by omega));have d2:=zA HB _ _ (zad e (i:=k) (by omega));rw[yc8 aF] at d1 d2;have HS:=zC (z58 (n:=v) aF);have ku:(k:Int)<e.length:=(by omega);have lg:(k:Int)<12:=by omega
   cases hq:e[k].1.toList==v.toList with
   | true=>
    have HE:=zC (show pAt e v=some e[k].2 by rw[<-zA HF,zA HS,if_pos hq]);go_wp2_with fail
    go_ret2
    exact⟨by unfold nW;rw[zA HE];rfl,rfl⟩
   | false=>
    have HE:=zC (show pAt (e.drop (k+1)) v=pAt e v by rw[<-zA HF,zA HS,if_neg (by rw[hq];decide)]);go_wp2_with fail
    go_round
    case rel=>exact⟨k+1,by omega,by go_num,zA HE⟩
    case measure=>simp[intOf];omega
  ·have HE:=zC (show pAt e v=none by rw[<-zA HF,List.drop_of_length_le (by omega)];rfl);go_wp2_with fail
   go_ret2
   exact⟨by unfold nW;rw[zA HE];rfl,rfl⟩
end
section
open Go.RowKit
variable {v:Value} {j:Nat}
theorem znb (e:yR)(h:(yQ e)[j]?=some v):(j=0/\v=.int .i64 (e.length:Nat))\/∃ i,i<12/\((j=1+i*2/\v=.string (eAt e i).1)\/(j=1+i*2+1/\v=.string (eAt e i).2)):=by
 have hj:j<25:=(List.getElem?_eq_some_iff.1 h).1;rcases Nat.eq_zero_or_pos j with rfl | hp
 ·left;refine⟨rfl,?_⟩;exact (Option.some.inj h).symm
 ·right
  refine⟨(j-1)/2,by omega,?_⟩;rcases Nat.mod_two_eq_zero_or_one (j-1) with hm | hm
  ·left
   have e1:j=1+(j-1)/2*2:=(by omega);refine⟨e1,?_⟩;have:=za7 e (i:=(j-1)/2) (by omega);rw[<-e1] at this;exact Option.some.inj (h.symm.trans this)
  ·right
   have e1:j=1+(j-1)/2*2+1:=(by omega);refine⟨e1,?_⟩;have:=zad e (i:=(j-1)/2) (by omega);rw[<-e1] at this;exact Option.some.inj (h.symm.trans this)
theorem zv8 (e:yR)(x:B8 × B8)(i:Nat):eAt (e++[x]) i=if i=e.length then x else eAt e i:=by
 unfold eAt;rw[List.getElem?_append]
 split
 ·rename_i h;rw[if_neg (by omega)]
 ·rename_i h
  split
  ·rename_i h2;subst h2;simp
  ·rename_i h2;rw[List.getElem?_eq_none (by simp;omega),List.getElem?_eq_none (by omega)]
structure j0 (w:W8)(b:Nat)(e:yR):Prop where
 cells:z9p w b e
 arr:∃ cs,w.heap[b]?=some (.cells cs 135 (0,0))/\cs.size=25
variable {e:yR} {b:Nat} {w:W8}
theorem j0.fz (h:j0 w b e)(j:Nat):w.frozen? ⟨b,j,none⟩=false:=by
 obtain⟨cs,h1,_⟩:=h.arr;simp[World.frozen?,h1]
theorem j0.lt (h:j0 w b e):b<w.heap.size:=by
 obtain⟨cs,h1,_⟩:=h.arr;exact (Array.getElem?_eq_some_iff.1 h1).1
theorem j0.whole (h:j0 w b e):w.heap[b]?=some (.cells (yQ e).toArray 135 (0,0)):=by
 obtain⟨cs,h1,h2⟩:=h.arr;have:cs=(yQ e).toArray:=by
  apply Array.ext
  ·rw[h2];rfl
  ·intro j hj uY;have:=h.cells j _ (by rw[<-List.getElem?_toArray];exact Array.getElem?_eq_getElem uY);rw[cell_of_row w b j cs _ _ h1,Array.getElem?_eq_getElem hj] at this;exact Option.some.inj this
 rw[h1,this]
theorem j0.of (h:w.heap[b]?=some (.cells (yQ e).toArray 135 (0,0))):j0 w b e:=
 ⟨λ j v hj=>by rw[cell_of_row w b j _ _ _ h,List.getElem?_toArray];exact hj,_,h,rfl⟩
theorem j0.block {w':W8}(h:j0 w b e)(hb:w'.heap[b]?=w.heap[b]?):j0 w' b e:=j0.of (hb.trans h.whole)
theorem j0.drew (h:j0 w b e):j0 w.drew b e:=⟨h.cells,h.arr⟩
theorem zu8 {T:TypeId}{n:Nat}(h:∃ cs,w.heap[b]?=some (.cells cs T (0,0))/\cs.size=n):∃ cs,(w.setCell ⟨b,j,none⟩ v).heap[b]?=some (.cells cs T (0,0))/\cs.size=n:=by
 obtain⟨cs,h1,h2⟩:=h;rw[setCell_eq_setRow w b j cs T (0,0) v h1];exact⟨_,setRow_heap w b cs _ T _ h1,by simpa using h2⟩
def kY (w:W8)(b k:Nat)(v n:B8):W8:=((w.setCell ⟨b,1+k*2,none⟩ (.string v)).setCell ⟨b,1+k*2+1,none⟩ (.string n)).setCell ⟨b,0,none⟩ (.int .i64 ((k:Int)+1))
theorem j0.set (h:j0 w b e)(hl:e.length<12)(v n:B8):j0 (kY w b e.length v n) b (e++[(v,n)]):=by
 refine⟨λ j x hj=>?_,zu8 (zu8 (zu8 h.arr))⟩;have c0:=h.cells 0 _ rfl;have cv:=h.cells _ _ (za7 e hl);have cn:=h.cells _ _ (zad e hl);unfold kY;rcases znb _ hj with⟨rfl,rfl⟩ | ⟨i,hi,⟨rfl,rfl⟩ | ⟨rfl,rfl⟩⟩
 ·rw[World.cell?_setCell_same' _ _ _ (by rw[World.cell?_setCell_other _ _ _ _ (by intro e;injection e;omega),World.cell?_setCell_other _ _ _ _ (by intro e;injection e;omega),c0];rfl)];simp
 ·rw[World.cell?_setCell_other _ _ _ _ (by intro e;injection e;omega),World.cell?_setCell_other _ _ _ _ (by intro e;injection e;omega),zv8]
  by_cases hk:i=e.length
  ·subst hk;rw[World.cell?_setCell_same' _ _ _ (by rw[cv];rfl),if_pos rfl]
  ·rw[World.cell?_setCell_other _ _ _ _ (by intro e;injection e;omega),if_neg hk];exact h.cells _ _ (za7 e hi)
 ·rw[World.cell?_setCell_other _ _ _ _ (by intro e;injection e;omega),zv8]
  by_cases hk:i=e.length
  ·subst hk;rw[World.cell?_setCell_same' _ _ _ (by rw[World.cell?_setCell_other _ _ _ _ (by intro e;injection e;omega),cn];rfl),if_pos rfl]
  ·rw[World.cell?_setCell_other _ _ _ _ (by intro e;injection e;omega),World.cell?_setCell_other _ _ _ _ (by intro e;injection e;omega),if_neg hk];exact h.cells _ _ (zad e hi)
theorem zK.kY {B:List Nat}{a:W8}(h:zK B a w)(hp:b∈B\/a.heap.size<=b)(k:Nat)(v n:B8):zK B a (Go.Proofs.YtldkpahaocjdpaaGreat.kY w b k v n):=
 ((h.setCell (p:=⟨b,1+k*2,none⟩) hp _).setCell (p:=⟨b,1+k*2+1,none⟩) hp _).setCell (p:=⟨b,0,none⟩) hp _
def pmB (e:yR)(v n:B8):Option yR:=
 match pAt e v with
 | some x=>if x.toList==n.toList then some e else none
 | none=>some (e++[(v,n)])
def zdf (w:W8)(b:Nat)(r:Option yR)(en:Ending)(w':W8):Prop:=zK [b] w w'/\en=.returned (.bool r.isSome)/\∀ e',r=some e'->j0 w' b e'
theorem z43 (w:W8)(b:Nat)(e:yR)(v n:B8)(h:j0 w b e)(hl:e.length<=12)(hr:pAt e v=none->e.length<12):
  Calls Tryz.prog 147 #[.pointer (some ⟨b,0,none⟩),.string v,.string n] w (zdf w b (pmB e v n)):=by
 have HN:=zC (zsx w b e v h.cells hl);have HP:=zC (show zdf w b (pmB e v n)=zdf w b (match pAt e v with | some x=>if x.toList==n.toList then some e else none | none=>some (e++[(v,n)])) from rfl);have c0:=h.cells 0 _ rfl;have f0:=h.fz 0;have HB:=zC h;have hb:=h.lt;clear h
 cases hp:pAt e v with
 | some x=>
  have HX:=zC (show nW e v=x by unfold nW;rw[hp];rfl);rw[hp] at HP HN;clear hr;have Lp:=zC hp;clear hp;go_enter Tryz.func147,Tryz.ntmps147;go_wp2_with (go_at_call 201;refine (zA HN).mono ?_;rintro en w1 ⟨rfl,dX⟩;subst dX);rw[zA HX];go_wp2_with fail;go_ret;rw[zA HP];refine⟨zK.refl _ _,?_,λ e' lW=>?_⟩
  ·split <;> rename_i hq <;> simp[hq]
  ·split at lW
   ·cases lW;exact zA HB
   ·cases lW
 | none=>
  have aH:=hr hp;have HX:=zC (show nW e v={ data:=#[] } by unfold nW;rw[hp];rfl);rw[hp] at HP HN;clear hr;have Lp:=zC hp;clear hp;have cv:=(zA HB).cells _ _ (za7 e aH);have cn:=(zA HB).cells _ _ (zad e aH);have fv:=(zA HB).fz (1+e.length*2);have fn:=(zA HB).fz (1+e.length*2+1);have lg:(e.length:Int)<12:=by omega
  go_enter Tryz.func147,Tryz.ntmps147;go_wp2_with (go_at_call 201;refine (zA HN).mono ?_;rintro en w1 ⟨rfl,dX⟩;subst dX)
  go_region
  go_wp2_with fail;go_ret;rw[zA HP];exact⟨((zK.refl [b] w1).kY (b:=b) (by simp) e.length v n).drew,rfl,λ e' lW=>by cases lW;exact ((zA HB).set aH v n).drew⟩
end
section
open Go.RowKit
theorem zlz (W:W8)(v:Value):(Instr.typeAssert (.iface 130 v) 191 130 true).run Tryz.prog W=.ok (.tuple #[v,.bool true]) W:=by kernel_rfl
theorem ziz (W:W8)(v:Value):(Instr.typeAssert (.iface 193 v) 191 193 true).run Tryz.prog W=.ok (.tuple #[v,.bool true]) W:=by kernel_rfl
theorem zmh (W:W8)(v:Value):(Instr.typeAssert (.iface 130 v) 191 193 true).run Tryz.prog W=.ok (.tuple #[.string { data:=#[] },.bool false]) W:=by kernel_rfl
def zc2 (t:zd8):Value:=.iface (if t.1 then 130 else 193) (.string t.2)
def pmT (e:yR)(t:zd8)(n:B8):Option yR:=if t.1 then pmB e t.2 n else if t.2.toList==n.toList then some e else none
theorem zy5 (w:W8)(b:Nat)(e:yR)(t:zd8)(n:B8)(h:j0 w b e)(hl:e.length<=12)(hr:t.1=true->pAt e t.2=none->e.length<12):
  Calls Tryz.prog 101 #[.pointer (some ⟨b,0,none⟩),zc2 t,.string n] w (zdf w b (pmT e t n)):=by
 obtain⟨c,v⟩:=t;have HB:=zC h;have HI:=zC h;clear h;have h1:=zlz;have h2:=ziz;have h3:=zmh
 cases c with
 | true=>
  have HN:=zC (z43 w b e v n (zA HI) hl (hr rfl));clear hr;have HP:=zC (show zdf w b (pmT e (true,v) n)=zdf w b (pmB e v n) from rfl);rw[show zc2 (true,v)=.iface 130 (.string v) from rfl];go_enter Tryz.func101,Tryz.ntmps101;go_wp2_with (go_at_call 147;refine (zA HN).mono ?_;rintro en w1 ⟨hk,rfl,ax⟩;have HK:=zC hk;have HI:=zC ax;clear hk ax);go_ret;rw[zA HP];exact⟨zA HK,rfl,zA HI⟩
 | false=>
  have HP:=zC (show zdf w b (pmT e (false,v) n)=zdf w b (if v.toList==n.toList then some e else none) from rfl);rw[show zc2 (false,v)=.iface 193 (.string v) from rfl];go_enter Tryz.func101,Tryz.ntmps101;go_wp2_with fail;go_ret;rw[zA HP];refine⟨zK.refl _ _,?_,λ e' lW=>?_⟩
  ·split <;> rename_i hq <;> simp[hq]
  ·split at lW
   ·cases lW;exact zA HB
   ·cases lW
end
section
open Go.RowKit
def zj5:yR->List zd8->List B8->Option yR
 | e,[],_=>some e
 | e,t::ts,ns=>match pmT e t (ns.headD { data:=#[] }) with
  | some e'=>zj5 e' ts ns.tail
  | none=>none
structure jZ where
 p:B8
 ts:List zd8
def xG (e:yR)(a:jZ)(t:Th):Option yR:=if a.p.toList==t.p.toList then zj5 e a.ts t.ts else none
theorem zzx (l:List B8)(k:Nat):(l.drop k).headD { data:=#[] }=xW l k:=by
 unfold xW;rw[List.headD_eq_head?_getD,List.head?_drop]
variable {ts:List zd8} {e:yR}
theorem z1e {ns:List B8}{k:Nat}(h:k<ts.length):zj5 e (ts.drop k) (ns.drop k)=match pmT e ts[k] (xW ns k) with | some e'=>zj5 e' (ts.drop (k+1)) (ns.drop (k+1)) | none=>none:=by
 rw[List.drop_eq_getElem_cons h,zj5,zzx,List.tail_drop]
structure vZ (Vs:List B8)(e:yR):Prop where
 nd:(e.map (·.1)).Nodup
 sub:∀ x∈e,x.1∈Vs
theorem vZ.nil (Vs:List B8):vZ Vs []:=⟨by simp,by simp⟩
theorem zh7 {α:Type}[DecidableEq α]:∀ (xs ys:List α),xs.Nodup->(∀ x∈xs,x∈ys)->xs.length<=ys.length
 | [],_,_,_=>by simp
 | x::xs,ys,hn,h=>by
  obtain⟨h1,h2⟩:=List.nodup_cons.1 hn;have hx:=h x List.mem_cons_self;have:=zh7 xs (ys.erase x) h2 (λ y hy=>(List.mem_erase_of_ne (λ e:y=x=>h1 (e ▸ hy))).2 (h y (List.mem_cons_of_mem _ hy)));rw[List.length_erase_of_mem hx] at this;have:0<ys.length:=List.length_pos_of_mem hx;simp;omega
variable {Vs:List B8}
theorem vZ.len (h:vZ Vs e):e.length<=Vs.length:=by
 have:=zh7 _ Vs h.nd (λ x hx=>by obtain⟨y,hy,rfl⟩:=List.mem_map.1 hx;exact h.sub y hy);simpa using this
theorem zvi {v:B8}:∀ {e:yR},pAt e v=none->v∉e.map (·.1)
 | [],_=>by simp
 | x::r,h=>by
  rw[pAt] at h
  split at h
  ·cases h
  ·rename_i hx;rw[List.map_cons,List.mem_cons];rintro (e | e)
   ·rw[e] at hx;simp at hx
   ·exact zvi h e
variable {v n:B8}
theorem vZ.snoc (h:vZ Vs e)(hv:v∈Vs)(hn:pAt e v=none):vZ Vs (e++[(v,n)]):=by
 refine⟨?_,λ x hx=>?_⟩
 ·rw[List.map_append,List.nodup_append];exact⟨h.nd,by simp,λ a ha b hb e=>zvi hn (by rw[<-(List.mem_singleton.1 hb:b=v),<-e];exact ha)⟩
 ·rcases List.mem_append.1 hx with hx | hx
  ·exact h.sub x hx
  ·rw[List.mem_singleton.1 hx];exact hv
theorem vZ.room (h:vZ Vs e)(hv:v∈Vs)(hn:pAt e v=none):e.length<Vs.length:=by
 have:=(h.snoc (n:=v) hv hn).len;rw[List.length_append] at this;exact this
variable {e':yR}
theorem vZ.term (h:vZ Vs e){t:zd8}(ht:t.1=true->t.2∈Vs)(hm:pmT e t n=some e'):vZ Vs e':=by
 unfold pmT pmB at hm
 split at hm
 ·rename_i h1
  split at hm
  ·split at hm
   ·cases hm;exact h
   ·cases hm
  ·rename_i h2;cases hm;exact h.snoc (ht h1) h2
 ·split at hm
  ·cases hm;exact h
  ·cases hm
theorem vZ.ae {Vs:List B8}:∀ {ts:List zd8} {ns:List B8} {e e':yR},vZ Vs e->(∀ t∈ts,t.1=true->t.2∈Vs)->zj5 e ts ns=some e'->vZ Vs e'
 | [],_,e,e',h,_,hm=>by rw[zj5] at hm;cases hm;exact h
 | t::ts,ns,e,e',h,ht,hm=>by
  rw[zj5] at hm
  split at hm
  ·rename_i e1 h1;exact vZ.ae (h.term (ht t List.mem_cons_self) h1) (λ x hx=>ht x (List.mem_cons_of_mem _ hx)) hm
  ·cases hm
theorem vZ.matched {A:jZ}{t:Th}(h:vZ Vs e)(ht:∀ t∈A.ts,t.1=true->t.2∈Vs)(hm:xG e A t=some e'):vZ Vs e':=by
 unfold xG at hm
 split at hm
 ·exact h.ae ht hm
 ·cases hm
theorem zc8 (t:Th){i:Nat}(h:i<4):(zV t)[1+i]?=some (.string (xW t.ts i)):=by
 match i,h with
 | 0,_ | 1,_ | 2,_ | 3,_=>rfl
variable {w:W8}
theorem ztk {base:Nat}{a:O8}{c:Nat}(h:w.ownsRow base 191 1 (.slice a ts.length c) ts.length (ts.map zc2))(k:Nat)(hk:k<ts.length):∃ g,a=some ⟨g,0,none⟩/\g<w.heap.size/\ts.length<=c/\c<=maxLen/\w.cell? ⟨g,k,none⟩=some (zc2 ts[k]):=by
 rcases h.2 with⟨_,h0⟩ | ⟨g,cap,cur,hv,hb,hg,bO,bP,iq,ht⟩
 ·omega
 ·injection hv with h1 h2 h3
  subst h1 h3;refine⟨g,rfl,(Array.getElem?_eq_some_iff.1 hg).1,bO,bP,?_⟩;rw[h.cellAt k (by omega),List.getElem?_map,List.getElem?_eq_getElem hk];rfl
def zuy (w:W8)(r:Option yR)(en:Ending)(w':W8):Prop:=Below w.heap.size w w'/\en=.returned (.tuple #[zau (r.getD []),.bool r.isSome])
theorem zer:(Tryz.prog.info? 135).map (·.size)=some 25:=by kernel_rfl
theorem zb7 (e:yR):(yQ e).toArray.all (·.oneCell')=true:=by simp[yQ,.oneCell']
theorem zfh {fn:Func}{p u:Tmp}(h:fn.results=#[.cell p 135,.tmp u])(tmps:Array Value)(w:W8)(g:Nat)(e:yR)(hp:tmps.getD p undef=.pointer (some ⟨g,0,none⟩))(hg:w.heap[g]?=some (.cells (yQ e).toArray 135 (0,0))):
  (results fn tmps).run Tryz.prog w=.ok (.tuple #[zau e,tmps.getD u undef]) w:=by
 have Gb:tmps[p]?.getD undef=.pointer (some ⟨g,0,none⟩):=by simpa using hp
 have lU:tmps.getD u undef=tmps[u]?.getD undef:=by simp
 rw[lU];simp[results,h,Gb,asAddr,run_loadVar_row w g _ 135 _ _ _ hg Tryz.underlying135 rfl (by rw[zer];rfl),zau]
theorem xN {B:Nat}{w':W8}(h:Below B w w'){g:Nat}(hg:B<=g)(cs:Array Value):Below B w (w'.setRow g cs):=
 ⟨h.os,h.tape,h.output,by rw[setRow_size];exact h.size,λ k hk=>(setRow_other w' g k cs (by omega)).trans (h.block k hk)⟩
theorem zop (w:W8)(base:Nat)(e:yR)(A:jZ)(a:O8)(c:Nat)(t:Th)(h:w.ownsRow base 191 1 (.slice a A.ts.length c) A.ts.length (A.ts.map zc2))(h4:A.ts.length<=4)(Vs:List B8)(hV:Vs.length<=12)(he:vZ Vs e)(ht:∀ t∈A.ts,t.1=true->t.2∈Vs):
  Calls Tryz.prog 62 #[zau e,.agg #[.string A.p,.slice a A.ts.length c],thV t] w (zuy w (xG e A t)):=by
 obtain⟨cs,iq⟩:∃ cs,cs=(yQ e).toArray:=⟨_,rfl⟩;obtain⟨ct,lJ⟩:∃ ct,ct=(zV t).toArray:=⟨_,rfl⟩;have Ea:=zC iq;have pC:=zC lJ;unfold zau thV;rw[<-iq,<-lJ];clear iq lJ;have H:=zC h;have Zw:=zC he;have Mj:=zC ht;clear h he ht;have q0:cs.size=25:=by rw[zA Ea];rfl
 have q1:ct.size=5:=by rw[zA pC];rfl
 go_enter Tryz.func62,Tryz.ntmps62;go_upto_region 1 with fail;generalize bC:World.alloc (World.alloc (World.alloc (World.alloc w _) _) _) _=w0;have k0:Below w.heap.size w w0:=by
  rw[<-bC];exact ((((Below.refl w.heap.size w).alloc L9 _).alloc (by simp) _).alloc (by simp only[World.size_alloc];omega) _).alloc (by simp only[World.size_alloc];omega) _
 have x0:w0.heap[w.heap.size]?=some (.cells cs 135 (0,0)):=by
  rw[<-bC,Below.heap_alloc _ _ _ (by simp only[World.size_alloc];omega),Below.heap_alloc _ _ _ (by simp only[World.size_alloc];omega),Below.heap_alloc _ _ _ (by simp)];exact heap_alloc_new w _
 have x1:w0.heap[w.heap.size+1]?=some (.cells #[.string A.p,.slice a A.ts.length c] 79 (0,0)):=by
  rw[<-bC,Below.heap_alloc _ _ _ (by simp only[World.size_alloc];omega),Below.heap_alloc _ _ _ (by simp)];have:=heap_alloc_new (w.alloc (.cells cs 135)) (.cells #[.string A.p,.slice a A.ts.length c] 79);rw[World.size_alloc] at this;exact this
 have x2:w0.heap[w.heap.size+1+1]?=some (.cells ct 88 (0,0)):=by
  rw[<-bC,Below.heap_alloc _ _ _ (by simp)];have:=heap_alloc_new ((w.alloc (.cells cs 135)).alloc (.cells #[.string A.p,.slice a A.ts.length c] 79)) (.cells ct 88);rw[World.size_alloc,World.size_alloc] at this;exact this
 have x3:w0.heap[w.heap.size+1+1+1]?=some (.cells (yQ []).toArray 135 (0,0)):=by
  rw[<-bC];have:=heap_alloc_new (((w.alloc (.cells cs 135)).alloc (.cells #[.string A.p,.slice a A.ts.length c] 79)).alloc (.cells ct 88)) (.cells (yQ []).toArray 135);rw[World.size_alloc,World.size_alloc,World.size_alloc] at this;exact this
 have s0:w.heap.size+1+1+1+1=w0.heap.size:=by rw[<-bC];simp
 have b0:j0 w0 w.heap.size e:=j0.of (by rw[x0,zA Ea]);have fq:=zZ (zA H) (λ g e=>k0.block g ((zA H).lt g e).2);clear bC H;have oT:=zC b0;have mj:=zC s0;have GG:=zC x3;have pE:=zC fq;have dr:=zC k0;obtain⟨p0,-⟩:=zB x1 0;obtain⟨p1,-⟩:=zB x1 1;obtain⟨t0,-⟩:=zB x2 0;replace t0:w0.cell? ⟨w.heap.size+1+1,0,none⟩=some (.string t.p):=by rw[t0,zA pC];rfl
 have Ar:=zC x1;have IU:=zC x2;clear x0 x1 x2 x3 b0 fq k0 s0
 cases hq:A.p.toList==t.p.toList with
 | false=>
  have HP:=zC (show xG e A t=none by unfold xG;rw[hq];rfl);go_wp2_with (first | (refine wpList_store_row rfl 135 _ _ rfl _ _ rfl rfl _ _ (zA GG) (by rw[zer];rfl) rfl (zb7 []) ?_) | fail);refine bodyPost_ret (v:=.tuple #[zau [],.bool false]) (zfh Tryz.results62 _ _ _ [] rfl (setRow_heap _ _ _ _ _ _ (zA GG))) rfl ?_;rw[zA HP];exact⟨xN (zA dr) (by omega) _,rfl⟩
 | true=>
  have HP:=zC (show xG e A t=zj5 e A.ts t.ts by unfold xG;rw[hq];rfl);go_wp2_with fail
  go_loopg [19] A.ts.length (λ gg i wr=>∃ (k:Nat) (e':yR),k<=A.ts.length/\gg=A.ts.length-k/\i=.int .i64 k/\zj5 e' (A.ts.drop k) (t.ts.drop k)=zj5 e A.ts t.ts/\j0 wr w.heap.size e'/\zK [w.heap.size] w0 wr/\vZ Vs e')
  exact⟨0,e,Nat.zero_le _,rfl,rfl,rfl,zA oT,zK.refl _ _,zA Zw⟩
  case round=>
   obtain⟨k,e',hk,eA,rfl,aE,hb,dY,qv⟩:=hrel;have AY:=zC qv;have HF:=zC aE;have HB:=zC hb;have oF:=zC dY;have Es:=zA mj;have y3:wr.heap[w.heap.size+1+1+1]?=some (.cells (yQ []).toArray 135 (0,0)):=(dY.block _ (by omega) (by simp;omega)).trans (zA GG);have OD:=zC y3;have rS:=zC (show Below w.heap.size w wr from ⟨dY.os.trans (zA dr).os,dY.tape.trans (zA dr).tape,dY.output.trans (zA dr).output,Nat.le_trans (zA dr).size dY.size,λ i hi=>(dY.block i (by omega) (by simp;omega)).trans ((zA dr).block i hi)⟩);clear aE hb dY y3 qv
   by_cases aF:k<A.ts.length
   ·obtain⟨g,rfl,xi,bO,bP,hc⟩:=ztk (zA pE) k aF;have pK:wr.cell? ⟨w.heap.size+1+1,1+k,none⟩=some (.string (xW t.ts k)):=by
     have:=(zB ((zA oF).block _ (by omega) (by simp;omega) |>.trans (zA IU)) (1+k)).1;rw[this,zA pC,List.getElem?_toArray];exact zc8 t (by omega)
    have C5:g≠w.heap.size:=λ e1=>by
     have h1:=(zA oT).whole;rcases (zA pE).2 with⟨_,h0⟩ | ⟨g2,cap,cur,hv,aK,fK,_⟩
     ·omega
     ·injection hv with h2 _ _
      injection h2 with h2
      injection h2 with h2
      rw[<-h2,e1,h1] at fK;injection fK with fK
      injection fK with _ fK _
      cases fK
    have gX:wr.cell? ⟨g,k,none⟩=some (zc2 A.ts[k]):=((zA oF).cell (p:=⟨g,k,none⟩) xi (by simp;exact C5)).trans hc;have HM:=zC (zy5 wr w.heap.size e' A.ts[k] (xW t.ts k) (zA HB) (by have:=(zA AY).len;omega) (λ h1 h2=>Nat.lt_of_lt_of_le ((zA AY).room (zA Mj _ (List.getElem_mem aF) h1) h2) hV));have HS:=zC (z1e (e:=e') (ns:=t.ts) aF);have nz:(k:Int)<A.ts.length:=(by omega);have mn:(1+k:Int)<5:=(by omega);clear hc Es
    cases hr:pmT e' A.ts[k] (xW t.ts k) with
    | none=>
     rw[hr] at HS HM;have HE:=zC (show zj5 e A.ts t.ts=none by rw[<-zA HF,zA HS]);go_upto_region 7 with (go_at_call 101;refine (zA HM).mono ?_;rintro en w1 ⟨aX,rfl,ax⟩;have B8:=zC aX;clear aX ax);have y3:w1.heap[w.heap.size+1+1+1]?=some (.cells (yQ []).toArray 135 (0,0)):=((zA B8).block _ (by have:=zA mj;have:=(zA oF).size;omega) (by simp;omega)).trans (zA OD);have HY:=zC y3;have Dp:=zC (show Below w.heap.size w w1 from ⟨(zA B8).os.trans (zA rS).os,(zA B8).tape.trans (zA rS).tape,(zA B8).output.trans (zA rS).output,Nat.le_trans (zA rS).size (zA B8).size,λ i hi=>((zA B8).block i (by have:=(zA rS).size;omega) (by simp;omega)).trans ((zA rS).block i hi)⟩);clear y3;go_wp2_with (first | (refine wpList_store_row rfl 135 _ _ rfl _ _ rfl rfl _ _ (zA HY) (by rw[zer];rfl) rfl (zb7 []) ?_) | fail);refine bodyPost_ret (v:=.tuple #[zau [],.bool false]) (zfh Tryz.results62 _ _ _ [] rfl (setRow_heap _ _ _ _ _ _ (zA HY))) rfl ?_;rw[zA HP,zA HE];exact⟨xN (zA Dp) (by omega) _,rfl⟩
    | some e2=>
     have ON:=zC ((zA AY).term (zA Mj _ (List.getElem_mem aF)) hr);rw[hr] at HS HM;have aC:=zC (show zj5 e2 (A.ts.drop (k+1)) (t.ts.drop (k+1))=zj5 e A.ts t.ts by rw[<-zA HF,zA HS]);go_wp2_with (go_at_call 101;refine (zA HM).mono ?_;rintro en w1 ⟨aX,rfl,ax⟩;have B8:=zC aX;have eC:=zC (ax e2 rfl);clear aX ax);go_roundg (A.ts.length-(k+1));exact⟨k+1,e2,by omega,rfl,by go_num,zA aC,zA eC,(zA oF).trans (zA B8),zA ON⟩;omega
   ·have HE:=zC (show zj5 e A.ts t.ts=some e' by rw[<-zA HF,List.drop_of_length_le (by omega)];rfl);have Sw:=(zA HB).whole;have HW:=zC Sw;clear Sw Es;go_wp2_with (first | (refine wpList_load_row rfl 135 _ rfl _ rfl _ _ _ _ (zA HW) Tryz.underlying135 rfl (by rw[zer];rfl) ?_) | (refine wpList_store_row rfl 135 _ _ rfl _ _ rfl rfl _ _ (zA OD) (by rw[zer];rfl) rfl (zb7 _) ?_) | fail);refine bodyPost_ret (v:=.tuple #[zau e',.bool true]) (zfh Tryz.results62 _ _ _ e' rfl (setRow_heap _ _ _ _ _ _ (zA OD))) rfl ?_;rw[zA HP,zA HE];exact⟨xN (zA rS) (by omega) _,rfl⟩
end
end Go.Proofs.YtldkpahaocjdpaaGreat
