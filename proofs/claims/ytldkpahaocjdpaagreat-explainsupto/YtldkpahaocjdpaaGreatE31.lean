/-
  What variables are, as the program has it: an array of pairs. name: what a variable stands for.
-/
import Derived.Test.YtldkpahaocjdpaaGreatE30
import Derived.Deep.CutBlock
set_option maxHeartbeats 16000000
set_option maxRecDepth 1000000
namespace Go.Proofs.YtldkpahaocjdpaaGreat
section
open Go.RowKit
abbrev yR:=List (B8 × B8)
abbrev zdy:=Bool × B8
def pAt:yR->B8->Option B8
 | [],_=>none
 | x::r,n=>if x.1.toList==n.toList then some x.2 else pAt r n
def oj (e:yR)(n:B8):B8:=(pAt e n).getD { data:=#[] }
variable {e:yR}
theorem z7w {k:Nat}{n:B8}(h:k<e.length):pAt (e.drop k) n=if e[k].1.toList==n.toList then some e[k].2 else pAt (e.drop (k+1)) n:=by
 rw[List.drop_eq_getElem_cons h];rfl
def eAt (e:yR)(i:Nat):B8 × B8:=(e[i]?).getD ({ data:=#[] },{ data:=#[] })
def yQ (e:yR):V8:=
 [.int .i64 (e.length:Nat),.string (eAt e 0).1,.string (eAt e 0).2,.string (eAt e 1).1,.string (eAt e 1).2,.string (eAt e 2).1,.string (eAt e 2).2,.string (eAt e 3).1,.string (eAt e 3).2,.string (eAt e 4).1,.string (eAt e 4).2,.string (eAt e 5).1,.string (eAt e 5).2,
 .string (eAt e 6).1,.string (eAt e 6).2,.string (eAt e 7).1,.string (eAt e 7).2,.string (eAt e 8).1,.string (eAt e 8).2,.string (eAt e 9).1,.string (eAt e 9).2,.string (eAt e 10).1,.string (eAt e 10).2,.string (eAt e 11).1,.string (eAt e 11).2]
def zav (e:yR):Value:=.agg (yQ e).toArray
variable {i:Nat}
theorem zaz (e:yR)(h:i<12):(yQ e)[1+i*2]?=some (.string (eAt e i).1):=by
 match i,h with
 | 0,_ | 1,_ | 2,_ | 3,_ | 4,_ | 5,_ | 6,_ | 7,_ | 8,_ | 9,_ | 10,_ | 11,_=>rfl
theorem zad (e:yR)(h:i<12):(yQ e)[1+i*2+1]?=some (.string (eAt e i).2):=by
 match i,h with
 | 0,_ | 1,_ | 2,_ | 3,_ | 4,_ | 5,_ | 6,_ | 7,_ | 8,_ | 9,_ | 10,_ | 11,_=>rfl
theorem ydb (h:i<e.length):eAt e i=e[i]:=by unfold eAt;rw[List.getElem?_eq_getElem h];rfl
def z89 (w:W8)(b:Nat)(e:yR):Prop:=∀ j v,(yQ e)[j]?=some v->w.cell? ⟨b,j,none⟩=some v
theorem zsk (w:W8)(b:Nat)(e:yR)(v:B8)(h:z89 w b e)(hl:e.length<=12):
  Calls Tryz.prog 201 #[.pointer (some ⟨b,0,none⟩),.string v] w λ en w'=>en=.returned (.tuple #[.string (oj e v),.bool (pAt e v).isSome])/\w'=w:=by
 have c0:=h 0 _ rfl;have HB:=zC h;clear h;go_enter Tryz.func201,Tryz.ntmps201;go_wp2_with fail
 go_loop [11] (λ i=>∃ k:Nat,k<=e.length/\i=.int .i64 k/\pAt (e.drop k) v=pAt e v) (λ i=>e.length-(intOf i).toNat)
 exact⟨0,Nat.zero_le _,rfl,rfl⟩
 case round=>
  obtain⟨k,hk,rfl,aE⟩:=hrel;have HF:=zC aE;clear aE
  by_cases aF:k<e.length
  ·have d1:=zA HB _ _ (zaz e (i:=k) (by omega));have d2:=zA HB _ _ (zad e (i:=k) (by omega));rw[ydb aF] at d1 d2;have HS:=zC (z7w (n:=v) aF);have kP:(k:Int)<e.length:=(by omega);have lh:(k:Int)<12:=by omega
   cases hq:e[k].1.toList==v.toList with
   | true=>
    have HE:=zC (show pAt e v=some e[k].2 by rw[<-zA HF,zA HS,if_pos hq]);go_wp2_with fail
    go_ret2
    exact⟨by unfold oj;rw[zA HE];rfl,rfl⟩
   | false=>
    have HE:=zC (show pAt (e.drop (k+1)) v=pAt e v by rw[<-zA HF,zA HS,if_neg (by rw[hq];decide)]);go_wp2_with fail
    go_round
    case rel=>exact⟨k+1,by omega,by go_num,zA HE⟩
    case measure=>simp[intOf];omega
  ·have HE:=zC (show pAt e v=none by rw[<-zA HF,List.drop_of_length_le (by omega)];rfl);go_wp2_with fail
   go_ret2
   exact⟨by unfold oj;rw[zA HE];rfl,rfl⟩
end
section
open Go.RowKit
variable {v:Value} {j:Nat}
theorem zk3 (e:yR)(h:(yQ e)[j]?=some v):(j=0/\v=.int .i64 (e.length:Nat))\/∃ i,i<12/\((j=1+i*2/\v=.string (eAt e i).1)\/(j=1+i*2+1/\v=.string (eAt e i).2)):=by
 have hj:j<25:=(List.getElem?_eq_some_iff.1 h).1;rcases Nat.eq_zero_or_pos j with rfl | hp
 ·left;refine⟨rfl,?_⟩;exact (Option.some.inj h).symm
 ·right
  refine⟨(j-1)/2,by omega,?_⟩;rcases Nat.mod_two_eq_zero_or_one (j-1) with hm | hm
  ·left
   have e1:j=1+(j-1)/2*2:=(by omega);refine⟨e1,?_⟩;have:=zaz e (i:=(j-1)/2) (by omega);rw[<-e1] at this;exact Option.some.inj (h.symm.trans this)
  ·right
   have e1:j=1+(j-1)/2*2+1:=(by omega);refine⟨e1,?_⟩;have:=zad e (i:=(j-1)/2) (by omega);rw[<-e1] at this;exact Option.some.inj (h.symm.trans this)
theorem zv3 (e:yR)(x:B8 × B8)(i:Nat):eAt (e++[x]) i=if i=e.length then x else eAt e i:=by
 unfold eAt;rw[List.getElem?_append]
 split
 ·rename_i h;rw[if_neg (by omega)]
 ·rename_i h
  split
  ·rename_i h2;subst h2;simp
  ·rename_i h2;rw[List.getElem?_eq_none (by simp;omega),List.getElem?_eq_none (by omega)]
structure j0 (w:W8)(b:Nat)(e:yR):Prop where
 cells:z89 w b e
 arr:∃ cs,w.heap[b]?=some (.cells cs 135 (0,0))/\cs.size=25
variable {e:yR} {b:Nat} {w:W8}
theorem j0.fz (h:j0 w b e)(j:Nat):w.frozen? ⟨b,j,none⟩=false:=by
 obtain⟨cs,h1,_⟩:=h.arr;simp[World.frozen?,h1]
theorem j0.lt (h:j0 w b e):b<w.heap.size:=by
 obtain⟨cs,h1,_⟩:=h.arr;exact (Array.getElem?_eq_some_iff.1 h1).1
theorem j0.whole (h:j0 w b e):w.heap[b]?=some (.cells (yQ e).toArray 135 (0,0)):=by
 obtain⟨cs,h1,h2⟩:=h.arr;have:cs=(yQ e).toArray:=by
  apply Array.ext
  ·rw[h2];rfl
  ·intro j hj vg;have:=h.cells j _ (by rw[<-List.getElem?_toArray];exact Array.getElem?_eq_getElem vg);rw[cell_of_row w b j cs _ _ h1,Array.getElem?_eq_getElem hj] at this;exact Option.some.inj this
 rw[h1,this]
theorem j0.of (h:w.heap[b]?=some (.cells (yQ e).toArray 135 (0,0))):j0 w b e:=
 ⟨λ j v hj=>by rw[cell_of_row w b j _ _ _ h,List.getElem?_toArray];exact hj,_,h,rfl⟩
theorem j0.block {w':W8}(h:j0 w b e)(hb:w'.heap[b]?=w.heap[b]?):j0 w' b e:=j0.of (hb.trans h.whole)
theorem j0.drew (h:j0 w b e):j0 w.drew b e:=⟨h.cells,h.arr⟩
theorem ztt {T:TypeId}{n:Nat}(h:∃ cs,w.heap[b]?=some (.cells cs T (0,0))/\cs.size=n):∃ cs,(w.setCell ⟨b,j,none⟩ v).heap[b]?=some (.cells cs T (0,0))/\cs.size=n:=by
 obtain⟨cs,h1,h2⟩:=h;rw[setCell_eq_setRow w b j cs T (0,0) v h1];exact⟨_,setRow_heap w b cs _ T _ h1,by simpa using h2⟩
def ku (w:W8)(b k:Nat)(v n:B8):W8:=((w.setCell ⟨b,1+k*2,none⟩ (.string v)).setCell ⟨b,1+k*2+1,none⟩ (.string n)).setCell ⟨b,0,none⟩ (.int .i64 ((k:Int)+1))
theorem j0.set (h:j0 w b e)(hl:e.length<12)(v n:B8):j0 (ku w b e.length v n) b (e++[(v,n)]):=by
 refine⟨λ j x hj=>?_,ztt (ztt (ztt h.arr))⟩;have c0:=h.cells 0 _ rfl;have cv:=h.cells _ _ (zaz e hl);have cn:=h.cells _ _ (zad e hl);unfold ku;rcases zk3 _ hj with⟨rfl,rfl⟩ | ⟨i,hi,⟨rfl,rfl⟩ | ⟨rfl,rfl⟩⟩
 ·rw[World.cell?_setCell_same' _ _ _ (by rw[World.cell?_setCell_other _ _ _ _ (by intro e;injection e;omega),World.cell?_setCell_other _ _ _ _ (by intro e;injection e;omega),c0];rfl)];simp
 ·rw[World.cell?_setCell_other _ _ _ _ (by intro e;injection e;omega),World.cell?_setCell_other _ _ _ _ (by intro e;injection e;omega),zv3]
  by_cases hk:i=e.length
  ·subst hk;rw[World.cell?_setCell_same' _ _ _ (by rw[cv];rfl),if_pos rfl]
  ·rw[World.cell?_setCell_other _ _ _ _ (by intro e;injection e;omega),if_neg hk];exact h.cells _ _ (zaz e hi)
 ·rw[World.cell?_setCell_other _ _ _ _ (by intro e;injection e;omega),zv3]
  by_cases hk:i=e.length
  ·subst hk;rw[World.cell?_setCell_same' _ _ _ (by rw[World.cell?_setCell_other _ _ _ _ (by intro e;injection e;omega),cn];rfl),if_pos rfl]
  ·rw[World.cell?_setCell_other _ _ _ _ (by intro e;injection e;omega),World.cell?_setCell_other _ _ _ _ (by intro e;injection e;omega),if_neg hk];exact h.cells _ _ (zad e hi)
theorem zK.ku {B:List Nat}{a:W8}(h:zK B a w)(hp:b∈B\/a.heap.size<=b)(k:Nat)(v n:B8):zK B a (Go.Proofs.YtldkpahaocjdpaaGreat.ku w b k v n):=
 ((h.setCell (p:=⟨b,1+k*2,none⟩) hp _).setCell (p:=⟨b,1+k*2+1,none⟩) hp _).setCell (p:=⟨b,0,none⟩) hp _
def pmB (e:yR)(v n:B8):Option yR:=
 match pAt e v with
 | some x=>if x.toList==n.toList then some e else none
 | none=>some (e++[(v,n)])
def zc4 (w:W8)(b:Nat)(r:Option yR)(en:Ending)(w':W8):Prop:=zK [b] w w'/\en=.returned (.bool r.isSome)/\∀ e',r=some e'->j0 w' b e'
theorem z39 (w:W8)(b:Nat)(e:yR)(v n:B8)(h:j0 w b e)(hl:e.length<=12)(hr:pAt e v=none->e.length<12):
  Calls Tryz.prog 147 #[.pointer (some ⟨b,0,none⟩),.string v,.string n] w (zc4 w b (pmB e v n)):=by
 have HN:=zC (zsk w b e v h.cells hl);have HP:=zC (show zc4 w b (pmB e v n)=zc4 w b (match pAt e v with | some x=>if x.toList==n.toList then some e else none | none=>some (e++[(v,n)])) from rfl);have c0:=h.cells 0 _ rfl;have f0:=h.fz 0;have HB:=zC h;have hb:=h.lt;clear h
 cases hp:pAt e v with
 | some x=>
  have HX:=zC (show oj e v=x by unfold oj;rw[hp];rfl);rw[hp] at HP HN;clear hr;have Jo:=zC hp;clear hp;go_enter Tryz.func147,Tryz.ntmps147;go_wp2_with (go_at_call 201;refine (zA HN).mono ?_;rintro en w1 ⟨rfl,dY⟩;subst dY);rw[zA HX];go_wp2_with fail;go_ret;rw[zA HP];refine⟨zK.refl _ _,?_,λ e' ma=>?_⟩
  ·split <;> rename_i hq <;> simp[hq]
  ·split at ma
   ·cases ma;exact zA HB
   ·cases ma
 | none=>
  have aH:=hr hp;have HX:=zC (show oj e v={ data:=#[] } by unfold oj;rw[hp];rfl);rw[hp] at HP HN;clear hr;have Jo:=zC hp;clear hp;have cv:=(zA HB).cells _ _ (zaz e aH);have cn:=(zA HB).cells _ _ (zad e aH);have fv:=(zA HB).fz (1+e.length*2);have fn:=(zA HB).fz (1+e.length*2+1);have lh:(e.length:Int)<12:=by omega
  go_enter Tryz.func147,Tryz.ntmps147;go_wp2_with (go_at_call 201;refine (zA HN).mono ?_;rintro en w1 ⟨rfl,dY⟩;subst dY)
  go_region
  go_wp2_with fail;go_ret;rw[zA HP];exact⟨((zK.refl [b] w1).ku (b:=b) (by simp) e.length v n).drew,rfl,λ e' ma=>by cases ma;exact ((zA HB).set aH v n).drew⟩
end
section
open Go.RowKit
theorem zkz (W:W8)(v:Value):(Instr.typeAssert (.iface 130 v) 191 130 true).run Tryz.prog W=.ok (.tuple #[v,.bool true]) W:=by kernel_rfl
theorem zi1 (W:W8)(v:Value):(Instr.typeAssert (.iface 193 v) 191 193 true).run Tryz.prog W=.ok (.tuple #[v,.bool true]) W:=by kernel_rfl
theorem zky (W:W8)(v:Value):(Instr.typeAssert (.iface 130 v) 191 193 true).run Tryz.prog W=.ok (.tuple #[.string { data:=#[] },.bool false]) W:=by kernel_rfl
def zc3 (t:zdy):Value:=.iface (if t.1 then 130 else 193) (.string t.2)
def pmT (e:yR)(t:zdy)(n:B8):Option yR:=if t.1 then pmB e t.2 n else if t.2.toList==n.toList then some e else none
theorem zy6 (w:W8)(b:Nat)(e:yR)(t:zdy)(n:B8)(h:j0 w b e)(hl:e.length<=12)(hr:t.1=true->pAt e t.2=none->e.length<12):
  Calls Tryz.prog 101 #[.pointer (some ⟨b,0,none⟩),zc3 t,.string n] w (zc4 w b (pmT e t n)):=by
 obtain⟨c,v⟩:=t;have HB:=zC h;have HI:=zC h;clear h;have h1:=zkz;have h2:=zi1;have h3:=zky
 cases c with
 | true=>
  have HN:=zC (z39 w b e v n (zA HI) hl (hr rfl));clear hr;have HP:=zC (show zc4 w b (pmT e (true,v) n)=zc4 w b (pmB e v n) from rfl);rw[show zc3 (true,v)=.iface 130 (.string v) from rfl];go_enter Tryz.func101,Tryz.ntmps101;go_wp2_with (go_at_call 147;refine (zA HN).mono ?_;rintro en w1 ⟨hk,rfl,ax⟩;have HK:=zC hk;have HI:=zC ax;clear hk ax);go_ret;rw[zA HP];exact⟨zA HK,rfl,zA HI⟩
 | false=>
  have HP:=zC (show zc4 w b (pmT e (false,v) n)=zc4 w b (if v.toList==n.toList then some e else none) from rfl);rw[show zc3 (false,v)=.iface 193 (.string v) from rfl];go_enter Tryz.func101,Tryz.ntmps101;go_wp2_with fail;go_ret;rw[zA HP];refine⟨zK.refl _ _,?_,λ e' ma=>?_⟩
  ·split <;> rename_i hq <;> simp[hq]
  ·split at ma
   ·cases ma;exact zA HB
   ·cases ma
end
section
open Go.RowKit
def zj7:yR->List zdy->List B8->Option yR
 | e,[],_=>some e
 | e,t::ts,ns=>match pmT e t (ns.headD { data:=#[] }) with
  | some e'=>zj7 e' ts ns.tail
  | none=>none
structure jZ where
 p:B8
 ts:List zdy
def xG (e:yR)(a:jZ)(t:Th):Option yR:=if a.p.toList==t.p.toList then zj7 e a.ts t.ts else none
theorem zyk (l:List B8)(k:Nat):(l.drop k).headD { data:=#[] }=xW l k:=by
 unfold xW;rw[List.headD_eq_head?_getD,List.head?_drop]
variable {e:yR}
theorem z4g {ts:List zdy}{ns:List B8}{k:Nat}(h:k<ts.length):zj7 e (ts.drop k) (ns.drop k)=match pmT e ts[k] (xW ns k) with | some e'=>zj7 e' (ts.drop (k+1)) (ns.drop (k+1)) | none=>none:=by
 rw[List.drop_eq_getElem_cons h,zj7,zyk,List.tail_drop]
structure vZ (Vs:List B8)(e:yR):Prop where
 nd:(e.map (·.1)).Nodup
 sub:∀ x∈e,x.1∈Vs
theorem vZ.nil (Vs:List B8):vZ Vs []:=⟨by simp,by simp⟩
theorem zic {α:Type}[DecidableEq α]:∀ (xs ys:List α),xs.Nodup->(∀ x∈xs,x∈ys)->xs.length<=ys.length
 | [],_,_,_=>by simp
 | x::xs,ys,hn,h=>by
  obtain⟨h1,h2⟩:=List.nodup_cons.1 hn;have hx:=h x List.mem_cons_self;have:=zic xs (ys.erase x) h2 (λ y hy=>(List.mem_erase_of_ne (λ e:y=x=>h1 (e ▸ hy))).2 (h y (List.mem_cons_of_mem _ hy)));rw[List.length_erase_of_mem hx] at this;have:0<ys.length:=List.length_pos_of_mem hx;simp;omega
variable {Vs:List B8}
theorem vZ.len (h:vZ Vs e):e.length<=Vs.length:=by
 have:=zic _ Vs h.nd (λ x hx=>by obtain⟨y,hy,rfl⟩:=List.mem_map.1 hx;exact h.sub y hy);simpa using this
theorem zwu {v:B8}:∀ {e:yR},pAt e v=none->v∉e.map (·.1)
 | [],_=>by simp
 | x::r,h=>by
  rw[pAt] at h
  split at h
  ·cases h
  ·rename_i hx;rw[List.map_cons,List.mem_cons];rintro (e | e)
   ·rw[e] at hx;simp at hx
   ·exact zwu h e
variable {v n:B8}
theorem vZ.snoc (h:vZ Vs e)(hv:v∈Vs)(hn:pAt e v=none):vZ Vs (e++[(v,n)]):=by
 refine⟨?_,λ x hx=>?_⟩
 ·rw[List.map_append,List.nodup_append];exact⟨h.nd,by simp,λ a ha b hb e=>zwu hn (by rw[<-(List.mem_singleton.1 hb:b=v),<-e];exact ha)⟩
 ·rcases List.mem_append.1 hx with hx | hx
  ·exact h.sub x hx
  ·rw[List.mem_singleton.1 hx];exact hv
theorem vZ.room (h:vZ Vs e)(hv:v∈Vs)(hn:pAt e v=none):e.length<Vs.length:=by
 have:=(h.snoc (n:=v) hv hn).len;rw[List.length_append] at this;exact this
variable {e':yR}
theorem vZ.term (h:vZ Vs e){t:zdy}(ht:t.1=true->t.2∈Vs)(hm:pmT e t n=some e'):vZ Vs e':=by
 unfold pmT pmB at hm
 split at hm
 ·rename_i h1
  split at hm
  ·split at hm
   ·cases hm;exact h
   ·cases hm
  ·rename_i h2;cases hm;exact h.snoc (ht h1) h2
 ·split at hm
  ·cases hm;exact h
  ·cases hm
theorem vZ.ae {Vs:List B8}:∀ {ts:List zdy} {ns:List B8} {e e':yR},vZ Vs e->(∀ t∈ts,t.1=true->t.2∈Vs)->zj7 e ts ns=some e'->vZ Vs e'
 | [],_,e,e',h,_,hm=>by rw[zj7] at hm;cases hm;exact h
 | t::ts,ns,e,e',h,ht,hm=>by
  rw[zj7] at hm
  split at hm
  ·rename_i e1 h1;exact vZ.ae (h.term (ht t List.mem_cons_self) h1) (λ x hx=>ht x (List.mem_cons_of_mem _ hx)) hm
  ·cases hm
theorem vZ.matched {A:jZ}{t:Th}(h:vZ Vs e)(ht:∀ t∈A.ts,t.1=true->t.2∈Vs)(hm:xG e A t=some e'):vZ Vs e':=by
 unfold xG at hm
 split at hm
 ·exact h.ae ht hm
 ·cases hm
theorem zdg (t:Th){i:Nat}(h:i<4):(zV t)[1+i]?=some (.string (xW t.ts i)):=by
 match i,h with
 | 0,_ | 1,_ | 2,_ | 3,_=>rfl
variable {w:W8}
theorem zu9 {base:Nat}{a:O8}{c:Nat}{ts:List zdy}(h:w.ownsRow base 191 1 (.slice a ts.length c) ts.length (ts.map zc3))(k:Nat)(hk:k<ts.length):∃ g,a=some ⟨g,0,none⟩/\g<w.heap.size/\ts.length<=c/\c<=maxLen/\w.cell? ⟨g,k,none⟩=some (zc3 ts[k]):=by
 rcases h.2 with⟨_,h0⟩ | ⟨g,cap,cur,hv,hb,hg,bO,bQ,ij,ht⟩
 ·omega
 ·injection hv with h1 h2 h3
  subst h1 h3;refine⟨g,rfl,(Array.getElem?_eq_some_iff.1 hg).1,bO,bQ,?_⟩;rw[h.cellAt k (by omega),List.getElem?_map,List.getElem?_eq_getElem hk];rfl
def ztl (w:W8)(r:Option yR)(en:Ending)(w':W8):Prop:=Below w.heap.size w w'/\en=.returned (.tuple #[zav (r.getD []),.bool r.isSome])
theorem zen:(Tryz.prog.info? 135).map (·.size)=some 25:=by kernel_rfl
theorem zca (e:yR):(yQ e).toArray.all (·.oneCell')=true:=by simp[yQ,.oneCell']
theorem zfp {fn:Func}{p u:Tmp}(h:fn.results=#[.cell p 135,.tmp u])(tmps:Array Value)(w:W8)(g:Nat)(e:yR)(hp:tmps.getD p undef=.pointer (some ⟨g,0,none⟩))(hg:w.heap[g]?=some (.cells (yQ e).toArray 135 (0,0))):
  (results fn tmps).run Tryz.prog w=.ok (.tuple #[zav e,tmps.getD u undef]) w:=by
 have Gr:tmps[p]?.getD undef=.pointer (some ⟨g,0,none⟩):=by simpa using hp
 have mj:tmps.getD u undef=tmps[u]?.getD undef:=by simp
 rw[mj];simp[results,h,Gr,asAddr,run_loadVar_row w g _ 135 _ _ _ hg Tryz.underlying135 rfl (by rw[zen];rfl),zav]
theorem xN {B:Nat}{w':W8}(h:Below B w w'){g:Nat}(hg:B<=g)(cs:Array Value):Below B w (w'.setRow g cs):=
 ⟨h.os,h.tape,h.output,by rw[setRow_size];exact h.size,λ k hk=>(setRow_other w' g k cs (by omega)).trans (h.block k hk)⟩
theorem zof (w:W8)(base:Nat)(e:yR)(A:jZ)(a:O8)(c:Nat)(t:Th)(h:w.ownsRow base 191 1 (.slice a A.ts.length c) A.ts.length (A.ts.map zc3))(h4:A.ts.length<=4)(Vs:List B8)(hV:Vs.length<=12)(he:vZ Vs e)(ht:∀ t∈A.ts,t.1=true->t.2∈Vs):
  Calls Tryz.prog 62 #[zav e,.agg #[.string A.p,.slice a A.ts.length c],thV t] w (ztl w (xG e A t)):=by
 obtain⟨cs,ij⟩:∃ cs,cs=(yQ e).toArray:=⟨_,rfl⟩;obtain⟨ct,lL⟩:∃ ct,ct=(zV t).toArray:=⟨_,rfl⟩;have DS:=zC ij;have pw:=zC lL;unfold zav thV;rw[<-ij,<-lL];clear ij lL;have H:=zC h;have VI:=zC he;have Jy:=zC ht;clear h he ht;have q0:cs.size=25:=by rw[zA DS];rfl
 have q1:ct.size=5:=by rw[zA pw];rfl
 go_enter Tryz.func62,Tryz.ntmps62;go_upto_region 1 with fail;generalize bC:World.alloc (World.alloc (World.alloc (World.alloc w _) _) _) _=w0;have k0:Below w.heap.size w w0:=by
  rw[<-bC];exact ((((Below.refl w.heap.size w).alloc L9 _).alloc (by simp) _).alloc (by simp only[World.size_alloc];omega) _).alloc (by simp only[World.size_alloc];omega) _
 have x0:w0.heap[w.heap.size]?=some (.cells cs 135 (0,0)):=by
  rw[<-bC,Below.heap_alloc _ _ _ (by simp only[World.size_alloc];omega),Below.heap_alloc _ _ _ (by simp only[World.size_alloc];omega),Below.heap_alloc _ _ _ (by simp)];exact heap_alloc_new w _
 have x1:w0.heap[w.heap.size+1]?=some (.cells #[.string A.p,.slice a A.ts.length c] 79 (0,0)):=by
  rw[<-bC,Below.heap_alloc _ _ _ (by simp only[World.size_alloc];omega),Below.heap_alloc _ _ _ (by simp)];have:=heap_alloc_new (w.alloc (.cells cs 135)) (.cells #[.string A.p,.slice a A.ts.length c] 79);rw[World.size_alloc] at this;exact this
 have x2:w0.heap[w.heap.size+1+1]?=some (.cells ct 88 (0,0)):=by
  rw[<-bC,Below.heap_alloc _ _ _ (by simp)];have:=heap_alloc_new ((w.alloc (.cells cs 135)).alloc (.cells #[.string A.p,.slice a A.ts.length c] 79)) (.cells ct 88);rw[World.size_alloc,World.size_alloc] at this;exact this
 have x3:w0.heap[w.heap.size+1+1+1]?=some (.cells (yQ []).toArray 135 (0,0)):=by
  rw[<-bC];have:=heap_alloc_new (((w.alloc (.cells cs 135)).alloc (.cells #[.string A.p,.slice a A.ts.length c] 79)).alloc (.cells ct 88)) (.cells (yQ []).toArray 135);rw[World.size_alloc,World.size_alloc,World.size_alloc] at this;exact this
 have s0:w.heap.size+1+1+1+1=w0.heap.size:=by rw[<-bC];simp
 have b0:j0 w0 w.heap.size e:=j0.of (by rw[x0,zA DS]);have fu:=zZ (zA H) (λ g e=>k0.block g ((zA H).lt g e).2);clear bC H;have ou:=zC b0;have lV:=zC s0;have FA:=zC x3;have py:=zC fu;have dr:=zC k0;obtain⟨p0,-⟩:=zB x1 0;obtain⟨p1,-⟩:=zB x1 1;obtain⟨t0,-⟩:=zB x2 0;replace t0:w0.cell? ⟨w.heap.size+1+1,0,none⟩=some (.string t.p):=by rw[t0,zA pw];rfl
 have yp:=zC x1;have JD:=zC x2;clear x0 x1 x2 x3 b0 fu k0 s0
 cases hq:A.p.toList==t.p.toList with
 | false=>
  have HP:=zC (show xG e A t=none by unfold xG;rw[hq];rfl);go_wp2_with (first | (refine wpList_store_row rfl 135 _ _ rfl _ _ rfl rfl _ _ (zA FA) (by rw[zen];rfl) rfl (zca []) ?_) | fail);refine bodyPost_ret (v:=.tuple #[zav [],.bool false]) (zfp Tryz.results62 _ _ _ [] rfl (setRow_heap _ _ _ _ _ _ (zA FA))) rfl ?_;rw[zA HP];exact⟨xN (zA dr) (by omega) _,rfl⟩
 | true=>
  have HP:=zC (show xG e A t=zj7 e A.ts t.ts by unfold xG;rw[hq];rfl);go_wp2_with fail
  go_loopg [19] A.ts.length (λ gg i wr=>∃ (k:Nat) (e':yR),k<=A.ts.length/\gg=A.ts.length-k/\i=.int .i64 k/\zj7 e' (A.ts.drop k) (t.ts.drop k)=zj7 e A.ts t.ts/\j0 wr w.heap.size e'/\zK [w.heap.size] w0 wr/\vZ Vs e')
  exact⟨0,e,Nat.zero_le _,rfl,rfl,rfl,zA ou,zK.refl _ _,zA VI⟩
  case round=>
   obtain⟨k,e',hk,eD,rfl,aE,hb,dX,qo⟩:=hrel;have yj:=zC qo;have HF:=zC aE;have HB:=zC hb;have ow:=zC dX;have EO:=zA lV;have y3:wr.heap[w.heap.size+1+1+1]?=some (.cells (yQ []).toArray 135 (0,0)):=(dX.block _ (by omega) (by simp;omega)).trans (zA FA);have O4:=zC y3;have rR:=zC (show Below w.heap.size w wr from ⟨dX.os.trans (zA dr).os,dX.tape.trans (zA dr).tape,dX.output.trans (zA dr).output,Nat.le_trans (zA dr).size dX.size,λ i hi=>(dX.block i (by omega) (by simp;omega)).trans ((zA dr).block i hi)⟩);clear aE hb dX y3 qo
   by_cases aF:k<A.ts.length
   ·obtain⟨g,rfl,xi,bO,bQ,hc⟩:=zu9 (zA py) k aF;have pD:wr.cell? ⟨w.heap.size+1+1,1+k,none⟩=some (.string (xW t.ts k)):=by
     have:=(zB ((zA ow).block _ (by omega) (by simp;omega) |>.trans (zA JD)) (1+k)).1;rw[this,zA pw,List.getElem?_toArray];exact zdg t (by omega)
    have C8:g≠w.heap.size:=λ e1=>by
     have h1:=(zA ou).whole;rcases (zA py).2 with⟨_,h0⟩ | ⟨g2,cap,cur,hv,aK,fL,_⟩
     ·omega
     ·injection hv with h2 _ _
      injection h2 with h2
      injection h2 with h2
      rw[<-h2,e1,h1] at fL;injection fL with fL
      injection fL with _ fL _
      cases fL
    have gY:wr.cell? ⟨g,k,none⟩=some (zc3 A.ts[k]):=((zA ow).cell (p:=⟨g,k,none⟩) xi (by simp;exact C8)).trans hc;have HM:=zC (zy6 wr w.heap.size e' A.ts[k] (xW t.ts k) (zA HB) (by have:=(zA yj).len;omega) (λ h1 h2=>Nat.lt_of_lt_of_le ((zA yj).room (zA Jy _ (List.getElem_mem aF) h1) h2) hV));have HS:=zC (z4g (e:=e') (ns:=t.ts) aF);have nu:(k:Int)<A.ts.length:=(by omega);have my:(1+k:Int)<5:=(by omega);clear hc EO
    cases hr:pmT e' A.ts[k] (xW t.ts k) with
    | none=>
     rw[hr] at HS HM;have HE:=zC (show zj7 e A.ts t.ts=none by rw[<-zA HF,zA HS]);go_upto_region 7 with (go_at_call 101;refine (zA HM).mono ?_;rintro en w1 ⟨aW,rfl,ax⟩;have BX:=zC aW;clear aW ax);have y3:w1.heap[w.heap.size+1+1+1]?=some (.cells (yQ []).toArray 135 (0,0)):=((zA BX).block _ (by have:=zA lV;have:=(zA ow).size;omega) (by simp;omega)).trans (zA O4);have HY:=zC y3;have Cz:=zC (show Below w.heap.size w w1 from ⟨(zA BX).os.trans (zA rR).os,(zA BX).tape.trans (zA rR).tape,(zA BX).output.trans (zA rR).output,Nat.le_trans (zA rR).size (zA BX).size,λ i hi=>((zA BX).block i (by have:=(zA rR).size;omega) (by simp;omega)).trans ((zA rR).block i hi)⟩);clear y3;go_wp2_with (first | (refine wpList_store_row rfl 135 _ _ rfl _ _ rfl rfl _ _ (zA HY) (by rw[zen];rfl) rfl (zca []) ?_) | fail);refine bodyPost_ret (v:=.tuple #[zav [],.bool false]) (zfp Tryz.results62 _ _ _ [] rfl (setRow_heap _ _ _ _ _ _ (zA HY))) rfl ?_;rw[zA HP,zA HE];exact⟨xN (zA Cz) (by omega) _,rfl⟩
    | some e2=>
     have Of:=zC ((zA yj).term (zA Jy _ (List.getElem_mem aF)) hr);rw[hr] at HS HM;have aC:=zC (show zj7 e2 (A.ts.drop (k+1)) (t.ts.drop (k+1))=zj7 e A.ts t.ts by rw[<-zA HF,zA HS]);go_wp2_with (go_at_call 101;refine (zA HM).mono ?_;rintro en w1 ⟨aW,rfl,ax⟩;have BX:=zC aW;have eA:=zC (ax e2 rfl);clear aW ax);go_roundg (A.ts.length-(k+1));exact⟨k+1,e2,by omega,rfl,by go_num,zA aC,zA eA,(zA ow).trans (zA BX),zA Of⟩;omega
   ·have HE:=zC (show zj7 e A.ts t.ts=some e' by rw[<-zA HF,List.drop_of_length_le (by omega)];rfl);have UC:=(zA HB).whole;have HW:=zC UC;clear UC EO;go_wp2_with (first | (refine wpList_load_row rfl 135 _ rfl _ rfl _ _ _ _ (zA HW) Tryz.underlying135 rfl (by rw[zen];rfl) ?_) | (refine wpList_store_row rfl 135 _ _ rfl _ _ rfl rfl _ _ (zA O4) (by rw[zen];rfl) rfl (zca _) ?_) | fail);refine bodyPost_ret (v:=.tuple #[zav e',.bool true]) (zfp Tryz.results62 _ _ _ e' rfl (setRow_heap _ _ _ _ _ _ (zA O4))) rfl ?_;rw[zA HP,zA HE];exact⟨xN (zA rR) (by omega) _,rfl⟩
end
end Go.Proofs.YtldkpahaocjdpaaGreat
