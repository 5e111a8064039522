/-
  What variables are, as the program has it: an array of pairs. name: what a variable stands for.
-/
import Derived.Test.YtldkpahaocjdpaaGreatC17
import Derived.BigRegion
import Derived.Deep.CutBlock
import Derived.Deep.MidRow
import Derived.RangeFuncNested
import Derived.Deep.WholeRow
set_option maxHeartbeats 16000000
set_option maxRecDepth 1000000
namespace Go.Proofs.YtldkpahaocjdpaaGreat
section
open Go.RowKit
abbrev xF:=List (B8 × B8)
abbrev zgr:=Bool × B8
def pAt:xF->B8->Option B8
 | [],_=>none
 | x::r,n=>if x.1.toList==n.toList then some x.2 else pAt r n
def uH (e:xF)(n:B8):B8:=(pAt e n).getD { data:=#[] }
variable {e:xF}
theorem z4h {k:Nat}{n:B8}(h:k<e.length):pAt (e.drop k) n=if e[k].1.toList==n.toList then some e[k].2 else pAt (e.drop (k+1)) n:=by
 rw[List.drop_eq_getElem_cons h];rfl
def eAt (e:xF)(i:Nat):B8 × B8:=(e[i]?).getD ({ data:=#[] },{ data:=#[] })
def yF (e:xF):V8:=
 [.int .i64 (e.length:Nat),.string (eAt e 0).1,.string (eAt e 0).2,.string (eAt e 1).1,.string (eAt e 1).2,.string (eAt e 2).1,.string (eAt e 2).2,.string (eAt e 3).1,.string (eAt e 3).2,.string (eAt e 4).1,.string (eAt e 4).2,.string (eAt e 5).1,.string (eAt e 5).2,
 .string (eAt e 6).1,.string (eAt e 6).2,.string (eAt e 7).1,.string (eAt e 7).2,.string (eAt e 8).1,.string (eAt e 8).2,.string (eAt e 9).1,.string (eAt e 9).2,.string (eAt e 10).1,.string (eAt e 10).2,.string (eAt e 11).1,.string (eAt e 11).2]
def jV (e:xF):Value:=.agg (yF e).toArray
variable {i:Nat}
theorem zaf (e:xF)(h:i<12):(yF e)[1+i*2]?=some (.string (eAt e i).1):=by
 match i,h with
 | 0,_ | 1,_ | 2,_ | 3,_ | 4,_ | 5,_ | 6,_ | 7,_ | 8,_ | 9,_ | 10,_ | 11,_=>rfl
theorem qN (e:xF)(h:i<12):(yF e)[1+i*2+1]?=some (.string (eAt e i).2):=by
 match i,h with
 | 0,_ | 1,_ | 2,_ | 3,_ | 4,_ | 5,_ | 6,_ | 7,_ | 8,_ | 9,_ | 10,_ | 11,_=>rfl
theorem z87 (h:i<e.length):eAt e i=e[i]:=by unfold eAt;rw[List.getElem?_eq_getElem h];rfl
def z5r (w:W8)(b:Nat)(e:xF):Prop:=∀ j v,(yF e)[j]?=some v->w.cell? ⟨b,j,none⟩=some v
theorem zp7 (w:W8)(b:Nat)(e:xF)(v:B8)(h:z5r w b e)(hl:e.length<=12):
  Calls Tryz.prog 201 #[.pointer (some ⟨b,0,none⟩),.string v] w λ en w'=>en=.returned (.tuple #[.string (uH e v),.bool (pAt e v).isSome])/\w'=w:=by
 have c0:=h 0 _ rfl;have HB:=zC h;clear h;go_enter Tryz.func201,Tryz.ntmps201;go_wp2_with fail
 go_loop [11] (λ i=>∃ k:Nat,k<=e.length/\i=.int .i64 k/\pAt (e.drop k) v=pAt e v) (λ i=>e.length-(intOf i).toNat)
 exact⟨0,Nat.zero_le _,rfl,rfl⟩
 case round=>
  obtain⟨k,hk,rfl,ax⟩:=hrel;have HF:=zC ax;clear ax
  by_cases aE:k<e.length
  ·have d1:=zA HB _ _ (zaf e (i:=k) (by omega));have d2:=zA HB _ _ (qN e (i:=k) (by omega));rw[z87 aE] at d1 d2;have HS:=zC (z4h (n:=v) aE);have jb:(k:Int)<e.length:=(by omega);have sj:(k:Int)<12:=by omega
   cases hq:e[k].1.toList==v.toList with
   | true=>
    have HE:=zC (show pAt e v=some e[k].2 by rw[<-zA HF,zA HS,if_pos hq]);go_wp2_with fail
    go_ret2
    exact⟨by unfold uH;rw[zA HE];rfl,rfl⟩
   | false=>
    have HE:=zC (show pAt (e.drop (k+1)) v=pAt e v by rw[<-zA HF,zA HS,if_neg (by rw[hq];decide)]);go_wp2_with fail
    go_round
    case rel=>exact⟨k+1,by omega,by go_num,zA HE⟩
    case measure=>simp[intOf];omega
  ·have HE:=zC (show pAt e v=none by rw[<-zA HF,List.drop_of_length_le (by omega)];rfl);go_wp2_with fail
   go_ret2
   exact⟨by unfold uH;rw[zA HE];rfl,rfl⟩
end
section
open Go.RowKit
variable {v:Value} {j:Nat}
theorem zjv (e:xF)(h:(yF e)[j]?=some v):(j=0/\v=.int .i64 (e.length:Nat))\/∃ i,i<12/\((j=1+i*2/\v=.string (eAt e i).1)\/(j=1+i*2+1/\v=.string (eAt e i).2)):=by
 have hj:j<25:=(List.getElem?_eq_some_iff.1 h).1;rcases Nat.eq_zero_or_pos j with rfl | hp
 ·left;refine⟨rfl,?_⟩;exact (Option.some.inj h).symm
 ·right
  refine⟨(j-1)/2,by omega,?_⟩;rcases Nat.mod_two_eq_zero_or_one (j-1) with hm | hm
  ·left
   have e1:j=1+(j-1)/2*2:=(by omega);refine⟨e1,?_⟩;have:=zaf e (i:=(j-1)/2) (by omega);rw[<-e1] at this;exact Option.some.inj (h.symm.trans this)
  ·right
   have e1:j=1+(j-1)/2*2+1:=(by omega);refine⟨e1,?_⟩;have:=qN e (i:=(j-1)/2) (by omega);rw[<-e1] at this;exact Option.some.inj (h.symm.trans this)
theorem zth (e:xF)(x:B8 × B8)(i:Nat):eAt (e++[x]) i=if i=e.length then x else eAt e i:=by
 unfold eAt;rw[List.getElem?_append]
 split
 ·rename_i h;rw[if_neg (by omega)]
 ·rename_i h
  split
  ·rename_i h2;subst h2;simp
  ·rename_i h2;rw[List.getElem?_eq_none (by simp;omega),List.getElem?_eq_none (by omega)]
structure jP (w:W8)(b:Nat)(e:xF):Prop where
 cells:z5r w b e
 arr:∃ cs,w.heap[b]?=some (.cells cs 135 (0,0))/\cs.size=25
variable {e:xF} {b:Nat} {w:W8}
theorem jP.fz (h:jP w b e)(j:Nat):w.frozen? ⟨b,j,none⟩=false:=by
 obtain⟨cs,h1,_⟩:=h.arr;simp[World.frozen?,h1]
theorem jP.lt (h:jP w b e):b<w.heap.size:=by
 obtain⟨cs,h1,_⟩:=h.arr;exact (Array.getElem?_eq_some_iff.1 h1).1
theorem jP.whole (h:jP w b e):w.heap[b]?=some (.cells (yF e).toArray 135 (0,0)):=by
 obtain⟨cs,h1,h2⟩:=h.arr;have:cs=(yF e).toArray:=by
  apply Array.ext
  ·rw[h2];rfl
  ·intro j hj AI;have:=h.cells j _ (by rw[<-List.getElem?_toArray];exact Array.getElem?_eq_getElem AI);rw[cell_of_row w b j cs _ _ h1,Array.getElem?_eq_getElem hj] at this;exact Option.some.inj this
 rw[h1,this]
theorem jP.of (h:w.heap[b]?=some (.cells (yF e).toArray 135 (0,0))):jP w b e:=
 ⟨λ j v hj=>by rw[cell_of_row w b j _ _ _ h,List.getElem?_toArray];exact hj,_,h,rfl⟩
theorem jP.block {w':W8}(h:jP w b e)(hb:w'.heap[b]?=w.heap[b]?):jP w' b e:=jP.of (hb.trans h.whole)
theorem jP.drew (h:jP w b e):jP w.drew b e:=⟨h.cells,h.arr⟩
theorem zrg {T:TypeId}{n:Nat}(h:∃ cs,w.heap[b]?=some (.cells cs T (0,0))/\cs.size=n):∃ cs,(w.setCell ⟨b,j,none⟩ v).heap[b]?=some (.cells cs T (0,0))/\cs.size=n:=by
 obtain⟨cs,h1,h2⟩:=h;rw[setCell_eq_setRow w b j cs T (0,0) v h1];exact⟨_,setRow_heap w b cs _ T _ h1,by simpa using h2⟩
def mr (w:W8)(b k:Nat)(v n:B8):W8:=((w.setCell ⟨b,1+k*2,none⟩ (.string v)).setCell ⟨b,1+k*2+1,none⟩ (.string n)).setCell ⟨b,0,none⟩ (.int .i64 ((k:Int)+1))
theorem jP.set (h:jP w b e)(hl:e.length<12)(v n:B8):jP (mr w b e.length v n) b (e++[(v,n)]):=by
 refine⟨λ j x hj=>?_,zrg (zrg (zrg h.arr))⟩;have c0:=h.cells 0 _ rfl;have cv:=h.cells _ _ (zaf e hl);have cn:=h.cells _ _ (qN e hl);unfold mr;rcases zjv _ hj with⟨rfl,rfl⟩ | ⟨i,hi,⟨rfl,rfl⟩ | ⟨rfl,rfl⟩⟩
 ·rw[World.cell?_setCell_same' _ _ _ (by rw[World.cell?_setCell_other _ _ _ _ (by intro e;injection e;omega),World.cell?_setCell_other _ _ _ _ (by intro e;injection e;omega),c0];rfl)];simp
 ·rw[World.cell?_setCell_other _ _ _ _ (by intro e;injection e;omega),World.cell?_setCell_other _ _ _ _ (by intro e;injection e;omega),zth]
  by_cases hk:i=e.length
  ·subst hk;rw[World.cell?_setCell_same' _ _ _ (by rw[cv];rfl),if_pos rfl]
  ·rw[World.cell?_setCell_other _ _ _ _ (by intro e;injection e;omega),if_neg hk];exact h.cells _ _ (zaf e hi)
 ·rw[World.cell?_setCell_other _ _ _ _ (by intro e;injection e;omega),zth]
  by_cases hk:i=e.length
  ·subst hk;rw[World.cell?_setCell_same' _ _ _ (by rw[World.cell?_setCell_other _ _ _ _ (by intro e;injection e;omega),cn];rfl),if_pos rfl]
  ·rw[World.cell?_setCell_other _ _ _ _ (by intro e;injection e;omega),World.cell?_setCell_other _ _ _ _ (by intro e;injection e;omega),if_neg hk];exact h.cells _ _ (qN e hi)
theorem zN.mr {B:List Nat}{a:W8}(h:zN B a w)(hp:b∈B\/a.heap.size<=b)(k:Nat)(v n:B8):zN B a (Go.Proofs.YtldkpahaocjdpaaGreat.mr w b k v n):=
 ((h.setCell (p:=⟨b,1+k*2,none⟩) hp _).setCell (p:=⟨b,1+k*2+1,none⟩) hp _).setCell (p:=⟨b,0,none⟩) hp _
def pmB (e:xF)(v n:B8):Option xF:=
 match pAt e v with
 | some x=>if x.toList==n.toList then some e else none
 | none=>some (e++[(v,n)])
def zce (w:W8)(b:Nat)(r:Option xF)(en:Ending)(w':W8):Prop:=zN [b] w w'/\en=.returned (.bool r.isSome)/\∀ e',r=some e'->jP w' b e'
theorem z0r (w:W8)(b:Nat)(e:xF)(v n:B8)(h:jP w b e)(hl:e.length<=12)(hr:pAt e v=none->e.length<12):
  Calls Tryz.prog 147 #[.pointer (some ⟨b,0,none⟩),.string v,.string n] w (zce w b (pmB e v n)):=by
 have HN:=zC (zp7 w b e v h.cells hl);have HP:=zC (show zce w b (pmB e v n)=zce w b (match pAt e v with | some x=>if x.toList==n.toList then some e else none | none=>some (e++[(v,n)])) from rfl);have c0:=h.cells 0 _ rfl;have f0:=h.fz 0;have HB:=zC h;have hb:=h.lt;clear h
 cases hp:pAt e v with
 | some x=>
  have HX:=zC (show uH e v=x by unfold uH;rw[hp];rfl);rw[hp] at HP HN;clear hr;have JV:=zC hp;clear hp;go_enter Tryz.func147,Tryz.ntmps147;go_wp2_with (go_at_call 201;refine (zA HN).mono ?_;rintro en w1 ⟨rfl,nj⟩;subst nj);rw[zA HX];go_wp2_with fail;go_ret;rw[zA HP];refine⟨zN.refl _ _,?_,λ e' oa=>?_⟩
  ·split <;> rename_i hq <;> simp[hq]
  ·split at oa
   ·cases oa;exact zA HB
   ·cases oa
 | none=>
  have aG:=hr hp;have HX:=zC (show uH e v={ data:=#[] } by unfold uH;rw[hp];rfl);rw[hp] at HP HN;clear hr;have JV:=zC hp;clear hp;have cv:=(zA HB).cells _ _ (zaf e aG);have cn:=(zA HB).cells _ _ (qN e aG);have fv:=(zA HB).fz (1+e.length*2);have fn:=(zA HB).fz (1+e.length*2+1);have sj:(e.length:Int)<12:=by omega
  go_enter Tryz.func147,Tryz.ntmps147;go_wp2_with (go_at_call 201;refine (zA HN).mono ?_;rintro en w1 ⟨rfl,nj⟩;subst nj)
  go_region
  go_wp2_with fail;go_ret;rw[zA HP];exact⟨((zN.refl [b] w1).mr (b:=b) (by simp) e.length v n).drew,rfl,λ e' oa=>by cases oa;exact ((zA HB).set aG v n).drew⟩
end
section
open Go.RowKit
theorem zjt (W:W8)(v:Value):(Instr.typeAssert (.iface 130 v) 191 130 true).run Tryz.prog W=.ok (.tuple #[v,.bool true]) W:=by kernel_rfl
theorem zht (W:W8)(v:Value):(Instr.typeAssert (.iface 193 v) 191 193 true).run Tryz.prog W=.ok (.tuple #[v,.bool true]) W:=by kernel_rfl
theorem zjs (W:W8)(v:Value):(Instr.typeAssert (.iface 130 v) 191 193 true).run Tryz.prog W=.ok (.tuple #[.string { data:=#[] },.bool false]) W:=by kernel_rfl
def zcb (t:zgr):Value:=.iface (if t.1 then 130 else 193) (.string t.2)
def pmT (e:xF)(t:zgr)(n:B8):Option xF:=if t.1 then pmB e t.2 n else if t.2.toList==n.toList then some e else none
theorem zwe (w:W8)(b:Nat)(e:xF)(t:zgr)(n:B8)(h:jP w b e)(hl:e.length<=12)(hr:t.1=true->pAt e t.2=none->e.length<12):
  Calls Tryz.prog 101 #[.pointer (some ⟨b,0,none⟩),zcb t,.string n] w (zce w b (pmT e t n)):=by
 obtain⟨c,v⟩:=t;have HB:=zC h;have HI:=zC h;clear h;have h1:=zjt;have h2:=zht;have h3:=zjs
 cases c with
 | true=>
  have HN:=zC (z0r w b e v n (zA HI) hl (hr rfl));clear hr;have HP:=zC (show zce w b (pmT e (true,v) n)=zce w b (pmB e v n) from rfl);rw[show zcb (true,v)=.iface 130 (.string v) from rfl];go_enter Tryz.func101,Tryz.ntmps101;go_wp2_with (go_at_call 147;refine (zA HN).mono ?_;rintro en w1 ⟨hk,rfl,ay⟩;have HK:=zC hk;have HI:=zC ay;clear hk ay);go_ret;rw[zA HP];exact⟨zA HK,rfl,zA HI⟩
 | false=>
  have HP:=zC (show zce w b (pmT e (false,v) n)=zce w b (if v.toList==n.toList then some e else none) from rfl);rw[show zcb (false,v)=.iface 193 (.string v) from rfl];go_enter Tryz.func101,Tryz.ntmps101;go_wp2_with fail;go_ret;rw[zA HP];refine⟨zN.refl _ _,?_,λ e' oa=>?_⟩
  ·split <;> rename_i hq <;> simp[hq]
  ·split at oa
   ·cases oa;exact zA HB
   ·cases oa
end
section
open Go.RowKit
def zlv:xF->List zgr->List B8->Option xF
 | e,[],_=>some e
 | e,t::ts,ns=>match pmT e t (ns.headD { data:=#[] }) with
  | some e'=>zlv e' ts ns.tail
  | none=>none
structure j6 where
 p:B8
 ts:List zgr
def jA (e:xF)(a:j6)(t:Th):Option xF:=if a.p.toList==t.p.toList then zlv e a.ts t.ts else none
theorem zvu (l:List B8)(k:Nat):(l.drop k).headD { data:=#[] }=zgm l k:=by
 unfold zgm;rw[List.headD_eq_head?_getD,List.head?_drop]
variable {e:xF}
theorem z0x {ts:List zgr}{ns:List B8}{k:Nat}(h:k<ts.length):zlv e (ts.drop k) (ns.drop k)=match pmT e ts[k] (zgm ns k) with | some e'=>zlv e' (ts.drop (k+1)) (ns.drop (k+1)) | none=>none:=by
 rw[List.drop_eq_getElem_cons h,zlv,zvu,List.tail_drop]
structure jQ (Vs:List B8)(e:xF):Prop where
 nd:(e.map (·.1)).Nodup
 sub:∀ x∈e,x.1∈Vs
theorem jQ.nil (Vs:List B8):jQ Vs []:=⟨by simp,by simp⟩
theorem zpw {α:Type}[DecidableEq α]:∀ (xs ys:List α),xs.Nodup->(∀ x∈xs,x∈ys)->xs.length<=ys.length
 | [],_,_,_=>by simp
 | x::xs,ys,hn,h=>by
  obtain⟨h1,h2⟩:=List.nodup_cons.1 hn;have hx:=h x List.mem_cons_self;have:=zpw xs (ys.erase x) h2 (λ y hy=>(List.mem_erase_of_ne (λ e:y=x=>h1 (e ▸ hy))).2 (h y (List.mem_cons_of_mem _ hy)));rw[List.length_erase_of_mem hx] at this;have:0<ys.length:=List.length_pos_of_mem hx;simp;omega
variable {Vs:List B8}
theorem jQ.len (h:jQ Vs e):e.length<=Vs.length:=by
 have:=zpw _ Vs h.nd (λ x hx=>by obtain⟨y,hy,rfl⟩:=List.mem_map.1 hx;exact h.sub y hy);simpa using this
theorem zt4 {v:B8}:∀ {e:xF},pAt e v=none->v∉e.map (·.1)
 | [],_=>by simp
 | x::r,h=>by
  rw[pAt] at h
  split at h
  ·cases h
  ·rename_i hx;rw[List.map_cons,List.mem_cons];rintro (e | e)
   ·rw[e] at hx;simp at hx
   ·exact zt4 h e
variable {v n:B8}
theorem jQ.snoc (h:jQ Vs e)(hv:v∈Vs)(hn:pAt e v=none):jQ Vs (e++[(v,n)]):=by
 refine⟨?_,λ x hx=>?_⟩
 ·rw[List.map_append,List.nodup_append];exact⟨h.nd,by simp,λ a ha b hb e=>zt4 hn (by rw[<-(List.mem_singleton.1 hb:b=v),<-e];exact ha)⟩
 ·rcases List.mem_append.1 hx with hx | hx
  ·exact h.sub x hx
  ·rw[List.mem_singleton.1 hx];exact hv
theorem jQ.room (h:jQ Vs e)(hv:v∈Vs)(hn:pAt e v=none):e.length<Vs.length:=by
 have:=(h.snoc (n:=v) hv hn).len;rw[List.length_append] at this;exact this
variable {e':xF}
theorem jQ.term (h:jQ Vs e){t:zgr}(ht:t.1=true->t.2∈Vs)(hm:pmT e t n=some e'):jQ Vs e':=by
 unfold pmT pmB at hm
 split at hm
 ·rename_i h1
  split at hm
  ·split at hm
   ·cases hm;exact h
   ·cases hm
  ·rename_i h2;cases hm;exact h.snoc (ht h1) h2
 ·split at hm
  ·cases hm;exact h
  ·cases hm
theorem jQ.ae {Vs:List B8}:∀ {ts:List zgr} {ns:List B8} {e e':xF},jQ Vs e->(∀ t∈ts,t.1=true->t.2∈Vs)->zlv e ts ns=some e'->jQ Vs e'
 | [],_,e,e',h,_,hm=>by rw[zlv] at hm;cases hm;exact h
 | t::ts,ns,e,e',h,ht,hm=>by
  rw[zlv] at hm
  split at hm
  ·rename_i e1 h1;exact jQ.ae (h.term (ht t List.mem_cons_self) h1) (λ x hx=>ht x (List.mem_cons_of_mem _ hx)) hm
  ·cases hm
theorem jQ.matched {A:j6}{t:Th}(h:jQ Vs e)(ht:∀ t∈A.ts,t.1=true->t.2∈Vs)(hm:jA e A t=some e'):jQ Vs e':=by
 unfold jA at hm
 split at hm
 ·exact h.ae ht hm
 ·cases hm
theorem zep (t:Th){i:Nat}(h:i<4):(yK t)[1+i]?=some (.string (zgm t.ts i)):=by
 match i,h with
 | 0,_ | 1,_ | 2,_ | 3,_=>rfl
variable {w:W8}
theorem zsp {base:Nat}{a:O8}{c:Nat}{ts:List zgr}(h:w.ownsRow base 191 1 (.slice a ts.length c) ts.length (ts.map zcb))(k:Nat)(hk:k<ts.length):∃ g,a=some ⟨g,0,none⟩/\g<w.heap.size/\ts.length<=c/\c<=maxLen/\w.cell? ⟨g,k,none⟩=some (zcb ts[k]):=by
 rcases h.2 with⟨_,h0⟩ | ⟨g,cap,cur,hv,hb,hg,cZ,da,ll,ht⟩
 ·omega
 ·injection hv with h1 h2 h3
  subst h1 h3;refine⟨g,rfl,(Array.getElem?_eq_some_iff.1 hg).1,cZ,da,?_⟩;rw[h.cellAt k (by omega),List.getElem?_map,List.getElem?_eq_getElem hk];rfl
def zrd (w:W8)(r:Option xF)(en:Ending)(w':W8):Prop:=Below w.heap.size w w'/\en=.returned (.tuple #[jV (r.getD []),.bool r.isSome])
theorem zcp:(Tryz.prog.info? 135).map (·.size)=some 25:=by kernel_rfl
theorem zbo (e:xF):(yF e).toArray.all (·.oneCell')=true:=by simp[yF,Value.oneCell']
theorem zek {fn:Func}{p u:Tmp}(h:fn.results=#[.cell p 135,.tmp u])(tmps:Array Value)(w:W8)(g:Nat)(e:xF)(hp:tmps.getD p undef=.pointer (some ⟨g,0,none⟩))(hg:w.heap[g]?=some (.cells (yF e).toArray 135 (0,0))):
  (results fn tmps).run Tryz.prog w=.ok (.tuple #[jV e,tmps.getD u undef]) w:=by
 have Eh:tmps[p]?.getD undef=.pointer (some ⟨g,0,none⟩):=by simpa using hp
 have nH:tmps.getD u undef=tmps[u]?.getD undef:=by simp
 rw[nH];simp[results,h,Eh,asAddr,run_loadVar_row w g _ 135 _ _ _ hg Tryz.underlying135 rfl (by rw[zcp];rfl),jV]
theorem yI {B:Nat}{w':W8}(h:Below B w w'){g:Nat}(hg:B<=g)(cs:Array Value):Below B w (w'.setRow g cs):=
 ⟨h.os,h.tape,h.output,by rw[setRow_size];exact h.size,λ k hk=>(setRow_other w' g k cs (by omega)).trans (h.block k hk)⟩
theorem zlw (w:W8)(base:Nat)(e:xF)(A:j6)(a:O8)(c:Nat)(t:Th)(h:w.ownsRow base 191 1 (.slice a A.ts.length c) A.ts.length (A.ts.map zcb))(h4:A.ts.length<=4)(Vs:List B8)(hV:Vs.length<=12)(he:jQ Vs e)(ht:∀ t∈A.ts,t.1=true->t.2∈Vs):
  Calls Tryz.prog 62 #[jV e,.agg #[.string A.p,.slice a A.ts.length c],thV t] w (zrd w (jA e A t)):=by
 obtain⟨cs,ll⟩:∃ cs,cs=(yF e).toArray:=⟨_,rfl⟩;obtain⟨ct,tE⟩:∃ ct,ct=(yK t).toArray:=⟨_,rfl⟩;have CX:=zC ll;have sM:=zC tE;unfold jV thV;rw[<-ll,<-tE];clear ll tE;have H:=zC h;have Vq:=zC he;have J3:=zC ht;clear h he ht;have q0:cs.size=25:=by rw[zA CX];rfl
 have q1:ct.size=5:=by rw[zA sM];rfl
 go_enter Tryz.func62,Tryz.ntmps62;go_upto_region 1 with fail;generalize dK:World.alloc (World.alloc (World.alloc (World.alloc w _) _) _) _=w0;have k0:Below w.heap.size w w0:=by
  rw[<-dK];exact ((((Below.refl w.heap.size w).alloc L9 _).alloc (by simp) _).alloc (by simp only[World.size_alloc];omega) _).alloc (by simp only[World.size_alloc];omega) _
 have x0:w0.heap[w.heap.size]?=some (.cells cs 135 (0,0)):=by
  rw[<-dK,Below.heap_alloc _ _ _ (by simp only[World.size_alloc];omega),Below.heap_alloc _ _ _ (by simp only[World.size_alloc];omega),Below.heap_alloc _ _ _ (by simp)];exact heap_alloc_new w _
 have x1:w0.heap[w.heap.size+1]?=some (.cells #[.string A.p,.slice a A.ts.length c] 79 (0,0)):=by
  rw[<-dK,Below.heap_alloc _ _ _ (by simp only[World.size_alloc];omega),Below.heap_alloc _ _ _ (by simp)];have:=heap_alloc_new (w.alloc (.cells cs 135)) (.cells #[.string A.p,.slice a A.ts.length c] 79);rw[World.size_alloc] at this;exact this
 have x2:w0.heap[w.heap.size+1+1]?=some (.cells ct 88 (0,0)):=by
  rw[<-dK,Below.heap_alloc _ _ _ (by simp)];have:=heap_alloc_new ((w.alloc (.cells cs 135)).alloc (.cells #[.string A.p,.slice a A.ts.length c] 79)) (.cells ct 88);rw[World.size_alloc,World.size_alloc] at this;exact this
 have x3:w0.heap[w.heap.size+1+1+1]?=some (.cells (yF []).toArray 135 (0,0)):=by
  rw[<-dK];have:=heap_alloc_new (((w.alloc (.cells cs 135)).alloc (.cells #[.string A.p,.slice a A.ts.length c] 79)).alloc (.cells ct 88)) (.cells (yF []).toArray 135);rw[World.size_alloc,World.size_alloc,World.size_alloc] at this;exact this
 have s0:w.heap.size+1+1+1+1=w0.heap.size:=by rw[<-dK];simp
 have b0:jP w0 w.heap.size e:=jP.of (by rw[x0,zA CX]);have pt:=xI (zA H) (λ g e=>k0.block g ((zA H).lt g e).2);clear dK H;have lh:=zC b0;have tC:=zC s0;have DN:=zC x3;have zh:=zC pt;have eW:=zC k0;obtain⟨p0,-⟩:=zB x1 0;obtain⟨p1,-⟩:=zB x1 1;obtain⟨t0,-⟩:=zB x2 0;replace t0:w0.cell? ⟨w.heap.size+1+1,0,none⟩=some (.string t.p):=by rw[t0,zA sM];rfl
 have EX:=zC x1;have DM:=zC x2;clear x0 x1 x2 x3 b0 pt k0 s0
 cases hq:A.p.toList==t.p.toList with
 | false=>
  have HP:=zC (show jA e A t=none by unfold jA;rw[hq];rfl);go_wp2_with (first | (refine wpList_store_row rfl 135 _ _ rfl _ _ rfl rfl _ _ (zA DN) (by rw[zcp];rfl) rfl (zbo []) ?_) | fail);refine bodyPost_ret (v:=.tuple #[jV [],.bool false]) (zek Tryz.results62 _ _ _ [] rfl (setRow_heap _ _ _ _ _ _ (zA DN))) rfl ?_;rw[zA HP];exact⟨yI (zA eW) (by omega) _,rfl⟩
 | true=>
  have HP:=zC (show jA e A t=zlv e A.ts t.ts by unfold jA;rw[hq];rfl);go_wp2_with fail
  go_loopg [19] A.ts.length (λ gg i wr=>∃ (k:Nat) (e':xF),k<=A.ts.length/\gg=A.ts.length-k/\i=.int .i64 k/\zlv e' (A.ts.drop k) (t.ts.drop k)=zlv e A.ts t.ts/\jP wr w.heap.size e'/\zN [w.heap.size] w0 wr/\jQ Vs e')
  exact⟨0,e,Nat.zero_le _,rfl,rfl,rfl,zA lh,zN.refl _ _,zA Vq⟩
  case round=>
   obtain⟨k,e',hk,iZ,rfl,ax,hb,dh,qy⟩:=hrel;have Iw:=zC qy;have HF:=zC ax;have HB:=zC hb;have ly:=zC dh;have FM:=zA tC;have y3:wr.heap[w.heap.size+1+1+1]?=some (.cells (yF []).toArray 135 (0,0)):=(dh.block _ (by omega) (by simp;omega)).trans (zA DN);have J8:=zC y3;have rA:=zC (show Below w.heap.size w wr from ⟨dh.os.trans (zA eW).os,dh.tape.trans (zA eW).tape,dh.output.trans (zA eW).output,Nat.le_trans (zA eW).size dh.size,λ i hi=>(dh.block i (by omega) (by simp;omega)).trans ((zA eW).block i hi)⟩);clear ax hb dh y3 qy
   by_cases aE:k<A.ts.length
   ·obtain⟨g,rfl,AE,cZ,da,hc⟩:=zsp (zA zh) k aE;have tL:wr.cell? ⟨w.heap.size+1+1,1+k,none⟩=some (.string (zgm t.ts k)):=by
     have:=(zB ((zA ly).block _ (by omega) (by simp;omega) |>.trans (zA DM)) (1+k)).1;rw[this,zA sM,List.getElem?_toArray];exact zep t (by omega)
    have Fi:g≠w.heap.size:=λ e1=>by
     have h1:=(zA lh).whole;rcases (zA zh).2 with⟨_,h0⟩ | ⟨g2,cap,cur,hv,aH,nA,_⟩
     ·omega
     ·injection hv with h2 _ _
      injection h2 with h2
      injection h2 with h2
      rw[<-h2,e1,h1] at nA;injection nA with nA
      injection nA with _ nA _
      cases nA
    have mY:wr.cell? ⟨g,k,none⟩=some (zcb A.ts[k]):=((zA ly).cell (p:=⟨g,k,none⟩) AE (by simp;exact Fi)).trans hc;have HM:=zC (zwe wr w.heap.size e' A.ts[k] (zgm t.ts k) (zA HB) (by have:=(zA Iw).len;omega) (λ h1 h2=>Nat.lt_of_lt_of_le ((zA Iw).room (zA J3 _ (List.getElem_mem aE) h1) h2) hV));have HS:=zC (z0x (e:=e') (ns:=t.ts) aE);have nC:(k:Int)<A.ts.length:=(by omega);have sV:(1+k:Int)<5:=(by omega);clear hc FM
    cases hr:pmT e' A.ts[k] (zgm t.ts k) with
    | none=>
     rw[hr] at HS HM;have HE:=zC (show zlv e A.ts t.ts=none by rw[<-zA HF,zA HS]);go_upto_region 7 with (go_at_call 101;refine (zA HM).mono ?_;rintro en w1 ⟨bg,rfl,ay⟩;have C0:=zC bg;clear bg ay);have y3:w1.heap[w.heap.size+1+1+1]?=some (.cells (yF []).toArray 135 (0,0)):=((zA C0).block _ (by have:=zA tC;have:=(zA ly).size;omega) (by simp;omega)).trans (zA J8);have HY:=zC y3;have OI:=zC (show Below w.heap.size w w1 from ⟨(zA C0).os.trans (zA rA).os,(zA C0).tape.trans (zA rA).tape,(zA C0).output.trans (zA rA).output,Nat.le_trans (zA rA).size (zA C0).size,λ i hi=>((zA C0).block i (by have:=(zA rA).size;omega) (by simp;omega)).trans ((zA rA).block i hi)⟩);clear y3;go_wp2_with (first | (refine wpList_store_row rfl 135 _ _ rfl _ _ rfl rfl _ _ (zA HY) (by rw[zcp];rfl) rfl (zbo []) ?_) | fail);refine bodyPost_ret (v:=.tuple #[jV [],.bool false]) (zek Tryz.results62 _ _ _ [] rfl (setRow_heap _ _ _ _ _ _ (zA HY))) rfl ?_;rw[zA HP,zA HE];exact⟨yI (zA OI) (by omega) _,rfl⟩
    | some e2=>
     have Ox:=zC ((zA Iw).term (zA J3 _ (List.getElem_mem aE)) hr);rw[hr] at HS HM;have az:=zC (show zlv e2 (A.ts.drop (k+1)) (t.ts.drop (k+1))=zlv e A.ts t.ts by rw[<-zA HF,zA HS]);go_wp2_with (go_at_call 101;refine (zA HM).mono ?_;rintro en w1 ⟨bg,rfl,ay⟩;have C0:=zC bg;have iR:=zC (ay e2 rfl);clear bg ay);go_roundg (A.ts.length-(k+1));exact⟨k+1,e2,by omega,rfl,by go_num,zA az,zA iR,(zA ly).trans (zA C0),zA Ox⟩;omega
   ·have HE:=zC (show zlv e A.ts t.ts=some e' by rw[<-zA HF,List.drop_of_length_le (by omega)];rfl);have UN:=(zA HB).whole;have HW:=zC UN;clear UN FM;go_wp2_with (first | (refine wpList_load_row rfl 135 _ rfl _ rfl _ _ _ _ (zA HW) Tryz.underlying135 rfl (by rw[zcp];rfl) ?_) | (refine wpList_store_row rfl 135 _ _ rfl _ _ rfl rfl _ _ (zA J8) (by rw[zcp];rfl) rfl (zbo _) ?_) | fail);refine bodyPost_ret (v:=.tuple #[jV e',.bool true]) (zek Tryz.results62 _ _ _ e' rfl (setRow_heap _ _ _ _ _ _ (zA J8))) rfl ?_;rw[zA HP,zA HE];exact⟨yI (zA rA) (by omega) _,rfl⟩
end
section
open Go.RowKit
def zhw (e:xF)(t:zgr):B8:=if t.1 then uH e t.2 else t.2
def xZ (e:xF)(A:j6):Th:=⟨A.p,A.ts.map (zhw e)⟩
theorem z0h (L:List B8)(x:B8)(i:Nat):zgm (L++[x]) i=if i=L.length then x else zgm L i:=by
 unfold zgm;rw[List.getElem?_append]
 split
 ·rename_i h;rw[if_neg (by omega)]
 ·rename_i h
  split
  ·rename_i h2;subst h2;simp
  ·rename_i h2;rw[List.getElem?_eq_none (by simp;omega),List.getElem?_eq_none (by omega)]
theorem zsr (p:B8)(L:List B8)(x:B8)(h:L.length<4):(yK ⟨p,L⟩).toArray.setIfInBounds (1+L.length) (.string x)=(yK ⟨p,L++[x]⟩).toArray:=by
 unfold yK;simp only[Th.p,Th.ts,z0h]
 match hl:L.length,h with
 | 0,_ | 1,_ | 2,_ | 3,_=>simp
theorem zfi:(Tryz.prog.info? 88).map (·.size)=some 5:=by kernel_rfl
theorem zdr (t:Th):(yK t).toArray.all (·.oneCell')=true:=by simp[yK,Value.oneCell']
theorem znc {wr:W8}{b:Nat}{p:B8}{L:List B8}(h:wr.heap[b]?=some (.cells (yK ⟨p,L⟩).toArray 88 (0,0)))(hl:L.length<4)(x:B8):(wr.setCell ⟨b,1+L.length,none⟩ (.string x)).heap[b]?=some (.cells (yK ⟨p,L++[x]⟩).toArray 88 (0,0)):=by
 rw[setCell_eq_setRow wr b _ _ _ (0,0) _ h,zsr p L x hl];exact setRow_heap _ _ _ _ _ _ h
def z2p (w:W8)(t:Th)(en:Ending)(w':W8):Prop:=Below w.heap.size w w'/\en=.returned (thV t)
theorem zg8 (w:W8)(base:Nat)(e:xF)(A:j6)(a:O8)(c:Nat)(h:w.ownsRow base 191 1 (.slice a A.ts.length c) A.ts.length (A.ts.map zcb))(h4:A.ts.length<=4)(hl:e.length<=12):
  Calls Tryz.prog 146 #[jV e,.agg #[.string A.p,.slice a A.ts.length c]] w (z2p w (xZ e A)):=by
 obtain⟨cs,ll⟩:∃ cs,cs=(yF e).toArray:=⟨_,rfl⟩;have CX:=zC ll;unfold jV;rw[<-ll];clear ll;have H:=zC h;clear h;have q0:cs.size=25:=by rw[zA CX];rfl
 have a1:=zjt;have a2:=zht;have a3:=zjs;go_enter Tryz.func146,Tryz.ntmps146;go_upto_region 2 with fail;generalize dK:World.alloc (World.alloc (World.alloc (World.alloc w _) _) _) _=w0;have k0:Below w.heap.size w w0:=by
  rw[<-dK];exact ((((Below.refl w.heap.size w).alloc L9 _).alloc (by simp) _).alloc (by simp only[World.size_alloc];omega) _).alloc (by simp only[World.size_alloc];omega) _
 have x0:w0.heap[w.heap.size]?=some (.cells cs 135 (0,0)):=by
  rw[<-dK,Below.heap_alloc _ _ _ (by simp only[World.size_alloc];omega),Below.heap_alloc _ _ _ (by simp only[World.size_alloc];omega),Below.heap_alloc _ _ _ (by simp)];exact heap_alloc_new w _
 have x1:w0.heap[w.heap.size+1]?=some (.cells #[.string A.p,.slice a A.ts.length c] 79 (0,0)):=by
  rw[<-dK,Below.heap_alloc _ _ _ (by simp only[World.size_alloc];omega),Below.heap_alloc _ _ _ (by simp)];have:=heap_alloc_new (w.alloc (.cells cs 135)) (.cells #[.string A.p,.slice a A.ts.length c] 79);rw[World.size_alloc] at this;exact this
 have x2:w0.heap[w.heap.size+1+1]?=some (.cells (yK ⟨{ data:=#[] },[]⟩).toArray 88 (0,0)):=by
  rw[<-dK,Below.heap_alloc _ _ _ (by simp)];have:=heap_alloc_new ((w.alloc (.cells cs 135)).alloc (.cells #[.string A.p,.slice a A.ts.length c] 79)) (.cells (yK ⟨{ data:=#[] },[]⟩).toArray 88);rw[World.size_alloc,World.size_alloc] at this;exact this
 have x3:w0.heap[w.heap.size+1+1+1]?=some (.cells (yK ⟨A.p,[]⟩).toArray 88 (0,0)):=by
  rw[<-dK];have:=heap_alloc_new (((w.alloc (.cells cs 135)).alloc (.cells #[.string A.p,.slice a A.ts.length c] 79)).alloc (.cells (yK ⟨{ data:=#[] },[]⟩).toArray 88)) (.cells (yK ⟨A.p,[]⟩).toArray 88);rw[World.size_alloc,World.size_alloc,World.size_alloc] at this;exact this
 have s0:w.heap.size+1+1+1+1=w0.heap.size:=by rw[<-dK];simp
 have b0:jP w0 w.heap.size e:=jP.of (by rw[x0,zA CX]);have pt:=xI (zA H) (λ g e=>k0.block g ((zA H).lt g e).2);have HG:=zC (λ g (e1:(Value.slice a A.ts.length c).ownBlock=some g)=>((zA H).lt g e1).2);clear dK H;have lh:=zC b0;have tC:=zC s0;have DN:=zC x3;have DM:=zC x2;have zh:=zC pt;have eW:=zC k0;obtain⟨p1,-⟩:=zB x1 1;have EX:=zC x1;clear x0 x1 x2 x3 b0 pt k0 s0;go_wp2_with fail
 go_loopg [16] A.ts.length (λ gg i wr=>∃ (k:Nat) (L:List B8),k<=A.ts.length/\gg=A.ts.length-k/\i=.int .i64 k/\L=(A.ts.take k).map (zhw e)/\wr.heap[w.heap.size+1+1+1]?=some (.cells (yK ⟨A.p,L⟩).toArray 88 (0,0))/\zN [w.heap.size+1+1+1] w0 wr)
 exact⟨0,[],Nat.zero_le _,rfl,rfl,rfl,zA DN,zN.refl _ _⟩
 case round=>
  obtain⟨k,L,hk,iZ,rfl,hL,hx,dh⟩:=hrel;have mg:L.length=k:=by rw[hL];simp;omega
  have FM:=zA tC;have rA:=zC (show Below w.heap.size w wr from ⟨dh.os.trans (zA eW).os,dh.tape.trans (zA eW).tape,dh.output.trans (zA eW).output,Nat.le_trans (zA eW).size dh.size,λ i hi=>(dh.block i (by omega) (by simp;omega)).trans ((zA eW).block i hi)⟩);have HX:=zC hx;have ly:=zC dh;have HL:=zC hL;have C1:=zC mg
  by_cases aE:k<A.ts.length
  ·obtain⟨g,rfl,AE,cZ,da,hc⟩:=zsp (zA zh) k aE;have AF:=zA HG g rfl;have mY:wr.cell? ⟨g,k,none⟩=some (zcb A.ts[k]):=((zA ly).cell (p:=⟨g,k,none⟩) AE (by simp;omega)).trans hc;have uL:=zC ((zA lh).block (dh.block _ (by omega) (by simp;omega)));obtain⟨eT,T6⟩:=zB hx (1+k);replace eT:wr.cell? ⟨w.heap.size+1+1+1,1+k,none⟩=some (.string (zgm L k)):=by
    rw[eT,List.getElem?_toArray];exact zep ⟨A.p,L⟩ (by omega)
   have nC:(k:Int)<A.ts.length:=(by omega);have sV:(1+k:Int)<5:=(by omega);have eN:=zC (show (A.ts.take (k+1)).map (zhw e)=L++[zhw e A.ts[k]] by rw[List.take_succ_eq_append_getElem aE,List.map_append,zA HL];rfl);clear hc FM hx dh hL mg
   cases hv:A.ts[k].1 with
   | false=>
    have HF:=zC (show zhw e A.ts[k]=A.ts[k].2 by unfold zhw;rw[hv];rfl);have nN:wr.cell? ⟨g,k,none⟩=some (.iface 193 (.string A.ts[k].2)):=(by rw[mY];unfold zcb;rw[hv];rfl);clear mY;go_wp2_with fail;go_roundg (A.ts.length-(k+1))
    case measure=>omega
    case rel=>
     have:=znc (zA HX) (by rw[zA C1];omega) A.ts[k].2;rw[zA C1] at this;exact⟨k+1,L++[A.ts[k].2],by omega,rfl,by go_num,by rw[zA eN,zA HF],this,(zA ly).setCell (by simp) _⟩
   | true=>
    have HF:=zC (show zhw e A.ts[k]=uH e A.ts[k].2 by unfold zhw;rw[hv];rfl);have nN:wr.cell? ⟨g,k,none⟩=some (.iface 130 (.string A.ts[k].2)):=(by rw[mY];unfold zcb;rw[hv];rfl);have HN:=zC (zp7 wr w.heap.size e A.ts[k].2 (zA uL).cells hl);clear mY;go_wp2_with (go_at_call 201;refine (zA HN).mono ?_;rintro en w1 ⟨rfl,nj⟩;subst nj);go_roundg (A.ts.length-(k+1))
    case measure=>omega
    case rel=>
     have:=znc (zA HX) (by rw[zA C1];omega) (uH e A.ts[k].2);rw[zA C1] at this;exact⟨k+1,L++[uH e A.ts[k].2],by omega,rfl,by go_num,by rw[zA eN,zA HF],this,(zA ly).setCell (by simp) _⟩
  ·have HE:=zC (show (⟨A.p,L⟩:Th)=xZ e A by unfold xZ;rw[hL,List.take_of_length_le (by omega)]);have C6:=zC ((dh.block (w.heap.size+1+1) (by omega) (by simp)).trans (zA DM));clear FM hx dh hL mg;go_wp2_with (first | (refine wpList_load_row rfl 88 _ rfl _ rfl _ _ _ _ (zA HX) Tryz.underlying88 rfl (by rw[zfi];rfl) ?_) | (refine wpList_store_row rfl 88 _ _ rfl _ _ rfl rfl _ _ (zA C6) (by rw[zfi];rfl) rfl (zdr _) ?_) | fail);refine bodyPost_ret (v:=thV ⟨A.p,L⟩) (results_cell_row Tryz.results146 _ _ _ _ _ _ _ rfl (setRow_heap _ _ _ _ _ _ (zA C6)) Tryz.underlying88 rfl (by rw[zfi];rfl)) rfl ?_;exact⟨yI (zA rA) (by omega) _,by rw[zA HE]⟩
end
section
open Go.RowKit
structure iT (No:Nat->Prop)(w w':W8):Prop where
 os:w'.os=w.os
 tape:w'.tape=w.tape
 output:w'.output=w.output
 size:w.heap.size<=w'.heap.size
 same:∀ (k:Nat) (o:Obj),w.heap[k]?=some o->¬ No k->(o.isCells=true\/o.isWalk=true)->w'.heap[k]?=some o
theorem iT.refl (No:Nat->Prop)(w:W8):iT No w w:=⟨rfl,rfl,rfl,Nat.le_refl _,λ _ _ h _ _=>h⟩
theorem iT.trans {No:Nat->Prop}{a b c:W8}(h:iT No a b)(k:iT No b c):iT No a c:=
 ⟨k.os.trans h.os,k.tape.trans h.tape,k.output.trans h.output,Nat.le_trans h.size k.size,λ i o hi hn ho=>k.same i o (h.same i o hi hn ho) hn ho⟩
variable {w w':W8} {No:Nat->Prop}
theorem iT.ai (k:Below w.heap.size w w'):iT No w w':=
 ⟨k.os,k.tape,k.output,k.size,λ i _ hi _ _=>(k.block i (Array.getElem?_eq_some_iff.1 hi).1).trans hi⟩
theorem iT.grown {a:W8}{row:Option Nat}(h:iT No a w)(hg:w.grownBy w' row)(hr:∀ r,row=some r->a.heap.size<=r\/No r):iT No a w':=
 ⟨hg.os.trans h.os,hg.tape.trans h.tape,hg.output.trans h.output,Nat.le_trans h.size hg.size,λ i o hi hn ho=>by
  have h1:=h.same i o hi hn ho;refine (hg.block i (Array.getElem?_eq_some_iff.1 h1).1 λ e=>?_).trans h1;rcases hr i e.symm with h2 | h2
  ·have:=(Array.getElem?_eq_some_iff.1 hi).1;omega
  ·exact hn h2⟩
theorem iT.alloc {a:W8}(h:iT No a w)(o:Obj):iT No a (w.alloc o):=h.grown (World.grownBy_alloc w o none) (λ _ e=>by cases e)
variable {b:Nat}
theorem iT.cells (h:iT No w w'){cs:Array Value}{t:TypeId}{fr:Nat × Nat}(hb:w.heap[b]?=some (.cells cs t fr))(hn:¬ No b):w'.heap[b]?=some (.cells cs t fr):=h.same b _ hb hn (.inl rfl)
theorem iT.map (h:iT No w w'){L:List (Th × Nat)}(hb:jg w b L)(hn:¬ No b):jg w' b L:=by
 obtain⟨es,c,h1⟩:=hb.isMap;exact hb.block ((h.same b _ h1 hn (.inr rfl)).trans h1.symm)
variable {v:Value}
theorem iT.row (h:iT No w w'){base:Nat}{e:TypeId}{size n:Nat}{xs:V8}(hr:w.ownsRow base e size v n xs)(hn:∀ g,v.ownBlock=some g->¬ No g):w'.ownsRow base e size v n xs:=by
 refine xI hr λ g hg=>?_
 rcases hr.2 with⟨h0,_⟩ | ⟨g',cap,cur,rfl,hb,uz,_⟩
 ·rw[h0] at hg;cases hg
 ·have e:g'=g:=by simpa[Value.ownBlock] using hg
  subst e;exact (h.same _ _ uz (hn _ hg) (.inl rfl)).trans uz.symm
def zd8 (x:j6 × Value):V8:=[.string x.1.p,x.2]
structure jY (No:Nat->Prop)(w:W8)(v:Value)(As:List (j6 × Value)):Prop where
 row:∃ base,w.ownsRow base 79 2 v As.length (As.flatMap zd8)
 ae:∀ x∈As,∃ base,w.ownsRow base 191 1 x.2 x.1.ts.length (x.1.ts.map zcb)
 ap:∀ g,v.ownBlock=some g->¬ No g
 Po:∀ x∈As,∀ g,x.2.ownBlock=some g->¬ No g
 gH:∀ x∈As,x.1.ts.length<=4
theorem jY.og {As:List (j6 × Value)}(h:jY No w v As)(k:iT No w w'):jY No w' v As:=
 ⟨let ⟨b,hb⟩:=h.row;⟨b,k.row hb h.ap⟩,λ x hx=>let ⟨b,hb⟩:=h.ae x hx;⟨b,k.row hb (h.Po x hx)⟩,h.ap,h.Po,h.gH⟩
structure Ij (No:Nat->Prop)(w:W8)(sb mb l:Nat)(pos neg:List (j6 × Value))(pv nv:Value)(K:List (Th × Nat)):Prop where
 s:w.heap[sb]?=some (.cells #[pv,nv,.map (some mb),.func (.yield l) #[] #[]] 361 (0,0))
 ns:¬ No sb
 p:jY No w pv pos
 n:jY No w nv neg
 m:jg w mb K
 nm:¬ No mb
 p3:pos.length<=3
theorem Ij.og {No:Nat->Prop}{w w':W8}{sb mb l:Nat}{pos neg:List (j6 × Value)}{pv nv:Value}{K:List (Th × Nat)}(h:Ij No w sb mb l pos neg pv nv K)(k:iT No w w'):Ij No w' sb mb l pos neg pv nv K:=
 ⟨k.cells h.s h.ns,h.ns,h.p.og k,h.n.og k,k.map h.m h.nm,h.nm,h.p3⟩
def zag (K:List (Th × Nat))(neg:List j6)(e:xF):Bool:=neg.any λ x=>(j2 K (xZ e x)).isSome
def yY (K:List (Th × Nat)):List j6->xF->List xF
 | [],e=>[e]
 | a::r,e=>K.flatMap λ t=>match jA e a t.1 with
  | some e'=>yY K r e'
  | none=>[]
def zbq (K:List (Th × Nat))(neg pos:List j6)(e:xF):List xF:=(yY K pos e).filter λ x=>!zag K neg x
end
section
open Go.RowKit
def BV (w:W8)(b:Nat)(e:xF):Prop:=w.heap[b]?=some (.cells (yF e).toArray 135 (0,0))
noncomputable def zfu (v:Value):Sem Value:=Instr.loadAt 135 v
noncomputable def zs6 (p v:Value):Sem Unit:=Instr.storeAt 135 p v
noncomputable def z6z:Sem Value:=zeroValue 135
theorem zcw (v:Value):Instr.loadAt 135 v=zfu v:=rfl
theorem zbe (p v:Value):Instr.storeAt 135 p v=zs6 p v:=rfl
theorem zun:zeroValue 135=z6z:=rfl
theorem zqm (w:W8):z6z.run Tryz.prog w=.ok (jV []) w:=by unfold z6z;kernel_rfl
theorem qB (e:xF):(jV e).cells=(yF e).toArray:=rfl
variable {e:xF} {b:Nat} {w:W8}
theorem BV.load (h:BV w b e):(zfu (.pointer (some ⟨b,0,none⟩))).run Tryz.prog w=.ok (jV e) w:=by
 unfold zfu Instr.loadAt Instr.sureAddr;simp only[Sem.run_bind,Sem.run_pure,Result.andThen_ok];exact run_loadVar_row w b _ 135 _ _ _ h Tryz.underlying135 rfl (by rw[zcp];rfl)
theorem BV.store (h:BV w b e)(e':xF):(zs6 (.pointer (some ⟨b,0,none⟩)) (jV e')).run Tryz.prog w=.ok () (w.setRow b (yF e').toArray):=by
 unfold zs6 Instr.storeAt Instr.sureAddr;simp only[Sem.run_bind,Sem.run_pure,Result.andThen_ok];exact run_storeVar_row w b _ 135 _ _ h (by rw[zcp];rfl) rfl (zbo e')
theorem BV.new (w:W8)(e:xF):BV (w.alloc (.cells (yF e).toArray 135)) w.heap.size e:=heap_alloc_new w _
theorem za2 (w:W8)(e e':xF):(zs6 (.pointer (some ⟨w.heap.size,0,none⟩)) (jV e')).run Tryz.prog (w.alloc (.cells (yF e).toArray 135))=.ok () (w.alloc (.cells (yF e').toArray 135)):=by
 rw[(BV.new w e).store e',World.setRow_alloc_new]
theorem BV.lt (h:BV w b e):b<w.heap.size:=(Array.getElem?_eq_some_iff.1 h).1
theorem BV.alloc (h:BV w b e)(o:Obj):BV (w.alloc o) b e:=(Below.heap_alloc w o b h.lt).trans h
variable {w':W8}
theorem BV.below (h:BV w b e)(k:Below w.heap.size w w'):BV w' b e:=(k.block b h.lt).trans h
theorem zxn:BV w.drew b e↔BV w b e:=Iff.rfl
theorem BV.og {No:Nat->Prop}(h:BV w b e)(k:iT No w w')(hn:¬ No b):BV w' b e:=k.cells h hn
def TV (w:W8)(b:Nat)(t:Th):Prop:=w.heap[b]?=some (.cells (yK t).toArray 88 (0,0))
noncomputable def zkq (v:Value):Sem Value:=Instr.loadAt 88 v
noncomputable def zqv (p v:Value):Sem Unit:=Instr.storeAt 88 p v
noncomputable def z92:Sem Value:=zeroValue 88
theorem za9 (v:Value):Instr.loadAt 88 v=zkq v:=rfl
theorem zau (p v:Value):Instr.storeAt 88 p v=zqv p v:=rfl
theorem z1c (w:W8):z92.run Tryz.prog w=.ok (thV ({ data:=#[] },[])) w:=by unfold z92;kernel_rfl
theorem zas (t:Th):(thV t).cells=(yK t).toArray:=rfl
variable {t:Th}
theorem TV.load (h:TV w b t):(zkq (.pointer (some ⟨b,0,none⟩))).run Tryz.prog w=.ok (thV t) w:=by
 unfold zkq Instr.loadAt Instr.sureAddr;simp only[Sem.run_bind,Sem.run_pure,Result.andThen_ok];exact run_loadVar_row w b _ 88 _ _ _ h Tryz.underlying88 rfl (by rw[zfi];rfl)
theorem TV.store (h:TV w b t)(t':Th):(zqv (.pointer (some ⟨b,0,none⟩)) (thV t')).run Tryz.prog w=.ok () (w.setRow b (yK t').toArray):=by
 unfold zqv Instr.storeAt Instr.sureAddr;simp only[Sem.run_bind,Sem.run_pure,Result.andThen_ok];exact run_storeVar_row w b _ 88 _ _ h (by rw[zfi];rfl) rfl (zdr t')
theorem TV.new (w:W8)(t:Th):TV (w.alloc (.cells (yK t).toArray 88)) w.heap.size t:=heap_alloc_new w _
theorem zby (w:W8)(t t':Th):(zqv (.pointer (some ⟨w.heap.size,0,none⟩)) (thV t')).run Tryz.prog (w.alloc (.cells (yK t).toArray 88))=.ok () (w.alloc (.cells (yK t').toArray 88)):=by
 rw[(TV.new w t).store t',World.setRow_alloc_new]
theorem TV.lt (h:TV w b t):b<w.heap.size:=(Array.getElem?_eq_some_iff.1 h).1
theorem TV.alloc (h:TV w b t)(o:Obj):TV (w.alloc o) b t:=(Below.heap_alloc w o b h.lt).trans h
theorem TV.below (h:TV w b t)(k:Below w.heap.size w w'):TV w' b t:=(k.block b h.lt).trans h
noncomputable def z1u (h:Bool)(v:Value):Sem Value:=Instr.alloc 88 h v
theorem zat (h:Bool)(v:Value):Instr.alloc 88 h v=z1u h v:=rfl
theorem zbx (w:W8)(v:Value):(z1u true v).run Tryz.prog w=.ok (.pointer (some ⟨w.heap.size,0,none⟩)) (w.alloc (.cells (yK ({ data:=#[] },[])).toArray 88)):=by
 unfold z1u;simp[Instr.alloc,newVar,newRow,go_sem,yK,zgm,Th.p,Th.ts]
noncomputable def zyg (h:Bool)(v:Value):Sem Value:=Instr.alloc 135 h v
theorem zdd (h:Bool)(v:Value):Instr.alloc 135 h v=zyg h v:=rfl
theorem zdc (w:W8)(v:Value):(zyg true v).run Tryz.prog w=.ok (.pointer (some ⟨w.heap.size,0,none⟩)) (w.alloc (.cells (yF []).toArray 135)):=by
 unfold zyg;simp[Instr.alloc,newVar,newRow,go_sem,yF,eAt]
variable {cs:Array Value} {g:Nat}
theorem BV.kF (h:BV w b e)(eI:b≠g):BV (w.setRow g cs) b e:=(setRow_other w g b cs eI).trans h
theorem cell_far {o:Nat}{v:Value}(h:w.cell? ⟨b,o,none⟩=some v)(eI:b≠g):(w.setRow g cs).cell? ⟨b,o,none⟩=some v:=(cell_setRow_other w g cs ⟨b,o,none⟩ eI).trans h
theorem zes {w1 w4:W8}(h:Below w.heap.size w w1)(h4:Below w1.drew.heap.size w1.drew w4):Below w.heap.size w w4:=h.trans ((⟨h4.os,h4.tape,h4.output,h4.size,h4.block⟩:Below w1.heap.size w1 w4).mono h.size)
theorem zV (h:Below w.drew.heap.size w.drew w'):Below w.heap.size w w':=⟨h.os,h.tape,h.output,h.size,h.block⟩
end
end Go.Proofs.YtldkpahaocjdpaaGreat
