/-
  Plain: how the reference's program (its rules, its predicates with their numbers of terms) lies in memory; pred: the place of a predicate, -1 if it is not there.
-/
import Derived.Test.YtldkpahaocjdpaaGreatE10
set_option maxHeartbeats 16000000
set_option maxRecDepth 1000000
namespace Go.Proofs.YtldkpahaocjdpaaGreat
section
open Go.RowKit
structure RR where
 R:zS
 hv:Value
 bs:List (zL × Value)
 bv:Value
def RR.cells (r:RR):V8:=[.string r.R.head.pred,r.hv,.bool r.R.head.no,.int .i64 r.R.head.at_,.int .i64 r.R.head.az,r.bv]
def zab (rs:List RR):V8:=rs.flatMap RR.cells
structure mu (w:W8)(o:Nat)(rs:List RR)(ps qs:P9)(rv pv tv sv:Value):Prop where
 lt:o<w.heap.size
 c0:w.cell? ⟨o,0,none⟩=some rv
 c1:w.cell? ⟨o,1,none⟩=some pv
 c2:w.cell? ⟨o,2,none⟩=some tv
 c3:w.cell? ⟨o,3,none⟩=some sv
 fz:∀ j,w.frozen? ⟨o,j,none⟩=false
 rules:w.ownsRow (o+1) 246 6 rv rs.length (zab rs)
 each:∀ r∈rs,nA w (o+1) r.R r.hv r.bs r.bv
 fD:w.ownsRow (o+1) 9 1 pv ps.length (ps.map λ x=>.string x.1)
 ae:w.ownsRow (o+1) 3 1 tv qs.length (qs.map λ x=>.int .i64 x.2)
abbrev zok (w:W8)(o:Nat)(rs:List RR)(ps:P9)(rv pv tv sv:Value):Prop:=mu w o rs ps ps rv pv tv sv
variable {bv:Value} {bs:List (zL × Value)} {R:zS} {base:Nat} {w:W8}
theorem nA.kept {B:List Nat}{w':W8}{hv:Value}(h:nA w base R hv bs bv)(k:zK B w w')(hB:∀ x∈B,x<base):nA w' base R hv bs bv:=
 ⟨yI h.hd k hB,yI h.bo k hB,λ x hx=>yI (h.bl x hx) k hB,h.eq⟩
theorem mu.kept {B:List Nat}{w w':W8}{o:Nat}{rs:List RR}{ps qs:P9}{rv pv tv sv:Value}(h:mu w o rs ps qs rv pv tv sv)(k:zK B w w')(hB:∀ x∈B,x<o):mu w' o rs ps qs rv pv tv sv:=
 have hn:o∉B:=λ hm=>by have:=hB o hm;omega
 have NU:∀ x∈B,x<o+1:=λ x hx=>by have:=hB x hx;omega
 ⟨Nat.lt_of_lt_of_le h.lt k.size,(k.cell h.lt hn).trans h.c0,(k.cell h.lt hn).trans h.c1,(k.cell h.lt hn).trans h.c2,(k.cell h.lt hn).trans h.c3,λ j=>(k.frozen h.lt hn).trans (h.fz j),yI h.rules k NU,λ r hr=>(h.each r hr).kept k NU,yI h.fD k NU,yI h.ae k NU⟩
variable {xs:V8} {size n o j:Nat} {e:TypeId} {u v v':Value} {W w5:W8}
theorem zeq {e':TypeId}{uI n':Nat}{MK:V8}(hW:∀ k,k<w.heap.size->W.heap[k]?=w.heap[k]?)(hS:w.heap.size<=W.heap.size)(hv:w.ownsRow (o+1) e size v n xs)(hg:W.grownBy w5 v.ownBlock)(h:w.ownsRow (o+1) e' uI v' n' MK)(bF:e'≠e):(w5.setCell ⟨o,j,none⟩ u).ownsRow (o+1) e' uI v' n' MK:=by
 have hd:=z0o h hv bF;refine⟨h.1,?_⟩;rcases h.2 with hn | ⟨g,cap,cur,rfl,hb,bS,rest⟩
 ·exact .inl hn
 ·have hl:=(Array.getElem?_eq_some_iff.1 bS).1;refine .inr ⟨g,cap,cur,rfl,hb,?_,rest⟩;rw[Below.heap_setCell _ _ _ _ (by simp;omega),hg.block g (by omega) (by rcases hd with hd | hd;cases hd;exact hd),hW g hl];exact bS
theorem zkg (hW:∀ k,k<w.heap.size->W.heap[k]?=w.heap[k]?)(hS:w.heap.size<=W.heap.size)(hv:w.ownsRow (o+1) e size v n xs)(hg:W.grownBy w5 v.ownBlock)(h1:317≠e)(h2:243≠e){oo:Value}(h:nA w (o+1) R oo bs bv):nA (w5.setCell ⟨o,j,none⟩ u) (o+1) R oo bs bv:=
 ⟨zeq hW hS hv hg h.hd h1,zeq hW hS hv hg h.bo h2,λ x hx=>zeq hW hS hv hg (h.bl x hx) h1,h.eq⟩
theorem zgg (hW:∀ k,k<w.heap.size->W.heap[k]?=w.heap[k]?)(hS:w.heap.size<=W.heap.size)(hv:w.ownsRow (o+1) e size v n xs)(hg:W.grownBy w5 v.ownBlock)(aH:o<w.heap.size):w5.heap[o]?=w.heap[o]?:=by
 rw[hg.block o (by omega) (λ hm=>by have:=(hv.lt o hm.symm).1;omega),hW o aH]
theorem zib (hW:∀ k,k<w.heap.size->W.heap[k]?=w.heap[k]?)(hS:w.heap.size<=W.heap.size)(ho:W.os=w.os)(ht:W.tape=w.tape)(Pc:W.output=w.output)(hv:w.ownsRow (o+1) e size v n xs)(hg:W.grownBy w5 v.ownBlock)(aH:o<w.heap.size):Below o w (w5.setCell ⟨o,j,none⟩ u):=
 ⟨hg.os.trans ho,hg.tape.trans ht,hg.output.trans Pc,by have:=hg.size;simp;omega,λ k hk=>by
  rw[Below.heap_setCell _ _ _ _ (by simp;omega),hg.block k (by omega) (λ hm=>by have:=(hv.lt k hm.symm).1;omega),hW k (by omega)]⟩
variable {x:B8 × Nat} {rv pv tv sv:Value} {ps qs:P9} {rs:List RR}
theorem mu.yn (h:mu w o rs ps qs rv pv tv sv)(hW:∀ k,k<w.heap.size->W.heap[k]?=w.heap[k]?)(hS:w.heap.size<=W.heap.size)(hg:W.grownBy w5 pv.ownBlock)(ay:w5.ownsRow (o+1) 9 1 v' (ps.length+1) ((ps.map λ x=>.string x.1)++[.string x.1])):
  mu (w5.setCell ⟨o,1,none⟩ v') o rs (ps++[x]) qs rv v' tv sv:=by
 have hb:=zgg hW hS h.fD hg h.lt;have cc:∀ j,w5.cell? ⟨o,j,none⟩=w.cell? ⟨o,j,none⟩:=λ j=>World.cell?_of_block hb
 have ff:∀ j,w5.frozen? ⟨o,j,none⟩=w.frozen? ⟨o,j,none⟩:=λ j=>World.frozen?_of_block hb
 have x0:=(cc 0).trans h.c0;have x1:=(cc 1).trans h.c1;have x2:=(cc 2).trans h.c2;have x3:=(cc 3).trans h.c3;have xf:=λ j=>(ff j).trans (h.fz j)
 clear cc ff hb;have aH:=h.lt;have hs:=hg.size;refine⟨by simp;omega,by go_simp,by go_simp,by go_simp,by go_simp,by go_simp,zeq hW hS h.fD hg h.rules (by decide),λ r hr=>zkg hW hS h.fD hg (by decide) (by decide) (h.each r hr),?_,zeq hW hS h.fD hg h.ae (by decide)⟩;have:=ownsRow_setCell_below ay (a:=⟨o,1,none⟩) (by simp) v';simpa using this
theorem mu.zn (h:mu w o rs ps qs rv pv tv sv)(hW:∀ k,k<w.heap.size->W.heap[k]?=w.heap[k]?)(hS:w.heap.size<=W.heap.size)(hg:W.grownBy w5 tv.ownBlock)(ay:w5.ownsRow (o+1) 3 1 v' (qs.length+1) ((qs.map λ x=>.int .i64 x.2)++[.int .i64 x.2])):
  mu (w5.setCell ⟨o,2,none⟩ v') o rs ps (qs++[x]) rv pv v' sv:=by
 have hb:=zgg hW hS h.ae hg h.lt;have cc:∀ j,w5.cell? ⟨o,j,none⟩=w.cell? ⟨o,j,none⟩:=λ j=>World.cell?_of_block hb
 have ff:∀ j,w5.frozen? ⟨o,j,none⟩=w.frozen? ⟨o,j,none⟩:=λ j=>World.frozen?_of_block hb
 have x0:=(cc 0).trans h.c0;have x1:=(cc 1).trans h.c1;have x2:=(cc 2).trans h.c2;have x3:=(cc 3).trans h.c3;have xf:=λ j=>(ff j).trans (h.fz j)
 clear cc ff hb;have aH:=h.lt;have hs:=hg.size;refine⟨by simp;omega,by go_simp,by go_simp,by go_simp,by go_simp,by go_simp,zeq hW hS h.ae hg h.rules (by decide),λ r hr=>zkg hW hS h.ae hg (by decide) (by decide) (h.each r hr),zeq hW hS h.ae hg h.fD (by decide),?_⟩;have:=ownsRow_setCell_below ay (a:=⟨o,2,none⟩) (by simp) v';simpa using this
def xR (nm:B8):P9->Nat->Int
 | [],_=>-1
 | x::r,k=>if x.1.toList==nm.toList then k else xR nm r (k+1)
def zM (l:P9)(nm:B8):Int:=xR nm l 0
variable {nm:B8}
theorem ybe {l:P9}{k:Nat}(h:k<l.length):xR nm (l.drop k) k=if l[k].1.toList==nm.toList then (k:Int) else xR nm (l.drop (k+1)) (k+1):=by
 rw[List.drop_eq_getElem_cons h];rfl
theorem zca (h:w.ownsRow base e 1 v n xs)(hn:0<n):∃ g cap,v=.slice (some ⟨g,0,none⟩) n cap/\base<=g/\n<=cap/\cap<=maxLen/\∀ k,k<n->w.cell? ⟨g,k,none⟩=xs[k]?:=by
 rcases h.2 with⟨_,h0⟩ | ⟨g,cap,cur,rfl,hb,hg,bO,bP,iq,ht⟩
 ·omega
 ·refine⟨g,cap,rfl,hb,bO,bP,λ k hk=>?_⟩;exact h.cellAt k (by omega)
theorem zcc (w:W8)(o:Nat)(rs:List RR)(ps:P9)(rv pv tv sv:Value)(nm:B8)(h:zok w o rs ps rv pv tv sv):
  Calls Tryz.prog 135 #[.pointer (some ⟨o,0,none⟩),.string nm] w λ e w'=>e=.returned (.int .i64 (zM ps nm))/\w'=w:=by
 obtain⟨aH,c0,c1,c2,c3,fz,hr,he,hp,ht⟩:=h;obtain⟨a1,ep,rfl⟩:=zD hp;have gL:ps.length<=maxLen:=by
  rcases hp.2 with⟨_,h0⟩ | ⟨g,cap,cur,_,_,_,h1,h2,_⟩ <;> omega
 unfold maxLen at gL;go_enter Tryz.func135,Tryz.ntmps135
 go_wp2
 go_loop [5] (λ i=>∃ k:Nat,k<=ps.length/\i=.int .i64 k/\xR nm (ps.drop k) k=zM ps nm) (λ i=>ps.length-(intOf i).toNat)
 exact⟨0,Nat.zero_le _,rfl,rfl⟩
 case round=>
  obtain⟨k,hk,rfl,nj⟩:=hrel;have HX:=zC nj;clear nj
  by_cases aF:k<ps.length
  ·obtain⟨g,cap,hv,hb,bO,bP,hc⟩:=zca hp (by omega);injection hv with h1 h2 h3
   subst h1 h3;have Ce:=hc k aF;rw[List.getElem?_map,List.getElem?_eq_getElem aF] at Ce;simp only[Option.map_some] at Ce;have aO:=ybe (nm:=nm) aF;have HS:=zC aO;clear hc aO hr he ht
   cases hq:ps[k].1.toList==nm.toList with
   | true=>
    go_wp2
    go_ret;exact⟨by rw[<-zA HX,zA HS,if_pos hq];rfl,rfl⟩
   | false=>
    go_wp2
    go_round
    case rel=>exact⟨k+1,by omega,by go_num,by rw[<-zA HX,zA HS,if_neg (by rw[hq];decide)]⟩
    case measure=>simp[intOf];omega
  ·go_wp2
   go_ret;exact⟨by rw[<-zA HX,List.drop_of_length_le (by omega)];rfl,rfl⟩
theorem zf5:(Tryz.prog.info? 9).map (λ i=>(i.zero,i.size,i.bytes))=some (some (.string { data:=#[] }),1,16):=by kernel_rfl
theorem zts:(Tryz.prog.info? 3).map (λ i=>(i.zero,i.size,i.bytes))=some (some (.int .i64 0),1,8):=by kernel_rfl
def qW (ps:P9)(nm:B8)(n:Nat):P9:=if zM ps nm<0 then ps++[(nm,n)] else ps
def iD (ps:P9)(nm:B8)(n:Nat):Bool:=if zM ps nm<0 then true else ((ps.getD (zM ps nm).toNat (nm,0)).2:Int)==n
theorem z4a (nm:B8):∀ (l:P9) (k:Nat),0<=xR nm l k->(k:Int)<=xR nm l k/\xR nm l k<k+l.length
 | [],k,h=>by simp[xR] at h
 | x::r,k,h=>by
  unfold xR at h ⊢
  split
  ·simp;omega
  ·rename_i bF;rw[if_neg bF] at h;have:=z4a nm r (k+1) h;simp;omega
theorem vM (h:0<=zM ps nm):(zM ps nm).toNat<ps.length:=by
 have:=z4a nm ps 0 h;unfold zM at *;omega
theorem z6u (w:W8)(o:Nat)(rs:List RR)(ps:P9)(rv pv tv sv:Value)(nm:B8)(a:O8)(n c:Nat)(no:Bool)(at_ az:Nat)(h:zok w o rs ps rv pv tv sv)(nj:0<=zM ps nm):
  Calls Tryz.prog 188 #[.pointer (some ⟨o,0,none⟩),.agg #[.string nm,.slice a n c,.bool no,.int .i64 at_,.int .i64 az]] w λ e w'=>e=.returned (.bool (iD ps nm n))/\Below w.heap.size w w':=by
 have h':=h;obtain⟨aH,c0,c1,c2,c3,fz,hr,he,hp,ht⟩:=h;have mO:=vM nj;obtain⟨g,cap,rfl,hb,bO,bP,hc⟩:=zca ht (by omega);have Ce:=hc _ mO;rw[List.getElem?_map,List.getElem?_eq_getElem mO] at Ce;simp only[Option.map_some] at Ce;have hm:iD ps nm n=((ps[(zM ps nm).toNat].2:Int)==n):=by
  unfold iD;rw[if_neg (by omega)];simp[List.getD,List.getElem?_eq_getElem mO]
 have aZ:=World.block_lt_of_cell? w _ Ce;simp only at aZ;have HM:=zC hm;have VM:zM ps nm<ps.length:=by omega
 clear hm hc hr he hp ht;unfold maxLen at bP;go_enter Tryz.func188,Tryz.ntmps188;go_wp2_with fail;refine (zcc _ o rs ps _ _ _ _ nm (h'.kept ((zK.refl [] _).alloc _) (by simp))).mono ?_;rintro e w1 ⟨rfl,rfl⟩;go_wp2_with fail;go_quiet (fail)
 go_wp2
 go_ret;exact⟨by rw[zA HM];rfl,below_drewN (B9.alloc L9 _) _⟩
end
section
open Go.RowKit
theorem zh2 (W:W8)(B:Nat)(u:Value)(t:TypeId)(hb:W.heap[B]?=some (.cells #[u] t (0,0))):∀ j x,([u]:V8)[j]?=some x->W.cell? ((⟨B,0,none⟩:Addr).add j)=some x:=
 World.news_of_block (cs:=#[u]) hb
theorem z8s (w:W8)(o:Nat)(rs:List RR)(ps:P9)(rv pv tv sv:Value)(nm:B8)(a:O8)(n c:Nat)(no:Bool)(at_ az:Nat)(h:zok w o rs ps rv pv tv sv)(bt:ps.length<=1000)(nj:zM ps nm<0):
  Calls Tryz.prog 188 #[.pointer (some ⟨o,0,none⟩),.agg #[.string nm,.slice a n c,.bool no,.int .i64 at_,.int .i64 az]] w λ e w'=>e=.returned (.bool true)/\∃ pB bY,zok w' o rs (ps++[(nm,n)]) rv pB bY sv/\Below o w w':=by
 have h':=h;obtain⟨i0,hi,bL,aY,bf⟩:=info_parts zf5;obtain⟨i3,YG,Fc,Ij,RD⟩:=info_parts zts;obtain⟨aH,c0,c1,c2,c3,fz,hr,he,hp,ht⟩:=h;obtain⟨a1,ep,rfl⟩:=zD hp;obtain⟨a2,lY,rfl⟩:=zD ht;go_enter Tryz.func188,Tryz.ntmps188;go_wp2_with fail;refine (zcc _ o rs ps _ _ _ _ nm (h'.kept ((zK.refl [] _).alloc _) (by simp))).mono ?_;rintro e w1 ⟨rfl,rfl⟩;have s1:Hid ((((w.alloc (Obj.cells #[.string nm,.slice a n c,.bool no,.int IntKind.i64 ↑at_,.int IntKind.i64 ↑az] 243)).alloc (Obj.cells #[.string nm] 9)).drew).ownsRow (o+1) 9 1 (.slice a1 ps.length ep) ps.length (ps.map λ x=>.string x.1)):=(hp.alloc _).alloc _
 have s2:Hid (∀ j u,([.string nm]:V8)[j]?=some u->(((w.alloc (Obj.cells #[.string nm,.slice a n c,.bool no,.int IntKind.i64 ↑at_,.int IntKind.i64 ↑az] 243)).alloc (Obj.cells #[.string nm] 9)).drew).cell? ((⟨w.heap.size+1,0,none⟩:Addr).add j)=some u):=zh2 _ _ _ 9 (by
  show (((w.alloc _).alloc _).heap)[w.heap.size+1]?=_
  have:=heap_alloc_new (w.alloc (Obj.cells #[.string nm,.slice a n c,.bool no,.int IntKind.i64 ↑at_,.int IntKind.i64 ↑az] 243)) (Obj.cells #[.string nm] 9)
  simpa using this)
 have s3:Hid (∀ u∈([.string nm]:V8),u.oneCell'=true):=by intro u hu;simp at hu;subst hu;rfl
 have s4:Hid (ps.length+1<=maxLen):=by show _<=_;unfold maxLen;omega
 have s5:Hid ((ps.length+1)*16<=140737488355328):=by show _<=_;omega
 have s6:Hid (o+1<=(((w.alloc (Obj.cells #[.string nm,.slice a n c,.bool no,.int IntKind.i64 ↑at_,.int IntKind.i64 ↑az] 243)).alloc (Obj.cells #[.string nm] 9)).drew).heap.size):=by show _<=_;simp;omega
 have s7:Hid (∀ w5:W8,(((w.alloc (Obj.cells #[.string nm,.slice a n c,.bool no,.int IntKind.i64 ↑at_,.int IntKind.i64 ↑az] 243)).alloc (Obj.cells #[.string nm] 9)).drew).grownBy w5 (Value.slice a1 ps.length ep).ownBlock->w5.cell? ⟨o,1,none⟩=some (.slice a1 ps.length ep)/\w5.frozen? ⟨o,1,none⟩=false):=λ w5 hg=>by
  have kk:=((((zK.refl _ w).alloc _).alloc _).drew).grown hg (λ k e=>.inr (show k∈(Value.slice a1 ps.length ep).ownBlock.toList by simp[e]));have hn:o∉(Value.slice a1 ps.length ep).ownBlock.toList:=λ hm=>by
   have:=(hp.lt o (by simpa using hm)).1;omega
  exact⟨(kk.cell aH hn).trans c1,(kk.frozen aH hn).trans (fz 1)⟩
 have s8:Hid (∀ (w5:W8) (g cap:Nat),(((w.alloc (Obj.cells #[.string nm,.slice a n c,.bool no,.int IntKind.i64 ↑at_,.int IntKind.i64 ↑az] 243)).alloc (Obj.cells #[.string nm] 9)).drew).grownBy w5 (Value.slice a1 ps.length ep).ownBlock->w5.ownsRow (o+1) 9 1 (.slice (some ⟨g,0,none⟩) (ps.length+1) cap) (ps.length+1) ((ps.map λ x=>.string x.1)++[.string nm])->∃ pB,mu (w5.setCell ⟨o,1,none⟩ (.slice (some ⟨g,0,none⟩) (ps.length+1) cap)) o rs (ps++[(nm,n)]) ps rv pB (.slice a2 ps.length lY) sv/\Below o w (w5.setCell ⟨o,1,none⟩ (.slice (some ⟨g,0,none⟩) (ps.length+1) cap))/\(w5.setCell ⟨o,1,none⟩ (.slice (some ⟨g,0,none⟩) (ps.length+1) cap)).cell? ⟨w.heap.size,1,none⟩=some (.slice a n c)/\w.heap.size<(w5.setCell ⟨o,1,none⟩ (.slice (some ⟨g,0,none⟩) (ps.length+1) cap)).heap.size):=λ w5 g cap hg ay=>by
  have hW:∀ k,k<w.heap.size->(((w.alloc (Obj.cells #[.string nm,.slice a n c,.bool no,.int IntKind.i64 ↑at_,.int IntKind.i64 ↑az] 243)).alloc (Obj.cells #[.string nm] 9)).drew).heap[k]?=w.heap[k]?:=λ k hk=>(((zK.refl [] w).alloc _).alloc _).block k hk (by simp)
  have hS:w.heap.size<=(((w.alloc (Obj.cells #[.string nm,.slice a n c,.bool no,.int IntKind.i64 ↑at_,.int IntKind.i64 ↑az] 243)).alloc (Obj.cells #[.string nm] 9)).drew).heap.size:=(((zK.refl [] w).alloc _).alloc _).size;have G7:=hg.size;refine⟨_,h'.yn (x:=(nm,n)) hW hS hg ay,zib hW hS rfl rfl rfl hp hg aH,?_,?_⟩
  ·rw[World.cell?_of_block (w:=w5) (Below.heap_setCell w5 ⟨o,1,none⟩ _ w.heap.size (by simp;omega))];rw[hg.cell_far ⟨w.heap.size,1,none⟩ (by simp;omega) (λ e=>by have:=(hp.lt w.heap.size e.symm).2;omega)]
   show ((w.alloc _).alloc _).cell? _=_
   rw[World.cell?_alloc_past _ _ _ (by simp),World.cell?_alloc_at _ _ _ _ rfl];rfl
  ·simp at G7 ⊢;omega
 clear hp ht hr he;go_upto_region 3 with fail
 go_cut [] (λ wc=>∃ pB,mu wc o rs (ps++[(nm,n)]) ps rv pB (.slice a2 ps.length lY) sv/\Below o w wc/\wc.cell? ⟨w.heap.size,1,none⟩=some (.slice a n c)/\w.heap.size<wc.heap.size)
 case first=>
  go_region_law (refine step_append_lies _ rfl (.tmp 16) (.tmp 19) 33 rfl (o+1) 9 i0 (.string { data:=#[] }) 1 16 Tryz.underlying33 hi bL aY bf rfl (by decide) (.slice a1 ps.length ep) ps.length (ps.map λ x=>.string x.1) (by simp[Act.eval]) (zA s1) ⟨w.heap.size+1,0,none⟩ 1 1 [.string nm] (by simp[Act.eval]) rfl (zA s2) (zA s3) (by decide) (zA s4) (zA s5) (zA s6) _ rfl ?_;intro g cap w5 aq aU bW hlt5;obtain⟨y1,y2⟩:=zA s7 w5 aU)
  all_goals
   go_wp2_with fail;go_meet
   case rel=>exact zA s8 w5 g cap aU aq
 case rest=>
  obtain⟨pB,hm,dK,dn,bj⟩:=hcut;clear s1 s2 s3 s4 s5 s6 s7 s8 c0 c1 c2 c3 fz h';have nu:=hm;obtain⟨gj,d0,d1,d2,d3,lh,ie,ID,eM,mr⟩:=hm;have s1:Hid ((((wc.alloc (Obj.cells #[.int .i64 n] 3)).drew).ownsRow (o+1) 3 1 (.slice a2 ps.length lY) ps.length (ps.map λ x=>.int .i64 x.2))):=mr.alloc _;have s2:Hid (∀ j u,([.int .i64 n]:V8)[j]?=some u->((wc.alloc (Obj.cells #[.int .i64 n] 3)).drew).cell? ((⟨wc.heap.size,0,none⟩:Addr).add j)=some u):=zh2 _ _ _ 3 (heap_alloc_new wc _);have s3:Hid (∀ u∈([.int .i64 n]:V8),u.oneCell'=true):=by intro u hu;simp at hu;subst hu;rfl
  have s4:Hid (ps.length+1<=maxLen):=by show _<=_;unfold maxLen;omega
  have s5:Hid ((ps.length+1)*8<=140737488355328):=by show _<=_;omega
  have s6:Hid (o+1<=((wc.alloc (Obj.cells #[.int .i64 n] 3)).drew).heap.size):=by show _<=_;simp;omega
  have hW:∀ k,k<wc.heap.size->((wc.alloc (Obj.cells #[.int .i64 n] 3)).drew).heap[k]?=wc.heap[k]?:=λ k hk=>((zK.refl [] wc).alloc _).block k hk (by simp)
  have hS:wc.heap.size<=((wc.alloc (Obj.cells #[.int .i64 n] 3)).drew).heap.size:=((zK.refl [] wc).alloc _).size;have s7:Hid (∀ w5:W8,((wc.alloc (Obj.cells #[.int .i64 n] 3)).drew).grownBy w5 (Value.slice a2 ps.length lY).ownBlock->w5.cell? ⟨o,2,none⟩=some (.slice a2 ps.length lY)/\w5.frozen? ⟨o,2,none⟩=false):=λ w5 hg=>
   have hb:=zgg hW hS mr hg gj
   ⟨(World.cell?_of_block hb).trans d2,(World.frozen?_of_block hb).trans (lh 2)⟩
  have s8:Hid (∀ (w5:W8) (g cap:Nat),((wc.alloc (Obj.cells #[.int .i64 n] 3)).drew).grownBy w5 (Value.slice a2 ps.length lY).ownBlock->w5.ownsRow (o+1) 3 1 (.slice (some ⟨g,0,none⟩) (ps.length+1) cap) (ps.length+1) ((ps.map λ x=>.int .i64 x.2)++[.int .i64 n])->∃ pB bY,zok (w5.setCell ⟨o,2,none⟩ (.slice (some ⟨g,0,none⟩) (ps.length+1) cap)) o rs (ps++[(nm,n)]) rv pB bY sv/\Below o w (w5.setCell ⟨o,2,none⟩ (.slice (some ⟨g,0,none⟩) (ps.length+1) cap))):=λ w5 g cap hg ay=>
   ⟨_,_,nu.zn (x:=(nm,n)) hW hS hg ay,dK.trans (zib hW hS rfl rfl rfl mr hg gj)⟩
  clear hW hS eM mr ie ID nu;go_wp2_with fail
  go_region_law (refine step_append_lies _ rfl (.tmp 27) (.tmp 31) 24 rfl (o+1) 3 i3 (.int .i64 0) 1 8 Tryz.underlying24 YG Fc Ij RD rfl (by decide) (.slice a2 ps.length lY) ps.length (ps.map λ x=>.int .i64 x.2) (by simp[Act.eval]) (zA s1) ⟨wc.heap.size,0,none⟩ 1 1 [.int .i64 n] (by simp[Act.eval]) rfl (zA s2) (zA s3) (by decide) (zA s4) (zA s5) (zA s6) _ rfl ?_;intro g cap w5 aq aU bW hlt5;obtain⟨y1,y2⟩:=zA s7 w5 aU)
  all_goals
   go_wp2_with fail;go_ret;exact⟨rfl,zA s8 w5 g cap aU aq⟩
end
section
open Go.RowKit
theorem zwi (w:W8)(o:Nat)(rs:List RR)(ps:P9)(rv pv tv sv:Value)(nm:B8)(a:O8)(n c:Nat)(no:Bool)(at_ az:Nat)(h:zok w o rs ps rv pv tv sv)(bt:ps.length<=1000):
  Calls Tryz.prog 188 #[.pointer (some ⟨o,0,none⟩),.agg #[.string nm,.slice a n c,.bool no,.int .i64 at_,.int .i64 az]] w λ e w'=>e=.returned (.bool (iD ps nm n))/\∃ pB bY,zok w' o rs (qW ps nm n) rv pB bY sv/\Below o w w':=by
 by_cases nj:zM ps nm<0
 ·refine (z8s w o rs ps rv pv tv sv nm a n c no at_ az h bt nj).mono ?_;rintro e w' ⟨rfl,pB,bY,hm,hb⟩;exact⟨by simp[iD,nj],pB,bY,by simpa[qW,nj] using hm,hb⟩
 ·refine (z6u w o rs ps rv pv tv sv nm a n c no at_ az h (by omega)).mono ?_;rintro e w' ⟨rfl,hb⟩;refine⟨rfl,pv,tv,?_,hb.mono (by have:=h.lt;omega)⟩;rw[qW,if_neg nj];exact h.kept ((zK.refl [] w).ak hb) (by simp)
def yO:List zL->P9->Int × P9
 | [],ps=>(-1,ps)
 | A::r,ps=>if iD ps A.pred A.ae.length then yO r (qW ps A.pred A.ae.length) else (A.at_,qW ps A.pred A.ae.length)
variable {ps:P9} {r:List zL} {A:zL} {X:Int × P9}
theorem zk5 (h:X=yO (A::r) ps)(hb:iD ps A.pred A.ae.length=true):X=yO r (qW ps A.pred A.ae.length):=by rw[h,yO,if_pos hb]
theorem zoj (h:X=yO (A::r) ps)(hb:iD ps A.pred A.ae.length=false):X=(↑A.at_,qW ps A.pred A.ae.length):=by rw[h,yO,if_neg (by rw[hb];decide)]
def zS.atoms (R:zS):List zL:=R.head::R.body
def yJ (rs:List RR):List zL:=rs.flatMap λ r=>r.R.atoms
variable {rs:List RR}
theorem zyx {k:Nat}(h:k<rs.length):yJ (rs.drop k)=rs[k].R.head::(rs[k].R.body++yJ (rs.drop (k+1))):=by
 rw[List.drop_eq_getElem_cons h,yJ,List.flatMap_cons];rfl
variable {base:Nat} {w:W8}
theorem jC {rv:Value}(h:w.ownsRow base 246 6 rv rs.length (zab rs))(k:Nat)(hk:k<rs.length):∃ g cap,rv=.slice (some ⟨g,0,none⟩) rs.length cap/\base<=g/\g<w.heap.size/\rs.length<=cap/\cap<=maxLen /\
  w.cell? ⟨g,k*6,none⟩=some (.string rs[k].R.head.pred)/\w.cell? ⟨g,k*6+1,none⟩=some rs[k].hv/\w.cell? ⟨g,k*6+2,none⟩=some (.bool rs[k].R.head.no)/\w.cell? ⟨g,k*6+3,none⟩=some (.int .i64 rs[k].R.head.at_)/\w.cell? ⟨g,k*6+4,none⟩=some (.int .i64 rs[k].R.head.az)/\w.cell? ⟨g,k*6+5,none⟩=some rs[k].bv:=by
 have hx:∀ (l:List RR) (k j:Nat) (hk:k<l.length),j<6->(zab l)[k*6+j]?=(l[k].cells)[j]?:=by
  intro l
  induction l with
  | nil=>intro k j hk;simp at hk
  | cons x r ih=>
   intro k j hk hj;have e:zab (x::r)=x.cells++zab r:=(by simp[zab]);have hl:x.cells.length=6:=rfl
   cases k with
   | zero=>rw[e,List.getElem?_append_left (by omega)];simp
   | succ k=>
    rw[e,List.getElem?_append_right (by omega)];have e2:(k+1)*6+j-x.cells.length=k*6+j:=(by omega);rw[e2,ih k j (by simpa using hk) hj];simp
 rcases h.2 with⟨_,h0⟩ | ⟨g,cap,cur,rfl,hb,hg,bO,bP,iq,ht⟩
 ·omega
 ·have hl:=(Array.getElem?_eq_some_iff.1 hg).1;have hc:∀ j,j<6->w.cell? ⟨g,k*6+j,none⟩=(rs[k].cells)[j]?:=λ j hj=>by
   rw[h.cellAt (k*6+j) (by omega),hx rs k j hk hj]
  exact⟨g,cap,rfl,hb,hl,bO,bP,hc 0 (by omega),hc 1 (by omega),hc 2 (by omega),hc 3 (by omega),hc 4 (by omega),hc 5 (by omega)⟩
variable {bs:List (zL × Value)}
theorem jY {bv:Value}(h:w.ownsRow base 243 5 bv bs.length (za2 bs))(k:Nat)(hk:k<bs.length):∃ g cap,bv=.slice (some ⟨g,0,none⟩) bs.length cap/\base<=g/\g<w.heap.size/\bs.length<=cap/\cap<=maxLen /\
  w.cell? ⟨g,k*5,none⟩=some (.string bs[k].1.pred)/\w.cell? ⟨g,k*5+1,none⟩=some bs[k].2/\w.cell? ⟨g,k*5+2,none⟩=some (.bool bs[k].1.no)/\w.cell? ⟨g,k*5+3,none⟩=some (.int .i64 bs[k].1.at_)/\w.cell? ⟨g,k*5+4,none⟩=some (.int .i64 bs[k].1.az):=by
 have hx:∀ (l:List (zL × Value)) (k j:Nat) (hk:k<l.length),j<5->(za2 l)[k*5+j]?=(l[k].1.cells l[k].2)[j]?:=by
  intro l
  induction l with
  | nil=>intro k j hk;simp at hk
  | cons x r ih=>
   intro k j hk hj;have e:za2 (x::r)=x.1.cells x.2++za2 r:=(by simp[za2]);have hl:(x.1.cells x.2).length=5:=rfl
   cases k with
   | zero=>rw[e,List.getElem?_append_left (by omega)];simp
   | succ k=>
    rw[e,List.getElem?_append_right (by omega)];have e2:(k+1)*5+j-(x.1.cells x.2).length=k*5+j:=(by omega);rw[e2,ih k j (by simpa using hk) hj];simp
 rcases h.2 with⟨_,h0⟩ | ⟨g,cap,cur,rfl,hb,hg,bO,bP,iq,ht⟩
 ·omega
 ·have hl:=(Array.getElem?_eq_some_iff.1 hg).1;have hc:∀ j,j<5->w.cell? ⟨g,k*5+j,none⟩=(bs[k].1.cells bs[k].2)[j]?:=λ j hj=>by
   rw[h.cellAt (k*5+j) (by omega),hx bs k j hk hj]
  exact⟨g,cap,rfl,hb,hl,bO,bP,hc 0 (by omega),hc 1 (by omega),hc 2 (by omega),hc 3 (by omega),hc 4 (by omega)⟩
theorem zp5 (ps:P9)(nm:B8)(n:Nat):(qW ps nm n).length<=ps.length+1:=by
 unfold qW;split <;> simp
theorem zfs {j:Nat}(h:j<bs.length):(bs.map (·.1)).drop j=bs[j].1::(bs.map (·.1)).drop (j+1):=by
 rw[List.drop_eq_getElem_cons (by simpa using h)];simp
theorem yU {e:TypeId}{size:Nat}{v:Value}{n:Nat}{xs:V8}(h:w.ownsRow base e size v n xs):n<=maxLen:=by
 rcases h.2 with⟨_,h0⟩ | ⟨g,cap,cur,_,_,_,h1,h2,_⟩ <;> omega
theorem z5b (w:W8)(o:Nat)(rs:List RR)(rv pv tv sv:Value)(h:zok w o rs [] rv pv tv sv)(hl:(yJ rs).length<=1000):
  Calls Tryz.prog 126 #[.pointer (some ⟨o,0,none⟩)] w λ e w'=>e=.returned (.int .i64 (yO (yJ rs) []).1)/\∃ pB bY,zok w' o rs (yO (yJ rs) []).2 rv pB bY sv/\Below o w w':=by
 obtain⟨ar,dA,rfl⟩:=zD h.rules;have gL:rs.length<=maxLen:=by
  rcases h.rules.2 with⟨_,h0⟩ | ⟨g,cap,cur,_,_,_,h1,h2,_⟩ <;> omega
 unfold maxLen at gL;go_enter Tryz.func126,Tryz.ntmps126
 go_wp2
 go_loopg [3] rs.length (λ gg i wr=>∃ (k:Nat) (ps:P9) (pB bY:Value),k<=rs.length/\gg=rs.length-k/\i=.int .i64 k/\zok wr o rs ps (.slice ar rs.length dA) pB bY sv/\Below o w wr/\ps.length+(yJ (rs.drop k)).length<=1000/\yO (yJ rs) []=yO (yJ (rs.drop k)) ps)
 exact⟨0,[],pv,tv,Nat.zero_le _,rfl,rfl,h,Below.refl _ _,by simpa using hl,rfl⟩
 case round=>
  obtain⟨k,ps,pB,bY,hk,hg,rfl,hm,hb,hlen,aE⟩:=hrel;have HF:=zC aE;clear aE;have nu:=hm;obtain⟨aH,c0,c1,c2,c3,fz,hr,he,hp,ht⟩:=hm
  by_cases aF:k<rs.length
  ·obtain⟨g,cap,hv,iG,aZ,bO,bP,q0,q1,q2,q3,q4,q5⟩:=jC hr k aF;injection hv with h1 h2 h3
   subst h1 h3;obtain⟨ah,lE,yv⟩:=zD (he rs[k] (List.getElem_mem aF)).hd;rw[yv] at q1;have dv:=zyx aF;rw[dv,List.length_cons] at hlen;have aC:=zC ((zA HF).trans (congrArg (λ l=>yO l ps) dv));have oL:=List.getElem_mem aF;obtain⟨ab,iA,gU⟩:=zD (he rs[k] oL).bo;have lG:=(he rs[k] oL).eq;have mZ:=yU (he rs[k] oL).bo;unfold maxLen at mZ;clear hr he hp ht h2 h hl HF;go_wp2_with fail;refine (zwi wr o rs ps _ _ _ _ _ _ _ _ _ _ _ nu (by omega)).mono ?_;rintro e w1 ⟨rfl,Vd,SP,dJ,aL⟩;have G9:=dJ;obtain⟨sT,d0,d1,d2,d3,lh,iN,VF,bI,pM⟩:=dJ;obtain⟨g1,ep,im,Xr,XB,XM,Xu,r0,r1,r2,r3,r4,r5⟩:=jC iN k aF;injection im with h11 h12 h13
   injection h11 with h11
   injection h11 with h11
   subst h11 h13;rw[gU] at r5;clear iN VF bI pM h12 c0 c1 c2 c3 fz q0 q1 q2 q3 q4 q5 nu yv
   cases xw:iD ps rs[k].R.head.pred rs[k].R.head.ae.length with
   | false=>
    have aP:=zC (zoj (zA aC) xw);clear aC xw;go_wp2_with fail;go_ret;exact⟨by rw[zA aP];rfl,Vd,SP,by rw[zA aP];exact G9,hb.trans aL⟩
   | true=>
    have aP:=zC (zk5 (zA aC) xw);have SH:=zp5 ps rs[k].R.head.pred rs[k].R.head.ae.length;rw[List.length_append] at hlen;clear aC xw;go_wp2_with fail
    go_loopg [4,5] rs[k].bs.length (λ gg ok i wx=>∃ (j:Nat) (Cl:P9) (Mz Iw:Value),j<=rs[k].bs.length/\gg=rs[k].bs.length-j/\i=.int .i64 j/\zok wx o rs Cl (.slice (some ⟨g,0,none⟩) rs.length dA) Mz Iw sv/\Below o w wx/\Cl.length+((rs[k].bs.map (·.1)).drop j++yJ (rs.drop (k+1))).length<=1000/\yO (yJ rs) []=yO ((rs[k].bs.map (·.1)).drop j++yJ (rs.drop (k+1))) Cl)
    exact⟨0,_,Vd,SP,Nat.zero_le _,rfl,rfl,G9,hb.trans aL,by rw[List.drop_zero,<-lG,List.length_append];omega,by rw[List.drop_zero,<-lG];exact zA aP⟩
    case round=>
     clear aP G9 d0 d1 d2 d3 lh r0 r1 r2 r3 r4 r5 aL SH hlen;obtain⟨j,Cl,Mz,Iw,hj,bS,rfl,dC,aK,oe,DV⟩:=hrel;have HF:=zC DV;clear DV;have Hk:=dC;obtain⟨gj,c0,c1,c2,c3,fz,ie,ID,eM,mr⟩:=dC;obtain⟨g2,lY,Dk,V7,Xm,LL,Mg,q0,q1,q2,q3,q4,q5⟩:=jC ie k aF;injection Dk with h11 h12 h13
     injection h11 with h11
     injection h11 with h11
     subst h11 h13;rw[gU] at q5
     by_cases fu:j<rs[k].bs.length
     ·obtain⟨gb,uv,nG,Dx,qk,CE,CR,p0,p1,p2,p3,p4⟩:=jY (ID rs[k] oL).bo j fu;rw[gU] at nG;injection nG with hb11 hb12 mg
      subst hb11 mg;obtain⟨br,mV,fp⟩:=zD ((ID rs[k] oL).bl _ (List.getElem_mem fu));rw[fp] at p1;have di:=zfs fu;rw[di,List.cons_append,List.length_cons] at oe;have aC:=zC ((zA HF).trans (congrArg (λ l=>yO (l++yJ (rs.drop (k+1))) Cl) di));clear ie ID eM mr h12 hb12 HF;go_wp2_with fail;refine (zwi wr o rs Cl _ _ _ _ _ _ _ _ _ _ _ Hk (by omega)).mono ?_;rintro e w3 ⟨rfl,To,Nf,fm,cI⟩;have Af:=fm;obtain⟨Ly,d0,d1,d2,d3,lh,lj,Vb,ug,vo⟩:=fm;obtain⟨g3,Dm,Wn,XV,Wc,Wm,Ww,r0,r1,r2,r3,r4,r5⟩:=jC lj k aF;injection Wn with h31 h32 h33
      injection h31 with h31
      injection h31 with h31
      subst h31 h33;rw[gU] at r5;obtain⟨gc,Wz,U9,Xq,YE,VS,Zf,s0,s1,s2,s3,s4⟩:=jY (Vb rs[k] oL).bo j fu;rw[gU] at U9;injection U9 with hc11 hc12 hc13
      injection hc11 with hc11
      injection hc11 with hc11
      subst hc11 hc13;clear lj Vb ug vo h32 hc12 c0 c1 c2 c3 fz q0 q1 q2 q3 q4 q5 p0 p1 p2 p3 p4 Hk fp
      cases xw:iD Cl rs[k].bs[j].1.pred rs[k].bs[j].1.ae.length with
      | false=>
       have aP:=zC (zoj (zA aC) xw);clear aC xw;go_wp2_with fail;go_ret;exact⟨by rw[zA aP];rfl,To,Nf,by rw[zA aP];exact Af,aK.trans cI⟩
      | true=>
       have aP:=zC (zk5 (zA aC) xw);have SH:=zp5 Cl rs[k].bs[j].1.pred rs[k].bs[j].1.ae.length;clear aC xw;go_wp2_with fail;go_roundg (rs[k].bs.length-(j+1));exact⟨j+1,_,To,Nf,by omega,rfl,by go_num,Af,aK.trans cI,by omega,zA aP⟩;omega
     ·have qi:(rs[k].bs.map (·.1)).drop j=[]:=List.drop_of_length_le (by simp;omega);rw[qi,List.nil_append] at oe;have aC:=zC ((zA HF).trans (congrArg (λ l=>yO (l++yJ (rs.drop (k+1))) Cl) qi));clear ie ID eM mr h12 HF;go_wp2_with fail;go_roundg (rs.length-(k+1));exact⟨k+1,Cl,Mz,Iw,by omega,rfl,by go_num,Hk,aK,oe,zA aC⟩;omega
  ·have qi:yJ (rs.drop k)=[]:=(by rw[List.drop_of_length_le (by omega)];rfl);have hf:yO (yJ rs) []=(-1,ps):=(by rw[zA HF,qi];rfl);have aC:=zC hf;clear hf HF hr he hp ht;go_wp2_with fail;go_ret;exact⟨by rw[zA aC];rfl,pB,bY,by rw[zA aC];exact nu,hb⟩
end
end Go.Proofs.YtldkpahaocjdpaaGreat
