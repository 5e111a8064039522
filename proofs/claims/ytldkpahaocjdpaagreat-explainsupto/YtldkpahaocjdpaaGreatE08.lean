/-
  Plain: how the reference's program (its rules, its predicates with their numbers of terms) lies in memory; pred: the place of a predicate, -1 if it is not there.
-/
import Derived.Test.YtldkpahaocjdpaaGreatE07
import Derived.Deep.AppendLies
import Derived.Deep.RegionLaw
import Derived.Deep.DeepCutAuto
set_option maxHeartbeats 16000000
set_option maxRecDepth 1000000
namespace Go.Proofs.YtldkpahaocjdpaaGreat
section
open Go.RowKit
structure RR where
 R:zS
 hv:Value
 bs:List (zL × Value)
 bv:Value
def RR.cells (r:RR):V8:=[.string r.R.head.pred,r.hv,.bool r.R.head.no,.int .i64 r.R.head.at_,.int .i64 r.R.head.az,r.bv]
def zab (rs:List RR):V8:=rs.flatMap RR.cells
structure mB (w:W8)(o:Nat)(rs:List RR)(ps qs:P9)(rv pv tv sv:Value):Prop where
 lt:o<w.heap.size
 c0:w.cell? ⟨o,0,none⟩=some rv
 c1:w.cell? ⟨o,1,none⟩=some pv
 c2:w.cell? ⟨o,2,none⟩=some tv
 c3:w.cell? ⟨o,3,none⟩=some sv
 fz:∀ j,w.frozen? ⟨o,j,none⟩=false
 rules:w.ownsRow (o+1) 246 6 rv rs.length (zab rs)
 each:∀ r∈rs,nA w (o+1) r.R r.hv r.bs r.bv
 fH:w.ownsRow (o+1) 9 1 pv ps.length (ps.map λ x=>.string x.1)
 ae:w.ownsRow (o+1) 3 1 tv qs.length (qs.map λ x=>.int .i64 x.2)
abbrev znv (w:W8)(o:Nat)(rs:List RR)(ps:P9)(rv pv tv sv:Value):Prop:=mB w o rs ps ps rv pv tv sv
variable {base:Nat} {w:W8}
theorem nA.kept {B:List Nat}{w':W8}{R:zS}{hv:Value}{bs:List (zL × Value)}{bv:Value}(h:nA w base R hv bs bv)(k:zK B w w')(hB:∀ x∈B,x<base):nA w' base R hv bs bv:=
 ⟨yI h.hd k hB,yI h.bo k hB,λ x hx=>yI (h.bl x hx) k hB,h.eq⟩
theorem mB.kept {B:List Nat}{w w':W8}{o:Nat}{rs:List RR}{ps qs:P9}{rv pv tv sv:Value}(h:mB w o rs ps qs rv pv tv sv)(k:zK B w w')(hB:∀ x∈B,x<o):mB w' o rs ps qs rv pv tv sv:=
 have hn:o∉B:=λ hm=>by have:=hB o hm;omega
 have MS:∀ x∈B,x<o+1:=λ x hx=>by have:=hB x hx;omega
 ⟨Nat.lt_of_lt_of_le h.lt k.size,(k.cell h.lt hn).trans h.c0,(k.cell h.lt hn).trans h.c1,(k.cell h.lt hn).trans h.c2,(k.cell h.lt hn).trans h.c3,λ j=>(k.frozen h.lt hn).trans (h.fz j),yI h.rules k MS,λ r hr=>(h.each r hr).kept k MS,yI h.fH k MS,yI h.ae k MS⟩
variable {xs:V8} {size n o j:Nat} {e:TypeId} {u v v':Value} {W w5:W8}
theorem zek {e':TypeId}{uD n':Nat}{NK:V8}(hW:∀ k,k<w.heap.size->W.heap[k]?=w.heap[k]?)(hS:w.heap.size<=W.heap.size)(hv:w.ownsRow (o+1) e size v n xs)(hg:W.grownBy w5 v.ownBlock)(h:w.ownsRow (o+1) e' uD v' n' NK)(bF:e'≠e):(w5.setCell ⟨o,j,none⟩ u).ownsRow (o+1) e' uD v' n' NK:=by
 have hd:=z30 h hv bF;refine⟨h.1,?_⟩;rcases h.2 with hn | ⟨g,cap,cur,rfl,hb,bS,rest⟩
 ·exact .inl hn
 ·have hl:=(Array.getElem?_eq_some_iff.1 bS).1;refine .inr ⟨g,cap,cur,rfl,hb,?_,rest⟩;rw[Below.heap_setCell _ _ _ _ (by simp;omega),hg.block g (by omega) (by rcases hd with hd | hd;cases hd;exact hd),hW g hl];exact bS
theorem zkf (hW:∀ k,k<w.heap.size->W.heap[k]?=w.heap[k]?)(hS:w.heap.size<=W.heap.size)(hv:w.ownsRow (o+1) e size v n xs)(hg:W.grownBy w5 v.ownBlock)(h1:317≠e)(h2:243≠e){R:zS}{oc:Value}{bs:List (zL × Value)}{bv:Value}(h:nA w (o+1) R oc bs bv):nA (w5.setCell ⟨o,j,none⟩ u) (o+1) R oc bs bv:=
 ⟨zek hW hS hv hg h.hd h1,zek hW hS hv hg h.bo h2,λ x hx=>zek hW hS hv hg (h.bl x hx) h1,h.eq⟩
theorem zf7 (hW:∀ k,k<w.heap.size->W.heap[k]?=w.heap[k]?)(hS:w.heap.size<=W.heap.size)(hv:w.ownsRow (o+1) e size v n xs)(hg:W.grownBy w5 v.ownBlock)(aH:o<w.heap.size):w5.heap[o]?=w.heap[o]?:=by
 rw[hg.block o (by omega) (λ hm=>by have:=(hv.lt o hm.symm).1;omega),hW o aH]
theorem zhz (hW:∀ k,k<w.heap.size->W.heap[k]?=w.heap[k]?)(hS:w.heap.size<=W.heap.size)(ho:W.os=w.os)(ht:W.tape=w.tape)(QH:W.output=w.output)(hv:w.ownsRow (o+1) e size v n xs)(hg:W.grownBy w5 v.ownBlock)(aH:o<w.heap.size):Below o w (w5.setCell ⟨o,j,none⟩ u):=
 ⟨hg.os.trans ho,hg.tape.trans ht,hg.output.trans QH,by have:=hg.size;simp;omega,λ k hk=>by
  rw[Below.heap_setCell _ _ _ _ (by simp;omega),hg.block k (by omega) (λ hm=>by have:=(hv.lt k hm.symm).1;omega),hW k (by omega)]⟩
variable {rv pv tv sv:Value} {ps qs:P9} {rs:List RR}
theorem mB.Bg (h:mB w o rs ps qs rv pv tv sv)(hW:∀ k,k<w.heap.size->W.heap[k]?=w.heap[k]?)(hS:w.heap.size<=W.heap.size)(hg:W.grownBy w5 pv.ownBlock){x:B8 × Nat}(ay:w5.ownsRow (o+1) 9 1 v' (ps.length+1) ((ps.map λ x=>.string x.1)++[.string x.1])):
  mB (w5.setCell ⟨o,1,none⟩ v') o rs (ps++[x]) qs rv v' tv sv:=by
 have hb:=zf7 hW hS h.fH hg h.lt;have cc:∀ j,w5.cell? ⟨o,j,none⟩=w.cell? ⟨o,j,none⟩:=λ j=>World.cell?_of_block hb
 have ff:∀ j,w5.frozen? ⟨o,j,none⟩=w.frozen? ⟨o,j,none⟩:=λ j=>World.frozen?_of_block hb
 have x0:=(cc 0).trans h.c0;have x1:=(cc 1).trans h.c1;have x2:=(cc 2).trans h.c2;have x3:=(cc 3).trans h.c3;have xf:=λ j=>(ff j).trans (h.fz j)
 clear cc ff hb;have aH:=h.lt;have hs:=hg.size;refine⟨by simp;omega,by go_simp,by go_simp,by go_simp,by go_simp,by go_simp,zek hW hS h.fH hg h.rules (by decide),λ r hr=>zkf hW hS h.fH hg (by decide) (by decide) (h.each r hr),?_,zek hW hS h.fH hg h.ae (by decide)⟩;have:=ownsRow_setCell_below ay (a:=⟨o,1,none⟩) (by simp) v';simpa using this
theorem mB.Bh (h:mB w o rs ps qs rv pv tv sv)(hW:∀ k,k<w.heap.size->W.heap[k]?=w.heap[k]?)(hS:w.heap.size<=W.heap.size)(hg:W.grownBy w5 tv.ownBlock){x:B8 × Nat}(ay:w5.ownsRow (o+1) 3 1 v' (qs.length+1) ((qs.map λ x=>.int .i64 x.2)++[.int .i64 x.2])):
  mB (w5.setCell ⟨o,2,none⟩ v') o rs ps (qs++[x]) rv pv v' sv:=by
 have hb:=zf7 hW hS h.ae hg h.lt;have cc:∀ j,w5.cell? ⟨o,j,none⟩=w.cell? ⟨o,j,none⟩:=λ j=>World.cell?_of_block hb
 have ff:∀ j,w5.frozen? ⟨o,j,none⟩=w.frozen? ⟨o,j,none⟩:=λ j=>World.frozen?_of_block hb
 have x0:=(cc 0).trans h.c0;have x1:=(cc 1).trans h.c1;have x2:=(cc 2).trans h.c2;have x3:=(cc 3).trans h.c3;have xf:=λ j=>(ff j).trans (h.fz j)
 clear cc ff hb;have aH:=h.lt;have hs:=hg.size;refine⟨by simp;omega,by go_simp,by go_simp,by go_simp,by go_simp,by go_simp,zek hW hS h.ae hg h.rules (by decide),λ r hr=>zkf hW hS h.ae hg (by decide) (by decide) (h.each r hr),zek hW hS h.ae hg h.fH (by decide),?_⟩;have:=ownsRow_setCell_below ay (a:=⟨o,2,none⟩) (by simp) v';simpa using this
def xR (nm:B8):P9->Nat->Int
 | [],_=>-1
 | x::r,k=>if x.1.toList==nm.toList then k else xR nm r (k+1)
def zM (l:P9)(nm:B8):Int:=xR nm l 0
variable {nm:B8}
theorem ybc {l:P9}{k:Nat}(h:k<l.length):xR nm (l.drop k) k=if l[k].1.toList==nm.toList then (k:Int) else xR nm (l.drop (k+1)) (k+1):=by
 rw[List.drop_eq_getElem_cons h];rfl
theorem zce (h:w.ownsRow base e 1 v n xs)(hn:0<n):∃ g cap,v=.slice (some ⟨g,0,none⟩) n cap/\base<=g/\n<=cap/\cap<=maxLen/\∀ k,k<n->w.cell? ⟨g,k,none⟩=xs[k]?:=by
 rcases h.2 with⟨_,h0⟩ | ⟨g,cap,cur,rfl,hb,hg,bO,bQ,ij,ht⟩
 ·omega
 ·refine⟨g,cap,rfl,hb,bO,bQ,λ k hk=>?_⟩;exact h.cellAt k (by omega)
theorem zcd (w:W8)(o:Nat)(rs:List RR)(ps:P9)(rv pv tv sv:Value)(nm:B8)(h:znv w o rs ps rv pv tv sv):
  Calls Tryz.prog 135 #[.pointer (some ⟨o,0,none⟩),.string nm] w λ e w'=>e=.returned (.int .i64 (zM ps nm))/\w'=w:=by
 obtain⟨aH,c0,c1,c2,c3,fz,hr,he,hp,ht⟩:=h;obtain⟨a1,ei,rfl⟩:=zD hp;have gR:ps.length<=maxLen:=by
  rcases hp.2 with⟨_,h0⟩ | ⟨g,cap,cur,_,_,_,h1,h2,_⟩ <;> omega
 unfold maxLen at gR;go_enter Tryz.func135,Tryz.ntmps135
 go_wp2
 go_loop [5] (λ i=>∃ k:Nat,k<=ps.length/\i=.int .i64 k/\xR nm (ps.drop k) k=zM ps nm) (λ i=>ps.length-(intOf i).toNat)
 exact⟨0,Nat.zero_le _,rfl,rfl⟩
 case round=>
  obtain⟨k,hk,rfl,np⟩:=hrel;have HX:=zC np;clear np
  by_cases aF:k<ps.length
  ·obtain⟨g,cap,hv,hb,bO,bQ,hc⟩:=zce hp (by omega);injection hv with h1 h2 h3
   subst h1 h3;have Ca:=hc k aF;rw[List.getElem?_map,List.getElem?_eq_getElem aF] at Ca;simp only[Option.map_some] at Ca;have aP:=ybc (nm:=nm) aF;have HS:=zC aP;clear hc aP hr he ht
   cases hq:ps[k].1.toList==nm.toList with
   | true=>
    go_wp2
    go_ret;exact⟨by rw[<-zA HX,zA HS,if_pos hq];rfl,rfl⟩
   | false=>
    go_wp2
    go_round
    case rel=>exact⟨k+1,by omega,by go_num,by rw[<-zA HX,zA HS,if_neg (by rw[hq];decide)]⟩
    case measure=>simp[intOf];omega
  ·go_wp2
   go_ret;exact⟨by rw[<-zA HX,List.drop_of_length_le (by omega)];rfl,rfl⟩
theorem zf9:(Tryz.prog.info? 9).map (λ i=>(i.zero,i.size,i.bytes))=some (some (.string { data:=#[] }),1,16):=by kernel_rfl
theorem zua:(Tryz.prog.info? 3).map (λ i=>(i.zero,i.size,i.bytes))=some (some (.int .i64 0),1,8):=by kernel_rfl
def qW (ps:P9)(nm:B8)(n:Nat):P9:=if zM ps nm<0 then ps++[(nm,n)] else ps
def iJ (ps:P9)(nm:B8)(n:Nat):Bool:=if zM ps nm<0 then true else ((ps.getD (zM ps nm).toNat (nm,0)).2:Int)==n
theorem z2u (nm:B8):∀ (l:P9) (k:Nat),0<=xR nm l k->(k:Int)<=xR nm l k/\xR nm l k<k+l.length
 | [],k,h=>by simp[xR] at h
 | x::r,k,h=>by
  unfold xR at h ⊢
  split
  ·simp;omega
  ·rename_i bF;rw[if_neg bF] at h;have:=z2u nm r (k+1) h;simp;omega
theorem vP (h:0<=zM ps nm):(zM ps nm).toNat<ps.length:=by
 have:=z2u nm ps 0 h;unfold zM at *;omega
theorem z7l (w:W8)(o:Nat)(rs:List RR)(ps:P9)(rv pv tv sv:Value)(nm:B8)(a:O8)(n c:Nat)(no:Bool)(at_ az:Nat)(h:znv w o rs ps rv pv tv sv)(np:0<=zM ps nm):
  Calls Tryz.prog 188 #[.pointer (some ⟨o,0,none⟩),.agg #[.string nm,.slice a n c,.bool no,.int .i64 at_,.int .i64 az]] w λ e w'=>e=.returned (.bool (iJ ps nm n))/\Below w.heap.size w w':=by
 have h':=h;obtain⟨aH,c0,c1,c2,c3,fz,hr,he,hp,ht⟩:=h;have mQ:=vP np;obtain⟨g,cap,rfl,hb,bO,bQ,hc⟩:=zce ht (by omega);have Ca:=hc _ mQ;rw[List.getElem?_map,List.getElem?_eq_getElem mQ] at Ca;simp only[Option.map_some] at Ca;have hm:iJ ps nm n=((ps[(zM ps nm).toNat].2:Int)==n):=by
  unfold iJ;rw[if_neg (by omega)];simp[List.getD,List.getElem?_eq_getElem mQ]
 have aZ:=World.block_lt_of_cell? w _ Ca;simp only at aZ;have HM:=zC hm;have Ye:zM ps nm<ps.length:=by omega
 clear hm hc hr he hp ht;unfold maxLen at bQ;go_enter Tryz.func188,Tryz.ntmps188;go_wp2_with fail;refine (zcd _ o rs ps _ _ _ _ nm (h'.kept ((zK.refl [] _).alloc _) (by simp))).mono ?_;rintro e w1 ⟨rfl,rfl⟩;go_wp2_with fail;go_quiet (fail)
 go_wp2
 go_ret;exact⟨by rw[zA HM];rfl,below_drewN (B9.alloc L9 _) _⟩
end
section
open Go.RowKit
theorem zie (W:W8)(B:Nat)(u:Value)(t:TypeId)(hb:W.heap[B]?=some (.cells #[u] t (0,0))):∀ j x,([u]:V8)[j]?=some x->W.cell? ((⟨B,0,none⟩:Addr).add j)=some x:=
 World.news_of_block (cs:=#[u]) hb
theorem z7k (w:W8)(o:Nat)(rs:List RR)(ps:P9)(rv pv tv sv:Value)(nm:B8)(a:O8)(n c:Nat)(no:Bool)(at_ az:Nat)(h:znv w o rs ps rv pv tv sv)(bt:ps.length<=1000)(np:zM ps nm<0):
  Calls Tryz.prog 188 #[.pointer (some ⟨o,0,none⟩),.agg #[.string nm,.slice a n c,.bool no,.int .i64 at_,.int .i64 az]] w λ e w'=>e=.returned (.bool true)/\∃ pI bY,znv w' o rs (ps++[(nm,n)]) rv pI bY sv/\Below o w w':=by
 have h':=h;obtain⟨i0,hi,bL,aY,bg⟩:=info_parts zf9;obtain⟨i3,Yc,GH,IA,Rc⟩:=info_parts zua;obtain⟨aH,c0,c1,c2,c3,fz,hr,he,hp,ht⟩:=h;obtain⟨a1,ei,rfl⟩:=zD hp;obtain⟨a2,lX,rfl⟩:=zD ht;go_enter Tryz.func188,Tryz.ntmps188;go_wp2_with fail;refine (zcd _ o rs ps _ _ _ _ nm (h'.kept ((zK.refl [] _).alloc _) (by simp))).mono ?_;rintro e w1 ⟨rfl,rfl⟩;have s1:Hid ((((w.alloc (Obj.cells #[.string nm,.slice a n c,.bool no,.int IntKind.i64 ↑at_,.int IntKind.i64 ↑az] 243)).alloc (Obj.cells #[.string nm] 9)).drew).ownsRow (o+1) 9 1 (.slice a1 ps.length ei) ps.length (ps.map λ x=>.string x.1)):=(hp.alloc _).alloc _
 have s2:Hid (∀ j u,([.string nm]:V8)[j]?=some u->(((w.alloc (Obj.cells #[.string nm,.slice a n c,.bool no,.int IntKind.i64 ↑at_,.int IntKind.i64 ↑az] 243)).alloc (Obj.cells #[.string nm] 9)).drew).cell? ((⟨w.heap.size+1,0,none⟩:Addr).add j)=some u):=zie _ _ _ 9 (by
  show (((w.alloc _).alloc _).heap)[w.heap.size+1]?=_
  have:=heap_alloc_new (w.alloc (Obj.cells #[.string nm,.slice a n c,.bool no,.int IntKind.i64 ↑at_,.int IntKind.i64 ↑az] 243)) (Obj.cells #[.string nm] 9)
  simpa using this)
 have s3:Hid (∀ u∈([.string nm]:V8),u.oneCell'=true):=by intro u hu;simp at hu;subst hu;rfl
 have s4:Hid (ps.length+1<=maxLen):=by show _<=_;unfold maxLen;omega
 have s5:Hid ((ps.length+1)*16<=140737488355328):=by show _<=_;omega
 have s6:Hid (o+1<=(((w.alloc (Obj.cells #[.string nm,.slice a n c,.bool no,.int IntKind.i64 ↑at_,.int IntKind.i64 ↑az] 243)).alloc (Obj.cells #[.string nm] 9)).drew).heap.size):=by show _<=_;simp;omega
 have s7:Hid (∀ w5:W8,(((w.alloc (Obj.cells #[.string nm,.slice a n c,.bool no,.int IntKind.i64 ↑at_,.int IntKind.i64 ↑az] 243)).alloc (Obj.cells #[.string nm] 9)).drew).grownBy w5 (Value.slice a1 ps.length ei).ownBlock->w5.cell? ⟨o,1,none⟩=some (.slice a1 ps.length ei)/\w5.frozen? ⟨o,1,none⟩=false):=λ w5 hg=>by
  have kk:=((((zK.refl _ w).alloc _).alloc _).drew).grown hg (λ k e=>.inr (show k∈(Value.slice a1 ps.length ei).ownBlock.toList by simp[e]));have hn:o∉(Value.slice a1 ps.length ei).ownBlock.toList:=λ hm=>by
   have:=(hp.lt o (by simpa using hm)).1;omega
  exact⟨(kk.cell aH hn).trans c1,(kk.frozen aH hn).trans (fz 1)⟩
 have s8:Hid (∀ (w5:W8) (g cap:Nat),(((w.alloc (Obj.cells #[.string nm,.slice a n c,.bool no,.int IntKind.i64 ↑at_,.int IntKind.i64 ↑az] 243)).alloc (Obj.cells #[.string nm] 9)).drew).grownBy w5 (Value.slice a1 ps.length ei).ownBlock->w5.ownsRow (o+1) 9 1 (.slice (some ⟨g,0,none⟩) (ps.length+1) cap) (ps.length+1) ((ps.map λ x=>.string x.1)++[.string nm])->∃ pI,mB (w5.setCell ⟨o,1,none⟩ (.slice (some ⟨g,0,none⟩) (ps.length+1) cap)) o rs (ps++[(nm,n)]) ps rv pI (.slice a2 ps.length lX) sv/\Below o w (w5.setCell ⟨o,1,none⟩ (.slice (some ⟨g,0,none⟩) (ps.length+1) cap))/\(w5.setCell ⟨o,1,none⟩ (.slice (some ⟨g,0,none⟩) (ps.length+1) cap)).cell? ⟨w.heap.size,1,none⟩=some (.slice a n c)/\w.heap.size<(w5.setCell ⟨o,1,none⟩ (.slice (some ⟨g,0,none⟩) (ps.length+1) cap)).heap.size):=λ w5 g cap hg ay=>by
  have hW:∀ k,k<w.heap.size->(((w.alloc (Obj.cells #[.string nm,.slice a n c,.bool no,.int IntKind.i64 ↑at_,.int IntKind.i64 ↑az] 243)).alloc (Obj.cells #[.string nm] 9)).drew).heap[k]?=w.heap[k]?:=λ k hk=>(((zK.refl [] w).alloc _).alloc _).block k hk (by simp)
  have hS:w.heap.size<=(((w.alloc (Obj.cells #[.string nm,.slice a n c,.bool no,.int IntKind.i64 ↑at_,.int IntKind.i64 ↑az] 243)).alloc (Obj.cells #[.string nm] 9)).drew).heap.size:=(((zK.refl [] w).alloc _).alloc _).size;have Gu:=hg.size;refine⟨_,h'.Bg (x:=(nm,n)) hW hS hg ay,zhz hW hS rfl rfl rfl hp hg aH,?_,?_⟩
  ·rw[World.cell?_of_block (w:=w5) (Below.heap_setCell w5 ⟨o,1,none⟩ _ w.heap.size (by simp;omega))];rw[hg.cell_far ⟨w.heap.size,1,none⟩ (by simp;omega) (λ e=>by have:=(hp.lt w.heap.size e.symm).2;omega)]
   show ((w.alloc _).alloc _).cell? _=_
   rw[World.cell?_alloc_past _ _ _ (by simp),World.cell?_alloc_at _ _ _ _ rfl];rfl
  ·simp at Gu ⊢;omega
 clear hp ht hr he;go_upto_region 3 with fail
 go_cut [] (λ wc=>∃ pI,mB wc o rs (ps++[(nm,n)]) ps rv pI (.slice a2 ps.length lX) sv/\Below o w wc/\wc.cell? ⟨w.heap.size,1,none⟩=some (.slice a n c)/\w.heap.size<wc.heap.size)
 case first=>
  go_region_law (refine step_append_lies _ rfl (.tmp 16) (.tmp 19) 33 rfl (o+1) 9 i0 (.string { data:=#[] }) 1 16 Tryz.underlying33 hi bL aY bg rfl (by decide) (.slice a1 ps.length ei) ps.length (ps.map λ x=>.string x.1) (by simp[Act.eval]) (zA s1) ⟨w.heap.size+1,0,none⟩ 1 1 [.string nm] (by simp[Act.eval]) rfl (zA s2) (zA s3) (by decide) (zA s4) (zA s5) (zA s6) _ rfl ?_;intro g cap w5 aq aU bW hlt5;obtain⟨y1,y2⟩:=zA s7 w5 aU)
  all_goals
   go_wp2_with fail;go_meet
   case rel=>exact zA s8 w5 g cap aU aq
 case rest=>
  obtain⟨pI,hm,dK,dq,bj⟩:=hcut;clear s1 s2 s3 s4 s5 s6 s7 s8 c0 c1 c2 c3 fz h';have nw:=hm;obtain⟨gn,d0,d1,d2,d3,lg,ik,Ik,eZ,mA⟩:=hm;have s1:Hid ((((wc.alloc (Obj.cells #[.int .i64 n] 3)).drew).ownsRow (o+1) 3 1 (.slice a2 ps.length lX) ps.length (ps.map λ x=>.int .i64 x.2))):=mA.alloc _;have s2:Hid (∀ j u,([.int .i64 n]:V8)[j]?=some u->((wc.alloc (Obj.cells #[.int .i64 n] 3)).drew).cell? ((⟨wc.heap.size,0,none⟩:Addr).add j)=some u):=zie _ _ _ 3 (heap_alloc_new wc _);have s3:Hid (∀ u∈([.int .i64 n]:V8),u.oneCell'=true):=by intro u hu;simp at hu;subst hu;rfl
  have s4:Hid (ps.length+1<=maxLen):=by show _<=_;unfold maxLen;omega
  have s5:Hid ((ps.length+1)*8<=140737488355328):=by show _<=_;omega
  have s6:Hid (o+1<=((wc.alloc (Obj.cells #[.int .i64 n] 3)).drew).heap.size):=by show _<=_;simp;omega
  have hW:∀ k,k<wc.heap.size->((wc.alloc (Obj.cells #[.int .i64 n] 3)).drew).heap[k]?=wc.heap[k]?:=λ k hk=>((zK.refl [] wc).alloc _).block k hk (by simp)
  have hS:wc.heap.size<=((wc.alloc (Obj.cells #[.int .i64 n] 3)).drew).heap.size:=((zK.refl [] wc).alloc _).size;have s7:Hid (∀ w5:W8,((wc.alloc (Obj.cells #[.int .i64 n] 3)).drew).grownBy w5 (Value.slice a2 ps.length lX).ownBlock->w5.cell? ⟨o,2,none⟩=some (.slice a2 ps.length lX)/\w5.frozen? ⟨o,2,none⟩=false):=λ w5 hg=>
   have hb:=zf7 hW hS mA hg gn
   ⟨(World.cell?_of_block hb).trans d2,(World.frozen?_of_block hb).trans (lg 2)⟩
  have s8:Hid (∀ (w5:W8) (g cap:Nat),((wc.alloc (Obj.cells #[.int .i64 n] 3)).drew).grownBy w5 (Value.slice a2 ps.length lX).ownBlock->w5.ownsRow (o+1) 3 1 (.slice (some ⟨g,0,none⟩) (ps.length+1) cap) (ps.length+1) ((ps.map λ x=>.int .i64 x.2)++[.int .i64 n])->∃ pI bY,znv (w5.setCell ⟨o,2,none⟩ (.slice (some ⟨g,0,none⟩) (ps.length+1) cap)) o rs (ps++[(nm,n)]) rv pI bY sv/\Below o w (w5.setCell ⟨o,2,none⟩ (.slice (some ⟨g,0,none⟩) (ps.length+1) cap))):=λ w5 g cap hg ay=>
   ⟨_,_,nw.Bh (x:=(nm,n)) hW hS hg ay,dK.trans (zhz hW hS rfl rfl rfl mA hg gn)⟩
  clear hW hS eZ mA ik Ik nw;go_wp2_with fail
  go_region_law (refine step_append_lies _ rfl (.tmp 27) (.tmp 31) 24 rfl (o+1) 3 i3 (.int .i64 0) 1 8 Tryz.underlying24 Yc GH IA Rc rfl (by decide) (.slice a2 ps.length lX) ps.length (ps.map λ x=>.int .i64 x.2) (by simp[Act.eval]) (zA s1) ⟨wc.heap.size,0,none⟩ 1 1 [.int .i64 n] (by simp[Act.eval]) rfl (zA s2) (zA s3) (by decide) (zA s4) (zA s5) (zA s6) _ rfl ?_;intro g cap w5 aq aU bW hlt5;obtain⟨y1,y2⟩:=zA s7 w5 aU)
  all_goals
   go_wp2_with fail;go_ret;exact⟨rfl,zA s8 w5 g cap aU aq⟩
end
section
open Go.RowKit
theorem zwk (w:W8)(o:Nat)(rs:List RR)(ps:P9)(rv pv tv sv:Value)(nm:B8)(a:O8)(n c:Nat)(no:Bool)(at_ az:Nat)(h:znv w o rs ps rv pv tv sv)(bt:ps.length<=1000):
  Calls Tryz.prog 188 #[.pointer (some ⟨o,0,none⟩),.agg #[.string nm,.slice a n c,.bool no,.int .i64 at_,.int .i64 az]] w λ e w'=>e=.returned (.bool (iJ ps nm n))/\∃ pI bY,znv w' o rs (qW ps nm n) rv pI bY sv/\Below o w w':=by
 by_cases np:zM ps nm<0
 ·refine (z7k w o rs ps rv pv tv sv nm a n c no at_ az h bt np).mono ?_;rintro e w' ⟨rfl,pI,bY,hm,hb⟩;exact⟨by simp[iJ,np],pI,bY,by simpa[qW,np] using hm,hb⟩
 ·refine (z7l w o rs ps rv pv tv sv nm a n c no at_ az h (by omega)).mono ?_;rintro e w' ⟨rfl,hb⟩;refine⟨rfl,pv,tv,?_,hb.mono (by have:=h.lt;omega)⟩;rw[qW,if_neg np];exact h.kept ((zK.refl [] w).ak hb) (by simp)
def yN:List zL->P9->Int × P9
 | [],ps=>(-1,ps)
 | A::r,ps=>if iJ ps A.pred A.ae.length then yN r (qW ps A.pred A.ae.length) else (A.at_,qW ps A.pred A.ae.length)
variable {ps:P9} {r:List zL} {X:Int × P9}
theorem zl5 {A:zL}(h:X=yN (A::r) ps)(hb:iJ ps A.pred A.ae.length=true):X=yN r (qW ps A.pred A.ae.length):=by rw[h,yN,if_pos hb]
theorem zoa {A:zL}(h:X=yN (A::r) ps)(hb:iJ ps A.pred A.ae.length=false):X=(↑A.at_,qW ps A.pred A.ae.length):=by rw[h,yN,if_neg (by rw[hb];decide)]
def zS.atoms (R:zS):List zL:=R.head::R.body
def yJ (rs:List RR):List zL:=rs.flatMap λ r=>r.R.atoms
variable {rs:List RR}
theorem zxt {k:Nat}(h:k<rs.length):yJ (rs.drop k)=rs[k].R.head::(rs[k].R.body++yJ (rs.drop (k+1))):=by
 rw[List.drop_eq_getElem_cons h,yJ,List.flatMap_cons];rfl
variable {base:Nat} {w:W8}
theorem jC {rv:Value}(h:w.ownsRow base 246 6 rv rs.length (zab rs))(k:Nat)(hk:k<rs.length):∃ g cap,rv=.slice (some ⟨g,0,none⟩) rs.length cap/\base<=g/\g<w.heap.size/\rs.length<=cap/\cap<=maxLen /\
  w.cell? ⟨g,k*6,none⟩=some (.string rs[k].R.head.pred)/\w.cell? ⟨g,k*6+1,none⟩=some rs[k].hv/\w.cell? ⟨g,k*6+2,none⟩=some (.bool rs[k].R.head.no)/\w.cell? ⟨g,k*6+3,none⟩=some (.int .i64 rs[k].R.head.at_)/\w.cell? ⟨g,k*6+4,none⟩=some (.int .i64 rs[k].R.head.az)/\w.cell? ⟨g,k*6+5,none⟩=some rs[k].bv:=by
 have hx:∀ (l:List RR) (k j:Nat) (hk:k<l.length),j<6->(zab l)[k*6+j]?=(l[k].cells)[j]?:=by
  intro l
  induction l with
  | nil=>intro k j hk;simp at hk
  | cons x r ih=>
   intro k j hk hj;have e:zab (x::r)=x.cells++zab r:=(by simp[zab]);have hl:x.cells.length=6:=rfl
   cases k with
   | zero=>rw[e,List.getElem?_append_left (by omega)];simp
   | succ k=>
    rw[e,List.getElem?_append_right (by omega)];have e2:(k+1)*6+j-x.cells.length=k*6+j:=(by omega);rw[e2,ih k j (by simpa using hk) hj];simp
 rcases h.2 with⟨_,h0⟩ | ⟨g,cap,cur,rfl,hb,hg,bO,bQ,ij,ht⟩
 ·omega
 ·have hl:=(Array.getElem?_eq_some_iff.1 hg).1;have hc:∀ j,j<6->w.cell? ⟨g,k*6+j,none⟩=(rs[k].cells)[j]?:=λ j hj=>by
   rw[h.cellAt (k*6+j) (by omega),hx rs k j hk hj]
  exact⟨g,cap,rfl,hb,hl,bO,bQ,hc 0 (by omega),hc 1 (by omega),hc 2 (by omega),hc 3 (by omega),hc 4 (by omega),hc 5 (by omega)⟩
variable {bs:List (zL × Value)}
theorem jU {bv:Value}(h:w.ownsRow base 243 5 bv bs.length (za4 bs))(k:Nat)(hk:k<bs.length):∃ g cap,bv=.slice (some ⟨g,0,none⟩) bs.length cap/\base<=g/\g<w.heap.size/\bs.length<=cap/\cap<=maxLen /\
  w.cell? ⟨g,k*5,none⟩=some (.string bs[k].1.pred)/\w.cell? ⟨g,k*5+1,none⟩=some bs[k].2/\w.cell? ⟨g,k*5+2,none⟩=some (.bool bs[k].1.no)/\w.cell? ⟨g,k*5+3,none⟩=some (.int .i64 bs[k].1.at_)/\w.cell? ⟨g,k*5+4,none⟩=some (.int .i64 bs[k].1.az):=by
 have hx:∀ (l:List (zL × Value)) (k j:Nat) (hk:k<l.length),j<5->(za4 l)[k*5+j]?=(l[k].1.cells l[k].2)[j]?:=by
  intro l
  induction l with
  | nil=>intro k j hk;simp at hk
  | cons x r ih=>
   intro k j hk hj;have e:za4 (x::r)=x.1.cells x.2++za4 r:=(by simp[za4]);have hl:(x.1.cells x.2).length=5:=rfl
   cases k with
   | zero=>rw[e,List.getElem?_append_left (by omega)];simp
   | succ k=>
    rw[e,List.getElem?_append_right (by omega)];have e2:(k+1)*5+j-(x.1.cells x.2).length=k*5+j:=(by omega);rw[e2,ih k j (by simpa using hk) hj];simp
 rcases h.2 with⟨_,h0⟩ | ⟨g,cap,cur,rfl,hb,hg,bO,bQ,ij,ht⟩
 ·omega
 ·have hl:=(Array.getElem?_eq_some_iff.1 hg).1;have hc:∀ j,j<5->w.cell? ⟨g,k*5+j,none⟩=(bs[k].1.cells bs[k].2)[j]?:=λ j hj=>by
   rw[h.cellAt (k*5+j) (by omega),hx bs k j hk hj]
  exact⟨g,cap,rfl,hb,hl,bO,bQ,hc 0 (by omega),hc 1 (by omega),hc 2 (by omega),hc 3 (by omega),hc 4 (by omega)⟩
theorem zpo (ps:P9)(nm:B8)(n:Nat):(qW ps nm n).length<=ps.length+1:=by
 unfold qW;split <;> simp
theorem zfa {j:Nat}(h:j<bs.length):(bs.map (·.1)).drop j=bs[j].1::(bs.map (·.1)).drop (j+1):=by
 rw[List.drop_eq_getElem_cons (by simpa using h)];simp
theorem yU {e:TypeId}{size:Nat}{v:Value}{n:Nat}{xs:V8}(h:w.ownsRow base e size v n xs):n<=maxLen:=by
 rcases h.2 with⟨_,h0⟩ | ⟨g,cap,cur,_,_,_,h1,h2,_⟩ <;> omega
theorem z06 (w:W8)(o:Nat)(rs:List RR)(rv pv tv sv:Value)(h:znv w o rs [] rv pv tv sv)(hl:(yJ rs).length<=1000):
  Calls Tryz.prog 126 #[.pointer (some ⟨o,0,none⟩)] w λ e w'=>e=.returned (.int .i64 (yN (yJ rs) []).1)/\∃ pI bY,znv w' o rs (yN (yJ rs) []).2 rv pI bY sv/\Below o w w':=by
 obtain⟨ar,dz,rfl⟩:=zD h.rules;have gR:rs.length<=maxLen:=by
  rcases h.rules.2 with⟨_,h0⟩ | ⟨g,cap,cur,_,_,_,h1,h2,_⟩ <;> omega
 unfold maxLen at gR;go_enter Tryz.func126,Tryz.ntmps126
 go_wp2
 go_loopg [3] rs.length (λ gg i wr=>∃ (k:Nat) (ps:P9) (pI bY:Value),k<=rs.length/\gg=rs.length-k/\i=.int .i64 k/\znv wr o rs ps (.slice ar rs.length dz) pI bY sv/\Below o w wr/\ps.length+(yJ (rs.drop k)).length<=1000/\yN (yJ rs) []=yN (yJ (rs.drop k)) ps)
 exact⟨0,[],pv,tv,Nat.zero_le _,rfl,rfl,h,Below.refl _ _,by simpa using hl,rfl⟩
 case round=>
  obtain⟨k,ps,pI,bY,hk,hg,rfl,hm,hb,hlen,aE⟩:=hrel;have HF:=zC aE;clear aE;have nw:=hm;obtain⟨aH,c0,c1,c2,c3,fz,hr,he,hp,ht⟩:=hm
  by_cases aF:k<rs.length
  ·obtain⟨g,cap,hv,iF,aZ,bO,bQ,q0,q1,q2,q3,q4,q5⟩:=jC hr k aF;injection hv with h1 h2 h3
   subst h1 h3;obtain⟨ah,ln,Ae⟩:=zD (he rs[k] (List.getElem_mem aF)).hd;rw[Ae] at q1;have du:=zxt aF;rw[du,List.length_cons] at hlen;have aC:=zC ((zA HF).trans (congrArg (λ l=>yN l ps) du));have oM:=List.getElem_mem aF;obtain⟨ab,iy,gT⟩:=zD (he rs[k] oM).bo;have lx:=(he rs[k] oM).eq;have mL:=yU (he rs[k] oM).bo;unfold maxLen at mL;clear hr he hp ht h2 h hl HF;go_wp2_with fail;refine (zwk wr o rs ps _ _ _ _ _ _ _ _ _ _ _ nw (by omega)).mono ?_;rintro e w1 ⟨rfl,U0,Vd,dH,aL⟩;have Gi:=dH;obtain⟨sR,d0,d1,d2,d3,lg,jm,XL,bI,pG⟩:=dH;obtain⟨g1,ei,im,XA,XY,Yu,XI,r0,r1,r2,r3,r4,r5⟩:=jC jm k aF;injection im with h11 h12 h13
   injection h11 with h11
   injection h11 with h11
   subst h11 h13;rw[gT] at r5;clear jm XL bI pG h12 c0 c1 c2 c3 fz q0 q1 q2 q3 q4 q5 nw Ae
   cases xl:iJ ps rs[k].R.head.pred rs[k].R.head.ae.length with
   | false=>
    have aO:=zC (zoa (zA aC) xl);clear aC xl;go_wp2_with fail;go_ret;exact⟨by rw[zA aO];rfl,U0,Vd,by rw[zA aO];exact Gi,hb.trans aL⟩
   | true=>
    have aO:=zC (zl5 (zA aC) xl);have T9:=zpo ps rs[k].R.head.pred rs[k].R.head.ae.length;rw[List.length_append] at hlen;clear aC xl;go_wp2_with fail
    go_loopg [4,5] rs[k].bs.length (λ gg ok i wx=>∃ (j:Nat) (Ck:P9) (NG IC:Value),j<=rs[k].bs.length/\gg=rs[k].bs.length-j/\i=.int .i64 j/\znv wx o rs Ck (.slice (some ⟨g,0,none⟩) rs.length dz) NG IC sv/\Below o w wx/\Ck.length+((rs[k].bs.map (·.1)).drop j++yJ (rs.drop (k+1))).length<=1000/\yN (yJ rs) []=yN ((rs[k].bs.map (·.1)).drop j++yJ (rs.drop (k+1))) Ck)
    exact⟨0,_,U0,Vd,Nat.zero_le _,rfl,rfl,Gi,hb.trans aL,by rw[List.drop_zero,<-lx,List.length_append];omega,by rw[List.drop_zero,<-lx];exact zA aO⟩
    case round=>
     clear aO Gi d0 d1 d2 d3 lg r0 r1 r2 r3 r4 r5 aL T9 hlen;obtain⟨j,Ck,NG,IC,hj,bS,rfl,dD,aK,nV,Eh⟩:=hrel;have HF:=zC Eh;clear Eh;have Gj:=dD;obtain⟨gn,c0,c1,c2,c3,fz,ik,Ik,eZ,mA⟩:=dD;obtain⟨g2,lX,Dr,XB,XZ,K7,Kw,q0,q1,q2,q3,q4,q5⟩:=jC ik k aF;injection Dr with h11 h12 h13
     injection h11 with h11
     injection h11 with h11
     subst h11 h13;rw[gT] at q5
     by_cases fp:j<rs[k].bs.length
     ·obtain⟨gb,um,nI,CW,qt,Dd,C0,p0,p1,p2,p3,p4⟩:=jU (Ik rs[k] oM).bo j fp;rw[gT] at nI;injection nI with hb11 hb12 lZ
      subst hb11 lZ;obtain⟨br,mH,fo⟩:=zD ((Ik rs[k] oM).bl _ (List.getElem_mem fp));rw[fo] at p1;have dh:=zfa fp;rw[dh,List.cons_append,List.length_cons] at nV;have aC:=zC ((zA HF).trans (congrArg (λ l=>yN (l++yJ (rs.drop (k+1))) Ck) dh));clear ik Ik eZ mA h12 hb12 HF;go_wp2_with fail;refine (zwk wr o rs Ck _ _ _ _ _ _ _ _ _ _ _ Gj (by omega)).mono ?_;rintro e w3 ⟨rfl,U1,NI,fq,cI⟩;have Au:=fq;obtain⟨KW,d0,d1,d2,d3,lg,lj,TM,sW,vq⟩:=fq;obtain⟨g3,CL,YP,XC,X7,Yv,XJ,r0,r1,r2,r3,r4,r5⟩:=jC lj k aF;injection YP with h31 h32 h33
      injection h31 with h31
      injection h31 with h31
      subst h31 h33;rw[gT] at r5;obtain⟨gc,Xd,Uw,XD,XS,Yw,XK,s0,s1,s2,s3,s4⟩:=jU (TM rs[k] oM).bo j fp;rw[gT] at Uw;injection Uw with hc11 hc12 hc13
      injection hc11 with hc11
      injection hc11 with hc11
      subst hc11 hc13;clear lj TM sW vq h32 hc12 c0 c1 c2 c3 fz q0 q1 q2 q3 q4 q5 p0 p1 p2 p3 p4 Gj fo
      cases xl:iJ Ck rs[k].bs[j].1.pred rs[k].bs[j].1.ae.length with
      | false=>
       have aO:=zC (zoa (zA aC) xl);clear aC xl;go_wp2_with fail;go_ret;exact⟨by rw[zA aO];rfl,U1,NI,by rw[zA aO];exact Au,aK.trans cI⟩
      | true=>
       have aO:=zC (zl5 (zA aC) xl);have T9:=zpo Ck rs[k].bs[j].1.pred rs[k].bs[j].1.ae.length;clear aC xl;go_wp2_with fail;go_roundg (rs[k].bs.length-(j+1));exact⟨j+1,_,U1,NI,by omega,rfl,by go_num,Au,aK.trans cI,by omega,zA aO⟩;omega
     ·have qv:(rs[k].bs.map (·.1)).drop j=[]:=List.drop_of_length_le (by simp;omega);rw[qv,List.nil_append] at nV;have aC:=zC ((zA HF).trans (congrArg (λ l=>yN (l++yJ (rs.drop (k+1))) Ck) qv));clear ik Ik eZ mA h12 HF;go_wp2_with fail;go_roundg (rs.length-(k+1));exact⟨k+1,Ck,NG,IC,by omega,rfl,by go_num,Gj,aK,nV,zA aC⟩;omega
  ·have qv:yJ (rs.drop k)=[]:=(by rw[List.drop_of_length_le (by omega)];rfl);have hf:yN (yJ rs) []=(-1,ps):=(by rw[zA HF,qv];rfl);have aC:=zC hf;clear hf HF hr he hp ht;go_wp2_with fail;go_ret;exact⟨by rw[zA aC];rfl,pI,bY,by rw[zA aC];exact nw,hb⟩
end
end Go.Proofs.YtldkpahaocjdpaaGreat
