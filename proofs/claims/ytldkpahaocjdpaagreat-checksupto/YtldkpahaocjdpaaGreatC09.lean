/-
  Plain: how the reference's program (its rules, its predicates with their numbers of terms) lies in memory; pred: the place of a predicate, -1 if it is not there.
-/
import Derived.Test.YtldkpahaocjdpaaGreatC08
import Derived.Deep.AppendLies
import Derived.Deep.RegionLaw
import Derived.Deep.DeepCutAuto
set_option maxHeartbeats 16000000
set_option maxRecDepth 1000000
namespace Go.Proofs.YtldkpahaocjdpaaGreat
section
open Go.RowKit
structure RR where
 R:zP
 hv:Value
 bs:List (zL × Value)
 bv:Value
def RR.cells (r:RR):V8:=[.string r.R.head.pred,r.hv,.bool r.R.head.no,.int .i64 r.R.head.at_,.int .i64 r.R.head.ak,r.bv]
def qM (rs:List RR):V8:=rs.flatMap RR.cells
structure oS (w:W8)(o:Nat)(rs:List RR)(ps qs:P9)(rv pv tv sv:Value):Prop where
 lt:o<w.heap.size
 c0:w.cell? ⟨o,0,none⟩=some rv
 c1:w.cell? ⟨o,1,none⟩=some pv
 c2:w.cell? ⟨o,2,none⟩=some tv
 c3:w.cell? ⟨o,3,none⟩=some sv
 fz:∀ j,w.frozen? ⟨o,j,none⟩=false
 rules:w.ownsRow (o+1) 246 6 rv rs.length (qM rs)
 each:∀ r∈rs,j7 w (o+1) r.R r.hv r.bs r.bv
 fC:w.ownsRow (o+1) 9 1 pv ps.length (ps.map λ x=>.string x.1)
 ae:w.ownsRow (o+1) 3 1 tv qs.length (qs.map λ x=>.int .i64 x.2)
abbrev ziv (w:W8)(o:Nat)(rs:List RR)(ps:P9)(rv pv tv sv:Value):Prop:=oS w o rs ps ps rv pv tv sv
variable {base:Nat} {w:W8}
theorem j7.kept {B:List Nat}{w':W8}{R:zP}{hv:Value}{bs:List (zL × Value)}{bv:Value}(h:j7 w base R hv bs bv)(k:zN B w w')(hB:∀ x∈B,x<base):j7 w' base R hv bs bv:=
 ⟨yM h.hd k hB,yM h.bo k hB,λ x hx=>yM (h.bl x hx) k hB,h.eq⟩
theorem oS.kept {B:List Nat}{w w':W8}{o:Nat}{rs:List RR}{ps qs:P9}{rv pv tv sv:Value}(h:oS w o rs ps qs rv pv tv sv)(k:zN B w w')(hB:∀ x∈B,x<o):oS w' o rs ps qs rv pv tv sv:=
 have hn:o∉B:=λ hm=>by have:=hB o hm;omega
 have Nd:∀ x∈B,x<o+1:=λ x hx=>by have:=hB x hx;omega
 ⟨Nat.lt_of_lt_of_le h.lt k.size,(k.cell h.lt hn).trans h.c0,(k.cell h.lt hn).trans h.c1,(k.cell h.lt hn).trans h.c2,(k.cell h.lt hn).trans h.c3,λ j=>(k.frozen h.lt hn).trans (h.fz j),yM h.rules k Nd,λ r hr=>(h.each r hr).kept k Nd,yM h.fC k Nd,yM h.ae k Nd⟩
variable {xs:V8} {size n o j:Nat} {e:TypeId} {u v v':Value} {W w5:W8}
theorem zdj {e':TypeId}{yq n':Nat}{N2:V8}(hW:∀ k,k<w.heap.size->W.heap[k]?=w.heap[k]?)(hS:w.heap.size<=W.heap.size)(hv:w.ownsRow (o+1) e size v n xs)(hg:W.grownBy w5 v.ownBlock)(h:w.ownsRow (o+1) e' yq v' n' N2)(eI:e'≠e):(w5.setCell ⟨o,j,none⟩ u).ownsRow (o+1) e' yq v' n' N2:=by
 have hd:=z0j h hv eI;refine⟨h.1,?_⟩;rcases h.2 with hn | ⟨g,cap,cur,rfl,hb,dI,rest⟩
 ·exact .inl hn
 ·have hl:=(Array.getElem?_eq_some_iff.1 dI).1;refine .inr ⟨g,cap,cur,rfl,hb,?_,rest⟩;rw[Below.heap_setCell _ _ _ _ (by simp;omega),hg.block g (by omega) (by rcases hd with hd | hd;cases hd;exact hd),hW g hl];exact dI
theorem zi6 (hW:∀ k,k<w.heap.size->W.heap[k]?=w.heap[k]?)(hS:w.heap.size<=W.heap.size)(hv:w.ownsRow (o+1) e size v n xs)(hg:W.grownBy w5 v.ownBlock)(h1:317≠e)(h2:243≠e){R:zP}{rK:Value}{bs:List (zL × Value)}{bv:Value}(h:j7 w (o+1) R rK bs bv):j7 (w5.setCell ⟨o,j,none⟩ u) (o+1) R rK bs bv:=
 ⟨zdj hW hS hv hg h.hd h1,zdj hW hS hv hg h.bo h2,λ x hx=>zdj hW hS hv hg (h.bl x hx) h1,h.eq⟩
theorem zeu (hW:∀ k,k<w.heap.size->W.heap[k]?=w.heap[k]?)(hS:w.heap.size<=W.heap.size)(hv:w.ownsRow (o+1) e size v n xs)(hg:W.grownBy w5 v.ownBlock)(aG:o<w.heap.size):w5.heap[o]?=w.heap[o]?:=by
 rw[hg.block o (by omega) (λ hm=>by have:=(hv.lt o hm.symm).1;omega),hW o aG]
theorem zgw (hW:∀ k,k<w.heap.size->W.heap[k]?=w.heap[k]?)(hS:w.heap.size<=W.heap.size)(ho:W.os=w.os)(ht:W.tape=w.tape)(QX:W.output=w.output)(hv:w.ownsRow (o+1) e size v n xs)(hg:W.grownBy w5 v.ownBlock)(aG:o<w.heap.size):Below o w (w5.setCell ⟨o,j,none⟩ u):=
 ⟨hg.os.trans ho,hg.tape.trans ht,hg.output.trans QX,by have:=hg.size;simp;omega,λ k hk=>by
  rw[Below.heap_setCell _ _ _ _ (by simp;omega),hg.block k (by omega) (λ hm=>by have:=(hv.lt k hm.symm).1;omega),hW k (by omega)]⟩
variable {rv pv tv sv:Value} {ps qs:P9} {rs:List RR}
theorem oS.Cx (h:oS w o rs ps qs rv pv tv sv)(hW:∀ k,k<w.heap.size->W.heap[k]?=w.heap[k]?)(hS:w.heap.size<=W.heap.size)(hg:W.grownBy w5 pv.ownBlock){x:B8 × Nat}(aC:w5.ownsRow (o+1) 9 1 v' (ps.length+1) ((ps.map λ x=>.string x.1)++[.string x.1])):
  oS (w5.setCell ⟨o,1,none⟩ v') o rs (ps++[x]) qs rv v' tv sv:=by
 have hb:=zeu hW hS h.fC hg h.lt;have cc:∀ j,w5.cell? ⟨o,j,none⟩=w.cell? ⟨o,j,none⟩:=λ j=>World.cell?_of_block hb
 have ff:∀ j,w5.frozen? ⟨o,j,none⟩=w.frozen? ⟨o,j,none⟩:=λ j=>World.frozen?_of_block hb
 have x0:=(cc 0).trans h.c0;have x1:=(cc 1).trans h.c1;have x2:=(cc 2).trans h.c2;have x3:=(cc 3).trans h.c3;have xf:=λ j=>(ff j).trans (h.fz j)
 clear cc ff hb;have aG:=h.lt;have hs:=hg.size;refine⟨by simp;omega,by go_simp,by go_simp,by go_simp,by go_simp,by go_simp,zdj hW hS h.fC hg h.rules (by decide),λ r hr=>zi6 hW hS h.fC hg (by decide) (by decide) (h.each r hr),?_,zdj hW hS h.fC hg h.ae (by decide)⟩;have:=ownsRow_setCell_below aC (a:=⟨o,1,none⟩) (by simp) v';simpa using this
theorem oS.Cy (h:oS w o rs ps qs rv pv tv sv)(hW:∀ k,k<w.heap.size->W.heap[k]?=w.heap[k]?)(hS:w.heap.size<=W.heap.size)(hg:W.grownBy w5 tv.ownBlock){x:B8 × Nat}(aC:w5.ownsRow (o+1) 3 1 v' (qs.length+1) ((qs.map λ x=>.int .i64 x.2)++[.int .i64 x.2])):
  oS (w5.setCell ⟨o,2,none⟩ v') o rs ps (qs++[x]) rv pv v' sv:=by
 have hb:=zeu hW hS h.ae hg h.lt;have cc:∀ j,w5.cell? ⟨o,j,none⟩=w.cell? ⟨o,j,none⟩:=λ j=>World.cell?_of_block hb
 have ff:∀ j,w5.frozen? ⟨o,j,none⟩=w.frozen? ⟨o,j,none⟩:=λ j=>World.frozen?_of_block hb
 have x0:=(cc 0).trans h.c0;have x1:=(cc 1).trans h.c1;have x2:=(cc 2).trans h.c2;have x3:=(cc 3).trans h.c3;have xf:=λ j=>(ff j).trans (h.fz j)
 clear cc ff hb;have aG:=h.lt;have hs:=hg.size;refine⟨by simp;omega,by go_simp,by go_simp,by go_simp,by go_simp,by go_simp,zdj hW hS h.ae hg h.rules (by decide),λ r hr=>zi6 hW hS h.ae hg (by decide) (by decide) (h.each r hr),zdj hW hS h.ae hg h.fC (by decide),?_⟩;have:=ownsRow_setCell_below aC (a:=⟨o,2,none⟩) (by simp) v';simpa using this
def xV (nm:B8):P9->Nat->Int
 | [],_=>-1
 | x::r,k=>if x.1.toList==nm.toList then k else xV nm r (k+1)
def zM (l:P9)(nm:B8):Int:=xV nm l 0
variable {nm:B8}
theorem z7j {l:P9}{k:Nat}(h:k<l.length):xV nm (l.drop k) k=if l[k].1.toList==nm.toList then (k:Int) else xV nm (l.drop (k+1)) (k+1):=by
 rw[List.drop_eq_getElem_cons h];rfl
theorem zar (h:w.ownsRow base e 1 v n xs)(hn:0<n):∃ g cap,v=.slice (some ⟨g,0,none⟩) n cap/\base<=g/\n<=cap/\cap<=maxLen/\∀ k,k<n->w.cell? ⟨g,k,none⟩=xs[k]?:=by
 rcases h.2 with⟨_,h0⟩ | ⟨g,cap,cur,rfl,hb,hg,cZ,da,ll,ht⟩
 ·omega
 ·refine⟨g,cap,rfl,hb,cZ,da,λ k hk=>?_⟩;exact h.cellAt k (by omega)
theorem qJ (w:W8)(o:Nat)(rs:List RR)(ps:P9)(rv pv tv sv:Value)(nm:B8)(h:ziv w o rs ps rv pv tv sv):
  Calls Tryz.prog 135 #[.pointer (some ⟨o,0,none⟩),.string nm] w λ e w'=>e=.returned (.int .i64 (zM ps nm))/\w'=w:=by
 obtain⟨aG,c0,c1,c2,c3,fz,hr,he,hp,ht⟩:=h;obtain⟨a1,kt,rfl⟩:=zD hp;have kX:ps.length<=maxLen:=by
  rcases hp.2 with⟨_,h0⟩ | ⟨g,cap,cur,_,_,_,h1,h2,_⟩ <;> omega
 unfold maxLen at kX;go_enter Tryz.func135,Tryz.ntmps135
 go_wp2
 go_loop [5] (λ i=>∃ k:Nat,k<=ps.length/\i=.int .i64 k/\xV nm (ps.drop k) k=zM ps nm) (λ i=>ps.length-(intOf i).toNat)
 exact⟨0,Nat.zero_le _,rfl,rfl⟩
 case round=>
  obtain⟨k,hk,rfl,hZ⟩:=hrel;have HX:=zC hZ;clear hZ
  by_cases aE:k<ps.length
  ·obtain⟨g,cap,hv,hb,cZ,da,hc⟩:=zar hp (by omega);injection hv with h1 h2 h3
   subst h1 h3;have Dc:=hc k aE;rw[List.getElem?_map,List.getElem?_eq_getElem aE] at Dc;simp only[Option.map_some] at Dc;have aP:=z7j (nm:=nm) aE;have HS:=zC aP;clear hc aP hr he ht
   cases hq:ps[k].1.toList==nm.toList with
   | true=>
    go_wp2
    go_ret;exact⟨by rw[<-zA HX,zA HS,if_pos hq];rfl,rfl⟩
   | false=>
    go_wp2
    go_round
    case rel=>exact⟨k+1,by omega,by go_num,by rw[<-zA HX,zA HS,if_neg (by rw[hq];decide)]⟩
    case measure=>simp[intOf];omega
  ·go_wp2
   go_ret;exact⟨by rw[<-zA HX,List.drop_of_length_le (by omega)];rfl,rfl⟩
theorem zew:(Tryz.prog.info? 9).map (λ i=>(i.zero,i.size,i.bytes))=some (some (.string { data:=#[] }),1,16):=by kernel_rfl
theorem zj3:(Tryz.prog.info? 3).map (λ i=>(i.zero,i.size,i.bytes))=some (some (.int .i64 0),1,8):=by kernel_rfl
def qG (ps:P9)(nm:B8)(n:Nat):P9:=if zM ps nm<0 then ps++[(nm,n)] else ps
def qP (ps:P9)(nm:B8)(n:Nat):Bool:=if zM ps nm<0 then true else ((ps.getD (zM ps nm).toNat (nm,0)).2:Int)==n
theorem zzm (nm:B8):∀ (l:P9) (k:Nat),0<=xV nm l k->(k:Int)<=xV nm l k/\xV nm l k<k+l.length
 | [],k,h=>by simp[xV] at h
 | x::r,k,h=>by
  unfold xV at h ⊢
  split
  ·simp;omega
  ·rename_i eI;rw[if_neg eI] at h;have:=zzm nm r (k+1) h;simp;omega
theorem xN (h:0<=zM ps nm):(zM ps nm).toNat<ps.length:=by
 have:=zzm nm ps 0 h;unfold zM at *;omega
theorem z33 (w:W8)(o:Nat)(rs:List RR)(ps:P9)(rv pv tv sv:Value)(nm:B8)(a:O8)(n c:Nat)(no:Bool)(at_ ak:Nat)(h:ziv w o rs ps rv pv tv sv)(hZ:0<=zM ps nm):
  Calls Tryz.prog 188 #[.pointer (some ⟨o,0,none⟩),.agg #[.string nm,.slice a n c,.bool no,.int .i64 at_,.int .i64 ak]] w λ e w'=>e=.returned (.bool (qP ps nm n))/\Below w.heap.size w w':=by
 have h':=h;obtain⟨aG,c0,c1,c2,c3,fz,hr,he,hp,ht⟩:=h;have lI:=xN hZ;obtain⟨g,cap,rfl,hb,cZ,da,hc⟩:=zar ht (by omega);have Dc:=hc _ lI;rw[List.getElem?_map,List.getElem?_eq_getElem lI] at Dc;simp only[Option.map_some] at Dc;have hm:qP ps nm n=((ps[(zM ps nm).toNat].2:Int)==n):=by
  unfold qP;rw[if_neg (by omega)];simp[List.getD,List.getElem?_eq_getElem lI]
 have bR:=World.block_lt_of_cell? w _ Dc;simp only at bR;have HM:=zC hm;have XO:zM ps nm<ps.length:=by omega
 clear hm hc hr he hp ht;unfold maxLen at da;go_enter Tryz.func188,Tryz.ntmps188;go_wp2_with fail;refine (qJ _ o rs ps _ _ _ _ nm (h'.kept ((zN.refl [] _).alloc _) (by simp))).mono ?_;rintro e w1 ⟨rfl,rfl⟩;go_wp2_with fail;go_quiet (fail)
 go_wp2
 go_ret;exact⟨by rw[zA HM];rfl,below_drewN (B9.alloc L9 _) _⟩
end
section
open Go.RowKit
theorem zg5 (W:W8)(B:Nat)(u:Value)(t:TypeId)(hb:W.heap[B]?=some (.cells #[u] t (0,0))):∀ j x,([u]:V8)[j]?=some x->W.cell? ((⟨B,0,none⟩:Addr).add j)=some x:=
 World.news_of_block (cs:=#[u]) hb
theorem z32 (w:W8)(o:Nat)(rs:List RR)(ps:P9)(rv pv tv sv:Value)(nm:B8)(a:O8)(n c:Nat)(no:Bool)(at_ ak:Nat)(h:ziv w o rs ps rv pv tv sv)(b8:ps.length<=1000)(hZ:zM ps nm<0):
  Calls Tryz.prog 188 #[.pointer (some ⟨o,0,none⟩),.agg #[.string nm,.slice a n c,.bool no,.int .i64 at_,.int .i64 ak]] w λ e w'=>e=.returned (.bool true)/\∃ sZ cR,ziv w' o rs (ps++[(nm,n)]) rv sZ cR sv/\Below o w w':=by
 have h':=h;obtain⟨i0,hi,cQ,cz,cx⟩:=info_parts zew;obtain⟨i3,XM,Et,FK,Ml⟩:=info_parts zj3;obtain⟨aG,c0,c1,c2,c3,fz,hr,he,hp,ht⟩:=h;obtain⟨a1,kt,rfl⟩:=zD hp;obtain⟨a2,n9,rfl⟩:=zD ht;go_enter Tryz.func188,Tryz.ntmps188;go_wp2_with fail;refine (qJ _ o rs ps _ _ _ _ nm (h'.kept ((zN.refl [] _).alloc _) (by simp))).mono ?_;rintro e w1 ⟨rfl,rfl⟩;have s1:Hid ((((w.alloc (Obj.cells #[.string nm,.slice a n c,.bool no,.int IntKind.i64 ↑at_,.int IntKind.i64 ↑ak] 243)).alloc (Obj.cells #[.string nm] 9)).drew).ownsRow (o+1) 9 1 (.slice a1 ps.length kt) ps.length (ps.map λ x=>.string x.1)):=(hp.alloc _).alloc _
 have s2:Hid (∀ j u,([.string nm]:V8)[j]?=some u->(((w.alloc (Obj.cells #[.string nm,.slice a n c,.bool no,.int IntKind.i64 ↑at_,.int IntKind.i64 ↑ak] 243)).alloc (Obj.cells #[.string nm] 9)).drew).cell? ((⟨w.heap.size+1,0,none⟩:Addr).add j)=some u):=zg5 _ _ _ 9 (by
  show (((w.alloc _).alloc _).heap)[w.heap.size+1]?=_
  have:=heap_alloc_new (w.alloc (Obj.cells #[.string nm,.slice a n c,.bool no,.int IntKind.i64 ↑at_,.int IntKind.i64 ↑ak] 243)) (Obj.cells #[.string nm] 9)
  simpa using this)
 have s3:Hid (∀ u∈([.string nm]:V8),u.oneCell'=true):=by intro u hu;simp at hu;subst hu;rfl
 have s4:Hid (ps.length+1<=maxLen):=by show _<=_;unfold maxLen;omega
 have s5:Hid ((ps.length+1)*16<=140737488355328):=by show _<=_;omega
 have s6:Hid (o+1<=(((w.alloc (Obj.cells #[.string nm,.slice a n c,.bool no,.int IntKind.i64 ↑at_,.int IntKind.i64 ↑ak] 243)).alloc (Obj.cells #[.string nm] 9)).drew).heap.size):=by show _<=_;simp;omega
 have s7:Hid (∀ w5:W8,(((w.alloc (Obj.cells #[.string nm,.slice a n c,.bool no,.int IntKind.i64 ↑at_,.int IntKind.i64 ↑ak] 243)).alloc (Obj.cells #[.string nm] 9)).drew).grownBy w5 (Value.slice a1 ps.length kt).ownBlock->w5.cell? ⟨o,1,none⟩=some (.slice a1 ps.length kt)/\w5.frozen? ⟨o,1,none⟩=false):=λ w5 hg=>by
  have kk:=((((zN.refl _ w).alloc _).alloc _).drew).grown hg (λ k e=>.inr (show k∈(Value.slice a1 ps.length kt).ownBlock.toList by simp[e]));have hn:o∉(Value.slice a1 ps.length kt).ownBlock.toList:=λ hm=>by
   have:=(hp.lt o (by simpa using hm)).1;omega
  exact⟨(kk.cell aG hn).trans c1,(kk.frozen aG hn).trans (fz 1)⟩
 have s8:Hid (∀ (w5:W8) (g cap:Nat),(((w.alloc (Obj.cells #[.string nm,.slice a n c,.bool no,.int IntKind.i64 ↑at_,.int IntKind.i64 ↑ak] 243)).alloc (Obj.cells #[.string nm] 9)).drew).grownBy w5 (Value.slice a1 ps.length kt).ownBlock->w5.ownsRow (o+1) 9 1 (.slice (some ⟨g,0,none⟩) (ps.length+1) cap) (ps.length+1) ((ps.map λ x=>.string x.1)++[.string nm])->∃ sZ,oS (w5.setCell ⟨o,1,none⟩ (.slice (some ⟨g,0,none⟩) (ps.length+1) cap)) o rs (ps++[(nm,n)]) ps rv sZ (.slice a2 ps.length n9) sv/\Below o w (w5.setCell ⟨o,1,none⟩ (.slice (some ⟨g,0,none⟩) (ps.length+1) cap))/\(w5.setCell ⟨o,1,none⟩ (.slice (some ⟨g,0,none⟩) (ps.length+1) cap)).cell? ⟨w.heap.size,1,none⟩=some (.slice a n c)/\w.heap.size<(w5.setCell ⟨o,1,none⟩ (.slice (some ⟨g,0,none⟩) (ps.length+1) cap)).heap.size):=λ w5 g cap hg aC=>by
  have hW:∀ k,k<w.heap.size->(((w.alloc (Obj.cells #[.string nm,.slice a n c,.bool no,.int IntKind.i64 ↑at_,.int IntKind.i64 ↑ak] 243)).alloc (Obj.cells #[.string nm] 9)).drew).heap[k]?=w.heap[k]?:=λ k hk=>(((zN.refl [] w).alloc _).alloc _).block k hk (by simp)
  have hS:w.heap.size<=(((w.alloc (Obj.cells #[.string nm,.slice a n c,.bool no,.int IntKind.i64 ↑at_,.int IntKind.i64 ↑ak] 243)).alloc (Obj.cells #[.string nm] 9)).drew).heap.size:=(((zN.refl [] w).alloc _).alloc _).size;have I7:=hg.size;refine⟨_,h'.Cx (x:=(nm,n)) hW hS hg aC,zgw hW hS rfl rfl rfl hp hg aG,?_,?_⟩
  ·rw[World.cell?_of_block (w:=w5) (Below.heap_setCell w5 ⟨o,1,none⟩ _ w.heap.size (by simp;omega))];rw[hg.cell_far ⟨w.heap.size,1,none⟩ (by simp;omega) (λ e=>by have:=(hp.lt w.heap.size e.symm).2;omega)]
   show ((w.alloc _).alloc _).cell? _=_
   rw[World.cell?_alloc_past _ _ _ (by simp),World.cell?_alloc_at _ _ _ _ rfl];rfl
  ·simp at I7 ⊢;omega
 clear hp ht hr he;go_upto_region 3 with fail
 go_cut [] (λ wc=>∃ sZ,oS wc o rs (ps++[(nm,n)]) ps rv sZ (.slice a2 ps.length n9) sv/\Below o w wc/\wc.cell? ⟨w.heap.size,1,none⟩=some (.slice a n c)/\w.heap.size<wc.heap.size)
 case first=>
  go_region_law (refine step_append_lies _ rfl (.tmp 16) (.tmp 19) 33 rfl (o+1) 9 i0 (.string { data:=#[] }) 1 16 Tryz.underlying33 hi cQ cz cx rfl (by decide) (.slice a1 ps.length kt) ps.length (ps.map λ x=>.string x.1) (by simp[Act.eval]) (zA s1) ⟨w.heap.size+1,0,none⟩ 1 1 [.string nm] (by simp[Act.eval]) rfl (zA s2) (zA s3) (by decide) (zA s4) (zA s5) (zA s6) _ rfl ?_;intro g cap w5 aj aU cN hlt5;obtain⟨y1,y2⟩:=zA s7 w5 aU)
  all_goals
   go_wp2_with fail;go_meet
   case rel=>exact zA s8 w5 g cap aU aj
 case rest=>
  obtain⟨sZ,hm,eK,ed,aT⟩:=hcut;clear s1 s2 s3 s4 s5 s6 s7 s8 c0 c1 c2 c3 fz h';have qp:=hm;obtain⟨sk,d0,d1,d2,d3,mW,mS,IT,iX,qq⟩:=hm;have s1:Hid ((((wc.alloc (Obj.cells #[.int .i64 n] 3)).drew).ownsRow (o+1) 3 1 (.slice a2 ps.length n9) ps.length (ps.map λ x=>.int .i64 x.2))):=qq.alloc _;have s2:Hid (∀ j u,([.int .i64 n]:V8)[j]?=some u->((wc.alloc (Obj.cells #[.int .i64 n] 3)).drew).cell? ((⟨wc.heap.size,0,none⟩:Addr).add j)=some u):=zg5 _ _ _ 3 (heap_alloc_new wc _);have s3:Hid (∀ u∈([.int .i64 n]:V8),u.oneCell'=true):=by intro u hu;simp at hu;subst hu;rfl
  have s4:Hid (ps.length+1<=maxLen):=by show _<=_;unfold maxLen;omega
  have s5:Hid ((ps.length+1)*8<=140737488355328):=by show _<=_;omega
  have s6:Hid (o+1<=((wc.alloc (Obj.cells #[.int .i64 n] 3)).drew).heap.size):=by show _<=_;simp;omega
  have hW:∀ k,k<wc.heap.size->((wc.alloc (Obj.cells #[.int .i64 n] 3)).drew).heap[k]?=wc.heap[k]?:=λ k hk=>((zN.refl [] wc).alloc _).block k hk (by simp)
  have hS:wc.heap.size<=((wc.alloc (Obj.cells #[.int .i64 n] 3)).drew).heap.size:=((zN.refl [] wc).alloc _).size;have s7:Hid (∀ w5:W8,((wc.alloc (Obj.cells #[.int .i64 n] 3)).drew).grownBy w5 (Value.slice a2 ps.length n9).ownBlock->w5.cell? ⟨o,2,none⟩=some (.slice a2 ps.length n9)/\w5.frozen? ⟨o,2,none⟩=false):=λ w5 hg=>
   have hb:=zeu hW hS qq hg sk
   ⟨(World.cell?_of_block hb).trans d2,(World.frozen?_of_block hb).trans (mW 2)⟩
  have s8:Hid (∀ (w5:W8) (g cap:Nat),((wc.alloc (Obj.cells #[.int .i64 n] 3)).drew).grownBy w5 (Value.slice a2 ps.length n9).ownBlock->w5.ownsRow (o+1) 3 1 (.slice (some ⟨g,0,none⟩) (ps.length+1) cap) (ps.length+1) ((ps.map λ x=>.int .i64 x.2)++[.int .i64 n])->∃ sZ cR,ziv (w5.setCell ⟨o,2,none⟩ (.slice (some ⟨g,0,none⟩) (ps.length+1) cap)) o rs (ps++[(nm,n)]) rv sZ cR sv/\Below o w (w5.setCell ⟨o,2,none⟩ (.slice (some ⟨g,0,none⟩) (ps.length+1) cap))):=λ w5 g cap hg aC=>
   ⟨_,_,qp.Cy (x:=(nm,n)) hW hS hg aC,eK.trans (zgw hW hS rfl rfl rfl qq hg sk)⟩
  clear hW hS iX qq mS IT qp;go_wp2_with fail
  go_region_law (refine step_append_lies _ rfl (.tmp 27) (.tmp 31) 24 rfl (o+1) 3 i3 (.int .i64 0) 1 8 Tryz.underlying24 XM Et FK Ml rfl (by decide) (.slice a2 ps.length n9) ps.length (ps.map λ x=>.int .i64 x.2) (by simp[Act.eval]) (zA s1) ⟨wc.heap.size,0,none⟩ 1 1 [.int .i64 n] (by simp[Act.eval]) rfl (zA s2) (zA s3) (by decide) (zA s4) (zA s5) (zA s6) _ rfl ?_;intro g cap w5 aj aU cN hlt5;obtain⟨y1,y2⟩:=zA s7 w5 aU)
  all_goals
   go_wp2_with fail;go_ret;exact⟨rfl,zA s8 w5 g cap aU aj⟩
end
section
open Go.RowKit
theorem ztw (w:W8)(o:Nat)(rs:List RR)(ps:P9)(rv pv tv sv:Value)(nm:B8)(a:O8)(n c:Nat)(no:Bool)(at_ ak:Nat)(h:ziv w o rs ps rv pv tv sv)(b8:ps.length<=1000):
  Calls Tryz.prog 188 #[.pointer (some ⟨o,0,none⟩),.agg #[.string nm,.slice a n c,.bool no,.int .i64 at_,.int .i64 ak]] w λ e w'=>e=.returned (.bool (qP ps nm n))/\∃ sZ cR,ziv w' o rs (qG ps nm n) rv sZ cR sv/\Below o w w':=by
 by_cases hZ:zM ps nm<0
 ·refine (z32 w o rs ps rv pv tv sv nm a n c no at_ ak h b8 hZ).mono ?_;rintro e w' ⟨rfl,sZ,cR,hm,hb⟩;exact⟨by simp[qP,hZ],sZ,cR,by simpa[qG,hZ] using hm,hb⟩
 ·refine (z33 w o rs ps rv pv tv sv nm a n c no at_ ak h (by omega)).mono ?_;rintro e w' ⟨rfl,hb⟩;refine⟨rfl,pv,tv,?_,hb.mono (by have:=h.lt;omega)⟩;rw[qG,if_neg hZ];exact h.kept ((zN.refl [] w).ai hb) (by simp)
def yV:List zL->P9->Int × P9
 | [],ps=>(-1,ps)
 | A::r,ps=>if qP ps A.pred A.ae.length then yV r (qG ps A.pred A.ae.length) else (A.at_,qG ps A.pred A.ae.length)
variable {ps:P9} {r:List zL} {X:Int × P9}
theorem zj8 {A:zL}(h:X=yV (A::r) ps)(hb:qP ps A.pred A.ae.length=true):X=yV r (qG ps A.pred A.ae.length):=by rw[h,yV,if_pos hb]
theorem zlp {A:zL}(h:X=yV (A::r) ps)(hb:qP ps A.pred A.ae.length=false):X=(↑A.at_,qG ps A.pred A.ae.length):=by rw[h,yV,if_neg (by rw[hb];decide)]
def zP.atoms (R:zP):List zL:=R.head::R.body
def yR (rs:List RR):List zL:=rs.flatMap λ r=>r.R.atoms
variable {rs:List RR}
theorem zu2 {k:Nat}(h:k<rs.length):yR (rs.drop k)=rs[k].R.head::(rs[k].R.body++yR (rs.drop (k+1))):=by
 rw[List.drop_eq_getElem_cons h,yR,List.flatMap_cons];rfl
variable {base:Nat} {w:W8}
theorem x7 {rv:Value}(h:w.ownsRow base 246 6 rv rs.length (qM rs))(k:Nat)(hk:k<rs.length):∃ g cap,rv=.slice (some ⟨g,0,none⟩) rs.length cap/\base<=g/\g<w.heap.size/\rs.length<=cap/\cap<=maxLen /\
  w.cell? ⟨g,k*6,none⟩=some (.string rs[k].R.head.pred)/\w.cell? ⟨g,k*6+1,none⟩=some rs[k].hv/\w.cell? ⟨g,k*6+2,none⟩=some (.bool rs[k].R.head.no)/\w.cell? ⟨g,k*6+3,none⟩=some (.int .i64 rs[k].R.head.at_)/\w.cell? ⟨g,k*6+4,none⟩=some (.int .i64 rs[k].R.head.ak)/\w.cell? ⟨g,k*6+5,none⟩=some rs[k].bv:=by
 have hx:∀ (l:List RR) (k j:Nat) (hk:k<l.length),j<6->(qM l)[k*6+j]?=(l[k].cells)[j]?:=by
  intro l
  induction l with
  | nil=>intro k j hk;simp at hk
  | cons x r ih=>
   intro k j hk hj;have e:qM (x::r)=x.cells++qM r:=(by simp[qM]);have hl:x.cells.length=6:=rfl
   cases k with
   | zero=>rw[e,List.getElem?_append_left (by omega)];simp
   | succ k=>
    rw[e,List.getElem?_append_right (by omega)];have e2:(k+1)*6+j-x.cells.length=k*6+j:=(by omega);rw[e2,ih k j (by simpa using hk) hj];simp
 rcases h.2 with⟨_,h0⟩ | ⟨g,cap,cur,rfl,hb,hg,cZ,da,ll,ht⟩
 ·omega
 ·have hl:=(Array.getElem?_eq_some_iff.1 hg).1;have hc:∀ j,j<6->w.cell? ⟨g,k*6+j,none⟩=(rs[k].cells)[j]?:=λ j hj=>by
   rw[h.cellAt (k*6+j) (by omega),hx rs k j hk hj]
  exact⟨g,cap,rfl,hb,hl,cZ,da,hc 0 (by omega),hc 1 (by omega),hc 2 (by omega),hc 3 (by omega),hc 4 (by omega),hc 5 (by omega)⟩
variable {bs:List (zL × Value)}
theorem vE {bv:Value}(h:w.ownsRow base 243 5 bv bs.length (zam bs))(k:Nat)(hk:k<bs.length):∃ g cap,bv=.slice (some ⟨g,0,none⟩) bs.length cap/\base<=g/\g<w.heap.size/\bs.length<=cap/\cap<=maxLen /\
  w.cell? ⟨g,k*5,none⟩=some (.string bs[k].1.pred)/\w.cell? ⟨g,k*5+1,none⟩=some bs[k].2/\w.cell? ⟨g,k*5+2,none⟩=some (.bool bs[k].1.no)/\w.cell? ⟨g,k*5+3,none⟩=some (.int .i64 bs[k].1.at_)/\w.cell? ⟨g,k*5+4,none⟩=some (.int .i64 bs[k].1.ak):=by
 have hx:∀ (l:List (zL × Value)) (k j:Nat) (hk:k<l.length),j<5->(zam l)[k*5+j]?=(l[k].1.cells l[k].2)[j]?:=by
  intro l
  induction l with
  | nil=>intro k j hk;simp at hk
  | cons x r ih=>
   intro k j hk hj;have e:zam (x::r)=x.1.cells x.2++zam r:=(by simp[zam]);have hl:(x.1.cells x.2).length=5:=rfl
   cases k with
   | zero=>rw[e,List.getElem?_append_left (by omega)];simp
   | succ k=>
    rw[e,List.getElem?_append_right (by omega)];have e2:(k+1)*5+j-(x.1.cells x.2).length=k*5+j:=(by omega);rw[e2,ih k j (by simpa using hk) hj];simp
 rcases h.2 with⟨_,h0⟩ | ⟨g,cap,cur,rfl,hb,hg,cZ,da,ll,ht⟩
 ·omega
 ·have hl:=(Array.getElem?_eq_some_iff.1 hg).1;have hc:∀ j,j<5->w.cell? ⟨g,k*5+j,none⟩=(bs[k].1.cells bs[k].2)[j]?:=λ j hj=>by
   rw[h.cellAt (k*5+j) (by omega),hx bs k j hk hj]
  exact⟨g,cap,rfl,hb,hl,cZ,da,hc 0 (by omega),hc 1 (by omega),hc 2 (by omega),hc 3 (by omega),hc 4 (by omega)⟩
theorem znm (ps:P9)(nm:B8)(n:Nat):(qG ps nm n).length<=ps.length+1:=by
 unfold qG;split <;> simp
theorem zd9 {j:Nat}(h:j<bs.length):(bs.map (·.1)).drop j=bs[j].1::(bs.map (·.1)).drop (j+1):=by
 rw[List.drop_eq_getElem_cons (by simpa using h)];simp
theorem yN {e:TypeId}{size:Nat}{v:Value}{n:Nat}{xs:V8}(h:w.ownsRow base e size v n xs):n<=maxLen:=by
 rcases h.2 with⟨_,h0⟩ | ⟨g,cap,cur,_,_,_,h1,h2,_⟩ <;> omega
theorem zx9 (w:W8)(o:Nat)(rs:List RR)(rv pv tv sv:Value)(h:ziv w o rs [] rv pv tv sv)(hl:(yR rs).length<=1000):
  Calls Tryz.prog 126 #[.pointer (some ⟨o,0,none⟩)] w λ e w'=>e=.returned (.int .i64 (yV (yR rs) []).1)/\∃ sZ cR,ziv w' o rs (yV (yR rs) []).2 rv sZ cR sv/\Below o w w':=by
 obtain⟨ar,eR,rfl⟩:=zD h.rules;have kX:rs.length<=maxLen:=by
  rcases h.rules.2 with⟨_,h0⟩ | ⟨g,cap,cur,_,_,_,h1,h2,_⟩ <;> omega
 unfold maxLen at kX;go_enter Tryz.func126,Tryz.ntmps126
 go_wp2
 go_loopg [3] rs.length (λ gg i wr=>∃ (k:Nat) (ps:P9) (sZ cR:Value),k<=rs.length/\gg=rs.length-k/\i=.int .i64 k/\ziv wr o rs ps (.slice ar rs.length eR) sZ cR sv/\Below o w wr/\ps.length+(yR (rs.drop k)).length<=1000/\yV (yR rs) []=yV (yR (rs.drop k)) ps)
 exact⟨0,[],pv,tv,Nat.zero_le _,rfl,rfl,h,Below.refl _ _,by simpa using hl,rfl⟩
 case round=>
  obtain⟨k,ps,sZ,cR,hk,hg,rfl,hm,hb,hlen,ax⟩:=hrel;have HF:=zC ax;clear ax;have qp:=hm;obtain⟨aG,c0,c1,c2,c3,fz,hr,he,hp,ht⟩:=hm
  by_cases aE:k<rs.length
  ·obtain⟨g,cap,hv,oN,bR,cZ,da,q0,q1,q2,q3,q4,q5⟩:=x7 hr k aE;injection hv with h1 h2 h3
   subst h1 h3;obtain⟨ah,lk,BK⟩:=zD (he rs[k] (List.getElem_mem aE)).hd;rw[BK] at q1;have eS:=zu2 aE;rw[eS,List.length_cons] at hlen;have az:=zC ((zA HF).trans (congrArg (λ l=>yV l ps) eS));have Ch:=List.getElem_mem aE;obtain⟨ab,ku,kN⟩:=zD (he rs[k] Ch).bo;have ny:=(he rs[k] Ch).eq;have o9:=yN (he rs[k] Ch).bo;unfold maxLen at o9;clear hr he hp ht h2 h hl HF;go_wp2_with fail;refine (ztw wr o rs ps _ _ _ _ _ _ _ _ _ _ _ qp (by omega)).mono ?_;rintro e w1 ⟨rfl,U5,Va,kO,aM⟩;have G2:=kO;obtain⟨vg,d0,d1,d2,d3,mW,lK,Xw,cF,sq⟩:=kO;obtain⟨g1,kt,lB,Xe,XG,Yh,Xs,r0,r1,r2,r3,r4,r5⟩:=x7 lK k aE;injection lB with h11 h12 h13
   injection h11 with h11
   injection h11 with h11
   subst h11 h13;rw[kN] at r5;clear lK Xw cF sq h12 c0 c1 c2 c3 fz q0 q1 q2 q3 q4 q5 qp BK
   cases yh:qP ps rs[k].R.head.pred rs[k].R.head.ae.length with
   | false=>
    have aQ:=zC (zlp (zA az) yh);clear az yh;go_wp2_with fail;go_ret;exact⟨by rw[zA aQ];rfl,U5,Va,by rw[zA aQ];exact G2,hb.trans aM⟩
   | true=>
    have aQ:=zC (zj8 (zA az) yh);have QJ:=znm ps rs[k].R.head.pred rs[k].R.head.ae.length;rw[List.length_append] at hlen;clear az yh;go_wp2_with fail
    go_loopg [4,5] rs[k].bs.length (λ gg ok i wx=>∃ (j:Nat) (Dj:P9) (NZ Je:Value),j<=rs[k].bs.length/\gg=rs[k].bs.length-j/\i=.int .i64 j/\ziv wx o rs Dj (.slice (some ⟨g,0,none⟩) rs.length eR) NZ Je sv/\Below o w wx/\Dj.length+((rs[k].bs.map (·.1)).drop j++yR (rs.drop (k+1))).length<=1000/\yV (yR rs) []=yV ((rs[k].bs.map (·.1)).drop j++yR (rs.drop (k+1))) Dj)
    exact⟨0,_,U5,Va,Nat.zero_le _,rfl,rfl,G2,hb.trans aM,by rw[List.drop_zero,<-ny,List.length_append];omega,by rw[List.drop_zero,<-ny];exact zA aQ⟩
    case round=>
     clear aQ G2 d0 d1 d2 d3 mW r0 r1 r2 r3 r4 r5 aM QJ hlen;obtain⟨j,Dj,NZ,Je,hj,dI,rfl,il,aH,BT,Fc⟩:=hrel;have HF:=zC Fc;clear Fc;have G3:=il;obtain⟨sk,c0,c1,c2,c3,fz,mS,IT,iX,qq⟩:=il;obtain⟨g2,n9,Eo,Xf,XH,QP,P3,q0,q1,q2,q3,q4,q5⟩:=x7 mS k aE;injection Eo with h11 h12 h13
     injection h11 with h11
     injection h11 with h11
     subst h11 h13;rw[kN] at q5
     by_cases ig:j<rs[k].bs.length
     ·obtain⟨gb,xr,oe,D5,zt,Ed,D7,p0,p1,p2,p3,p4⟩:=vE (IT rs[k] Ch).bo j ig;rw[kN] at oe;injection oe with hb11 hb12 o7
      subst hb11 o7;obtain⟨bp,oW,km⟩:=zD ((IT rs[k] Ch).bl _ (List.getElem_mem ig));rw[km] at p1;have cX:=zd9 ig;rw[cX,List.cons_append,List.length_cons] at BT;have az:=zC ((zA HF).trans (congrArg (λ l=>yV (l++yR (rs.drop (k+1))) Dj) cX));clear mS IT iX qq h12 hb12 HF;go_wp2_with fail;refine (ztw wr o rs Dj _ _ _ _ _ _ _ _ _ _ _ G3 (by omega)).mono ?_;rintro e w3 ⟨rfl,U6,N1,kP,eG⟩;have LB:=kP;obtain⟨GZ,d0,d1,d2,d3,mW,ni,T1,rH,yl⟩:=kP;obtain⟨g3,DR,YJ,Xg,XI,Yi,Xt,r0,r1,r2,r3,r4,r5⟩:=x7 ni k aE;injection YJ with h31 h32 h33
      injection h31 with h31
      injection h31 with h31
      subst h31 h33;rw[kN] at r5;obtain⟨gc,WJ,UL,Xh,XD,Yj,Xu,s0,s1,s2,s3,s4⟩:=vE (T1 rs[k] Ch).bo j ig;rw[kN] at UL;injection UL with hc11 hc12 hc13
      injection hc11 with hc11
      injection hc11 with hc11
      subst hc11 hc13;clear ni T1 rH yl h32 hc12 c0 c1 c2 c3 fz q0 q1 q2 q3 q4 q5 p0 p1 p2 p3 p4 G3 km
      cases yh:qP Dj rs[k].bs[j].1.pred rs[k].bs[j].1.ae.length with
      | false=>
       have aQ:=zC (zlp (zA az) yh);clear az yh;go_wp2_with fail;go_ret;exact⟨by rw[zA aQ];rfl,U6,N1,by rw[zA aQ];exact LB,aH.trans eG⟩
      | true=>
       have aQ:=zC (zj8 (zA az) yh);have QJ:=znm Dj rs[k].bs[j].1.pred rs[k].bs[j].1.ae.length;clear az yh;go_wp2_with fail;go_roundg (rs[k].bs.length-(j+1));exact⟨j+1,_,U6,N1,by omega,rfl,by go_num,LB,aH.trans eG,by omega,zA aQ⟩;omega
     ·have zw:(rs[k].bs.map (·.1)).drop j=[]:=List.drop_of_length_le (by simp;omega);rw[zw,List.nil_append] at BT;have az:=zC ((zA HF).trans (congrArg (λ l=>yV (l++yR (rs.drop (k+1))) Dj) zw));clear mS IT iX qq h12 HF;go_wp2_with fail;go_roundg (rs.length-(k+1));exact⟨k+1,Dj,NZ,Je,by omega,rfl,by go_num,G3,aH,BT,zA az⟩;omega
  ·have zw:yR (rs.drop k)=[]:=(by rw[List.drop_of_length_le (by omega)];rfl);have hf:yV (yR rs) []=(-1,ps):=(by rw[zA HF,zw];rfl);have az:=zC hf;clear hf HF hr he hp ht;go_wp2_with fail;go_ret;exact⟨by rw[zA az];rfl,sZ,cR,by rw[zA az];exact qp,hb⟩
end
section
open Go.RowKit
def Dq (nm:B8)(t:xK):Bool:=t.isVar&&t.text.toList==nm.toList
def zwu (nm:B8)(A:zL):Bool:=!A.no&&A.ae.any (Dq nm)
def zax (nm:B8)(l:List zL):Bool:=l.any (zwu nm)
theorem zyn:∀ (l:List xK) (k j:Nat) (hk:k<l.length),j<3->(cellsOf l)[k*3+j]?=(l[k].cells)[j]?:=by
 intro l
 induction l with
 | nil=>intro k j hk;simp at hk
 | cons x r ih=>
  intro k j hk hj;have e:cellsOf (x::r)=x.cells++cellsOf r:=by simp[cellsOf]
  have hl:x.cells.length=3:=rfl
  cases k with
  | zero=>rw[e,List.getElem?_append_left (by omega)];simp
  | succ k=>
   rw[e,List.getElem?_append_right (by omega)];have e2:(k+1)*3+j-x.cells.length=k*3+j:=(by omega);rw[e2,ih k j (by simpa using hk) hj];simp
theorem zaa {w:W8}{base:Nat}{tv:Value}{l:List xK}(h:w.ownsRow base 317 3 tv l.length (cellsOf l))(k:Nat)(hk:k<l.length):∃ g cap,tv=.slice (some ⟨g,0,none⟩) l.length cap/\base<=g/\g<w.heap.size/\l.length<=cap/\cap<=maxLen /\
  w.cell? ⟨g,k*3,none⟩=some (.string l[k].text)/\w.cell? ⟨g,k*3+1,none⟩=some (.bool l[k].isVar)/\w.cell? ⟨g,k*3+2,none⟩=some (.int .i64 l[k].at_):=by
 rcases h.2 with⟨_,h0⟩ | ⟨g,cap,cur,rfl,hb,hg,cZ,da,ll,ht⟩
 ·omega
 ·have hl:=(Array.getElem?_eq_some_iff.1 hg).1;have hc:∀ j,j<3->w.cell? ⟨g,k*3+j,none⟩=(l[k].cells)[j]?:=λ j hj=>by
   rw[h.cellAt (k*3+j) (by omega),zyn l k j hk hj]
  exact⟨g,cap,rfl,hb,hl,cZ,da,hc 0 (by omega),hc 1 (by omega),hc 2 (by omega)⟩
structure Ip (w:W8)(base:Nat)(R:zP)(hv:Value)(bs:List (zL × Value))(bv:Value)(wr:W8):Prop where
 aX:j7 wr base R hv bs bv
 box:wr.cell? ⟨w.heap.size,5,none⟩=some bv
 sz:w.heap.size<wr.heap.size
 below:Below w.heap.size w wr
theorem Ip.alloc {w:W8}{base:Nat}{R:zP}{hv:Value}{bs:List (zL × Value)}{bv:Value}{wr:W8}(h:Ip w base R hv bs bv wr)(o:Obj):Ip w base R hv bs bv (wr.alloc o):=
 ⟨h.aX.kept ((zN.refl [] _).alloc _) (by simp),by rw[World.cell?_alloc_past _ _ _ h.sz];exact h.box,by have:=h.sz;simp;omega,h.below.alloc (by have:=h.sz;omega) _⟩
theorem z1e {nm:B8}{bs:List (zL × Value)}{i:Nat}(h:i<bs.length):zax nm ((bs.map (·.1)).drop i)=(zwu nm bs[i].1||zax nm ((bs.map (·.1)).drop (i+1))):=by
 rw[zd9 h];simp[zax]
theorem zi3 {α:Type}{f:α->Bool}{l:List α}{k:Nat}(h:k<l.length):(l.drop k).any f=(f l[k]||(l.drop (k+1)).any f):=by
 rw[List.drop_eq_getElem_cons h,List.any_cons]
theorem z4w (w:W8)(base:Nat)(R:zP)(hv:Value)(bs:List (zL × Value))(bv:Value)(nm:B8)(h:j7 w base R hv bs bv):
  Calls Tryz.prog 227 #[jU R.head hv bv,.string nm] w λ e w'=>e=.returned (.bool (zax nm R.body))/\Below w.heap.size w w':=by
 obtain⟨ab,ku,rfl⟩:=zD h.bo;obtain⟨ah,lk,rfl⟩:=zD h.hd;have o9:=yN h.bo;unfold maxLen at o9;rw[h.eq];unfold jU;have h0:Ip w base R (.slice ah R.head.ae.length lk) bs (.slice ab bs.length ku) (w.alloc (.cells #[.string R.head.pred,.slice ah R.head.ae.length lk,.bool R.head.no,.int .i64 R.head.at_,.int .i64 R.head.ak,.slice ab bs.length ku] 246)):=
  ⟨h.kept ((zN.refl [] _).alloc _) (by simp),by rw[World.cell?_alloc_at _ _ _ _ rfl];rfl,by simp,B9.alloc L9 _⟩
 clear h;go_enter Tryz.func227,Tryz.ntmps227;go_wp2_with fail
 go_loopg [5] bs.length (λ gg i wr=>∃ k:Nat,k<=bs.length/\gg=bs.length-k/\i=.int .i64 k/\Ip w base R (.slice ah R.head.ae.length lk) bs (.slice ab bs.length ku) wr/\zax nm (bs.map (·.1))=zax nm ((bs.map (·.1)).drop k))
 exact⟨0,Nat.zero_le _,rfl,rfl,h0,rfl⟩
 case round=>
  clear h0;obtain⟨i,hi,iZ,rfl,hinv,ax⟩:=hrel;have HF:=zC ax;clear ax;have ed:=hinv.box;have aT:=hinv.sz
  by_cases lI:i<bs.length
  ·have az:=zC ((zA HF).trans (z1e lI));clear HF;obtain⟨g,cap,Rw,oN,bR,cZ,da,q0,q1,q2,q3,q4⟩:=vE hinv.aX.bo i lI;injection Rw with h1 h2 h3
   subst h1 h3;obtain⟨bp,oW,km⟩:=zD (hinv.aX.bl _ (List.getElem_mem lI));have mU:=yN (hinv.aX.bl _ (List.getElem_mem lI));unfold maxLen at mU;rw[km] at q1;go_wp2_with fail
   go_loopg [6] bs[i].1.ae.length (λ gg kk wr=>∃ k:Nat,k<=bs[i].1.ae.length/\gg=bs[i].1.ae.length-k/\kk=.int .i64 k/\Ip w base R (.slice ah R.head.ae.length lk) bs (.slice (some ⟨g,0,none⟩) bs.length ku) wr/\zax nm (bs.map (·.1))=(!bs[i].1.no&&(bs[i].1.ae.drop k).any (Dq nm)||zax nm ((bs.map (·.1)).drop (i+1))))
   exact⟨0,Nat.zero_le _,rfl,rfl,hinv,zA az⟩
   case round=>
    clear az hinv ed q0 q1 q2 q3 q4 bR aT;obtain⟨k,hk,Ln,rfl,hinv,ax⟩:=hrel;have HF:=zC ax;clear ax;have ed:=hinv.box;have aT:=hinv.sz;obtain⟨g',kD,Rw,D4,bR,Aa,BA,q0,q1,q2,q3,q4⟩:=vE hinv.aX.bo i lI;injection Rw with h1 h2 h3
    injection h1 with h1
    injection h1 with h1
    subst h1 h3;rw[km] at q1
    by_cases eU:k<bs[i].1.ae.length
    ·obtain⟨gt,cA,I9,P1,GJ,QQ,P4,p0,p1,p2⟩:=zaa (hinv.aX.bl _ (List.getElem_mem lI)) k eU;rw[km] at I9;injection I9 with h4 h5 h6
     subst h4 h6
     cases aR:bs[i].1.no with
     | true=>
      rw[aR] at q2;have az:=zC (show zax nm (bs.map (·.1))=zax nm ((bs.map (·.1)).drop (i+1)) by rw[zA HF,aR];rfl);clear HF;go_wp2_with fail;go_roundg (bs.length-(i+1));exact⟨i+1,by omega,rfl,by go_num,hinv,zA az⟩;omega
     | false=>
      rw[aR] at q2;have HI:=zC (hinv.alloc (.cells #[.string bs[i].1.ae[k].text,.bool bs[i].1.ae[k].isVar,.int .i64 bs[i].1.ae[k].at_] 317))
      cases hv:Dq nm bs[i].1.ae[k] with
      | true=>
       have az:=zC (show zax nm (bs.map (·.1))=true by rw[zA HF,aR,zi3 eU,hv];rfl);have lB:bs[i].1.ae[k].isVar=true:=(by unfold Dq at hv;simp at hv;exact hv.1);have Eo:(bs[i].1.ae[k].text.toList==nm.toList)=true:=(by unfold Dq at hv;rw[lB] at hv;simpa using hv);clear HF hv;rw[lB] at p1;go_wp2_with fail;go_ret;exact⟨by rw[zA az];rfl,by have:=(zA HI).below;rw[lB] at this;exact this⟩
      | false=>
       have az:=zC (show zax nm (bs.map (·.1))=(!bs[i].1.no&&(bs[i].1.ae.drop (k+1)).any (Dq nm)||zax nm ((bs.map (·.1)).drop (i+1))) by rw[zA HF,zi3 eU,hv,Bool.false_or]);clear HF
       cases lB:bs[i].1.ae[k].isVar with
       | false=>
        clear hv;rw[lB] at p1 HI;go_wp2_with fail;go_roundg (bs[i].1.ae.length-(k+1));exact⟨k+1,by omega,rfl,by go_num,zA HI,zA az⟩;omega
       | true=>
        have Eo:(bs[i].1.ae[k].text.toList==nm.toList)=false:=(by unfold Dq at hv;rw[lB] at hv;simpa using hv);clear hv;rw[lB] at p1 HI;go_wp2_with fail;go_roundg (bs[i].1.ae.length-(k+1));exact⟨k+1,by omega,rfl,by go_num,zA HI,zA az⟩;omega
    ·have az:=zC (show zax nm (bs.map (·.1))=zax nm ((bs.map (·.1)).drop (i+1)) by rw[zA HF,List.drop_of_length_le (by omega)];simp);clear HF;go_wp2_with fail;go_roundg (bs.length-(i+1));exact⟨i+1,by omega,rfl,by go_num,hinv,zA az⟩;omega
  ·have az:=zC (show zax nm (bs.map (·.1))=false by rw[zA HF,List.drop_of_length_le (by simp;omega)];rfl);clear HF;go_wp2_with fail;go_ret;exact⟨by rw[zA az];rfl,hinv.below⟩
end
section
open Go.RowKit
def zcd (b:List zL):Nat:=(b.filter λ A=>!A.no).length
theorem zp8 {b:List zL}{k:Nat}(h:k<b.length):zcd (b.take (k+1))=zcd (b.take k)+if b[k].no then 0 else 1:=by
 unfold zcd;rw[List.take_succ_eq_append_getElem h,List.filter_append,List.length_append]
 congr 1
 cases hb:b[k].no <;> simp[hb]
theorem zsa (b:List zL):zcd b<=b.length:=List.length_filter_le _ _
theorem z4u (w:W8)(base:Nat)(R:zP)(hv:Value)(bs:List (zL × Value))(bv:Value)(h:j7 w base R hv bs bv)(hl:bs.length<=1000):
  Calls Tryz.prog 228 #[jU R.head hv bv] w λ e w'=>e=.returned (.int .i64 (zcd R.body:Nat))/\Below w.heap.size w w':=by
 obtain⟨ab,ku,rfl⟩:=zD h.bo;obtain⟨ah,lk,rfl⟩:=zD h.hd;rw[h.eq];unfold jU;have Tm:Ip w base R (.slice ah R.head.ae.length lk) bs (.slice ab bs.length ku) (w.alloc (.cells #[.string R.head.pred,.slice ah R.head.ae.length lk,.bool R.head.no,.int .i64 R.head.at_,.int .i64 R.head.ak,.slice ab bs.length ku] 246)):=⟨h.kept ((zN.refl [] _).alloc _) (by simp),by rw[World.cell?_alloc_at _ _ _ _ rfl];rfl,by simp,B9.alloc L9 _⟩;have MQ:=zC Tm;clear h Tm;go_enter Tryz.func228,Tryz.ntmps228;go_wp2_with fail;generalize (w.alloc (.cells #[.string R.head.pred,.slice ah R.head.ae.length lk,.bool R.head.no,.int .i64 R.head.at_,.int .i64 R.head.ak,.slice ab bs.length ku] 246))=w0 at *
 go_loopg [3,4] bs.length (λ gg n i wr=>∃ k m:Nat,k<=bs.length/\gg=bs.length-k/\m=zcd ((bs.map (·.1)).take k)/\n=.int .i64 m/\i=.int .i64 k/\wr=w0)
 exact⟨0,0,Nat.zero_le _,rfl,rfl,rfl,rfl,rfl⟩
 case round=>
  obtain⟨k,m,hk,iZ,hm,rfl,rfl,rfl⟩:=hrel;have hI:=zA MQ;have cW:=hI.box;have Ya:m<=bs.length:=by rw[hm];exact Nat.le_trans (zsa _) (by rw[List.length_take,List.length_map];omega)
  by_cases aE:k<bs.length
  ·obtain⟨g,cap,hv,-,bR,cZ,da,c0,c1,c2,c3,c4⟩:=vE hI.aX.bo k aE;injection hv with e1 e2 e3
   subst e1 e3;have aP:zcd ((bs.map (·.1)).take (k+1))=m+if bs[k].1.no then 0 else 1:=by
    rw[zp8 (by rw[List.length_map];exact aE),<-hm,List.getElem_map]
   have eN:=zC aP;clear aP hI hm
   cases aR:bs[k].1.no with
   | true=>
    rw[aR] at c2;have HN:=zC aR;clear aR;go_wp2_with fail;go_roundg (bs.length-(k+1));exact⟨k+1,m,by omega,rfl,by rw[zA eN,if_pos (zA HN)];rfl,rfl,by go_num,rfl⟩;omega
   | false=>
    rw[aR] at c2;have HN:=zC aR;clear aR;go_wp2_with fail;go_roundg (bs.length-(k+1));exact⟨k+1,m+1,by omega,rfl,by rw[zA eN,if_neg (by rw[zA HN];simp)],by go_num,by go_num,rfl⟩;omega
  ·have Lu:k=bs.length:=(by omega);subst Lu;have HM:=zC (show m=zcd (bs.map (·.1)) by rw[hm,List.take_of_length_le (by rw[List.length_map];exact Nat.le_refl _)]);have HB:=zC hI.below;clear hI hm;go_wp2_with fail;go_ret;exact⟨by rw[<-zA HM];rfl,zA HB⟩
end
end Go.Proofs.YtldkpahaocjdpaaGreat
