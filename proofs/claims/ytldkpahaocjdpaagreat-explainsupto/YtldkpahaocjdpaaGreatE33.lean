/-
  The reference's of: an atom with what its variables are; its find: the place of a text.
-/
import Derived.Test.YtldkpahaocjdpaaGreatE31
set_option maxHeartbeats 16000000
set_option maxRecDepth 1000000
namespace Go.Proofs.YtldkpahaocjdpaaGreat
section
open Go.RowKit
theorem zze (w:W8)(base:Nat)(E:Env)(A T:zL)(an fy aa ba:O8)(cn ct ca cb:Nat)(he:om w base E (.slice an E.length cn) (.slice fy E.length ct))(hA:w.ownsRow base 317 3 (.slice aa A.ae.length ca) A.ae.length (cellsOf A.ae))(hT:w.ownsRow base 317 3 (.slice ba T.ae.length cb) T.ae.length (cellsOf T.ae))(qo:E.length+A.ae.length<=1000):
  Calls Tryz.prog 139 #[.agg #[.slice an E.length cn,.slice fy E.length ct],.agg #[.string A.pred,.slice aa A.ae.length ca,.bool A.no,.int .i64 A.at_,.int .i64 A.az],.agg #[.string T.pred,.slice ba T.ae.length cb,.bool T.no,.int .i64 T.at_,.int .i64 T.az]] w (zkr w (.slice an E.length cn) (.slice fy E.length ct) (qA E A T)):=by
 cases h:A.pred.toList==T.pred.toList&&A.ae.length==T.ae.length with
 | false=>
  have e:qA E A T=none:=by unfold qA;rw[h];rfl
  rw[e];refine (z7h w A T an fy aa ba E.length cn ct ca cb h).mono ?_;rintro e w' ⟨hb,rfl⟩;exact⟨hb,λ _=>rfl,λ _ h=>by cases h⟩
 | true=>
  have e:qA E A T=jB E A.ae T.ae:=by unfold qA;rw[h];rfl
  rw[e];simp only[Bool.and_eq_true,beq_iff_eq] at h;exact z3k w base E A T an fy aa ba cn ct ca cb he hA hT qo (beq_iff_eq.2 h.1) h.2
structure rU (w:W8)(A:zL)(nv tv av:Value)(l:List xD)(v:Value)(wr:W8):Prop where
 below:Below w.heap.size w wr
 b0:wr.heap[w.heap.size]?=some (.cells #[nv,tv] 258 (0,0))
 b1:wr.heap[w.heap.size+1]?=some (.cells #[.string A.pred,av,.bool A.no,.int .i64 A.at_,.int .i64 A.az] 243 (0,0))
 b2:wr.heap[w.heap.size+1+1]?=some (.cells #[.string { data:=#[] },.slice none 0 0,.bool false,.int .i64 0,.int .i64 0] 243 (0,0))
 b3:wr.heap[w.heap.size+1+1+1]?=some (.cells #[.string A.pred,v,.bool false,.int .i64 0,.int .i64 0] 243 (0,0))
 row:wr.ownsRow (w.heap.size+4) 317 3 v l.length (cellsOf l)
variable {wr w:W8} {v nv tv av:Value} {l:List xD} {A:zL}
theorem rU.lt (h:rU w A nv tv av l v wr):w.heap.size+4<=wr.heap.size:=(Array.getElem?_eq_some_iff.1 h.b3).1
theorem rU.dQ {w':W8}(h:rU w A nv tv av l v wr)(k:Below wr.heap.size wr w'):rU w A nv tv av l v w':=by
 have hl:=h.lt;exact⟨h.below.trans (k.mono (by omega)),(k.block _ (by omega)).trans h.b0,(k.block _ (by omega)).trans h.b1,(k.block _ (by omega)).trans h.b2,(k.block _ (by omega)).trans h.b3,zJ h.row k (λ g e=>(h.row.lt g e).2)⟩
theorem rU.start (w:W8)(A:zL)(nv tv av:Value):rU w A nv tv av [] (.slice none 0 0)
  ((((w.alloc (.cells #[nv,tv] 258)).alloc (.cells #[.string A.pred,av,.bool A.no,.int .i64 A.at_,.int .i64 A.az] 243)).alloc (.cells #[.string { data:=#[] },.slice none 0 0,.bool false,.int .i64 0,.int .i64 0] 243)).alloc (.cells #[.string A.pred,.slice none 0 0,.bool false,.int .i64 0,.int .i64 0] 243)):=by
 refine⟨(((((Below.refl _ w).alloc L9 _).alloc (by simp) _).alloc (by simp;omega) _).alloc (by simp;omega) _),?_,?_,?_,?_,World.ownsRow_nil _ _ _ _⟩
 ·rw[Below.heap_alloc _ _ _ (by simp <;> omega),Below.heap_alloc _ _ _ (by simp <;> omega),Below.heap_alloc _ _ _ (by simp)];exact heap_alloc_new w _
 ·rw[Below.heap_alloc _ _ _ (by simp <;> omega),Below.heap_alloc _ _ _ (by simp)];have:=heap_alloc_new (w.alloc (.cells #[nv,tv] 258)) (.cells #[.string A.pred,av,.bool A.no,.int .i64 A.at_,.int .i64 A.az] 243);simpa using this
 ·rw[Below.heap_alloc _ _ _ (by simp)];have:=heap_alloc_new ((w.alloc (.cells #[nv,tv] 258)).alloc (.cells #[.string A.pred,av,.bool A.no,.int .i64 A.at_,.int .i64 A.az] 243)) (.cells #[.string { data:=#[] },.slice none 0 0,.bool false,.int .i64 0,.int .i64 0] 243);simpa using this
 ·have:=heap_alloc_new (((w.alloc (.cells #[nv,tv] 258)).alloc (.cells #[.string A.pred,av,.bool A.no,.int .i64 A.at_,.int .i64 A.az] 243)).alloc (.cells #[.string { data:=#[] },.slice none 0 0,.bool false,.int .i64 0,.int .i64 0] 243)) (.cells #[.string A.pred,.slice none 0 0,.bool false,.int .i64 0,.int .i64 0] 243);simpa using this
theorem rU.add {W w5:W8}(h:rU w A nv tv av l v wr)(hW:zK [] wr W)(hg:W.grownBy w5 v.ownBlock){v':Value}{t:xD}
  (ay:w5.ownsRow (w.heap.size+4) 317 3 v' (l.length+1) (cellsOf l++t.cells)):
  rU w A nv tv av (l++[t]) v' (w5.setCell ⟨w.heap.size+1+1+1,1,none⟩ v')/\w5.heap[w.heap.size+1+1+1]?=some (.cells #[.string A.pred,v,.bool false,.int .i64 0,.int .i64 0] 243 (0,0)):=by
 have hl:=h.lt;have hz:=hW.size;have k5:zK v.ownBlock.toList wr w5:=(hW.mono (by simp)).trans (zK.aR hg);have eI:∀ b,b<w.heap.size+4->b∉v.ownBlock.toList:=λ b hb hm=>by have:=(h.row.lt b (by simpa using hm)).1;omega
 have bp:∀ b,b<w.heap.size+4->w5.heap[b]?=wr.heap[b]?:=λ b hb=>k5.block b (by omega) (eI b hb)
 have kS:∀ b,b≠w.heap.size+1+1+1->(w5.setCell ⟨w.heap.size+1+1+1,1,none⟩ v').heap[b]?=w5.heap[b]?:=λ b hb=>Below.heap_setCell _ _ _ _ (by simpa using hb)
 have SL:=(bp (w.heap.size+1+1+1) (by omega)).trans h.b3;have s5:=k5.size;refine⟨⟨?_,?_,?_,?_,?_,?_⟩,SL⟩
 ·refine⟨k5.os.trans h.below.os,k5.tape.trans h.below.tape,k5.output.trans h.below.output,by simp;omega,λ b hb=>?_⟩;rw[kS b (by omega),bp b (by omega)];exact h.below.block b hb
 ·rw[kS _ (by omega),bp _ (by omega)];exact h.b0
 ·rw[kS _ (by omega),bp _ (by omega)];exact h.b1
 ·rw[kS _ (by omega),bp _ (by omega)];exact h.b2
 ·rw[heap_setCell_same _ _ _ _ _ _ SL];rfl
 ·rw[zjn,List.length_append];exact ownsRow_setCell_below ay (by simp) _
theorem rU.fin (h:rU w A nv tv av l v wr)(u0 u1 u2 u3 u4:Value):Below w.heap.size w (((((wr.setCell ⟨w.heap.size+1+1,0,none⟩ u0).setCell ⟨w.heap.size+1+1,1,none⟩ u1).setCell ⟨w.heap.size+1+1,2,none⟩ u2).setCell ⟨w.heap.size+1+1,3,none⟩ u3).setCell ⟨w.heap.size+1+1,4,none⟩ u4)/\(((((wr.setCell ⟨w.heap.size+1+1,0,none⟩ u0).setCell ⟨w.heap.size+1+1,1,none⟩ u1).setCell ⟨w.heap.size+1+1,2,none⟩ u2).setCell ⟨w.heap.size+1+1,3,none⟩ u3).setCell ⟨w.heap.size+1+1,4,none⟩ u4).ownsRow w.heap.size 317 3 v l.length (cellsOf l):=
 ⟨((((h.below.setCell (by simp;omega) _).setCell (by simp;omega) _).setCell (by simp;omega) _).setCell (by simp;omega) _).setCell (by simp;omega) _,zG (ownsRow_setCell_below (ownsRow_setCell_below (ownsRow_setCell_below (ownsRow_setCell_below (ownsRow_setCell_below h.row (by simp) _) (by simp) _) (by simp) _) (by simp) _) (by simp) _) (by omega)⟩
def z0n (w:W8)(E:Env)(A:zL):Ending->W8->Prop:=λ e w'=>∃ v,e=.returned (.agg #[.string A.pred,v,.bool false,.int .i64 0,.int .i64 0])/\w'.ownsRow w.heap.size 317 3 v (fa E A).ae.length (cellsOf (fa E A).ae)/\Below w.heap.size w w'
theorem ycd {E:Env}{k:Nat}(h:k<l.length):(l.take (k+1)).map (ofT E)=(l.take k).map (ofT E)++[ofT E l[k]]:=by
 rw[List.take_succ_eq_append_getElem h,List.map_append];rfl
theorem z4u (w:W8)(base:Nat)(E:Env)(A:zL)(an fy aa:O8)(cn ct ca:Nat)(he:om w base E (.slice an E.length cn) (.slice fy E.length ct))(hA:w.ownsRow base 317 3 (.slice aa A.ae.length ca) A.ae.length (cellsOf A.ae))(qo:A.ae.length<=1000):
  Calls Tryz.prog 192 #[.agg #[.slice an E.length cn,.slice fy E.length ct],.agg #[.string A.pred,.slice aa A.ae.length ca,.bool A.no,.int .i64 A.at_,.int .i64 A.az]] w (z0n w E A):=by
 obtain⟨i0,hi,bL,aY,bg⟩:=info_parts zph;have H0:=zC (rU.start w A (.slice an E.length cn) (.slice fy E.length ct) (.slice aa A.ae.length ca));have HE:=zC he;have HA:=zC hA;clear he hA;go_enter Tryz.func192,Tryz.ntmps192;go_wp2_with fail
 go_loopg [6] A.ae.length (λ gg i wr=>∃ (k:Nat) (v:Value),k<=A.ae.length/\gg=A.ae.length-k/\i=.int .i64 k/\rU w A (.slice an E.length cn) (.slice fy E.length ct) (.slice aa A.ae.length ca) ((A.ae.take k).map (ofT E)) v wr)
 exact⟨0,_,Nat.zero_le _,rfl,rfl,zA H0⟩
 case round=>
  clear H0;obtain⟨k,v,hk,eD,rfl,hm⟩:=hrel;have nG:((A.ae.take k).map (ofT E)).length=k:=by simp;omega
  obtain⟨a1,c1,hv⟩:=zD hm.row;rw[nG] at hv;subst hv;obtain⟨p1,xx⟩:=zB hm.b1 1;have HM:=zC hm;have wS:=zC nG;clear hm xx nG
  by_cases aF:k<A.ae.length
  ·have nu:(k:Int)<A.ae.length:=(by omega);go_wp2_with fail;refine zc0 6 z3q (by kernel_rfl) λ W hW=>?_
   simp only[List.take_succ_cons,List.take_zero,List.drop_succ_cons,List.drop_zero];have lf:Hid (rU w A (.slice an E.length cn) (.slice fy E.length ct) (.slice aa A.ae.length ca) ((A.ae.take k).map (ofT E)) (.slice a1 k c1) W):=(by rw[hW];exact (zA HM).dQ B9.drew);clear hW HM p1;obtain⟨p1,xx⟩:=zB (zA lf).b1 1;obtain⟨q0,Bb⟩:=zB (zA lf).b0 0;obtain⟨q1,Bc⟩:=zB (zA lf).b0 1;obtain⟨ga,MQ,im,-,-,bO,bQ,d0,d1,d2⟩:=zat (zJ (zA HA) (zA lf).below (λ g e=>((zA HA).lt g e).2)) k aF;injection im with i1 i2 i3
   subst i1 i3;clear xx Bb Bc
   repeat still_step
   refine wpStill_nil ?_;clear p1 q0 q1;go_wp2_with fail;refine (zom W base E an fy cn ct ((zA HE).below (zA lf).below) A.ae[k].text A.ae[k].isVar A.ae[k].at_).mono ?_;rintro e w1 ⟨rfl,aL⟩;have iu:=zC ((zA lf).dQ aL);clear lf aL d0 d1 d2;obtain⟨x,hx⟩:∃ x,oh E A.ae[k]=x:=⟨_,rfl⟩;have Cb:oh E ⟨A.ae[k].text,A.ae[k].isVar,A.ae[k].at_⟩=x:=hx;rw[Cb];have HT:=zC (show (A.ae.take (k+1)).map (ofT E)=(A.ae.take k).map (ofT E)++[⟨x,false,0⟩] by rw[ycd aF,ofT,hx]);clear Cb hx;obtain⟨r1,GM⟩:=zB (zA iu).b3 1;have sR:=(zA iu).lt;have aB:=(zA iu).row;rw[zA wS] at aB;have dO:=zC (λ (w5:W8) (v':Value) hg ay=>rU.add (w5:=w5) (v':=v') (W:=w1.alloc (.cells #[.string x,.bool false,.int .i64 0] 317)) (t:=⟨x,false,0⟩) (zA iu) ((zK.refl [] _).alloc _) hg ay);rw[zA wS] at dO;have bX:=zC (World.news_of_block (heap_alloc_new w1 (.cells #[.string x,.bool false,.int .i64 0] 317)));have HR:=zC (aB.alloc (.cells #[.string x,.bool false,.int .i64 0] 317));clear aB;go_wp2_with (at_builtin;go_must (refine wpList_append_lies _ rfl _ _ _ rfl (w.heap.size+4) 317 i0 (.agg #[.string { data:=#[] },.bool false,.int .i64 0]) 3 32 Tryz.underlying241 hi bL aY bg rfl (by decide) (.slice a1 k c1) k _ rfl (zA HR) ⟨w1.heap.size,0,none⟩ 1 1 [.string x,.bool false,.int .i64 0] rfl rfl (zA bX) (by simp[Value.oneCell']) (by decide) (by unfold maxLen;omega) (by omega) (by simp;omega) _ rfl ?_;intro g cap w5 aq aU bW hlt5;obtain⟨e1,e2⟩:=zA dO w5 _ aU aq;obtain⟨z0,na⟩:=zB e2 1));go_roundg (A.ae.length-(k+1));exact⟨k+1,_,by omega,rfl,by go_num,by rw[zA HT];exact e1⟩;omega
  ·have lz:k=A.ae.length:=(by omega);have HK:=zC lz;clear lz;obtain⟨t0,Rw⟩:=zB (zA HM).b2 0;obtain⟨t1,Rx⟩:=zB (zA HM).b2 1;obtain⟨t2,tf2⟩:=zB (zA HM).b2 2;obtain⟨t3,tf3⟩:=zB (zA HM).b2 3;obtain⟨t4,tf4⟩:=zB (zA HM).b2 4;obtain⟨o0,L4⟩:=zB (zA HM).b3 0;obtain⟨o1,L5⟩:=zB (zA HM).b3 1;obtain⟨o2,Rm⟩:=zB (zA HM).b3 2;obtain⟨o3,Rn⟩:=zB (zA HM).b3 3;obtain⟨o4,Zg⟩:=zB (zA HM).b3 4;clear L4 L5 Rm Rn Zg;go_wp2_with fail;refine bodyPost_ret (v:=.agg #[.string A.pred,.slice a1 k c1,.bool false,.int .i64 0,.int .i64 0]) (by simp[results,Tryz.results192,go_sem,t0,t1,t2,t3,t4]) rfl ⟨_,rfl,?_,((zA HM).fin _ _ _ _ _).1⟩;have:=((zA HM).fin (.string A.pred) (.slice a1 k c1) (.bool false) (.int .i64 0) (.int .i64 0)).2;rw[zA HK,List.take_length] at this;rw[zA HK];exact this
end
section
open Go.RowKit
structure zP where
 aj:zL
 text:B8
 s:Nat
 h:Nat
 r:Nat
 fr:List Nat
structure FG where
 F:zP
 tv:Value
 fv:Value
def FG.cells (f:FG):V8:=[.string f.F.aj.pred,f.tv,.bool f.F.aj.no,.int .i64 f.F.aj.at_,.int .i64 f.F.aj.az,.string f.F.text,.int .i64 f.F.s,.int .i64 f.F.h,.int .i64 f.F.r,f.fv]
def zym (l:List Nat):V8:=l.map λ (x:Nat)=>.int .i64 x
structure qZ (w:W8)(base:Nat)(f:FG):Prop where
 t:w.ownsRow base 317 3 f.tv f.F.aj.ae.length (cellsOf f.F.aj.ae)
 i:w.ownsRow base 3 1 f.fv f.F.fr.length (zym f.F.fr)
structure yZ (w:W8)(base:Nat)(v:Value)(fs:List FG):Prop where
 row:w.ownsRow base 262 10 v fs.length (fs.flatMap FG.cells)
 each:∀ f∈fs,qZ w base f
variable {f:FG} {base:Nat} {w w':W8}
theorem qZ.below (h:qZ w base f)(k:Below w.heap.size w w'):qZ w' base f:=⟨zJ h.t k (λ g e=>(h.t.lt g e).2),zJ h.i k (λ g e=>(h.i.lt g e).2)⟩
variable {fs:List FG} {v:Value}
theorem yZ.below (h:yZ w base v fs)(k:Below w.heap.size w w'):yZ w' base v fs:=⟨zJ h.row k (λ g e=>(h.row.lt g e).2),λ f hf=>(h.each f hf).below k⟩
theorem qZ.low {base':Nat}(h:qZ w base f)(hb:base'<=base):qZ w base' f:=⟨zG h.t hb,zG h.i hb⟩
variable {k:Nat}
theorem zb1 (h:w.ownsRow base 262 10 v fs.length (fs.flatMap FG.cells))(hk:k<fs.length):∃ g cap,v=.slice (some ⟨g,0,none⟩) fs.length cap/\base<=g/\g<w.heap.size/\fs.length<=cap/\cap<=maxLen/\∀ j,j<10->w.cell? ⟨g,k*10+j,none⟩=(fs[k].cells)[j]?:=
 vX (f:=FG.cells) (λ _=>rfl) h k hk
def za1 (t:B8):List zP->Nat->Int
 | [],_=>-1
 | x::r,k=>if x.text.toList==t.toList then k else za1 t r (k+1)
def jE (l:List zP)(t:B8):Int:=za1 t l 0
theorem z2c {t:B8}{l:List zP}(h:k<l.length):za1 t (l.drop k) k=if l[k].text.toList==t.toList then (k:Int) else za1 t (l.drop (k+1)) (k+1):=by
 rw[List.drop_eq_getElem_cons h];rfl
theorem zkg (w:W8)(base:Nat)(a:O8)(c:Nat)(fs:List FG)(t:B8)(h:w.ownsRow base 262 10 (.slice a fs.length c) fs.length (fs.flatMap FG.cells)):
  Calls Tryz.prog 133 #[.slice a fs.length c,.string t] w λ e w'=>e=.returned (.int .i64 (jE (fs.map (·.F)) t))/\w'=w:=by
 have gR:=yU h;unfold maxLen at gR;have HH:=zC h;clear h;go_enter Tryz.func133,Tryz.ntmps133;go_wp2_with fail
 go_loop [5] (λ i=>∃ k:Nat,k<=fs.length/\i=.int .i64 k/\za1 t ((fs.map (·.F)).drop k) k=jE (fs.map (·.F)) t) (λ i=>fs.length-(intOf i).toNat)
 exact⟨0,Nat.zero_le _,rfl,rfl⟩
 case round=>
  obtain⟨k,hk,rfl,np⟩:=hrel;have HX:=zC np;clear np
  by_cases aF:k<fs.length
  ·obtain⟨g,cap,hv,-,aZ,bO,bQ,hc⟩:=zb1 (zA HH) aF;injection hv with h1 h2 h3
   subst h1 h3;have p5:=hc 5 (by decide);have HS:=zC (z2c (t:=t) (l:=fs.map (·.F)) (k:=k) (by simpa using aF));simp only[FG.cells,List.getElem?_cons_succ,List.getElem?_cons_zero] at p5;clear hc;rw[List.getElem_map] at HS
   cases hq:fs[k].F.text.toList==t.toList with
   | true=>
    go_wp2_with fail;go_ret;exact⟨by rw[<-zA HX,zA HS,if_pos hq];rfl,rfl⟩
   | false=>
    go_wp2_with fail
    go_round
    case rel=>exact⟨k+1,by omega,by go_num,by rw[<-zA HX,zA HS,if_neg (by rw[hq];decide)]⟩
    case measure=>simp[intOf];omega
  ·go_wp2_with fail;go_ret;exact⟨by rw[<-zA HX,List.drop_of_length_le (by simp;omega)];rfl,rfl⟩
def jD (a b:zP):Bool:=if a.s != b.s then decide (a.s<b.s) else if a.h != b.h then decide (a.h<b.h) else zaf a.text b.text
theorem z03 (w:W8)(A B:zP)(a1 a2 b1 b2:O8)(n1 n2 m1 m2 c1 c2 d1 d2:Nat):
  Calls Tryz.prog 231 #[.agg #[.string A.aj.pred,.slice a1 n1 c1,.bool A.aj.no,.int .i64 A.aj.at_,.int .i64 A.aj.az,.string A.text,.int .i64 A.s,.int .i64 A.h,.int .i64 A.r,.slice a2 n2 c2],.agg #[.string B.aj.pred,.slice b1 m1 d1,.bool B.aj.no,.int .i64 B.aj.at_,.int .i64 B.aj.az,.string B.text,.int .i64 B.s,.int .i64 B.h,.int .i64 B.r,.slice b2 m2 d2]] w λ e w'=>e=.returned (.bool (jD A B))/\Below w.heap.size w w':=by
 have b0:=((Below.refl w.heap.size w).alloc L9 (.cells #[.string A.aj.pred,.slice a1 n1 c1,.bool A.aj.no,.int .i64 A.aj.at_,.int .i64 A.aj.az,.string A.text,.int .i64 A.s,.int .i64 A.h,.int .i64 A.r,.slice a2 n2 c2] 262)).alloc (by simp) (.cells #[.string B.aj.pred,.slice b1 m1 d1,.bool B.aj.no,.int .i64 B.aj.at_,.int .i64 B.aj.az,.string B.text,.int .i64 B.s,.int .i64 B.h,.int .i64 B.r,.slice b2 m2 d2] 262)
 cases h1:((A.s:Int) != (B.s:Int)) with
 | true=>
  have hs:(A.s != B.s)=true:=by simp at h1 ⊢;omega
  have HE:=zC (show jD A B=decide ((A.s:Int)<(B.s:Int)) by unfold jD;rw[if_pos hs];simp);clear hs;go_enter Tryz.func231,Tryz.ntmps231;go_wp2_with fail
  all_goals
   go_ret;exact⟨by rw[zA HE];first | rfl | simp[*],b0⟩
 | false=>
  have hs:(A.s != B.s)=false:=by simp at h1 ⊢;omega
  cases h2:((A.h:Int) != (B.h:Int)) with
  | true=>
   have hh:(A.h != B.h)=true:=(by simp at h2 ⊢;omega);have HE:=zC (show jD A B=decide ((A.h:Int)<(B.h:Int)) by unfold jD;rw[if_neg (by rw[hs];decide),if_pos hh];simp);clear hs hh;go_enter Tryz.func231,Tryz.ntmps231;go_wp2_with fail
   all_goals
    go_ret;exact⟨by rw[zA HE];first | rfl | simp[*],b0⟩
  | false=>
   have hh:(A.h != B.h)=false:=(by simp at h2 ⊢;omega);have HE:=zC (show jD A B=zaf A.text B.text by unfold jD;rw[if_neg (by rw[hs];decide),if_neg (by rw[hh];decide)]);clear hs hh;go_enter Tryz.func231,Tryz.ntmps231;go_wp2_with fail
   all_goals
    go_ret;exact⟨by rw[zA HE];rfl,b0⟩
end
section
open Go.RowKit
abbrev Way:=Env × List Nat
def zht (a:zL)(x:Way):List zP->Nat->List Way
 | [],_=>[]
 | f::r,i=>(match qA x.1 a f.aj with | some e=>[(e,x.2++[i])] | none=>[])++zht a x r (i+1)
def zgl (a:zL)(l:List zP)(now:List Way):List Way:=now.flatMap λ x=>zht a x l 0
def ziq (l:List zP):List zL->List Way->List Way
 | [],now=>now
 | a::r,now=>ziq l r (if a.no then now else zgl a l now)
def xP (A:zL):B8:=⟨(jH A).toArray⟩
def ztj (l:List zP)(e:Env)(a:zL):Bool:=!a.no||decide (jE l (xP (fa e a))<0)
def ze4 (R:zS)(l:List zP):List Way:=(ziq l R.body [([],[])]).filter λ x=>R.body.all (ztj l x.1)
variable {k:Nat} {l:List zP}
theorem z5s {a:zL}{x:Way}(h:k<l.length):zht a x (l.drop k) k=(match qA x.1 a l[k].aj with | some e=>[(e,x.2++[k])] | none=>[])++zht a x (l.drop (k+1)) (k+1):=by
 rw[List.drop_eq_getElem_cons h];rfl
variable {now:List Way}
theorem z5v {b:List zL}(h:k<b.length):ziq l (b.drop k) now=ziq l (b.drop (k+1)) (if b[k].no then now else zgl b[k] l now):=by
 rw[List.drop_eq_getElem_cons h];rfl
theorem z5t {a:zL}{i:Nat}(h:i<now.length):zgl a l (now.drop i)=zht a now[i] l 0++zgl a l (now.drop (i+1)):=by
 unfold zgl;rw[List.drop_eq_getElem_cons h,List.flatMap_cons]
theorem zxm (a:zL)(x:Way):∀ (l:List zP) (i:Nat),(zht a x l i).length<=l.length
 | [],_=>Nat.le_refl _
 | f::r,i=>by
  rw[zht,List.length_append,List.length_cons];have:=zxm a x r (i+1)
  split <;> simp <;> omega
theorem zxn (a:zL)(l:List zP):∀ now:List Way,(zgl a l now).length<=now.length*l.length
 | []=>by simp[zgl]
 | x::r=>by
  have h1:=zxm a x l 0;have h2:=zxn a l r;have e:zgl a l (x::r)=zht a x l 0++zgl a l r:=by simp[zgl]
  rw[e,List.length_append,List.length_cons,Nat.succ_mul];omega
theorem zhf:∀ (ts us:List xD) (e e':Env),jB e ts us=some e'->e'.length<=e.length+ts.length
 | [],us,e,e',h=>by cases us <;> (rw[jB] at h <;> first | (cases h;simp) | simp_all)
 | t::ts,[],e,e',h=>by rw[jB] at h <;> first | (cases h;simp) | simp_all
 | t::ts,u::us,e,e',h=>by
  rw[jB] at h
  split at h
  ·have:=zhf ts us _ _ h;simp at this ⊢;omega
  ·split at h
   ·have:=zhf ts us _ _ h;simp;omega
   ·cases h
theorem zn9 {e e':Env}{a t:zL}(h:qA e a t=some e'):e'.length<=e.length+a.ae.length:=by
 unfold qA at h
 split at h
 ·exact zhf _ _ _ _ h
 ·cases h
structure WG where
 e:Env
 fr:List Nat
 nv:Value
 tv:Value
 fv:Value
def WG.W (x:WG):Way:=(x.e,x.fr)
def WG.cells (x:WG):V8:=[x.nv,x.tv,x.fv]
structure wN (w:W8)(base:Nat)(x:WG):Prop where
 env:om w base x.e x.nv x.tv
 fr:w.ownsRow base 3 1 x.fv x.fr.length (zym x.fr)
 nil:x.fr=[]->x.fv=.slice none 0 0
structure rN (w:W8)(base:Nat)(v:Value)(ws:List WG):Prop where
 row:w.ownsRow base 325 3 v ws.length (ws.flatMap WG.cells)
 each:∀ x∈ws,wN w base x
variable {base:Nat} {w w':W8}
theorem wN.below {x:WG}(h:wN w base x)(k:Below w.heap.size w w'):wN w' base x:=⟨h.env.below k,zJ h.fr k (λ g e=>(h.fr.lt g e).2),h.nil⟩
variable {ws:List WG} {v:Value}
theorem rN.below (h:rN w base v ws)(k:Below w.heap.size w w'):rN w' base v ws:=⟨zJ h.row k (λ g e=>(h.row.lt g e).2),λ x hx=>(h.each x hx).below k⟩
theorem wN.low {base':Nat}{x:WG}(h:wN w base x)(hb:base'<=base):wN w base' x:=⟨⟨zG h.env.ns hb,zG h.env.ts hb,h.env.nil⟩,zG h.fr hb,h.nil⟩
theorem wN.bu {B:List Nat}{x:WG}(h:wN w base x)(k:zK B w w')(h1:∀ b∈B,dW w 9 b)(h2:∀ b∈B,dW w 3 b):wN w' base x:=
 ⟨⟨xF h.env.ns k (λ b hb=>.inr (h1 b hb)),xF h.env.ts k (λ b hb=>.inr (h1 b hb)),h.env.nil⟩,xF h.fr k (λ b hb=>.inr (h2 b hb)),h.nil⟩
variable {wX w5:W8}
theorem rN.add {W:W8}{v':Value}{x:WG}(h:rN wX base v ws)(hx:wN wX base x)(hW:zK [] wX W)(hg:W.grownBy w5 v.ownBlock)(ay:w5.ownsRow base 325 3 v' (ws.length+1) (ws.flatMap WG.cells++x.cells)):rN w5 base v' (ws++[x]):=by
 have k5:zK v.ownBlock.toList wX w5:=(hW.mono (by simp)).trans (zK.aR hg);have n1:∀ b∈v.ownBlock.toList,dW wX 9 b:=yH h.row (by decide);have n2:∀ b∈v.ownBlock.toList,dW wX 3 b:=yH h.row (by decide);refine⟨?_,λ y hy=>?_⟩
 ·rw[List.length_append,List.flatMap_append];simpa using ay
 ·rcases List.mem_append.1 hy with hy | hy
  ·exact (h.each y hy).bu k5 n1 n2
  ·rw[List.mem_singleton.1 hy];exact hx.bu k5 n1 n2
theorem rN.other {W:W8}{u:Value}{us:List WG}(h:rN wX base v ws)(hu:rN wX base u us)(bF:∀ g,v.ownBlock=some g->u.ownBlock≠some g)(hW:zK [] wX W)(hg:W.grownBy w5 v.ownBlock):rN w5 base u us:=by
 have k5:zK v.ownBlock.toList wX w5:=(hW.mono (by simp)).trans (zK.aR hg);have n1:∀ b∈v.ownBlock.toList,dW wX 9 b:=yH h.row (by decide);have n2:∀ b∈v.ownBlock.toList,dW wX 3 b:=yH h.row (by decide);exact⟨zZ hu.row (λ g e=>k5.block g (hu.row.lt g e).2 (λ hm=>bF g (by simpa using hm) e)),λ y hy=>(hu.each y hy).bu k5 n1 n2⟩
theorem zxp (h:w.ownsRow base 325 3 v ws.length (ws.flatMap WG.cells))(hk:k<ws.length):∃ g cap,v=.slice (some ⟨g,0,none⟩) ws.length cap/\base<=g/\g<w.heap.size/\ws.length<=cap/\cap<=maxLen/\w.cell? ⟨g,k*3,none⟩=some ws[k].nv/\w.cell? ⟨g,k*3+1,none⟩=some ws[k].tv/\w.cell? ⟨g,k*3+2,none⟩=some ws[k].fv:=by
 obtain⟨g,cap,hv,hb,aZ,bO,bQ,hc⟩:=vX (f:=WG.cells) (λ _=>rfl) h k hk;exact⟨g,cap,hv,hb,aZ,bO,bQ,hc 0 (by decide),hc 1 (by decide),hc 2 (by decide)⟩
theorem z2q:(Tryz.prog.info? 325).map (λ i=>(i.zero,i.size,i.bytes))=some (some (.agg #[.slice none 0 0,.slice none 0 0,.slice none 0 0]),3,72):=by kernel_rfl
theorem zpg:(Tryz.prog.info? 262).map (λ i=>(i.zero,i.size,i.bytes))=some (some (.agg #[.string { data:=#[] },.slice none 0 0,.bool false,.int .i64 0,.int .i64 0,.string { data:=#[] },.int .i64 0,.int .i64 0,.int .i64 0,.slice none 0 0]),10,128):=by kernel_rfl
theorem z7c {l:List Nat}:∀ u∈zym l,u.oneCell'=true:=by
 intro u hu;obtain⟨x,_,rfl⟩:=List.mem_map.1 hu;rfl
theorem Zv (a b:List Nat):zym (a++b)=zym a++zym b:=List.map_append
end
section
open Go.RowKit Go.Maps
structure ND where
 r:Nat
 fr:List Nat
 v:Value
def lk (x:ND):Nat × List Nat:=(x.r,x.fr)
def zeu (x:ND):V8:=[.int .i64 (x.r:Nat),x.v]
theorem zhg (x:ND):(zeu x).length=2:=rfl
structure wI (w:W8)(base:Nat)(nv:Value)(bG:List ND):Prop where
 row:w.ownsRow base 150 2 nv bG.length (bG.flatMap zeu)
 each:∀ x∈bG,w.ownsRow base 3 1 x.v x.fr.length (ew x.fr)
variable {nv:Value} {base:Nat} {w:W8}
theorem wI.below {w':W8}{bG:List ND}(h:wI w base nv bG)(k:Below w.heap.size w w'):wI w' base nv bG:=
 ⟨zJ h.row k (λ g e=>(h.row.lt g e).2),λ x hx=>zJ (h.each x hx) k (λ g e=>((h.each x hx).lt g e).2)⟩
theorem wI.low {base':Nat}{bG:List ND}(h:wI w base nv bG)(hb:base'<=base):wI w base' nv bG:=⟨zG h.row hb,λ x hx=>zG (h.each x hx) hb⟩
def zcy (B:Nat->Bool):List (Nat × List Nat)->Nat->(Nat->Nat)->List (Nat × List Nat)->List (Nat × List Nat)
 | [],_,_,out=>out
 | x::r,i,pl,out=>if B i then zcy B r (i+1) (bK pl i out.length) (out++[(x.1,x.2.map (bK pl i out.length))]) else zcy B r (i+1) pl out
variable {pl:Nat->Nat}
theorem zzd {B:Nat->Bool}{l:List (Nat × List Nat)}{k:Nat}{out:List (Nat × List Nat)}(h:k<l.length):zcy B (l.drop k) k pl out=if B k then zcy B (l.drop (k+1)) (k+1) (bK pl k out.length) (out++[(l[k].1,l[k].2.map (bK pl k out.length))]) else zcy B (l.drop (k+1)) (k+1) pl out:=by
 rw[List.drop_eq_getElem_cons h];rfl
structure BM (w:W8)(n:Nat)(pl:Nat->Nat)(out:List ND)(nv:Value)(wr:W8):Prop where
 DE:fj wr w.heap.size 3 n (λ i=>.int .i64 (pl i:Nat))
 bG:wI wr (w.heap.size+1) nv out
 k:Below w.heap.size w wr
theorem BM.below {w:W8}{n:Nat}{pl:Nat->Nat}{out:List ND}{nv:Value}{wr w':W8}(h:BM w n pl out nv wr)(k:Below wr.heap.size wr w'):BM w n pl out nv w':=
 ⟨h.DE.below k,h.bG.below k,h.k.trans (k.mono h.k.size)⟩
variable {out:List ND} {n:Nat}
theorem BM.put {wr:W8}(h:BM w n pl out nv wr)(i v:Nat):BM w n (bK pl i v) out nv (wr.setCell ⟨w.heap.size,i,none⟩ (.int .i64 (v:Nat))):=by
 have bp:∀ g,g≠w.heap.size->(wr.setCell ⟨w.heap.size,i,none⟩ (.int .i64 (v:Nat))).heap[g]?=wr.heap[g]?:=λ g hg=>Below.heap_setCell _ _ _ _ (by simpa using hg)
 refine⟨(h.DE.set i (.int .i64 (v:Nat))).eq λ j _=>?_,⟨zZ h.bG.row (λ g e=>bp g (by have:=(h.bG.row.lt g e).1;omega)),λ x hx=>zZ (h.bG.each x hx) (λ g e=>bp g (by have:=((h.bG.each x hx).lt g e).1;omega))⟩,h.k.setCell L9 _⟩;unfold bK
 split <;> rfl
theorem BM.add {dv:Value}{wX W w5:W8}{x:ND}(h:BM w n pl out nv wX)(hx:wX.ownsRow (w.heap.size+1) 3 1 x.v x.fr.length (ew x.fr))(hW:Below wX.heap.size wX W)(hg:W.grownBy w5 nv.ownBlock)(ay:w5.ownsRow (w.heap.size+1) 150 2 dv (out.length+1) (out.flatMap zeu++zeu x)):BM w n pl (out++[x]) dv w5:=by
 have Xx:zK [] wX W:=⟨hW.os,hW.tape,hW.output,hW.size,λ i hi _=>hW.block i hi⟩;have k5:zK nv.ownBlock.toList wX w5:=(Xx.mono (by simp)).trans (zK.aR hg);have n1:∀ b∈nv.ownBlock.toList,dW wX 3 b:=yH h.bG.row (by decide);have Aq:∀ b∈nv.ownBlock.toList,w.heap.size+1<=b:=λ b hb=>(h.bG.row.lt b (by simpa using hb)).1
 refine⟨h.DE.block (k5.block _ h.DE.lt (λ hm=>by have:=Aq _ hm;omega)),⟨?_,λ y hy=>?_⟩,zY h.k k5 h.k.size (λ b hb=>by have:=Aq b hb;omega)⟩
 ·rw[List.length_append,List.flatMap_append];simpa using ay
 ·rcases List.mem_append.1 hy with hy | hy
  ·exact xF (h.bG.each y hy) k5 (λ b hb=>.inr (n1 b hb))
  ·rw[List.mem_singleton.1 hy];exact xF hx k5 (λ b hb=>.inr (n1 b hb))
structure z0v (wB:W8)(m:Nat)(fv:Nat->Nat)(j:Nat)(wi:W8):Prop where
 k:Below wB.heap.size wB wi
 row:fj wi wB.heap.size 3 m (λ q=>.int .i64 ((if q<j then fv q else 0:Nat)))
def z0t (w:W8)(ns:List (Nat × List Nat))(e:Ending)(w':W8):Prop:=
 ∃ (out:List ND) (a:O8) (c:Nat),e=.returned (.slice a out.length c)/\wI w' w.heap.size (.slice a out.length c) out/\out.map lk=ns/\Below w.heap.size w w'
theorem zwa:(Tryz.prog.info? 150).map (λ i=>(i.zero,i.size,i.bytes))=some (some (.agg #[.int .i64 0,.slice none 0 0]),2,32):=by kernel_rfl
theorem ybl (w1:W8)(x:ND)(j:Nat)(u:Value)(h:(zeu x)[j]?=some u):(w1.alloc (.cells #[.int .i64 (x.r:Nat),x.v] 150)).cell? ((⟨w1.heap.size,0,none⟩:Addr).add j)=some u:=by
 have e:(⟨w1.heap.size,0,none⟩:Addr).add j=⟨w1.heap.size,j,none⟩:=by unfold Addr.add;split <;> simp_all
 rw[e,World.cell?_alloc_at _ _ _ _ rfl];simpa[zeu] using h
theorem ydo {r:Nat}{fr:List Nat}(p:O8){c:Nat}:∀ u∈zeu ⟨r,fr,.slice p n c⟩,u.oneCell'=true:=by
 intro u hu;simp[zeu] at hu;rcases hu with rfl | rfl <;> rfl
theorem z4r (w:W8)(base gb:Nat)(an:O8)(cn:Nat)(bG:List ND)(B:Nat->Bool)(h:wI w base (.slice an bG.length cn) bG)(hB:fj w gb 4 bG.length (λ i=>.bool (B i)))(hl:bG.length<=50)(hf:∀ x∈bG,x.fr.length<=3/\∀ y∈x.fr,y<bG.length):
  Calls Tryz.prog 70 #[.slice an bG.length cn,.slice (some ⟨gb,0,none⟩) bG.length bG.length] w (z0t w (zcy B (bG.map lk) 0 (λ _=>0) [])):=by
 obtain⟨i0,hi,bL,aY,bg⟩:=info_parts zwa;have H:=zC h;have HB:=zC hB;have HF:=zC hf;clear h hB hf;have ji:=λ n hn=>zfk n hn
 have Qq:=zfk bG.length (by omega);go_enter Tryz.func70,Tryz.ntmps70;go_upto_region 3 with fail;generalize bC:World.alloc w _=w0;have k0:Below w.heap.size w w0:=by rw[<-bC];exact (Below.refl w.heap.size w).alloc L9 _
 have r0:fj w0 w.heap.size 3 bG.length (λ _=>.int .i64 0):=by rw[<-bC];exact fj.start w _ _ _
 clear bC Qq;have H0:=zC (show BM w bG.length (λ _=>0) [] (.slice none 0 0) w0 from ⟨r0,⟨World.ownsRow_nil _ _ _ _,by simp⟩,k0⟩);clear k0 r0;go_upto_region 4 with fail
 go_loopg [5,17] bG.length (λ gg nv i wr=>∃ (k:Nat) (pl:Nat->Nat) (out:List ND),k<=bG.length/\gg=bG.length-k/\i=.int .i64 k/\out.length<=k/\BM w bG.length pl out nv wr/\zcy B ((bG.map lk).drop k) k pl (out.map lk)=zcy B (bG.map lk) 0 (λ _=>0) [])
 exact⟨0,_,[],Nat.zero_le _,rfl,rfl,Nat.le_refl _,zA H0,rfl⟩
 case round=>
  clear H0;obtain⟨k,pl,out,hk,eD,rfl,rY,ax,aE⟩:=hrel;obtain⟨ao,co,rfl⟩:=zD ax.bG.row;have Hr:=zC aE;clear aE
  by_cases aF:k<bG.length
  ·obtain⟨x,AX⟩:∃ x,x=bG[k]:=⟨_,rfl⟩;have cg:x∈bG:=(by rw[AX];exact List.getElem_mem aF);obtain⟨g,cap,hv,iF,aZ,bO,bQ,hc⟩:=vX zhg (zA H).row k aF;injection hv with h1 h2 h3
   subst h1 h3;have GF:=(zA H).each x cg;obtain⟨av,cv,GG⟩:=zD GF;have e0:wr.cell? ⟨g,k*2,none⟩=some (.int .i64 (x.r:Nat)):=(by rw[AX];exact (ax.k.cell (p:=⟨g,k*2,none⟩) aZ).trans (hc 0 (by omega)));have e1:wr.cell? ⟨g,k*2+1,none⟩=some (.slice av x.fr.length cv):=(by rw[<-GG,AX];exact (ax.k.cell (p:=⟨g,k*2+1,none⟩) aZ).trans (hc 1 (by omega)));have nu:(k:Int)<bG.length:=(by omega);have nj:=(zA HB).cell aF;have qt:=(zA HB).lt;have ql:(wr.alloc (.cells #[.int .i64 (x.r:Nat),.slice av x.fr.length cv] 150)).cell? ⟨gb,k,none⟩=some (.bool (B k)):=by
    have k1:Below w.heap.size w (wr.alloc (.cells #[.int .i64 (x.r:Nat),.slice av x.fr.length cv] 150)):=ax.k.alloc ax.k.size _;exact (k1.cell (p:=⟨gb,k,none⟩) qt).trans nj
   have bT:=zC ax;have HX:=zC AX;have dB:=zC (zzd (B:=B) (l:=bG.map lk) (k:=k) (pl:=pl) (out:=out.map lk) (by simpa using aF));obtain⟨XM,ko⟩:=zA HF x cg;have JE:=zC GF;have O1:=zC GG;have VQ:=zC ko;clear hc ax AX cg h2 GF GG ko nj
   cases hb:B k with
   | false=>
    rw[hb] at ql;have mD:=zC hb;clear hb;go_wp2_with fail;go_roundg (bG.length-(k+1))
    case measure=>omega
    case rel=>
     have ax:=zA bT;refine⟨k+1,pl,out,by omega,rfl,by go_num,by omega,ax.below (B9.alloc L9 _),?_⟩;rw[<-zA Hr,zA dB,zA mD];rfl
   | true=>
    rw[hb] at ql;have mD:=zC hb;clear hb;have ax:=zA bT;have kO:=ax.below ((Below.refl wr.heap.size wr).alloc L9 (.cells #[.int .i64 (x.r:Nat),.slice av x.fr.length cv] 150));have pc:=kO.DE.cell aF;have pf:=kO.DE.fz k;have Ui:w.heap.size<wr.heap.size:=ax.DE.lt;have KM:=(ax.put k out.length).below (B9.alloc L9 (.cells #[.int .i64 (x.r:Nat),.slice av x.fr.length cv] 150));have Fk:=zC KM;have UY:((wr.setCell ⟨w.heap.size,k,none⟩ (.int .i64 (out.length:Nat))).alloc (.cells #[.int .i64 (x.r:Nat),.slice av x.fr.length cv] 150)).heap[wr.heap.size]?=some (.cells #[.int .i64 (x.r:Nat),.slice av x.fr.length cv] 150 (0,0)):=by
     have:=heap_alloc_new (wr.setCell ⟨w.heap.size,k,none⟩ (.int .i64 (out.length:Nat))) (.cells #[.int .i64 (x.r:Nat),.slice av x.fr.length cv] 150);rw[World.size_setCell] at this;exact this
    have B0:=zC UY;have Gl:=ji x.fr.length (by omega);clear ax kO KM UY ji;go_upto_region 9 with fail;generalize Dv:World.alloc (World.setCell wr _ _) (.cells #[.int .i64 (x.r:Nat),.slice av x.fr.length cv] 150)=wB at *;have sB:wB.heap.size=wr.heap.size+1:=(by rw[<-Dv];simp);clear Dv ql pc pf Gl e0 e1;generalize GC:World.alloc wB _=wC;have kC:Below wB.heap.size wB wC:=(by rw[<-GC];exact (Below.refl wB.heap.size wB).alloc L9 _);have rC:fj wC wB.heap.size 3 x.fr.length (λ _=>.int .i64 0):=(by rw[<-GC];exact fj.start wB _ _ _);clear GC;obtain⟨oe,Gt⟩:∃ oe,oe=bK pl k out.length:=⟨_,rfl⟩;obtain⟨fv,Il⟩:∃ fv:Nat->Nat,fv=λ q=>oe (x.fr[q]?.getD 0):=⟨_,rfl⟩
    have R5:=zC Il;rw[<-Gt] at Fk;have Ws:=zC Gt;have H1:=zC (show z0v wB x.fr.length fv 0 wC from ⟨kC,rC.eq (λ i hi=>by simp)⟩);have UX:=(zB ((kC.block _ (by omega)).trans (zA B0)) 1).1;simp only[List.getElem?_toArray,List.getElem?_cons_zero,List.getElem?_cons_succ] at UX;clear kC rC Gt Il;rw[<-sB];have B5:=zC sB;clear sB;generalize Dy:wr.heap.size=xb at *;go_upto_region 10 with fail
    go_loopg [39] x.fr.length (λ gg2 jj wi=>∃ j:Nat,j<=x.fr.length/\gg2=x.fr.length-j/\jj=.int .i64 j/\z0v wB x.fr.length fv j wi)
    exact⟨0,Nat.zero_le _,rfl,rfl,zA H1⟩
    case round=>
     clear H1 UX;obtain⟨j,hj,xj,rfl,sV⟩:=hrel;have rn:=(zA Fk).below sV.k
     by_cases hlj:j<x.fr.length
     ·have Ci:=zJ (zA JE) rn.k (λ g e=>((zA JE).lt g e).2);rw[zA O1] at Ci;obtain⟨gv,rfl,Ya,QC,PQ,M8⟩:=z3v Ci j hlj;have hy:x.fr[j]<bG.length:=zA VQ _ (List.getElem_mem hlj);have hpy:=rn.DE.cell hy;have hrc:=sV.row.cell hlj;have hrf:=sV.row.fz j;have Na:(j:Int)<x.fr.length:=(by omega);have YU:(x.fr[j]:Int)<bG.length:=(by omega);have Wl:=zC sV;have HV:=zC (show fv j=oe x.fr[j] by rw[zA R5];simp[hlj]);clear sV rn Ci;generalize x.fr[j]=y at *;go_wp2_with fail;go_roundg (x.fr.length-(j+1))
      case measure=>omega
      case rel=>
       have sV:=zA Wl;refine⟨j+1,by omega,rfl,by go_num,sV.k.setCell L9 _,(sV.row.set j _).eq λ q hq=>?_⟩
       by_cases e:q=j
       ·subst e;simp[zA HV]
       ·have e2:(q<j+1)=(q<j):=(by apply propext;omega);simp only[if_neg e,e2]
     ·have qv:j=x.fr.length:=(by omega);subst qv;have rf:fj wr wB.heap.size 3 x.fr.length (λ q=>.int .i64 (fv q:Nat)):=sV.row.eq (λ q hq=>by rw[if_pos hq]);have dq:=(sV.k.block xb (by have:=zA B5;omega)).trans (zA B0);have b0:=(zB dq 0).1;simp only[List.getElem?_toArray,List.getElem?_cons_zero] at b0;have ko:((List.range x.fr.length).map fv)=x.fr.map oe:=by
       rw[zA R5];apply List.ext_getElem
       ·simp
       ·intro q h1 h2;simp at h1;simp[h1]
      have UA:w.heap.size+1<=wB.heap.size:=(zA Fk).DE.lt;have ay:=rf.ew (by unfold maxLen;omega) (base:=w.heap.size+1) UA;rw[ko] at ay;have iH:wr.ownsRow (w.heap.size+1) 3 1 (.slice (some ⟨wB.heap.size,0,none⟩) x.fr.length x.fr.length) (x.fr.map oe).length (ew (x.fr.map oe)):=(by rw[List.length_map];exact ay);have Ra:=sV.k.size;have bH:=rn.bG.row.alloc (.cells #[.int .i64 (x.r:Nat),.slice (some ⟨wB.heap.size,0,none⟩) x.fr.length x.fr.length] 150);have uL:=zC rn;have ME:=zC iH;have Lh:out.length<=50:=(by omega);clear rn sV rf dq ko ay iH;go_wp2_with (at_builtin;refine wpList_append_own _ rfl _ _ 91 rfl (w.heap.size+1) 150 i0 _ 2 32 Tryz.underlying91 hi bL aY bg rfl (by decide) _ _ _ rfl bH ⟨wr.heap.size,0,none⟩ 1 1 (zeu ⟨x.r,x.fr.map oe,.slice (some ⟨wB.heap.size,0,none⟩) x.fr.length x.fr.length⟩) rfl rfl (ybl wr ⟨x.r,x.fr.map oe,.slice (some ⟨wB.heap.size,0,none⟩) x.fr.length x.fr.length⟩) (ydo _) (by unfold maxLen;omega) (by omega) (by simp;omega) ?_;intro v5 w5 aq aU hne5;clear hne5;obtain⟨a5,eH,rfl⟩:=zD aq;have CD:=zC aq;have Fj:=zC aU;clear aq aU);go_roundg (bG.length-(k+1))
      case measure=>omega
      case rel=>
       refine⟨k+1,oe,out++[⟨x.r,x.fr.map oe,.slice (some ⟨wB.heap.size,0,none⟩) x.fr.length x.fr.length⟩],by omega,rfl,by go_num,by rw[List.length_append];simp;omega,(zA uL).add (x:=⟨x.r,x.fr.map oe,.slice (some ⟨wB.heap.size,0,none⟩) x.fr.length x.fr.length⟩) (zA ME) (B9.alloc L9 _) (zA Fj) (zA CD),?_⟩;rw[<-zA Hr,zA dB,zA mD,if_pos rfl,List.map_append,List.length_map,<-zA Ws];simp only[List.getElem_map,<-zA HX];rfl
  ·have he:k=bG.length:=(by omega);subst he;have HE:=zC (show out.map lk=zcy B (bG.map lk) 0 (λ _=>0) [] by rw[<-zA Hr,List.drop_of_length_le (by simp)];rfl);have bT:=zC ax;clear ax;go_wp2_with fail;go_ret;exact⟨out,ao,co,rfl,(zA bT).bG.low (by omega),zA HE,(zA bT).k⟩
end
end Go.Proofs.YtldkpahaocjdpaaGreat
