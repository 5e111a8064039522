/-
  The reference's of: an atom with what its variables are; its find: the place of a text.
-/
import Derived.Test.YtldkpahaocjdpaaGreatC27
set_option maxHeartbeats 16000000
set_option maxRecDepth 1000000
namespace Go.Proofs.YtldkpahaocjdpaaGreat
section
open Go.RowKit
theorem zl0 (w:W8)(base:Nat)(E:Env)(A T:zL)(an fG aa ba:O8)(cn ct ca cb:Nat)(he:qL w base E (.slice an E.length cn) (.slice fG E.length ct))(hA:w.ownsRow base 317 3 (.slice aa A.ae.length ca) A.ae.length (cellsOf A.ae))(hT:w.ownsRow base 317 3 (.slice ba T.ae.length cb) T.ae.length (cellsOf T.ae))(qy:E.length+A.ae.length<=1000):
  Calls Tryz.prog 139 #[.agg #[.slice an E.length cn,.slice fG E.length ct],.agg #[.string A.pred,.slice aa A.ae.length ca,.bool A.no,.int .i64 A.at_,.int .i64 A.ak],.agg #[.string T.pred,.slice ba T.ae.length cb,.bool T.no,.int .i64 T.at_,.int .i64 T.ak]] w (zgq w (.slice an E.length cn) (.slice fG E.length ct) (vN E A T)):=by
 cases h:A.pred.toList==T.pred.toList&&A.ae.length==T.ae.length with
 | false=>
  have e:vN E A T=none:=by unfold vN;rw[h];rfl
  rw[e];refine (z3z w A T an fG aa ba E.length cn ct ca cb h).mono ?_;rintro e w' ⟨hb,rfl⟩;exact⟨hb,λ _=>rfl,λ _ h=>by cases h⟩
 | true=>
  have e:vN E A T=jB E A.ae T.ae:=by unfold vN;rw[h];rfl
  rw[e];simp only[Bool.and_eq_true,beq_iff_eq] at h;exact zz6 w base E A T an fG aa ba cn ct ca cb he hA hT qy (beq_iff_eq.2 h.1) h.2
structure uv (w:W8)(A:zL)(nv tv av:Value)(l:List xK)(v:Value)(wr:W8):Prop where
 below:Below w.heap.size w wr
 b0:wr.heap[w.heap.size]?=some (.cells #[nv,tv] 258 (0,0))
 b1:wr.heap[w.heap.size+1]?=some (.cells #[.string A.pred,av,.bool A.no,.int .i64 A.at_,.int .i64 A.ak] 243 (0,0))
 b2:wr.heap[w.heap.size+1+1]?=some (.cells #[.string { data:=#[] },.slice none 0 0,.bool false,.int .i64 0,.int .i64 0] 243 (0,0))
 b3:wr.heap[w.heap.size+1+1+1]?=some (.cells #[.string A.pred,v,.bool false,.int .i64 0,.int .i64 0] 243 (0,0))
 row:wr.ownsRow (w.heap.size+4) 317 3 v l.length (cellsOf l)
variable {wr w:W8} {v nv tv av:Value} {l:List xK} {A:zL}
theorem uv.lt (h:uv w A nv tv av l v wr):w.heap.size+4<=wr.heap.size:=(Array.getElem?_eq_some_iff.1 h.b3).1
theorem uv.dm {w':W8}(h:uv w A nv tv av l v wr)(k:Below wr.heap.size wr w'):uv w A nv tv av l v w':=by
 have hl:=h.lt;exact⟨h.below.trans (k.mono (by omega)),(k.block _ (by omega)).trans h.b0,(k.block _ (by omega)).trans h.b1,(k.block _ (by omega)).trans h.b2,(k.block _ (by omega)).trans h.b3,zH h.row k (λ g e=>(h.row.lt g e).2)⟩
theorem uv.start (w:W8)(A:zL)(nv tv av:Value):uv w A nv tv av [] (.slice none 0 0)
  ((((w.alloc (.cells #[nv,tv] 258)).alloc (.cells #[.string A.pred,av,.bool A.no,.int .i64 A.at_,.int .i64 A.ak] 243)).alloc (.cells #[.string { data:=#[] },.slice none 0 0,.bool false,.int .i64 0,.int .i64 0] 243)).alloc (.cells #[.string A.pred,.slice none 0 0,.bool false,.int .i64 0,.int .i64 0] 243)):=by
 refine⟨(((((Below.refl _ w).alloc L9 _).alloc (by simp) _).alloc (by simp;omega) _).alloc (by simp;omega) _),?_,?_,?_,?_,World.ownsRow_nil _ _ _ _⟩
 ·rw[Below.heap_alloc _ _ _ (by simp <;> omega),Below.heap_alloc _ _ _ (by simp <;> omega),Below.heap_alloc _ _ _ (by simp)];exact heap_alloc_new w _
 ·rw[Below.heap_alloc _ _ _ (by simp <;> omega),Below.heap_alloc _ _ _ (by simp)];have:=heap_alloc_new (w.alloc (.cells #[nv,tv] 258)) (.cells #[.string A.pred,av,.bool A.no,.int .i64 A.at_,.int .i64 A.ak] 243);simpa using this
 ·rw[Below.heap_alloc _ _ _ (by simp)];have:=heap_alloc_new ((w.alloc (.cells #[nv,tv] 258)).alloc (.cells #[.string A.pred,av,.bool A.no,.int .i64 A.at_,.int .i64 A.ak] 243)) (.cells #[.string { data:=#[] },.slice none 0 0,.bool false,.int .i64 0,.int .i64 0] 243);simpa using this
 ·have:=heap_alloc_new (((w.alloc (.cells #[nv,tv] 258)).alloc (.cells #[.string A.pred,av,.bool A.no,.int .i64 A.at_,.int .i64 A.ak] 243)).alloc (.cells #[.string { data:=#[] },.slice none 0 0,.bool false,.int .i64 0,.int .i64 0] 243)) (.cells #[.string A.pred,.slice none 0 0,.bool false,.int .i64 0,.int .i64 0] 243);simpa using this
theorem uv.add {W w5:W8}(h:uv w A nv tv av l v wr)(hW:zN [] wr W)(hg:W.grownBy w5 v.ownBlock){v':Value}{t:xK}
  (aC:w5.ownsRow (w.heap.size+4) 317 3 v' (l.length+1) (cellsOf l++t.cells)):
  uv w A nv tv av (l++[t]) v' (w5.setCell ⟨w.heap.size+1+1+1,1,none⟩ v')/\w5.heap[w.heap.size+1+1+1]?=some (.cells #[.string A.pred,v,.bool false,.int .i64 0,.int .i64 0] 243 (0,0)):=by
 have hl:=h.lt;have hz:=hW.size;have k5:zN v.ownBlock.toList wr w5:=(hW.mono (by simp)).trans (zN.aN hg);have kF:∀ b,b<w.heap.size+4->b∉v.ownBlock.toList:=λ b hb hm=>by have:=(h.row.lt b (by simpa using hm)).1;omega
 have cP:∀ b,b<w.heap.size+4->w5.heap[b]?=wr.heap[b]?:=λ b hb=>k5.block b (by omega) (kF b hb)
 have kS:∀ b,b≠w.heap.size+1+1+1->(w5.setCell ⟨w.heap.size+1+1+1,1,none⟩ v').heap[b]?=w5.heap[b]?:=λ b hb=>Below.heap_setCell _ _ _ _ (by simpa using hb)
 have S4:=(cP (w.heap.size+1+1+1) (by omega)).trans h.b3;have s5:=k5.size;refine⟨⟨?_,?_,?_,?_,?_,?_⟩,S4⟩
 ·refine⟨k5.os.trans h.below.os,k5.tape.trans h.below.tape,k5.output.trans h.below.output,by simp;omega,λ b hb=>?_⟩;rw[kS b (by omega),cP b (by omega)];exact h.below.block b hb
 ·rw[kS _ (by omega),cP _ (by omega)];exact h.b0
 ·rw[kS _ (by omega),cP _ (by omega)];exact h.b1
 ·rw[kS _ (by omega),cP _ (by omega)];exact h.b2
 ·rw[heap_setCell_same _ _ _ _ _ _ S4];rfl
 ·rw[zii,List.length_append];exact ownsRow_setCell_below aC (by simp) _
theorem uv.fin (h:uv w A nv tv av l v wr)(u0 u1 u2 u3 u4:Value):Below w.heap.size w (((((wr.setCell ⟨w.heap.size+1+1,0,none⟩ u0).setCell ⟨w.heap.size+1+1,1,none⟩ u1).setCell ⟨w.heap.size+1+1,2,none⟩ u2).setCell ⟨w.heap.size+1+1,3,none⟩ u3).setCell ⟨w.heap.size+1+1,4,none⟩ u4)/\(((((wr.setCell ⟨w.heap.size+1+1,0,none⟩ u0).setCell ⟨w.heap.size+1+1,1,none⟩ u1).setCell ⟨w.heap.size+1+1,2,none⟩ u2).setCell ⟨w.heap.size+1+1,3,none⟩ u3).setCell ⟨w.heap.size+1+1,4,none⟩ u4).ownsRow w.heap.size 317 3 v l.length (cellsOf l):=
 ⟨((((h.below.setCell (by simp;omega) _).setCell (by simp;omega) _).setCell (by simp;omega) _).setCell (by simp;omega) _).setCell (by simp;omega) _,zF (ownsRow_setCell_below (ownsRow_setCell_below (ownsRow_setCell_below (ownsRow_setCell_below (ownsRow_setCell_below h.row (by simp) _) (by simp) _) (by simp) _) (by simp) _) (by simp) _) (by omega)⟩
def zot (w:W8)(E:Env)(A:zL):Ending->W8->Prop:=λ e w'=>∃ v,e=.returned (.agg #[.string A.pred,v,.bool false,.int .i64 0,.int .i64 0])/\w'.ownsRow w.heap.size 317 3 v (bf E A).ae.length (cellsOf (bf E A).ae)/\Below w.heap.size w w'
theorem z8e {E:Env}{k:Nat}(h:k<l.length):(l.take (k+1)).map (ofT E)=(l.take k).map (ofT E)++[ofT E l[k]]:=by
 rw[List.take_succ_eq_append_getElem h,List.map_append];rfl
theorem zkj (w:W8)(base:Nat)(E:Env)(A:zL)(an fG aa:O8)(cn ct ca:Nat)(he:qL w base E (.slice an E.length cn) (.slice fG E.length ct))(hA:w.ownsRow base 317 3 (.slice aa A.ae.length ca) A.ae.length (cellsOf A.ae))(qy:A.ae.length<=1000):
  Calls Tryz.prog 192 #[.agg #[.slice an E.length cn,.slice fG E.length ct],.agg #[.string A.pred,.slice aa A.ae.length ca,.bool A.no,.int .i64 A.at_,.int .i64 A.ak]] w (zot w E A):=by
 obtain⟨i0,hi,cQ,cz,cx⟩:=info_parts znf;have H0:=zC (uv.start w A (.slice an E.length cn) (.slice fG E.length ct) (.slice aa A.ae.length ca));have HE:=zC he;have HA:=zC hA;clear he hA;go_enter Tryz.func192,Tryz.ntmps192;go_wp2_with fail
 go_loopg [6] A.ae.length (λ gg i wr=>∃ (k:Nat) (v:Value),k<=A.ae.length/\gg=A.ae.length-k/\i=.int .i64 k/\uv w A (.slice an E.length cn) (.slice fG E.length ct) (.slice aa A.ae.length ca) ((A.ae.take k).map (ofT E)) v wr)
 exact⟨0,_,Nat.zero_le _,rfl,rfl,zA H0⟩
 case round=>
  clear H0;obtain⟨k,v,hk,iZ,rfl,hm⟩:=hrel;have vf:((A.ae.take k).map (ofT E)).length=k:=by simp;omega
  obtain⟨a1,c1,hv⟩:=zD hm.row;rw[vf] at hv;subst hv;obtain⟨p1,AQ⟩:=zB hm.b1 1;have HM:=zC hm;have Ar:=zC vf;clear hm AQ vf
  by_cases aE:k<A.ae.length
  ·have nC:(k:Int)<A.ae.length:=(by omega);go_wp2_with fail;refine zb9 6 z0b (by kernel_rfl) λ W hW=>?_
   simp only[List.take_succ_cons,List.take_zero,List.drop_succ_cons,List.drop_zero];have mV:Hid (uv w A (.slice an E.length cn) (.slice fG E.length ct) (.slice aa A.ae.length ca) ((A.ae.take k).map (ofT E)) (.slice a1 k c1) W):=(by rw[hW];exact (zA HM).dm B9.drew);clear hW HM p1;obtain⟨p1,AQ⟩:=zB (zA mV).b1 1;obtain⟨q0,Cw⟩:=zB (zA mV).b0 0;obtain⟨q1,Ez⟩:=zB (zA mV).b0 1;obtain⟨ga,M9,lB,-,-,cZ,da,d0,d1,d2⟩:=zaa (zH (zA HA) (zA mV).below (λ g e=>((zA HA).lt g e).2)) k aE;injection lB with i1 i2 i3
   subst i1 i3;clear AQ Cw Ez
   repeat still_step
   refine wpStill_nil ?_;clear p1 q0 q1;go_wp2_with fail;refine (zl3 W base E an fG cn ct ((zA HE).below (zA mV).below) A.ae[k].text A.ae[k].isVar A.ae[k].at_).mono ?_;rintro e w1 ⟨rfl,aM⟩;have nZ:=zC ((zA mV).dm aM);clear mV aM d0 d1 d2;obtain⟨x,hx⟩:∃ x,qY E A.ae[k]=x:=⟨_,rfl⟩;have Dd:qY E ⟨A.ae[k].text,A.ae[k].isVar,A.ae[k].at_⟩=x:=hx;rw[Dd];have HT:=zC (show (A.ae.take (k+1)).map (ofT E)=(A.ae.take k).map (ofT E)++[⟨x,false,0⟩] by rw[z8e aE,ofT,hx]);clear Dd hx;obtain⟨r1,Jd⟩:=zB (zA nZ).b3 1;have vg:=(zA nZ).lt;have aB:=(zA nZ).row;rw[zA Ar] at aB;have iI:=zC (λ (w5:W8) (v':Value) hg aC=>uv.add (w5:=w5) (v':=v') (W:=w1.alloc (.cells #[.string x,.bool false,.int .i64 0] 317)) (t:=⟨x,false,0⟩) (zA nZ) ((zN.refl [] _).alloc _) hg aC);rw[zA Ar] at iI;have ij:=zC (World.news_of_block (heap_alloc_new w1 (.cells #[.string x,.bool false,.int .i64 0] 317)));have HR:=zC (aB.alloc (.cells #[.string x,.bool false,.int .i64 0] 317));clear aB;go_wp2_with (at_builtin;go_must (refine wpList_append_lies _ rfl _ _ _ rfl (w.heap.size+4) 317 i0 (.agg #[.string { data:=#[] },.bool false,.int .i64 0]) 3 32 Tryz.underlying241 hi cQ cz cx rfl (by decide) (.slice a1 k c1) k _ rfl (zA HR) ⟨w1.heap.size,0,none⟩ 1 1 [.string x,.bool false,.int .i64 0] rfl rfl (zA ij) (by simp[Value.oneCell']) (by decide) (by unfold maxLen;omega) (by omega) (by simp;omega) _ rfl ?_;intro g cap w5 aj aU cN hlt5;obtain⟨e1,e2⟩:=zA iI w5 _ aU aj;obtain⟨z0,An⟩:=zB e2 1));go_roundg (A.ae.length-(k+1));exact⟨k+1,_,by omega,rfl,by go_num,by rw[zA HT];exact e1⟩;omega
  ·have qz:k=A.ae.length:=(by omega);have HK:=zC qz;clear qz;obtain⟨t0,RT⟩:=zB (zA HM).b2 0;obtain⟨t1,RU⟩:=zB (zA HM).b2 1;obtain⟨t2,tf2⟩:=zB (zA HM).b2 2;obtain⟨t3,tf3⟩:=zB (zA HM).b2 3;obtain⟨t4,tf4⟩:=zB (zA HM).b2 4;obtain⟨o0,Mt⟩:=zB (zA HM).b3 0;obtain⟨o1,Mu⟩:=zB (zA HM).b3 1;obtain⟨o2,RM⟩:=zB (zA HM).b3 2;obtain⟨o3,Y8⟩:=zB (zA HM).b3 3;obtain⟨o4,RN⟩:=zB (zA HM).b3 4;clear Mt Mu RM Y8 RN;go_wp2_with fail;refine bodyPost_ret (v:=.agg #[.string A.pred,.slice a1 k c1,.bool false,.int .i64 0,.int .i64 0]) (by simp[results,Tryz.results192,go_sem,t0,t1,t2,t3,t4]) rfl ⟨_,rfl,?_,((zA HM).fin _ _ _ _ _).1⟩;have:=((zA HM).fin (.string A.pred) (.slice a1 k c1) (.bool false) (.int .i64 0) (.int .i64 0)).2;rw[zA HK,List.take_length] at this;rw[zA HK];exact this
end
section
open Go.RowKit
structure zQ where
 ao:zL
 text:B8
 s:Nat
 h:Nat
 r:Nat
 fr:List Nat
structure FG where
 F:zQ
 tv:Value
 fv:Value
def FG.cells (f:FG):V8:=[.string f.F.ao.pred,f.tv,.bool f.F.ao.no,.int .i64 f.F.ao.at_,.int .i64 f.F.ao.ak,.string f.F.text,.int .i64 f.F.s,.int .i64 f.F.h,.int .i64 f.F.r,f.fv]
def zng (l:List Nat):V8:=l.map λ (x:Nat)=>.int .i64 x
structure j5 (w:W8)(base:Nat)(f:FG):Prop where
 t:w.ownsRow base 317 3 f.tv f.F.ao.ae.length (cellsOf f.F.ao.ae)
 i:w.ownsRow base 3 1 f.fv f.F.fr.length (zng f.F.fr)
structure yW (w:W8)(base:Nat)(v:Value)(fs:List FG):Prop where
 row:w.ownsRow base 262 10 v fs.length (fs.flatMap FG.cells)
 each:∀ f∈fs,j5 w base f
variable {f:FG} {base:Nat} {w w':W8}
theorem j5.below (h:j5 w base f)(k:Below w.heap.size w w'):j5 w' base f:=⟨zH h.t k (λ g e=>(h.t.lt g e).2),zH h.i k (λ g e=>(h.i.lt g e).2)⟩
variable {fs:List FG} {v:Value}
theorem yW.below (h:yW w base v fs)(k:Below w.heap.size w w'):yW w' base v fs:=⟨zH h.row k (λ g e=>(h.row.lt g e).2),λ f hf=>(h.each f hf).below k⟩
theorem j5.low {base':Nat}(h:j5 w base f)(hb:base'<=base):j5 w base' f:=⟨zF h.t hb,zF h.i hb⟩
variable {k:Nat}
theorem zah (h:w.ownsRow base 262 10 v fs.length (fs.flatMap FG.cells))(hk:k<fs.length):∃ g cap,v=.slice (some ⟨g,0,none⟩) fs.length cap/\base<=g/\g<w.heap.size/\fs.length<=cap/\cap<=maxLen/\∀ j,j<10->w.cell? ⟨g,k*10+j,none⟩=(fs[k].cells)[j]?:=
 vU (f:=FG.cells) (λ _=>rfl) h k hk
def zaj (t:B8):List zQ->Nat->Int
 | [],_=>-1
 | x::r,k=>if x.text.toList==t.toList then k else zaj t r (k+1)
def yL (l:List zQ)(t:B8):Int:=zaj t l 0
theorem zy3 {t:B8}{l:List zQ}(h:k<l.length):zaj t (l.drop k) k=if l[k].text.toList==t.toList then (k:Int) else zaj t (l.drop (k+1)) (k+1):=by
 rw[List.drop_eq_getElem_cons h];rfl
theorem zco (w:W8)(base:Nat)(a:O8)(c:Nat)(fs:List FG)(t:B8)(h:w.ownsRow base 262 10 (.slice a fs.length c) fs.length (fs.flatMap FG.cells)):
  Calls Tryz.prog 133 #[.slice a fs.length c,.string t] w λ e w'=>e=.returned (.int .i64 (yL (fs.map (·.F)) t))/\w'=w:=by
 have kX:=yN h;unfold maxLen at kX;have HH:=zC h;clear h;go_enter Tryz.func133,Tryz.ntmps133;go_wp2_with fail
 go_loop [5] (λ i=>∃ k:Nat,k<=fs.length/\i=.int .i64 k/\zaj t ((fs.map (·.F)).drop k) k=yL (fs.map (·.F)) t) (λ i=>fs.length-(intOf i).toNat)
 exact⟨0,Nat.zero_le _,rfl,rfl⟩
 case round=>
  obtain⟨k,hk,rfl,hZ⟩:=hrel;have HX:=zC hZ;clear hZ
  by_cases aE:k<fs.length
  ·obtain⟨g,cap,hv,-,bR,cZ,da,hc⟩:=zah (zA HH) aE;injection hv with h1 h2 h3
   subst h1 h3;have p5:=hc 5 (by decide);have HS:=zC (zy3 (t:=t) (l:=fs.map (·.F)) (k:=k) (by simpa using aE));simp only[FG.cells,List.getElem?_cons_succ,List.getElem?_cons_zero] at p5;clear hc;rw[List.getElem_map] at HS
   cases hq:fs[k].F.text.toList==t.toList with
   | true=>
    go_wp2_with fail;go_ret;exact⟨by rw[<-zA HX,zA HS,if_pos hq];rfl,rfl⟩
   | false=>
    go_wp2_with fail
    go_round
    case rel=>exact⟨k+1,by omega,by go_num,by rw[<-zA HX,zA HS,if_neg (by rw[hq];decide)]⟩
    case measure=>simp[intOf];omega
  ·go_wp2_with fail;go_ret;exact⟨by rw[<-zA HX,List.drop_of_length_le (by simp;omega)];rfl,rfl⟩
def jN (a b:zQ):Bool:=if a.s != b.s then decide (a.s<b.s) else if a.h != b.h then decide (a.h<b.h) else zb5 a.text b.text
theorem zx6 (w:W8)(A B:zQ)(a1 a2 b1 b2:O8)(n1 n2 m1 m2 c1 c2 d1 d2:Nat):
  Calls Tryz.prog 231 #[.agg #[.string A.ao.pred,.slice a1 n1 c1,.bool A.ao.no,.int .i64 A.ao.at_,.int .i64 A.ao.ak,.string A.text,.int .i64 A.s,.int .i64 A.h,.int .i64 A.r,.slice a2 n2 c2],.agg #[.string B.ao.pred,.slice b1 m1 d1,.bool B.ao.no,.int .i64 B.ao.at_,.int .i64 B.ao.ak,.string B.text,.int .i64 B.s,.int .i64 B.h,.int .i64 B.r,.slice b2 m2 d2]] w λ e w'=>e=.returned (.bool (jN A B))/\Below w.heap.size w w':=by
 have b0:=((Below.refl w.heap.size w).alloc L9 (.cells #[.string A.ao.pred,.slice a1 n1 c1,.bool A.ao.no,.int .i64 A.ao.at_,.int .i64 A.ao.ak,.string A.text,.int .i64 A.s,.int .i64 A.h,.int .i64 A.r,.slice a2 n2 c2] 262)).alloc (by simp) (.cells #[.string B.ao.pred,.slice b1 m1 d1,.bool B.ao.no,.int .i64 B.ao.at_,.int .i64 B.ao.ak,.string B.text,.int .i64 B.s,.int .i64 B.h,.int .i64 B.r,.slice b2 m2 d2] 262)
 cases h1:((A.s:Int) != (B.s:Int)) with
 | true=>
  have hs:(A.s != B.s)=true:=by simp at h1 ⊢;omega
  have HE:=zC (show jN A B=decide ((A.s:Int)<(B.s:Int)) by unfold jN;rw[if_pos hs];simp);clear hs;go_enter Tryz.func231,Tryz.ntmps231;go_wp2_with fail
  all_goals
   go_ret;exact⟨by rw[zA HE];first | rfl | simp[*],b0⟩
 | false=>
  have hs:(A.s != B.s)=false:=by simp at h1 ⊢;omega
  cases h2:((A.h:Int) != (B.h:Int)) with
  | true=>
   have hh:(A.h != B.h)=true:=(by simp at h2 ⊢;omega);have HE:=zC (show jN A B=decide ((A.h:Int)<(B.h:Int)) by unfold jN;rw[if_neg (by rw[hs];decide),if_pos hh];simp);clear hs hh;go_enter Tryz.func231,Tryz.ntmps231;go_wp2_with fail
   all_goals
    go_ret;exact⟨by rw[zA HE];first | rfl | simp[*],b0⟩
  | false=>
   have hh:(A.h != B.h)=false:=(by simp at h2 ⊢;omega);have HE:=zC (show jN A B=zb5 A.text B.text by unfold jN;rw[if_neg (by rw[hs];decide),if_neg (by rw[hh];decide)]);clear hs hh;go_enter Tryz.func231,Tryz.ntmps231;go_wp2_with fail
   all_goals
    go_ret;exact⟨by rw[zA HE];rfl,b0⟩
end
section
open Go.RowKit
abbrev Way:=Env × List Nat
def zgn (a:zL)(x:Way):List zQ->Nat->List Way
 | [],_=>[]
 | f::r,i=>(match vN x.1 a f.ao with | some e=>[(e,x.2++[i])] | none=>[])++zgn a x r (i+1)
def zgi (a:zL)(l:List zQ)(now:List Way):List Way:=now.flatMap λ x=>zgn a x l 0
def zis (l:List zQ):List zL->List Way->List Way
 | [],now=>now
 | a::r,now=>zis l r (if a.no then now else zgi a l now)
def zU (A:zL):B8:=⟨(xS A).toArray⟩
def zra (l:List zQ)(e:Env)(a:zL):Bool:=!a.no||decide (yL l (zU (bf e a))<0)
def zdt (R:zP)(l:List zQ):List Way:=(zis l R.body [([],[])]).filter λ x=>R.body.all (zra l x.1)
variable {k:Nat} {l:List zQ}
theorem z18 {a:zL}{x:Way}(h:k<l.length):zgn a x (l.drop k) k=(match vN x.1 a l[k].ao with | some e=>[(e,x.2++[k])] | none=>[])++zgn a x (l.drop (k+1)) (k+1):=by
 rw[List.drop_eq_getElem_cons h];rfl
variable {now:List Way}
theorem z2b {b:List zL}(h:k<b.length):zis l (b.drop k) now=zis l (b.drop (k+1)) (if b[k].no then now else zgi b[k] l now):=by
 rw[List.drop_eq_getElem_cons h];rfl
theorem z19 {a:zL}{i:Nat}(h:i<now.length):zgi a l (now.drop i)=zgn a now[i] l 0++zgi a l (now.drop (i+1)):=by
 unfold zgi;rw[List.drop_eq_getElem_cons h,List.flatMap_cons]
theorem zus (a:zL)(x:Way):∀ (l:List zQ) (i:Nat),(zgn a x l i).length<=l.length
 | [],_=>Nat.le_refl _
 | f::r,i=>by
  rw[zgn,List.length_append,List.length_cons];have:=zus a x r (i+1)
  split <;> simp <;> omega
theorem zut (a:zL)(l:List zQ):∀ now:List Way,(zgi a l now).length<=now.length*l.length
 | []=>by simp[zgi]
 | x::r=>by
  have h1:=zus a x l 0;have h2:=zut a l r;have e:zgi a l (x::r)=zgn a x l 0++zgi a l r:=by simp[zgi]
  rw[e,List.length_append,List.length_cons,Nat.succ_mul];omega
theorem zf8:∀ (ts us:List xK) (e e':Env),jB e ts us=some e'->e'.length<=e.length+ts.length
 | [],us,e,e',h=>by cases us <;> (rw[jB] at h <;> first | (cases h;simp) | simp_all)
 | t::ts,[],e,e',h=>by rw[jB] at h <;> first | (cases h;simp) | simp_all
 | t::ts,u::us,e,e',h=>by
  rw[jB] at h
  split at h
  ·have:=zf8 ts us _ _ h;simp at this ⊢;omega
  ·split at h
   ·have:=zf8 ts us _ _ h;simp;omega
   ·cases h
theorem zh1 {e e':Env}{a t:zL}(h:vN e a t=some e'):e'.length<=e.length+a.ae.length:=by
 unfold vN at h
 split at h
 ·exact zf8 _ _ _ _ h
 ·cases h
structure WG where
 e:Env
 fr:List Nat
 nv:Value
 tv:Value
 fv:Value
def WG.W (x:WG):Way:=(x.e,x.fr)
def WG.cells (x:WG):V8:=[x.nv,x.tv,x.fv]
structure Ap (w:W8)(base:Nat)(x:WG):Prop where
 env:qL w base x.e x.nv x.tv
 fr:w.ownsRow base 3 1 x.fv x.fr.length (zng x.fr)
 nil:x.fr=[]->x.fv=.slice none 0 0
structure te (w:W8)(base:Nat)(v:Value)(ws:List WG):Prop where
 row:w.ownsRow base 325 3 v ws.length (ws.flatMap WG.cells)
 each:∀ x∈ws,Ap w base x
variable {base:Nat} {w w':W8}
theorem Ap.below {x:WG}(h:Ap w base x)(k:Below w.heap.size w w'):Ap w' base x:=⟨h.env.below k,zH h.fr k (λ g e=>(h.fr.lt g e).2),h.nil⟩
variable {ws:List WG} {v:Value}
theorem te.below (h:te w base v ws)(k:Below w.heap.size w w'):te w' base v ws:=⟨zH h.row k (λ g e=>(h.row.lt g e).2),λ x hx=>(h.each x hx).below k⟩
theorem Ap.low {base':Nat}{x:WG}(h:Ap w base x)(hb:base'<=base):Ap w base' x:=⟨⟨zF h.env.ns hb,zF h.env.ts hb,h.env.nil⟩,zF h.fr hb,h.nil⟩
theorem Ap.cq {B:List Nat}{x:WG}(h:Ap w base x)(k:zN B w w')(h1:∀ b∈B,iq w 9 b)(h2:∀ b∈B,iq w 3 b):Ap w' base x:=
 ⟨⟨xC h.env.ns k (λ b hb=>.inr (h1 b hb)),xC h.env.ts k (λ b hb=>.inr (h1 b hb)),h.env.nil⟩,xC h.fr k (λ b hb=>.inr (h2 b hb)),h.nil⟩
variable {wX w5:W8}
theorem te.add {W:W8}{v':Value}{x:WG}(h:te wX base v ws)(hx:Ap wX base x)(hW:zN [] wX W)(hg:W.grownBy w5 v.ownBlock)(aC:w5.ownsRow base 325 3 v' (ws.length+1) (ws.flatMap WG.cells++x.cells)):te w5 base v' (ws++[x]):=by
 have k5:zN v.ownBlock.toList wX w5:=(hW.mono (by simp)).trans (zN.aN hg);have n1:∀ b∈v.ownBlock.toList,iq wX 9 b:=yP h.row (by decide);have n2:∀ b∈v.ownBlock.toList,iq wX 3 b:=yP h.row (by decide);refine⟨?_,λ y hy=>?_⟩
 ·rw[List.length_append,List.flatMap_append];simpa using aC
 ·rcases List.mem_append.1 hy with hy | hy
  ·exact (h.each y hy).cq k5 n1 n2
  ·rw[List.mem_singleton.1 hy];exact hx.cq k5 n1 n2
theorem te.other {W:W8}{u:Value}{us:List WG}(h:te wX base v ws)(hu:te wX base u us)(eI:∀ g,v.ownBlock=some g->u.ownBlock≠some g)(hW:zN [] wX W)(hg:W.grownBy w5 v.ownBlock):te w5 base u us:=by
 have k5:zN v.ownBlock.toList wX w5:=(hW.mono (by simp)).trans (zN.aN hg);have n1:∀ b∈v.ownBlock.toList,iq wX 9 b:=yP h.row (by decide);have n2:∀ b∈v.ownBlock.toList,iq wX 3 b:=yP h.row (by decide);exact⟨xI hu.row (λ g e=>k5.block g (hu.row.lt g e).2 (λ hm=>eI g (by simpa using hm) e)),λ y hy=>(hu.each y hy).cq k5 n1 n2⟩
theorem zq5 (h:w.ownsRow base 325 3 v ws.length (ws.flatMap WG.cells))(hk:k<ws.length):∃ g cap,v=.slice (some ⟨g,0,none⟩) ws.length cap/\base<=g/\g<w.heap.size/\ws.length<=cap/\cap<=maxLen/\w.cell? ⟨g,k*3,none⟩=some ws[k].nv/\w.cell? ⟨g,k*3+1,none⟩=some ws[k].tv/\w.cell? ⟨g,k*3+2,none⟩=some ws[k].fv:=by
 obtain⟨g,cap,hv,hb,bR,cZ,da,hc⟩:=vU (f:=WG.cells) (λ _=>rfl) h k hk;exact⟨g,cap,hv,hb,bR,cZ,da,hc 0 (by decide),hc 1 (by decide),hc 2 (by decide)⟩
theorem zzj:(Tryz.prog.info? 325).map (λ i=>(i.zero,i.size,i.bytes))=some (some (.agg #[.slice none 0 0,.slice none 0 0,.slice none 0 0]),3,72):=by kernel_rfl
theorem zi8:(Tryz.prog.info? 262).map (λ i=>(i.zero,i.size,i.bytes))=some (some (.agg #[.string { data:=#[] },.slice none 0 0,.bool false,.int .i64 0,.int .i64 0,.string { data:=#[] },.int .i64 0,.int .i64 0,.int .i64 0,.slice none 0 0]),10,128):=by kernel_rfl
theorem z3u {l:List Nat}:∀ u∈zng l,u.oneCell'=true:=by
 intro u hu;obtain⟨x,_,rfl⟩:=List.mem_map.1 hu;rfl
theorem Zp (a b:List Nat):zng (a++b)=zng a++zng b:=List.map_append
end
end Go.Proofs.YtldkpahaocjdpaaGreat
