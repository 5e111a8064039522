/-
  A strings.Builder that the call has made: what copyCheck, WriteString and WriteByte do to it.
-/
import Derived.Lib.Builder
import Derived.Lib.AppendStr
import Derived.Lib.UnsafeStr
import Derived.Laws.Externs
import Derived.OwnWalk
import Derived.Lib.Hide
import Derived.Test.YtldkpahaocjdpaaGreatD14
import Derived.Laws.Concat
import Derived.StillTailTactics
import Derived.KernelRfl
set_option maxHeartbeats 16000000
set_option maxRecDepth 1000000
namespace Go.Proofs.YtldkpahaocjdpaaGreat
section
open Go.RowKit
theorem z3r:(Tryz.prog.info? 155).map (·.size)=some 2:=by kernel_rfl
theorem yar:liesAt Tryz.prog Tryz.prog.depth 155 (2/Tryz.prog.cellsOf 155) 0 155 1=true:=by kernel_rfl
theorem zj8:(Tryz.prog.info? 5).map (λ i=>(i.zero,i.size,i.bytes))=some (some (.int .u8 0),1,1):=by kernel_rfl
theorem z0s (b:Nat)(w:W8)(h0:w.cell? ⟨b,0,none⟩=some (.pointer (some ⟨b,0,none⟩))):
  Calls Tryz.prog 169 #[.pointer (some ⟨b,0,none⟩)] w λ e w'=>e=.returned (.tuple #[])/\w'=w:=by
 obtain⟨j,hj,_⟩:=Option.map_eq_some_iff.1 z3r;go_enter Tryz.func169,Tryz.ntmps169
 go_wp2
 rw[Lib.run_neq_ptr_same w _ Tryz.underlying153 hj]
 go_wp2
 go_end0;exact⟨rfl,rfl⟩
theorem zxh (b:Nat)(w:W8)(h0:w.cell? ⟨b,0,none⟩=some (.pointer none))(Ga:w.shape? b=some (155,2))(Fx:w.frozen? ⟨b,0,none⟩=false):
  Calls Tryz.prog 169 #[.pointer (some ⟨b,0,none⟩)] w λ e w'=>e=.returned (.tuple #[])/\w'=w.setCell ⟨b,0,none⟩ (.pointer (some ⟨b,0,none⟩)):=by
 obtain⟨j,hj,Jw⟩:=Option.map_eq_some_iff.1 z3r;go_enter Tryz.func169,Tryz.ntmps169
 go_wp2
 rw[Lib.run_to_unsafe w ⟨b,0,none⟩ Tryz.underlying153 Tryz.underlying349 hj (by rw[Jw];decide) Ga (Nat.zero_lt_succ 1)];simp only[Result.andThen];rw[Oper.upon_value]
 go_wp2
 rw[run_callFunc_extern Tryz.func219 (by kernel_rfl) (by kernel_rfl) (by kernel_rfl) (e:=Extern.AbiNoEscape.same) (by kernel_rfl)];rw[Lib.run_noEscape];simp only[Result.andThen];rw[Oper.upon_value]
 go_wp2
 rw[Lib.run_from_unsafe w ⟨b,0,none⟩ Tryz.underlying349 Tryz.underlying153 hj Ga yar];simp only[Result.andThen];rw[Oper.upon_value]
 go_wp2
 go_end0;exact⟨rfl,rfl⟩
def aP (w w':W8):Prop:=∀ (x:Nat) (c:Array Value) (e:TypeId) (fr:Nat × Nat),w.heap[x]?=some (.cells c e fr)->e≠155->e≠5->w'.heap[x]?=some (.cells c e fr)
theorem aP.refl (w:W8):aP w w:=λ _ _ _ _ h _ _=>h
variable {a:W8}
theorem aP.trans {b c:W8}(h:aP a b)(k:aP b c):aP a c:=λ x cc e fr hx h1 h2=>k x cc e fr (h x cc e fr hx h1 h2) h1 h2
variable {w:W8}
theorem aP.alloc (h:aP a w)(o:Obj):aP a (w.alloc o):=λ x c e fr hx h1 h2=>by
 have h3:=h x c e fr hx h1 h2;rw[Below.heap_alloc _ _ _ (Array.getElem?_eq_some_iff.1 h3).1];exact h3
theorem aP.setCell {b:Nat}{cs:Array Value}{fr:Nat × Nat}(hb:w.heap[b]?=some (.cells cs 155 fr))(o:Nat)(v:Value):aP w (w.setCell ⟨b,o,none⟩ v):=λ x c e fr' hx h1 _=>by
 rw[Below.heap_setCell _ _ _ _ (by
  intro h;simp at h;subst h;rw[hb] at hx;injection hx with hx
  injection hx with _ hx _
  exact h1 hx.symm)]
 exact hx
variable {xs:V8} {v:Value} {n:Nat}
theorem aP.grown {w1:W8}{B:Nat}(aI:w.ownsRow B 5 1 v n xs)(hg:w.grownBy w1 v.ownBlock):aP w w1:=λ x c e fr hx _ h2=>by
 rw[hg.block x (Array.getElem?_eq_some_iff.1 hx).1 (λ h=>?_)]
 ·exact hx
 ·rcases aI.2 with⟨rfl,_⟩ | ⟨g,cap,cur,rfl,_,dn,_⟩
  ·cases h
  ·injection h with h
   simp only at h;subst h;rw[hx] at dn;injection dn with dn
   injection dn with _ dn _
   exact h2 dn
theorem aP.own {w':W8}{base:Nat}{e:TypeId}{size:Nat}(k:aP w w')(h:w.ownsRow base e size v n xs)(h1:e≠155)(h2:e≠5):w'.ownsRow base e size v n xs:=by
 refine⟨h.1,?_⟩;rcases h.2 with hn | ⟨g,cap,cur,rfl,hb,dn,rest⟩
 ·exact .inl hn
 ·exact .inr ⟨g,cap,cur,rfl,hb,k g _ _ _ dn h1 h2,rest⟩
theorem zhh (B b:Nat)(bs:V8)(w:W8)(h:Lib.IsBuilder 155 5 B b bs w):
  Calls Tryz.prog 169 #[.pointer (some ⟨b,0,none⟩)] w λ e w'=>e=.returned (.tuple #[])/\Lib.BuilderAt 155 5 B b (.pointer (some ⟨b,0,none⟩)) bs w'/\Below B w w'/\aP w w':=by
 rcases h with h | h
 ·refine (zxh b w h.cell0 h.shape h.frozen0).mono ?_;rintro e w' ⟨rfl,rfl⟩;obtain⟨_,v,hb,_⟩:=id h;exact⟨rfl,h.used _,(Below.refl B w).setCell (p:=⟨b,0,none⟩) h.1 _,aP.setCell hb 0 _⟩
 ·refine (z0s b w h.cell0).mono ?_;rintro e w' ⟨rfl,rfl⟩;exact⟨rfl,h,Below.refl B _,aP.refl _⟩
theorem zoj (w1:W8)(x:Value)(ty:TypeId)(j:Nat)(u:Value)(h:([x]:V8)[j]?=some u):(w1.alloc (Obj.cells #[x] ty)).cell? ((⟨w1.heap.size,0,none⟩:Addr).add j)=some u:=cell_one_new w1 x ty j u h
theorem z6y (c:Int):∀ u∈([Value.int .u8 c]:V8),u.oneCell'=true:=by
 intro u hu;simp at hu;subst hu;rfl
def jI (l:List UInt8):V8:=l.map λ b=>Value.int .u8 b.toNat
theorem zqu (l:List UInt8)(s:B8):jI l++Lib.strCells s=jI (l++s.data.toList):=by simp[jI,Lib.strCells]
theorem zqt (l:List UInt8)(c:UInt8):jI l++[Value.int .u8 c.toNat]=jI (l++[c]):=by simp[jI]
theorem zjg (l:List UInt8):(jI l).length=l.length:=by simp[jI]
def Holds (B b:Nat)(l:List UInt8)(w:W8):Prop:=Lib.IsBuilder 155 5 B b (jI l) w
theorem zqb (B b:Nat)(l:List UInt8)(s:B8)(w:W8)(h:Holds B b l w)(hlen:l.length+s.size<=140737488355328)(hBw:B<=w.heap.size):
  Calls Tryz.prog 111 #[.pointer (some ⟨b,0,none⟩),.string s] w λ e w'=>e=.returned (.tuple #[.int .i64 s.size,.nilIface])/\Holds B b (l++s.data.toList) w'/\Below B w w'/\aP w w':=by
 obtain⟨i0,hi,dK,cB,bZ⟩:=info_parts zj8;have ik:=zjg l;go_enter Tryz.func111,Tryz.ntmps111;go_wp2_with fail;refine (zhh B b (jI l) _ h).mono ?_;rintro e w1 ⟨rfl,h1,aT,de⟩;obtain⟨hB,v,aL,aI,bG⟩:=h1;have c0:w1.cell? ⟨b,0,none⟩=some (.pointer (some ⟨b,0,none⟩)):=by rw[Lib.cell_of_heap aL];rfl
 have c1:w1.cell? ⟨b,1,none⟩=some v:=by rw[Lib.cell_of_heap aL];rfl
 have hz:=aT.size;go_wp2_with (at_builtin;refine Lib.wpList_append_own_string _ rfl _ _ 47 9 rfl B 5 i0 Tryz.underlying47 Tryz.underlying9 hi dK cB bZ _ _ _ rfl aI s rfl (by unfold maxLen;omega) (by omega) (by omega) ?_);intro v' w2 fO hgrow _;have bP:b<w1.heap.size:=(Array.getElem?_eq_some_iff.1 aL).1;have aU:w2.heap[b]?=some (.cells #[.pointer (some ⟨b,0,none⟩),v] 155 (0,0)):=by
  rw[hgrow.block b bP (λ e=>bG e.symm)];exact aL
 have d0:w2.cell? ⟨b,0,none⟩=some (.pointer (some ⟨b,0,none⟩)):=by rw[Lib.cell_of_heap aU];rfl
 have d1:w2.cell? ⟨b,1,none⟩=some v:=by rw[Lib.cell_of_heap aU];rfl
 have f1:w2.frozen? ⟨b,1,none⟩=false:=Lib.frozen_of_heap aU 1;obtain⟨ao,n',cap,rfl⟩:∃ ao n' cap,v'=.slice ao n' cap:=by
  rcases fO.2 with⟨hv,_⟩ | ⟨g,cap,cur,hv,_⟩
  ·exact⟨_,_,_,hv⟩
  ·exact⟨_,_,_,hv⟩
 have fX:=Lib.BuilderAt.put (T:=155) (e:=5) hB aU (v':=.slice ao n' cap) (bs':=jI l++Lib.strCells s) (by rw[List.length_append,Lib.strCells_length,ik];exact fO) (by decide);rw[zqu] at fX;have HP:=zC fX;have HK:=zC ((de.trans (aP.grown aI hgrow)).trans (aP.setCell aU 1 (.slice ao n' cap)));have HB:=zC ((aT.grown hgrow (by omega) (λ k hk=>(aI.lt k hk).1)).setCell (p:=⟨b,1,none⟩) hB (.slice ao n' cap));clear fX fO hgrow aT aI aL aU c0 c1 de;go_wp2_with fail
 go_ret2
 exact⟨rfl,.inr (zA HP),zA HB,zA HK⟩
theorem zml (B b:Nat)(l:List UInt8)(c:UInt8)(w:W8)(h:Holds B b l w)(hlen:l.length+1<=140737488355328)(hBw:B<=w.heap.size):
  Calls Tryz.prog 167 #[.pointer (some ⟨b,0,none⟩),.int .u8 c.toNat] w λ e w'=>e=.returned .nilIface/\Holds B b (l++[c]) w'/\Below B w w'/\aP w w':=by
 obtain⟨i0,hi,dK,cB,bZ⟩:=info_parts zj8;have ik:=zjg l;go_enter Tryz.func167,Tryz.ntmps167;go_wp2_with fail;refine (zhh B b (jI l) _ h).mono ?_;rintro e w1 ⟨rfl,h1,aT,de⟩;obtain⟨hB,v,aL,aI,bG⟩:=h1;have c0:w1.cell? ⟨b,0,none⟩=some (.pointer (some ⟨b,0,none⟩)):=by rw[Lib.cell_of_heap aL];rfl
 have c1:w1.cell? ⟨b,1,none⟩=some v:=by rw[Lib.cell_of_heap aL];rfl
 have hz:=aT.size;go_wp2_with (at_builtin;refine wpList_append_own _ rfl _ _ 47 rfl B 5 i0 (.int .u8 0) 1 1 Tryz.underlying47 hi dK cB bZ rfl (by decide) _ _ _ rfl (aI.alloc _) ⟨w1.heap.size,0,none⟩ 1 1 [.int .u8 c.toNat] rfl rfl (zoj w1 _ _) (z6y _) (by unfold maxLen;omega) (by omega) (by simp;omega) ?_);intro v' w2 fO hgrow _;have bP:b<w1.heap.size:=(Array.getElem?_eq_some_iff.1 aL).1;have aU:w2.heap[b]?=some (.cells #[.pointer (some ⟨b,0,none⟩),v] 155 (0,0)):=by
  rw[hgrow.block b (by simp;omega) (λ e=>bG e.symm),Below.heap_alloc _ _ _ bP];exact aL
 have d0:w2.cell? ⟨b,0,none⟩=some (.pointer (some ⟨b,0,none⟩)):=by rw[Lib.cell_of_heap aU];rfl
 have d1:w2.cell? ⟨b,1,none⟩=some v:=by rw[Lib.cell_of_heap aU];rfl
 have f1:w2.frozen? ⟨b,1,none⟩=false:=Lib.frozen_of_heap aU 1;obtain⟨ao,n',cap,rfl⟩:∃ ao n' cap,v'=.slice ao n' cap:=by
  rcases fO.2 with⟨hv,_⟩ | ⟨g,cap,cur,hv,_⟩
  ·exact⟨_,_,_,hv⟩
  ·exact⟨_,_,_,hv⟩
 have fX:=Lib.BuilderAt.put (T:=155) (e:=5) hB aU (v':=.slice ao n' cap) (bs':=jI l++[.int .u8 c.toNat]) (by rw[List.length_append,ik];exact fO) (by decide);rw[zqt] at fX;have HP:=zC fX;have HK:=zC (((de.alloc _).trans (aP.grown (aI.alloc _) hgrow)).trans (aP.setCell aU 1 (.slice ao n' cap)));have HB:=zC (((aT.alloc (by omega) _).grown hgrow (by simp;omega) (λ k hk=>(aI.lt k hk).1)).setCell (p:=⟨b,1,none⟩) hB (.slice ao n' cap));clear fX fO hgrow aT aI aL aU c0 c1 de;go_wp2_with fail;go_ret;exact⟨rfl,.inr (zA HP),zA HB,zA HK⟩
end
section
open Go.RowKit
def vT:List (Bool × B8)->Nat->List UInt8
 | [],_=>[]
 | t::r,i=>(if i=0 then 40 else 44)::(t.2.data.toList++vT r (i+1))
def zbv (pd:B8)(ts:List (Bool × B8)):List UInt8:=pd.data.toList++(vT ts 0++if ts.length=0 then [] else [41])
theorem zux {ts:List (Bool × B8)}{k:Nat}(h:k<ts.length):vT (ts.drop k) k=(if k=0 then 40 else 44)::(ts[k].2.data.toList++vT (ts.drop (k+1)) (k+1)):=by
 rw[List.drop_eq_getElem_cons h,vT]
theorem zfg (s:B8):s.data.toList.length=s.size:=by rw[Array.length_toList];rfl
theorem zof (W:W8)(v:Value):(Instr.typeAssert (.iface 130 v) 191 193 true).run Tryz.prog W=.ok (.tuple #[.string { data:=#[] },.bool false]) W:=by kernel_rfl
def ycm (B b:Nat)(w:W8)(l:List UInt8)(e:Ending)(w':W8):Prop:=e=.returned (.tuple #[])/\Holds B b l w'/\Below B w w'/\aP w w'/\B<=w'.heap.size
theorem zs8 (B b:Nat)(l:List UInt8)(pP:Bool)(s:B8)(w:W8)(h:Holds B b l w)(hlen:l.length+s.size<=140737488355328)(hBw:B<=w.heap.size):
  Calls Tryz.prog 168 #[.pointer (some ⟨b,0,none⟩),zdg pP s] w (ycm B b w (l++s.data.toList)):=by
 have Fi:=zdm;have ya:=zof;have LU:=zck;unfold zdg
 cases pP with
 | true=>
  rw[if_pos rfl];go_enter Tryz.func168,Tryz.ntmps168;go_wp2_with fail;refine (zqb B b l s _ h hlen hBw).mono ?_;rintro e w1 ⟨rfl,h1,aT,de⟩;go_wp2_with fail;go_end0;exact⟨rfl,h1,aT,de,Nat.le_trans hBw aT.size⟩
 | false=>
  rw[if_neg (by decide)];go_enter Tryz.func168,Tryz.ntmps168;go_wp2_with fail;refine (zqb B b l s _ h hlen hBw).mono ?_;rintro e w1 ⟨rfl,h1,aT,de⟩;go_wp2_with fail;go_end0;exact⟨rfl,h1,aT,de,Nat.le_trans hBw aT.size⟩
theorem Holds.alloc {B b:Nat}{l:List UInt8}{w:W8}(h:Holds B b l w)(o:Obj):Holds B b l (w.alloc o):=by
 have key:∀ p,Lib.BuilderAt 155 5 B b p (jI l) w->Lib.BuilderAt 155 5 B b p (jI l) (w.alloc o):=by
  rintro p ⟨hB,v,hb,aI,bG⟩;exact⟨hB,v,by rw[Below.heap_alloc _ _ _ (Array.getElem?_eq_some_iff.1 hb).1];exact hb,aI.alloc o,bG⟩
 rcases h with h | h
 ·exact .inl (key _ h)
 ·exact .inr (key _ h)
theorem z4n (B b:Nat)(l:List UInt8)(pd:B8)(a:O8)(c base:Nat)(ts:List (Bool × B8))(w:W8)(h:Holds B b l w)(aI:w.ownsRow base 191 1 (.slice a ts.length c) ts.length (yP ts))(hlen:l.length+(zbv pd ts).length<=1000000000)(hBw:B<=w.heap.size):
  Calls Tryz.prog 110 #[.pointer (some ⟨b,0,none⟩),.agg #[.string pd,.slice a ts.length c]] w (ycm B b w (l++zbv pd ts)):=by
 have gl:=vV aI;unfold maxLen at gl;have dP:=zfg pd;have e0:(zbv pd ts).length=pd.size+((vT ts 0).length+(if ts.length=0 then ([]:List UInt8) else [41]).length):=by simp only[zbv,List.length_append,dP]
 have da:(w.alloc (.cells #[.string pd,.slice a ts.length c] 79)).heap[w.heap.size]?=_:=heap_alloc_new w _;have bA:=(Below.refl w.heap.size w).alloc L9 (.cells #[.string pd,.slice a ts.length c] 79);have kA:=(aP.refl w).alloc (.cells #[.string pd,.slice a ts.length c] 79);have HE:=zC (show l++zbv pd ts=l++pd.data.toList++(vT ts 0++if ts.length=0 then [] else [41]) by simp[zbv]);go_enter Tryz.func110,Tryz.ntmps110;go_wp2_with fail;refine (zqb B b l pd _ (h.alloc _) (by omega) (by simp;omega)).mono ?_;rintro e w1 ⟨rfl,h1,aT,de⟩;have gS:=(bA.mono hBw).trans aT;have oe:=kA.trans de;have jc:=de _ _ _ _ da (by decide) (by decide);have fP:=oe.own aI (by decide) (by decide);have cB:=aT.size;rw[World.size_alloc] at cB;obtain⟨x0,ou⟩:=zB jc 0;obtain⟨x1,ov⟩:=zB jc 1;have gQ:=zC aI;clear da aT de bA kA aI h
 by_cases hn:ts.length=0
 ·have AA:((ts.length:Int)==0)=true:=by simp[hn]
  have jh:ts=[]:=List.length_eq_zero_iff.1 hn;have vn:=zC (show l++zbv pd ts=l++pd.data.toList by rw[zA HE,jh];simp[vT]);clear HE hn jh;go_wp2_with fail;go_end0;exact⟨rfl,by rw[zA vn];exact h1,gS,oe,by omega⟩
 ·have AA:((ts.length:Int)==0)=false:=by simp;exact λ e=>hn (by rw[e];rfl)
  have EK:(if ts.length=0 then ([]:List UInt8) else [41])=[41]:=if_neg hn;rw[EK] at e0 HE;have LJ:([41]:List UInt8).length=1:=rfl;rw[LJ] at e0;clear EK hn;go_wp2_with fail
  go_loopg [17] ts.length (λ gg i wr=>∃ (k:Nat) (m:List UInt8),k<=ts.length/\gg=ts.length-k/\i=.int .i64 k/\Holds B b m wr/\Below B w wr/\aP w wr/\w.heap.size<wr.heap.size/\wr.heap[w.heap.size]?=some (.cells #[.string pd,.slice a ts.length c] 79 (0,0))/\m++vT (ts.drop k) k=l++pd.data.toList++vT ts 0)
  exact⟨0,_,Nat.zero_le _,rfl,rfl,h1,gS,oe,by omega,jc,rfl⟩
  case round=>
   clear h1 gS oe jc fP x0 x1 ou ov;obtain⟨k,m,hk,fM,rfl,h1,gS,oe,hsz,jc,hm⟩:=hrel;have ed:=congrArg List.length hm;simp only[List.length_append,dP] at ed
   by_cases aN:k<ts.length
   ·have iq:=zux aN;have HM:=zC (iq ▸ hm);rw[iq] at ed;simp only[List.length_cons,List.length_append,zfg] at ed;clear hm iq;have fP:=oe.own (zA gQ) (by decide) (by decide);obtain⟨g,cap,hv,iC,dp,dG,dx,hc⟩:=zlo fP k aN;injection hv with i1 i2 i3
    subst i1 i3;obtain⟨pP,tx,het⟩:∃ pP tx,ts[k]=(pP,tx):=⟨_,_,rfl⟩;have e1:ts[k].1=pP:=(by rw[het]);have e2:ts[k].2=tx:=(by rw[het]);rw[e1,e2] at hc;rw[e2] at HM ed;obtain⟨x1,ov⟩:=zB jc 1;clear het e1 e2 fP;have lW:zdg pP tx=.iface (if pP then 130 else 193) (.string tx):=rfl;rw[lW] at hc;have D6:=zC lW;clear lW;generalize hty:(if pP then 130 else 193)=ty at hc;have Ew:=zC hty;clear hty
    cases k with
    | zero=>
     go_wp2_with fail;refine (zml B b m 40 _ h1 (by omega) (by omega)).mono ?_;rintro e w2 ⟨rfl,h2,aU,cN⟩;have bZ:=aU.size;have eW:=cN _ _ _ _ jc (by decide) (by decide);have mx:=gS.trans aU;have bM:=oe.trans cN;clear aU cN jc h1 gS oe x1 ov;go_wp2_with fail;rw[<-zA Ew,<-zA D6];refine (zs8 B b _ pP tx _ h2 (by simp;omega) (by omega)).mono ?_;rintro e w3 ⟨rfl,h3,cE,fB,pO⟩;have oT:=fB _ _ _ _ eW (by decide) (by decide);have DA:=cE.size;have HR:=zC (And.intro h3 (And.intro (mx.trans cE) (And.intro (bM.trans fB) oT)));clear eW oT h2 h3 cE fB mx bM;go_wp2_with fail;go_roundg (ts.length-(0+1));exact⟨0+1,_,by omega,rfl,by go_num,(zA HR).1,(zA HR).2.1,(zA HR).2.2.1,by omega,(zA HR).2.2.2,by have:=zA HM;simpa using this⟩;omega
    | succ k=>
     have cM:(((k+1:Nat):Int)==0)=false:=(by simp;omega);go_wp2_with fail;refine (zml B b m 44 _ h1 (by omega) (by omega)).mono ?_;rintro e w2 ⟨rfl,h2,aU,cN⟩;have bZ:=aU.size;have eW:=cN _ _ _ _ jc (by decide) (by decide);have mx:=gS.trans aU;have bM:=oe.trans cN;clear aU cN jc h1 gS oe x1 ov;go_wp2_with fail;rw[<-zA Ew,<-zA D6];refine (zs8 B b _ pP tx _ h2 (by simp;omega) (by omega)).mono ?_;rintro e w3 ⟨rfl,h3,cE,fB,pO⟩;have oT:=fB _ _ _ _ eW (by decide) (by decide);have DA:=cE.size;have HR:=zC (And.intro h3 (And.intro (mx.trans cE) (And.intro (bM.trans fB) oT)));clear eW oT h2 h3 cE fB mx bM;go_wp2_with fail;go_roundg (ts.length-(k+1+1));exact⟨k+1+1,_,by omega,rfl,by go_num,(zA HR).1,(zA HR).2.1,(zA HR).2.2.1,by omega,(zA HR).2.2.2,by have:=zA HM;simpa using this⟩;omega
   ·have hd:ts.drop k=[]:=List.drop_of_length_le (by omega);rw[hd] at hm ed;simp only[vT,List.append_nil,List.length_nil] at hm ed;have HM:=zC hm;clear hm hd;go_wp2_with fail;refine (zml B b m 41 _ h1 (by omega) (by omega)).mono ?_;rintro e w2 ⟨rfl,h2,aU,cN⟩;have bZ:=aU.size;have HR:=zC (And.intro h2 (And.intro (gS.trans aU) (oe.trans cN)));clear h1 gS oe h2 aU cN jc;go_wp2_with fail;go_end0;refine⟨rfl,?_,(zA HR).2.1,(zA HR).2.2,by omega⟩;rw[zA HE,<-List.append_assoc,<-zA HM];exact (zA HR).1
end
section
open Go.RowKit
theorem zm7 {w1:W8}{n:Nat}{u0 u1:Value}(h0:w1.cell? ⟨n,0,none⟩=some u0)(h1:w1.cell? ⟨n,1,none⟩=some u1)(v0 v1:Value):((w1.setCell ⟨n,0,none⟩ v0).setCell ⟨n,1,none⟩ v1).cell? ⟨n,0,none⟩=some v0/\((w1.setCell ⟨n,0,none⟩ v0).setCell ⟨n,1,none⟩ v1).cell? ⟨n,1,none⟩=some v1:=
 ⟨by rw[zS (by omega)];exact jX h0,jX (by rw[zS (by omega)];exact h1)⟩
end
section
open Go.RowKit
structure iP (w:W8)(a:O8)(c:Nat)(bs:List Nat):Prop where
 cap:bs.length<=c
 max:c<=maxLen
 byte:∀ x∈bs,x<256
 at_:0<bs.length->∃ g o,a=some ⟨g,o,none⟩/\g<w.heap.size/\∀ (j:Nat) (h:j<bs.length),w.cell? ⟨g,o+j,none⟩=some (.int .u8 (bs[j]:Nat))
variable {bs:List Nat} {c:Nat} {w:W8}
theorem iP.below {w':W8}{a:O8}(h:iP w a c bs)(k:Below w.heap.size w w'):iP w' a c bs:=
 ⟨h.cap,h.max,h.byte,λ h0=>let ⟨g,o,e,hg,hc⟩:=h.at_ h0;⟨g,o,e,Nat.lt_of_lt_of_le hg k.size,λ j hj=>(k.cell (p:=⟨g,o+j,none⟩) hg).trans (hc j hj)⟩⟩
theorem iP.drop {g o:Nat}(h:iP w (some ⟨g,o,none⟩) c bs)(n:Nat):iP w (some ⟨g,o+n,none⟩) (c-n) (bs.drop n):=by
 refine⟨by rw[List.length_drop];have:=h.cap;omega,by have:=h.max;omega,λ x hx=>h.byte x (List.mem_of_mem_drop hx),λ h0=>?_⟩;rw[List.length_drop] at h0;obtain⟨g',o',e,hg,hc⟩:=h.at_ (by omega);injection e with e
 injection e with e1 e2
 subst e1 e2;refine⟨g,o+n,rfl,hg,λ j hj=>?_⟩;rw[List.length_drop] at hj;have:=hc (n+j) (by omega);rw[List.getElem_drop,show o+n+j=o+(n+j) by omega];exact this
theorem iP.none (a:O8)(c:Nat)(hc:c<=maxLen):iP w a c []:=⟨Nat.zero_le _,hc,by simp,λ h=>by simp at h⟩
end
end Go.Proofs.YtldkpahaocjdpaaGreat
