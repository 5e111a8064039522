/-
  A strings.Builder that the call has made: what copyCheck, WriteString and WriteByte do to it.
-/
import Derived.Lib.Builder
import Derived.Lib.AppendStr
import Derived.Lib.UnsafeStr
import Derived.Laws.Externs
import Derived.OwnWalk
import Derived.Lib.Hide
import Derived.Test.YtldkpahaocjdpaaGreatR16
import Derived.Test.YtldkpahaocjdpaaGreatR23
import Derived.Laws.Concat
import Derived.StillTailTactics
import Derived.KernelRfl
set_option maxHeartbeats 16000000
set_option maxRecDepth 1000000
namespace Go.Proofs.YtldkpahaocjdpaaGreat
section
open Go.RowKit
theorem z5h:(Tryz.prog.info? 155).map (·.size)=some 2:=by kernel_rfl
theorem yb3:liesAt Tryz.prog Tryz.prog.depth 155 (2/Tryz.prog.cellsOf 155) 0 155 1=true:=by kernel_rfl
theorem zkl:(Tryz.prog.info? 5).map (λ i=>(i.zero,i.size,i.bytes))=some (some (.int .u8 0),1,1):=by kernel_rfl
theorem z2d (b:Nat)(w:W8)(h0:w.cell? ⟨b,0,none⟩=some (.pointer (some ⟨b,0,none⟩))):
  Calls Tryz.prog 169 #[.pointer (some ⟨b,0,none⟩)] w λ e w'=>e=.returned (.tuple #[])/\w'=w:=by
 obtain⟨j,hj,_⟩:=Option.map_eq_some_iff.1 z5h;go_enter Tryz.func169,Tryz.ntmps169
 go_wp2
 rw[Lib.run_neq_ptr_same w _ Tryz.underlying153 hj]
 go_wp2
 go_end0;exact⟨rfl,rfl⟩
theorem zy4 (b:Nat)(w:W8)(h0:w.cell? ⟨b,0,none⟩=some (.pointer none))(Ga:w.shape? b=some (155,2))(Fx:w.frozen? ⟨b,0,none⟩=false):
  Calls Tryz.prog 169 #[.pointer (some ⟨b,0,none⟩)] w λ e w'=>e=.returned (.tuple #[])/\w'=w.setCell ⟨b,0,none⟩ (.pointer (some ⟨b,0,none⟩)):=by
 obtain⟨j,hj,Jw⟩:=Option.map_eq_some_iff.1 z5h;go_enter Tryz.func169,Tryz.ntmps169
 go_wp2
 rw[Lib.run_to_unsafe w ⟨b,0,none⟩ Tryz.underlying153 Tryz.underlying349 hj (by rw[Jw];decide) Ga (Nat.zero_lt_succ 1)];simp only[Result.andThen];rw[Oper.upon_value]
 go_wp2
 rw[run_callFunc_extern Tryz.func219 (by kernel_rfl) (by kernel_rfl) (by kernel_rfl) (e:=Extern.AbiNoEscape.same) (by kernel_rfl)];rw[Lib.run_noEscape];simp only[Result.andThen];rw[Oper.upon_value]
 go_wp2
 rw[Lib.run_from_unsafe w ⟨b,0,none⟩ Tryz.underlying349 Tryz.underlying153 hj Ga yb3];simp only[Result.andThen];rw[Oper.upon_value]
 go_wp2
 go_end0;exact⟨rfl,rfl⟩
def jY (w w':W8):Prop:=∀ (x:Nat) (c:Array Value) (e:TypeId) (fr:Nat × Nat),w.heap[x]?=some (.cells c e fr)->e≠155->e≠5->w'.heap[x]?=some (.cells c e fr)
theorem jY.refl (w:W8):jY w w:=λ _ _ _ _ h _ _=>h
variable {a:W8}
theorem jY.trans {b c:W8}(h:jY a b)(k:jY b c):jY a c:=λ x cc e fr hx h1 h2=>k x cc e fr (h x cc e fr hx h1 h2) h1 h2
variable {w:W8}
theorem jY.alloc (h:jY a w)(o:Obj):jY a (w.alloc o):=λ x c e fr hx h1 h2=>by
 have h3:=h x c e fr hx h1 h2;rw[Below.heap_alloc _ _ _ (Array.getElem?_eq_some_iff.1 h3).1];exact h3
theorem jY.setCell {b:Nat}{cs:Array Value}{fr:Nat × Nat}(hb:w.heap[b]?=some (.cells cs 155 fr))(o:Nat)(v:Value):jY w (w.setCell ⟨b,o,none⟩ v):=λ x c e fr' hx h1 _=>by
 rw[Below.heap_setCell _ _ _ _ (by
  intro h;simp at h;subst h;rw[hb] at hx;injection hx with hx
  injection hx with _ hx _
  exact h1 hx.symm)]
 exact hx
variable {xs:V8} {v:Value} {n:Nat}
theorem jY.grown {w1:W8}{B:Nat}(aI:w.ownsRow B 5 1 v n xs)(hg:w.grownBy w1 v.ownBlock):jY w w1:=λ x c e fr hx _ h2=>by
 rw[hg.block x (Array.getElem?_eq_some_iff.1 hx).1 (λ h=>?_)]
 ·exact hx
 ·rcases aI.2 with⟨rfl,_⟩ | ⟨g,cap,cur,rfl,_,dn,_⟩
  ·cases h
  ·injection h with h
   simp only at h;subst h;rw[hx] at dn;injection dn with dn
   injection dn with _ dn _
   exact h2 dn
theorem jY.own {w':W8}{base:Nat}{e:TypeId}{size:Nat}(k:jY w w')(h:w.ownsRow base e size v n xs)(h1:e≠155)(h2:e≠5):w'.ownsRow base e size v n xs:=by
 refine⟨h.1,?_⟩;rcases h.2 with hn | ⟨g,cap,cur,rfl,hb,dn,rest⟩
 ·exact .inl hn
 ·exact .inr ⟨g,cap,cur,rfl,hb,k g _ _ _ dn h1 h2,rest⟩
theorem zhp (B b:Nat)(bs:V8)(w:W8)(h:Lib.IsBuilder 155 5 B b bs w):
  Calls Tryz.prog 169 #[.pointer (some ⟨b,0,none⟩)] w λ e w'=>e=.returned (.tuple #[])/\Lib.BuilderAt 155 5 B b (.pointer (some ⟨b,0,none⟩)) bs w'/\Below B w w'/\jY w w':=by
 rcases h with h | h
 ·refine (zy4 b w h.cell0 h.shape h.frozen0).mono ?_;rintro e w' ⟨rfl,rfl⟩;obtain⟨_,v,hb,_⟩:=id h;exact⟨rfl,h.used _,(Below.refl B w).setCell (p:=⟨b,0,none⟩) h.1 _,jY.setCell hb 0 _⟩
 ·refine (z2d b w h.cell0).mono ?_;rintro e w' ⟨rfl,rfl⟩;exact⟨rfl,h,Below.refl B _,jY.refl _⟩
theorem zp5 (w1:W8)(x:Value)(ty:TypeId)(j:Nat)(u:Value)(h:([x]:V8)[j]?=some u):(w1.alloc (Obj.cells #[x] ty)).cell? ((⟨w1.heap.size,0,none⟩:Addr).add j)=some u:=cell_one_new w1 x ty j u h
theorem z8b (c:Int):∀ u∈([Value.int .u8 c]:V8),u.oneCell'=true:=by
 intro u hu;simp at hu;subst hu;rfl
def jG (l:List UInt8):V8:=l.map λ b=>Value.int .u8 b.toNat
theorem zsa (l:List UInt8)(s:B8):jG l++Lib.strCells s=jG (l++s.data.toList):=by simp[jG,Lib.strCells]
theorem zr9 (l:List UInt8)(c:UInt8):jG l++[Value.int .u8 c.toNat]=jG (l++[c]):=by simp[jG]
theorem zjt (l:List UInt8):(jG l).length=l.length:=by simp[jG]
def Holds (B b:Nat)(l:List UInt8)(w:W8):Prop:=Lib.IsBuilder 155 5 B b (jG l) w
theorem zei (B b:Nat)(l:List UInt8)(s:B8)(w:W8)(h:Holds B b l w)(hlen:l.length+s.size<=140737488355328)(hBw:B<=w.heap.size):
  Calls Tryz.prog 111 #[.pointer (some ⟨b,0,none⟩),.string s] w λ e w'=>e=.returned (.tuple #[.int .i64 s.size,.nilIface])/\Holds B b (l++s.data.toList) w'/\Below B w w'/\jY w w':=by
 obtain⟨i0,hi,dK,aj,bZ⟩:=info_parts zkl;have ik:=zjt l;go_enter Tryz.func111,Tryz.ntmps111;go_wp2_with fail;refine (zhp B b (jG l) _ h).mono ?_;rintro e w1 ⟨rfl,h1,aT,de⟩;obtain⟨hB,v,bN,aI,bG⟩:=h1;have c0:w1.cell? ⟨b,0,none⟩=some (.pointer (some ⟨b,0,none⟩)):=by rw[Lib.cell_of_heap bN];rfl
 have c1:w1.cell? ⟨b,1,none⟩=some v:=by rw[Lib.cell_of_heap bN];rfl
 have hz:=aT.size;go_wp2_with (at_builtin;refine Lib.wpList_append_own_string _ rfl _ _ 47 9 rfl B 5 i0 Tryz.underlying47 Tryz.underlying9 hi dK aj bZ _ _ _ rfl aI s rfl (by unfold maxLen;omega) (by omega) (by omega) ?_);intro v' w2 fO hgrow _;have bP:b<w1.heap.size:=(Array.getElem?_eq_some_iff.1 bN).1;have aU:w2.heap[b]?=some (.cells #[.pointer (some ⟨b,0,none⟩),v] 155 (0,0)):=by
  rw[hgrow.block b bP (λ e=>bG e.symm)];exact bN
 have d0:w2.cell? ⟨b,0,none⟩=some (.pointer (some ⟨b,0,none⟩)):=by rw[Lib.cell_of_heap aU];rfl
 have d1:w2.cell? ⟨b,1,none⟩=some v:=by rw[Lib.cell_of_heap aU];rfl
 have f1:w2.frozen? ⟨b,1,none⟩=false:=Lib.frozen_of_heap aU 1;obtain⟨ao,n',cap,rfl⟩:∃ ao n' cap,v'=.slice ao n' cap:=by
  rcases fO.2 with⟨hv,_⟩ | ⟨g,cap,cur,hv,_⟩
  ·exact⟨_,_,_,hv⟩
  ·exact⟨_,_,_,hv⟩
 have fX:=Lib.BuilderAt.put (T:=155) (e:=5) hB aU (v':=.slice ao n' cap) (bs':=jG l++Lib.strCells s) (by rw[List.length_append,Lib.strCells_length,ik];exact fO) (by decide);rw[zsa] at fX;have HP:=zC fX;have HK:=zC ((de.trans (jY.grown aI hgrow)).trans (jY.setCell aU 1 (.slice ao n' cap)));have HB:=zC ((aT.grown hgrow (by omega) (λ k hk=>(aI.lt k hk).1)).setCell (p:=⟨b,1,none⟩) hB (.slice ao n' cap));clear fX fO hgrow aT aI bN aU c0 c1 de;go_wp2_with fail
 go_ret2
 exact⟨rfl,.inr (zA HP),zA HB,zA HK⟩
theorem zmy (B b:Nat)(l:List UInt8)(c:UInt8)(w:W8)(h:Holds B b l w)(hlen:l.length+1<=140737488355328)(hBw:B<=w.heap.size):
  Calls Tryz.prog 167 #[.pointer (some ⟨b,0,none⟩),.int .u8 c.toNat] w λ e w'=>e=.returned .nilIface/\Holds B b (l++[c]) w'/\Below B w w'/\jY w w':=by
 obtain⟨i0,hi,dK,aj,bZ⟩:=info_parts zkl;have ik:=zjt l;go_enter Tryz.func167,Tryz.ntmps167;go_wp2_with fail;refine (zhp B b (jG l) _ h).mono ?_;rintro e w1 ⟨rfl,h1,aT,de⟩;obtain⟨hB,v,bN,aI,bG⟩:=h1;have c0:w1.cell? ⟨b,0,none⟩=some (.pointer (some ⟨b,0,none⟩)):=by rw[Lib.cell_of_heap bN];rfl
 have c1:w1.cell? ⟨b,1,none⟩=some v:=by rw[Lib.cell_of_heap bN];rfl
 have hz:=aT.size;go_wp2_with (at_builtin;refine wpList_append_own _ rfl _ _ 47 rfl B 5 i0 (.int .u8 0) 1 1 Tryz.underlying47 hi dK aj bZ rfl (by decide) _ _ _ rfl (aI.alloc _) ⟨w1.heap.size,0,none⟩ 1 1 [.int .u8 c.toNat] rfl rfl (zp5 w1 _ _) (z8b _) (by unfold maxLen;omega) (by omega) (by simp;omega) ?_);intro v' w2 fO hgrow _;have bP:b<w1.heap.size:=(Array.getElem?_eq_some_iff.1 bN).1;have aU:w2.heap[b]?=some (.cells #[.pointer (some ⟨b,0,none⟩),v] 155 (0,0)):=by
  rw[hgrow.block b (by simp;omega) (λ e=>bG e.symm),Below.heap_alloc _ _ _ bP];exact bN
 have d0:w2.cell? ⟨b,0,none⟩=some (.pointer (some ⟨b,0,none⟩)):=by rw[Lib.cell_of_heap aU];rfl
 have d1:w2.cell? ⟨b,1,none⟩=some v:=by rw[Lib.cell_of_heap aU];rfl
 have f1:w2.frozen? ⟨b,1,none⟩=false:=Lib.frozen_of_heap aU 1;obtain⟨ao,n',cap,rfl⟩:∃ ao n' cap,v'=.slice ao n' cap:=by
  rcases fO.2 with⟨hv,_⟩ | ⟨g,cap,cur,hv,_⟩
  ·exact⟨_,_,_,hv⟩
  ·exact⟨_,_,_,hv⟩
 have fX:=Lib.BuilderAt.put (T:=155) (e:=5) hB aU (v':=.slice ao n' cap) (bs':=jG l++[.int .u8 c.toNat]) (by rw[List.length_append,ik];exact fO) (by decide);rw[zr9] at fX;have HP:=zC fX;have HK:=zC (((de.alloc _).trans (jY.grown (aI.alloc _) hgrow)).trans (jY.setCell aU 1 (.slice ao n' cap)));have HB:=zC (((aT.alloc (by omega) _).grown hgrow (by simp;omega) (λ k hk=>(aI.lt k hk).1)).setCell (p:=⟨b,1,none⟩) hB (.slice ao n' cap));clear fX fO hgrow aT aI bN aU c0 c1 de;go_wp2_with fail;go_ret;exact⟨rfl,.inr (zA HP),zA HB,zA HK⟩
end
section
open Go.RowKit
def xP:List (Bool × B8)->Nat->List UInt8
 | [],_=>[]
 | t::r,i=>(if i=0 then 40 else 44)::(t.2.data.toList++xP r (i+1))
def j2 (pd:B8)(ts:List (Bool × B8)):List UInt8:=pd.data.toList++(xP ts 0++if ts.length=0 then [] else [41])
def zxv (L:yR):List UInt8:=(if L.neg then [110,111,116,32] else [])++j2 L.pd L.ts
def zge:List yR->Nat->List UInt8
 | [],_=>[]
 | L::r,i=>(if i=0 then [32,58,45,32] else [44,32])++(zxv L++zge r (i+1))
def zif (R:yH):List UInt8:=j2 R.pd R.ts++(zge R.body 0++[46,10])
def qZ (rs:List yH):List UInt8:=rs.flatMap zif
variable {k:Nat}
theorem zwg {ts:List (Bool × B8)}(h:k<ts.length):xP (ts.drop k) k=(if k=0 then 40 else 44)::(ts[k].2.data.toList++xP (ts.drop (k+1)) (k+1)):=by
 rw[List.drop_eq_getElem_cons h,xP]
theorem zzt {ls:List (yR × Value)}(h:k<ls.length):zge ((ls.map (·.1)).drop k) k=(if k=0 then [32,58,45,32] else [44,32])++(zxv ls[k].1++zge ((ls.map (·.1)).drop (k+1)) (k+1)):=by
 rw[List.drop_eq_getElem_cons (by simpa using h),zge];simp
theorem zfn (s:B8):s.data.toList.length=s.size:=by rw[Array.length_toList];rfl
theorem zp1 (W:W8)(v:Value):(Instr.typeAssert (.iface 130 v) 191 193 true).run Tryz.prog W=.ok (.tuple #[.string { data:=#[] },.bool false]) W:=by kernel_rfl
def z62 (B b:Nat)(w:W8)(l:List UInt8)(e:Ending)(w':W8):Prop:=e=.returned (.tuple #[])/\Holds B b l w'/\Below B w w'/\jY w w'/\B<=w'.heap.size
theorem zup (B b:Nat)(l:List UInt8)(pP:Bool)(s:B8)(w:W8)(h:Holds B b l w)(hlen:l.length+s.size<=140737488355328)(hBw:B<=w.heap.size):
  Calls Tryz.prog 168 #[.pointer (some ⟨b,0,none⟩),zdn pP s] w (z62 B b w (l++s.data.toList)):=by
 have Fi:=zds;have ya:=zp1;have Mm:=zcp;unfold zdn
 cases pP with
 | true=>
  rw[if_pos rfl];go_enter Tryz.func168,Tryz.ntmps168;go_wp2_with fail;refine (zei B b l s _ h hlen hBw).mono ?_;rintro e w1 ⟨rfl,h1,aT,de⟩;go_wp2_with fail;go_end0;exact⟨rfl,h1,aT,de,Nat.le_trans hBw aT.size⟩
 | false=>
  rw[if_neg (by decide)];go_enter Tryz.func168,Tryz.ntmps168;go_wp2_with fail;refine (zei B b l s _ h hlen hBw).mono ?_;rintro e w1 ⟨rfl,h1,aT,de⟩;go_wp2_with fail;go_end0;exact⟨rfl,h1,aT,de,Nat.le_trans hBw aT.size⟩
theorem Holds.alloc {B b:Nat}{l:List UInt8}{w:W8}(h:Holds B b l w)(o:Obj):Holds B b l (w.alloc o):=by
 have key:∀ p,Lib.BuilderAt 155 5 B b p (jG l) w->Lib.BuilderAt 155 5 B b p (jG l) (w.alloc o):=by
  rintro p ⟨hB,v,hb,aI,bG⟩;exact⟨hB,v,by rw[Below.heap_alloc _ _ _ (Array.getElem?_eq_some_iff.1 hb).1];exact hb,aI.alloc o,bG⟩
 rcases h with h | h
 ·exact .inl (key _ h)
 ·exact .inr (key _ h)
theorem zin (B b:Nat)(l:List UInt8)(pd:B8)(a:O8)(c base:Nat)(ts:List (Bool × B8))(w:W8)(h:Holds B b l w)(aI:w.ownsRow base 191 1 (.slice a ts.length c) ts.length (yN ts))(hlen:l.length+(j2 pd ts).length<=1000000000)(hBw:B<=w.heap.size):
  Calls Tryz.prog 110 #[.pointer (some ⟨b,0,none⟩),.agg #[.string pd,.slice a ts.length c]] w (z62 B b w (l++j2 pd ts)):=by
 have gl:=vK aI;unfold maxLen at gl;have dP:=zfn pd;have e0:(j2 pd ts).length=pd.size+((xP ts 0).length+(if ts.length=0 then ([]:List UInt8) else [41]).length):=by simp only[j2,List.length_append,dP]
 have da:(w.alloc (.cells #[.string pd,.slice a ts.length c] 79)).heap[w.heap.size]?=_:=heap_alloc_new w _;have bA:=(Below.refl w.heap.size w).alloc L9 (.cells #[.string pd,.slice a ts.length c] 79);have kA:=(jY.refl w).alloc (.cells #[.string pd,.slice a ts.length c] 79);have HE:=zC (show l++j2 pd ts=l++pd.data.toList++(xP ts 0++if ts.length=0 then [] else [41]) by simp[j2]);go_enter Tryz.func110,Tryz.ntmps110;go_wp2_with fail;refine (zei B b l pd _ (h.alloc _) (by omega) (by simp;omega)).mono ?_;rintro e w1 ⟨rfl,h1,aT,de⟩;have gS:=(bA.mono hBw).trans aT;have oe:=kA.trans de;have jc:=de _ _ _ _ da (by decide) (by decide);have fP:=oe.own aI (by decide) (by decide);have aj:=aT.size;rw[World.size_alloc] at aj;obtain⟨x0,ou⟩:=zB jc 0;obtain⟨x1,ov⟩:=zB jc 1;have iH:=zC aI;clear da aT de bA kA aI h
 by_cases hn:ts.length=0
 ·have AA:((ts.length:Int)==0)=true:=by simp[hn]
  have jh:ts=[]:=List.length_eq_zero_iff.1 hn;have vn:=zC (show l++j2 pd ts=l++pd.data.toList by rw[zA HE,jh];simp[xP]);clear HE hn jh;go_wp2_with fail;go_end0;exact⟨rfl,by rw[zA vn];exact h1,gS,oe,by omega⟩
 ·have AA:((ts.length:Int)==0)=false:=by simp;exact λ e=>hn (by rw[e];rfl)
  have EK:(if ts.length=0 then ([]:List UInt8) else [41])=[41]:=if_neg hn;rw[EK] at e0 HE;have L8:([41]:List UInt8).length=1:=rfl;rw[L8] at e0;clear EK hn;go_wp2_with fail
  go_loopg [17] ts.length (λ gg i wr=>∃ (k:Nat) (m:List UInt8),k<=ts.length/\gg=ts.length-k/\i=.int .i64 k/\Holds B b m wr/\Below B w wr/\jY w wr/\w.heap.size<wr.heap.size/\wr.heap[w.heap.size]?=some (.cells #[.string pd,.slice a ts.length c] 79 (0,0))/\m++xP (ts.drop k) k=l++pd.data.toList++xP ts 0)
  exact⟨0,_,Nat.zero_le _,rfl,rfl,h1,gS,oe,by omega,jc,rfl⟩
  case round=>
   clear h1 gS oe jc fP x0 x1 ou ov;obtain⟨k,m,hk,fM,rfl,h1,gS,oe,hsz,jc,hm⟩:=hrel;have ed:=congrArg List.length hm;simp only[List.length_append,dP] at ed
   by_cases aN:k<ts.length
   ·have iq:=zwg aN;have HM:=zC (iq ▸ hm);rw[iq] at ed;simp only[List.length_cons,List.length_append,zfn] at ed;clear hm iq;have fP:=oe.own (zA iH) (by decide) (by decide);obtain⟨g,cap,hv,iC,dp,dG,dx,hc⟩:=zl2 fP k aN;injection hv with i1 i2 i3
    subst i1 i3;obtain⟨pP,tx,het⟩:∃ pP tx,ts[k]=(pP,tx):=⟨_,_,rfl⟩;have e1:ts[k].1=pP:=(by rw[het]);have e2:ts[k].2=tx:=(by rw[het]);rw[e1,e2] at hc;rw[e2] at HM ed;obtain⟨x1,ov⟩:=zB jc 1;clear het e1 e2 fP;have lW:zdn pP tx=.iface (if pP then 130 else 193) (.string tx):=rfl;rw[lW] at hc;have D6:=zC lW;clear lW;generalize hty:(if pP then 130 else 193)=ty at hc;have Ew:=zC hty;clear hty
    cases k with
    | zero=>
     go_wp2_with fail;refine (zmy B b m 40 _ h1 (by omega) (by omega)).mono ?_;rintro e w2 ⟨rfl,h2,aU,cN⟩;have bZ:=aU.size;have eW:=cN _ _ _ _ jc (by decide) (by decide);have mx:=gS.trans aU;have aR:=oe.trans cN;clear aU cN jc h1 gS oe x1 ov;go_wp2_with fail;rw[<-zA Ew,<-zA D6];refine (zup B b _ pP tx _ h2 (by simp;omega) (by omega)).mono ?_;rintro e w3 ⟨rfl,h3,cE,fB,pO⟩;have oT:=fB _ _ _ _ eW (by decide) (by decide);have DA:=cE.size;have HR:=zC (And.intro h3 (And.intro (mx.trans cE) (And.intro (aR.trans fB) oT)));clear eW oT h2 h3 cE fB mx aR;go_wp2_with fail;go_roundg (ts.length-(0+1));exact⟨0+1,_,by omega,rfl,by go_num,(zA HR).1,(zA HR).2.1,(zA HR).2.2.1,by omega,(zA HR).2.2.2,by have:=zA HM;simpa using this⟩;omega
    | succ k=>
     have bS:(((k+1:Nat):Int)==0)=false:=(by simp;omega);go_wp2_with fail;refine (zmy B b m 44 _ h1 (by omega) (by omega)).mono ?_;rintro e w2 ⟨rfl,h2,aU,cN⟩;have bZ:=aU.size;have eW:=cN _ _ _ _ jc (by decide) (by decide);have mx:=gS.trans aU;have aR:=oe.trans cN;clear aU cN jc h1 gS oe x1 ov;go_wp2_with fail;rw[<-zA Ew,<-zA D6];refine (zup B b _ pP tx _ h2 (by simp;omega) (by omega)).mono ?_;rintro e w3 ⟨rfl,h3,cE,fB,pO⟩;have oT:=fB _ _ _ _ eW (by decide) (by decide);have DA:=cE.size;have HR:=zC (And.intro h3 (And.intro (mx.trans cE) (And.intro (aR.trans fB) oT)));clear eW oT h2 h3 cE fB mx aR;go_wp2_with fail;go_roundg (ts.length-(k+1+1));exact⟨k+1+1,_,by omega,rfl,by go_num,(zA HR).1,(zA HR).2.1,(zA HR).2.2.1,by omega,(zA HR).2.2.2,by have:=zA HM;simpa using this⟩;omega
   ·have hd:ts.drop k=[]:=List.drop_of_length_le (by omega);rw[hd] at hm ed;simp only[xP,List.append_nil,List.length_nil] at hm ed;have HM:=zC hm;clear hm hd;go_wp2_with fail;refine (zmy B b m 41 _ h1 (by omega) (by omega)).mono ?_;rintro e w2 ⟨rfl,h2,aU,cN⟩;have bZ:=aU.size;have HR:=zC (And.intro h2 (And.intro (gS.trans aU) (oe.trans cN)));clear h1 gS oe h2 aU cN jc;go_wp2_with fail;go_end0;refine⟨rfl,?_,(zA HR).2.1,(zA HR).2.2,by omega⟩;rw[zA HE,<-List.append_assoc,<-zA HM];exact (zA HR).1
end
section
open Go.RowKit
variable {base:Nat} {w w':W8}
theorem jY.lits {bv:Value}{ls:List (yR × Value)}(k:jY w w')(h:aL w base bv ls):aL w' base bv ls:=
 ⟨k.own h.row (by decide) (by decide),λ x hx=>k.own (h.each x hx) (by decide) (by decide)⟩
theorem jY.rules {rv:Value}{rs:List PR}(k:jY w w')(h:aD w base rv rs):aD w' base rv rs:=
 ⟨k.own h.row (by decide) (by decide),λ r hr=>⟨k.own (h.each r hr).hd (by decide) (by decide),k.lits (h.each r hr).bo,(h.each r hr).eq⟩⟩
theorem zyp (B b:Nat)(l:List UInt8)(L:yR)(a:O8)(c base:Nat)(w:W8)(h:Holds B b l w)(aI:w.ownsRow base 191 1 (.slice a L.ts.length c) L.ts.length (yN L.ts))(hlen:l.length+(zxv L).length<=1000000000)(hBw:B<=w.heap.size):
  Calls Tryz.prog 112 #[.pointer (some ⟨b,0,none⟩),.agg #[.bool L.neg,.string L.pd,.slice a L.ts.length c]] w (z62 B b w (l++zxv L)):=by
 have da:(w.alloc (.cells #[.bool L.neg,.string L.pd,.slice a L.ts.length c] 183)).heap[w.heap.size]?=_:=heap_alloc_new w _;have bA:=(Below.refl w.heap.size w).alloc L9 (.cells #[.bool L.neg,.string L.pd,.slice a L.ts.length c] 183);have kA:=(jY.refl w).alloc (.cells #[.bool L.neg,.string L.pd,.slice a L.ts.length c] 183);have mE:(zxv L).length=(if L.neg then ([110,111,116,32]:List UInt8) else []).length+(j2 L.pd L.ts).length:=by simp only[zxv,List.length_append]
 cases hn:L.neg with
 | true=>
  rw[hn] at mE da bA kA;simp only[if_true,List.length_cons,List.length_nil] at mE;have HT:=zC (show l++zxv L=l++[110,111,116,32]++j2 L.pd L.ts by simp[zxv,hn]);clear hn;go_enter Tryz.func112,Tryz.ntmps112;go_wp2_with fail;refine (zei B b l { data:=#[110,111,116,32] } _ (h.alloc _) (by simp[ByteArray.size];omega) (by simp;omega)).mono ?_;rintro e w1 ⟨rfl,h1,aT,de⟩;have gS:=(bA.mono hBw).trans aT;have oe:=kA.trans de;have jc:=de _ _ _ _ da (by decide) (by decide);have fP:=oe.own aI (by decide) (by decide);have aj:=aT.size;rw[World.size_alloc] at aj;obtain⟨x1,ov⟩:=zB jc 1;obtain⟨x2,DU⟩:=zB jc 2;clear da aT de bA kA aI h jc;go_wp2_with fail;refine (zin B b _ L.pd a c base L.ts _ h1 fP (by simp;omega) (by omega)).mono ?_;rintro e w2 ⟨rfl,h2,aU,cN,bZ⟩;have HR:=zC (And.intro h2 (And.intro (gS.trans aU) (oe.trans cN)));clear h1 gS oe fP x1 x2 ov DU h2 aU cN;go_wp2_with fail;go_end0;exact⟨rfl,by rw[zA HT];exact (zA HR).1,(zA HR).2.1,(zA HR).2.2,bZ⟩
 | false=>
  rw[hn] at mE da bA kA;simp only[Bool.false_eq_true,if_false,List.length_nil] at mE;have HT:=zC (show l++zxv L=l++j2 L.pd L.ts by simp[zxv,hn]);have fP:=kA.own aI (by decide) (by decide);clear hn aI;go_enter Tryz.func112,Tryz.ntmps112;go_wp2_with fail;refine (zin B b _ L.pd a c base L.ts _ (h.alloc _) fP (by omega) (by simp;omega)).mono ?_;rintro e w2 ⟨rfl,h2,aU,cN,bZ⟩;have HR:=zC (And.intro h2 (And.intro ((bA.mono hBw).trans aU) (kA.trans cN)));clear fP h2 aU cN bA kA da;go_wp2_with fail;go_end0;exact⟨rfl,by rw[zA HT];exact (zA HR).1,(zA HR).2.1,(zA HR).2.2,bZ⟩
theorem z6h (B b:Nat)(l:List UInt8)(pd:B8)(ts:List (Bool × B8))(a:O8)(c:Nat)(a':O8)(c' base:Nat)(ls:List (yR × Value))(w:W8)(h:Holds B b l w)(aI:w.ownsRow base 191 1 (.slice a ts.length c) ts.length (yN ts))(hL:aL w base (.slice a' ls.length c') ls)(hlen:l.length+(zif ⟨pd,ts,ls.map (·.1)⟩).length<=1000000000)(hBw:B<=w.heap.size):
  Calls Tryz.prog 71 #[.pointer (some ⟨b,0,none⟩),.agg #[.string pd,.slice a ts.length c,.slice a' ls.length c']] w (z62 B b w (l++zif ⟨pd,ts,ls.map (·.1)⟩)):=by
 have FK:=vK hL.row;unfold maxLen at FK;have da:(w.alloc (.cells #[.string pd,.slice a ts.length c,.slice a' ls.length c'] 123)).heap[w.heap.size]?=_:=heap_alloc_new w _;have bA:=(Below.refl w.heap.size w).alloc L9 (.cells #[.string pd,.slice a ts.length c,.slice a' ls.length c'] 123);have kA:=(jY.refl w).alloc (.cells #[.string pd,.slice a ts.length c,.slice a' ls.length c'] 123);have bP:(zif ⟨pd,ts,ls.map (·.1)⟩).length=(j2 pd ts).length+((zge (ls.map (·.1)) 0).length+2):=by simp[zif]
 have HE:=zC (show l++zif ⟨pd,ts,ls.map (·.1)⟩=l++j2 pd ts++zge (ls.map (·.1)) 0++[46,10] by simp[zif]);have fP:=kA.own aI (by decide) (by decide);have HL:=zC hL;clear aI hL;go_enter Tryz.func71,Tryz.ntmps71;go_wp2_with fail;refine (zin B b l pd a c base ts _ (h.alloc _) fP (by omega) (by simp;omega)).mono ?_;rintro e w1 ⟨rfl,h1,aT,de,aj⟩;have gS:=(bA.mono hBw).trans aT;have oe:=kA.trans de;have jc:=de _ _ _ _ da (by decide) (by decide);have Ks:=aT.size;rw[World.size_alloc] at Ks;obtain⟨x2,DU⟩:=zB jc 2;clear da aT de bA kA fP h;go_wp2_with fail
 go_loopg [13] ls.length (λ gg i wr=>∃ (k:Nat) (m:List UInt8),k<=ls.length/\gg=ls.length-k/\i=.int .i64 k/\Holds B b m wr/\Below B w wr/\jY w wr/\w.heap.size<wr.heap.size/\m++zge ((ls.map (·.1)).drop k) k=l++j2 pd ts++zge (ls.map (·.1)) 0)
 exact⟨0,_,Nat.zero_le _,rfl,rfl,h1,gS,oe,by omega,rfl⟩
 case round=>
  clear h1 gS oe jc x2 DU;obtain⟨k,m,hk,fM,rfl,h1,gS,oe,hsz,hm⟩:=hrel;have ed:=congrArg List.length hm;simp only[List.length_append] at ed
  by_cases aN:k<ls.length
  ·have iq:=zzt aN;have HM:=zC (iq ▸ hm);rw[iq] at ed;simp only[List.length_append] at ed;clear hm iq;have qe:=oe.lits (zA HL);obtain⟨g,cap,hv,iC,dp,dG,dx,hc⟩:=vE zte qe.row k aN;injection hv with i1 i2 i3
   subst i1 i3;obtain⟨ag,fJ,gU⟩:=zE (qe.each _ (List.getElem_mem aN));have q0:=hc 0 (by omega);have q1:=hc 1 (by omega);have q2:=hc 2 (by omega);simp only[yR.cells,gU,Nat.add_zero,List.getElem?_cons_zero,List.getElem?_cons_succ] at q0 q1 q2;have sc:=(zA HL).each _ (List.getElem_mem aN);rw[gU] at sc;have xn:=zC sc;have da:(wr.alloc (.cells #[.bool ls[k].1.neg,.string ls[k].1.pd,.slice ag ls[k].1.ts.length fJ] 183)).heap[wr.heap.size]?=_:=heap_alloc_new wr _;have B0:=h1.alloc (.cells #[.bool ls[k].1.neg,.string ls[k].1.pd,.slice ag ls[k].1.ts.length fJ] 183);have uP:=gS.alloc (by omega) (.cells #[.bool ls[k].1.neg,.string ls[k].1.pd,.slice ag ls[k].1.ts.length fJ] 183);have kF:=oe.alloc (.cells #[.bool ls[k].1.neg,.string ls[k].1.pd,.slice ag ls[k].1.ts.length fJ] 183);clear hc gU sc qe h1 gS oe
   cases k with
   | zero=>
    simp only[if_true,List.length_cons,List.length_nil] at ed;go_wp2_with fail;refine (zei B b m { data:=#[32,58,45,32] } _ B0 (by simp[ByteArray.size];omega) (by simp;omega)).mono ?_;rintro e w2 ⟨rfl,h2,aU,cN⟩;have eW:=cN _ _ _ _ da (by decide) (by decide);have mx:=uP.trans aU;have aR:=kF.trans cN;have bZ:=aU.size;rw[World.size_alloc] at bZ;obtain⟨y0,M6⟩:=zB eW 0;obtain⟨y1,DY⟩:=zB eW 1;obtain⟨y2,M7⟩:=zB eW 2;clear da aU cN B0 uP kF q0 q1 q2 eW;go_wp2_with fail;refine (zyp B b _ ls[0].1 ag fJ base _ h2 (aR.own (zA xn) (by decide) (by decide)) (by simp;omega) (by omega)).mono ?_;rintro e w3 ⟨rfl,h3,cE,fB,pO⟩;have DA:=cE.size;have HR:=zC (And.intro h3 (And.intro (mx.trans cE) (aR.trans fB)));clear h2 h3 cE fB mx aR y0 y1 y2 M6 DY M7;go_wp2_with fail;go_roundg (ls.length-(0+1));exact⟨0+1,_,by omega,rfl,by go_num,(zA HR).1,(zA HR).2.1,(zA HR).2.2,by omega,by have:=zA HM;simpa using this⟩;omega
   | succ k=>
    have bS:(((k+1:Nat):Int)==0)=false:=(by simp;omega);simp only[Nat.add_eq_zero_iff,Nat.succ_ne_self,and_false,if_false,List.length_cons,List.length_nil] at ed;go_wp2_with fail;refine (zei B b m { data:=#[44,32] } _ B0 (by simp[ByteArray.size];omega) (by simp;omega)).mono ?_;rintro e w2 ⟨rfl,h2,aU,cN⟩;have eW:=cN _ _ _ _ da (by decide) (by decide);have mx:=uP.trans aU;have aR:=kF.trans cN;have bZ:=aU.size;rw[World.size_alloc] at bZ;obtain⟨y0,M6⟩:=zB eW 0;obtain⟨y1,DY⟩:=zB eW 1;obtain⟨y2,M7⟩:=zB eW 2;clear da aU cN B0 uP kF q0 q1 q2 eW;go_wp2_with fail;refine (zyp B b _ ls[k+1].1 ag fJ base _ h2 (aR.own (zA xn) (by decide) (by decide)) (by simp;omega) (by omega)).mono ?_;rintro e w3 ⟨rfl,h3,cE,fB,pO⟩;have DA:=cE.size;have HR:=zC (And.intro h3 (And.intro (mx.trans cE) (aR.trans fB)));clear h2 h3 cE fB mx aR y0 y1 y2 M6 DY M7;go_wp2_with fail;go_roundg (ls.length-(k+1+1));exact⟨k+1+1,_,by omega,rfl,by go_num,(zA HR).1,(zA HR).2.1,(zA HR).2.2,by omega,by have:=zA HM;simpa using this⟩;omega
  ·have hd:(ls.map (·.1)).drop k=[]:=List.drop_of_length_le (by simp;omega);rw[hd] at hm ed;simp only[zge,List.append_nil,List.length_nil] at hm ed;have HM:=zC hm;clear hm hd;go_wp2_with fail;refine (zei B b m { data:=#[46,10] } _ h1 (by simp[ByteArray.size];omega) (by omega)).mono ?_;rintro e w2 ⟨rfl,h2,aU,cN⟩;have bZ:=aU.size;have HR:=zC (And.intro h2 (And.intro (gS.trans aU) (oe.trans cN)));clear h1 gS oe h2 aU cN;go_wp2_with fail;go_end0;refine⟨rfl,?_,(zA HR).2.1,(zA HR).2.2,by omega⟩;rw[zA HE,<-zA HM];exact (zA HR).1
theorem yep {r:PR}(h:bu w base r):r.R=⟨r.R.pd,r.R.ts,r.bs.map (·.1)⟩:=by rw[h.eq]
theorem z6g (w:W8)(base:Nat)(ar:O8)(cr:Nat)(rs:List PR)(h:aD w base (.slice ar rs.length cr) rs)(hlen:(qZ (rs.map (·.R))).length<=1000000000):
  Calls Tryz.prog 44 #[.slice ar rs.length cr] w λ e w'=>e=.returned (.string ⟨(qZ (rs.map (·.R))).toArray⟩)/\Below w.heap.size w w':=by
 have J4:=vK h.row;unfold maxLen at J4;have h0:Holds w.heap.size w.heap.size [] (w.alloc (.cells #[.pointer none,.slice none 0 0] 155)):=Lib.fresh_isBuilder 155 5 w;have b0:=(Below.refl w.heap.size w).alloc L9 (.cells #[.pointer none,.slice none 0 0] 155);have k0:=(jY.refl w).alloc (.cells #[.pointer none,.slice none 0 0] 155);have lR:=zC h;clear h;go_enter Tryz.func44,Tryz.ntmps44;go_wp2_with fail
 go_loopg [8] rs.length (λ gg i wr=>∃ (k:Nat) (m:List UInt8),k<=rs.length/\gg=rs.length-k/\i=.int .i64 k/\Holds w.heap.size w.heap.size m wr/\Below w.heap.size w wr/\jY w wr/\w.heap.size<wr.heap.size/\m++qZ ((rs.map (·.R)).drop k)=qZ (rs.map (·.R)))
 exact⟨0,[],Nat.zero_le _,rfl,rfl,h0,b0,k0,by simp,rfl⟩
 case round=>
  clear h0 b0 k0;obtain⟨k,m,hk,fM,rfl,h1,gS,oe,hsz,hm⟩:=hrel;have ed:=congrArg List.length hm;simp only[List.length_append] at ed
  by_cases aN:k<rs.length
  ·have iq:qZ ((rs.map (·.R)).drop k)=zif rs[k].R++qZ ((rs.map (·.R)).drop (k+1)):=by
    rw[List.drop_eq_getElem_cons (by simpa using aN)];simp[qZ]
   rw[iq] at hm ed;simp only[List.length_append] at ed;have HM:=zC hm;clear hm iq;have fV:=oe.rules (zA lR);obtain⟨gr,oJ,nM,oS,o5,pn,oY,fL⟩:=vE zme fV.row k aN;injection nM with h4 h5 h6
   subst h4 h6;have ak:=(zA lR).each _ (List.getElem_mem aN);obtain⟨ah,ch,nz⟩:=zE ak.hd;obtain⟨ab,cb,iB⟩:=zE ak.bo.row;have r0:=fL 0 (by omega);have r1:=fL 1 (by omega);have r2:=fL 2 (by omega);simp only[PR.cells,nz,iB,Nat.add_zero,List.getElem?_cons_zero,List.getElem?_cons_succ] at r0 r1 r2;have nC:=ak.hd;rw[nz] at nC;have eL:=ak.bo;rw[iB] at eL;have Lp:=zC (yep ak);have B0:=h1.alloc (.cells #[.string rs[k].R.pd,.slice ah rs[k].R.ts.length ch,.slice ab rs[k].bs.length cb] 123);have uP:=gS.alloc (by omega) (.cells #[.string rs[k].R.pd,.slice ah rs[k].R.ts.length ch,.slice ab rs[k].bs.length cb] 123);have kF:=oe.alloc (.cells #[.string rs[k].R.pd,.slice ah rs[k].R.ts.length ch,.slice ab rs[k].bs.length cb] 123);have LY:=kF.own nC (by decide) (by decide);have LS:=kF.lits eL;have hlr:(zif ⟨rs[k].R.pd,rs[k].R.ts,rs[k].bs.map (·.1)⟩).length=(zif rs[k].R).length:=(by rw[<-zA Lp]);clear fL ak nz iB nC eL fV h1 gS oe;go_wp2_with fail;refine (z6h w.heap.size w.heap.size m rs[k].R.pd rs[k].R.ts ah ch ab cb base rs[k].bs _ B0 LY LS (by omega) (by simp;omega)).mono ?_;rintro e w2 ⟨rfl,h2,aU,cN,bZ⟩;have NA:=aU.size;rw[World.size_alloc] at NA;rw[<-zA Lp] at h2;have HR:=zC (And.intro h2 (And.intro (uP.trans aU) (kF.trans cN)));clear B0 LY LS uP kF h2 aU cN r0 r1 r2;go_wp2_with fail;go_roundg (rs.length-(k+1));exact⟨k+1,_,by omega,rfl,by go_num,(zA HR).1,(zA HR).2.1,(zA HR).2.2,by omega,by have:=zA HM;simpa using this⟩;omega
  ·have hd:(rs.map (·.R)).drop k=[]:=List.drop_of_length_le (by simp;omega);rw[hd] at hm;simp only[qZ,List.flatMap_nil,List.append_nil] at hm;have HM:=zC hm;clear hm hd;go_wp2_with fail;refine (Tryz.Builder_String_any w.heap.size w.heap.size m _ h1 (by omega)).mono ?_;rintro e w2 ⟨rfl,aU⟩;have HB:=zC (gS.trans aU);clear h1 gS oe aU;go_wp2_with fail;go_ret;exact⟨by rw[zA HM];rfl,zA HB⟩
end
section
open Go.RowKit
theorem zom {w1:W8}{n:Nat}{u0 u1:Value}(h0:w1.cell? ⟨n,0,none⟩=some u0)(h1:w1.cell? ⟨n,1,none⟩=some u1)(v0 v1:Value):((w1.setCell ⟨n,0,none⟩ v0).setCell ⟨n,1,none⟩ v1).cell? ⟨n,0,none⟩=some v0/\((w1.setCell ⟨n,0,none⟩ v0).setCell ⟨n,1,none⟩ v1).cell? ⟨n,1,none⟩=some v1:=
 ⟨by rw[zS (by omega)];exact jX h0,jX (by rw[zS (by omega)];exact h1)⟩
end
section
open Go.RowKit
structure iP (w:W8)(a:O8)(c:Nat)(bs:List Nat):Prop where
 cap:bs.length<=c
 max:c<=maxLen
 byte:∀ x∈bs,x<256
 at_:0<bs.length->∃ g o,a=some ⟨g,o,none⟩/\g<w.heap.size/\∀ (j:Nat) (h:j<bs.length),w.cell? ⟨g,o+j,none⟩=some (.int .u8 (bs[j]:Nat))
variable {bs:List Nat} {c:Nat} {w:W8}
theorem iP.below {w':W8}{a:O8}(h:iP w a c bs)(k:Below w.heap.size w w'):iP w' a c bs:=
 ⟨h.cap,h.max,h.byte,λ h0=>let ⟨g,o,e,hg,hc⟩:=h.at_ h0;⟨g,o,e,Nat.lt_of_lt_of_le hg k.size,λ j hj=>(k.cell (p:=⟨g,o+j,none⟩) hg).trans (hc j hj)⟩⟩
theorem iP.drop {g o:Nat}(h:iP w (some ⟨g,o,none⟩) c bs)(n:Nat):iP w (some ⟨g,o+n,none⟩) (c-n) (bs.drop n):=by
 refine⟨by rw[List.length_drop];have:=h.cap;omega,by have:=h.max;omega,λ x hx=>h.byte x (List.mem_of_mem_drop hx),λ h0=>?_⟩;rw[List.length_drop] at h0;obtain⟨g',o',e,hg,hc⟩:=h.at_ (by omega);injection e with e
 injection e with e1 e2
 subst e1 e2;refine⟨g,o+n,rfl,hg,λ j hj=>?_⟩;rw[List.length_drop] at hj;have:=hc (n+j) (by omega);rw[List.getElem_drop,show o+n+j=o+(n+j) by omega];exact this
theorem iP.none (a:O8)(c:Nat)(hc:c<=maxLen):iP w a c []:=⟨Nat.zero_le _,hc,by simp,λ h=>by simp at h⟩
end
end Go.Proofs.YtldkpahaocjdpaaGreat
