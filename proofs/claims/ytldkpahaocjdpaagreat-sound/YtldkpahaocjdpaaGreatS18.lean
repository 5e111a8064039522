/-
  A strings.Builder that the call has made: what copyCheck, WriteString and WriteByte do to it.
-/
import Derived.Lib.Builder
import Derived.Lib.AppendStr
import Derived.Lib.UnsafeStr
import Derived.Laws.Externs
import Derived.OwnWalk
import Derived.Lib.Hide
import Derived.Test.YtldkpahaocjdpaaGreatS16
import Derived.Laws.Concat
import Derived.StillTailTactics
import Derived.KernelRfl
set_option maxHeartbeats 16000000
set_option maxRecDepth 1000000
namespace Go.Proofs.YtldkpahaocjdpaaGreat
section
open Go.RowKit
theorem sizeBld:(Tryz.prog.info? 155).map (·.size)=some 2:=by kernel_rfl
theorem liesBld:liesAt Tryz.prog Tryz.prog.depth 155 (2/Tryz.prog.cellsOf 155) 0 155 1=true:=by kernel_rfl
theorem infoByte:(Tryz.prog.info? 5).map (λ i=>(i.zero,i.size,i.bytes))=some (some (.int .u8 0),1,1):=by kernel_rfl
theorem copy_used (b:Nat)(w:W8)(h0:w.cell? ⟨b,0,none⟩=some (.pointer (some ⟨b,0,none⟩))):
  Calls Tryz.prog 169 #[.pointer (some ⟨b,0,none⟩)] w λ e w'=>e=.returned (.tuple #[])/\w'=w:=by
 obtain⟨j,hj,_⟩:=Option.map_eq_some_iff.1 sizeBld;go_enter Tryz.func169,Tryz.ntmps169
 go_wp2
 rw[Lib.run_neq_ptr_same w _ Tryz.underlying153 hj]
 go_wp2
 go_end0;exact⟨rfl,rfl⟩
theorem copy_fresh (b:Nat)(w:W8)(h0:w.cell? ⟨b,0,none⟩=some (.pointer none))(FX:w.shape? b=some (155,2))(Fj:w.frozen? ⟨b,0,none⟩=false):
  Calls Tryz.prog 169 #[.pointer (some ⟨b,0,none⟩)] w λ e w'=>e=.returned (.tuple #[])/\w'=w.setCell ⟨b,0,none⟩ (.pointer (some ⟨b,0,none⟩)):=by
 obtain⟨j,hj,Jm⟩:=Option.map_eq_some_iff.1 sizeBld;go_enter Tryz.func169,Tryz.ntmps169
 go_wp2
 rw[Lib.run_to_unsafe w ⟨b,0,none⟩ Tryz.underlying153 Tryz.underlying349 hj (by rw[Jm];decide) FX (Nat.zero_lt_succ 1)];simp only[Result.andThen];rw[Oper.upon_value]
 go_wp2
 rw[run_callFunc_extern Tryz.func219 (by kernel_rfl) (by kernel_rfl) (by kernel_rfl) (e:=Extern.AbiNoEscape.same) (by kernel_rfl)];rw[Lib.run_noEscape];simp only[Result.andThen];rw[Oper.upon_value]
 go_wp2
 rw[Lib.run_from_unsafe w ⟨b,0,none⟩ Tryz.underlying349 Tryz.underlying153 hj FX liesBld];simp only[Result.andThen];rw[Oper.upon_value]
 go_wp2
 go_end0;exact⟨rfl,rfl⟩
def bV (w w':W8):Prop:=∀ (x:Nat) (c:Array Value) (e:TypeId) (fr:Nat × Nat),w.heap[x]?=some (.cells c e fr)->e≠155->e≠5->w'.heap[x]?=some (.cells c e fr)
theorem bV.refl (w:W8):bV w w:=λ _ _ _ _ h _ _=>h
variable {a:W8}
theorem bV.trans {b c:W8}(h:bV a b)(k:bV b c):bV a c:=λ x cc e fr hx h1 h2=>k x cc e fr (h x cc e fr hx h1 h2) h1 h2
variable {w:W8}
theorem bV.alloc (h:bV a w)(o:Obj):bV a (w.alloc o):=λ x c e fr hx h1 h2=>by
 have h3:=h x c e fr hx h1 h2;rw[Below.heap_alloc _ _ _ (Array.getElem?_eq_some_iff.1 h3).1];exact h3
theorem bV.setCell {b:Nat}{cs:Array Value}{fr:Nat × Nat}(hb:w.heap[b]?=some (.cells cs 155 fr))(o:Nat)(v:Value):bV w (w.setCell ⟨b,o,none⟩ v):=λ x c e fr' hx h1 _=>by
 rw[Below.heap_setCell _ _ _ _ (by
  intro h;simp at h;subst h;rw[hb] at hx;injection hx with hx
  injection hx with _ hx _
  exact h1 hx.symm)]
 exact hx
variable {xs:V8} {v:Value} {n:Nat}
theorem bV.grown {w1:W8}{B:Nat}(aI:w.ownsRow B 5 1 v n xs)(hg:w.grownBy w1 v.ownBlock):bV w w1:=λ x c e fr hx _ h2=>by
 rw[hg.block x (Array.getElem?_eq_some_iff.1 hx).1 (λ h=>?_)]
 ·exact hx
 ·rcases aI.2 with⟨rfl,_⟩ | ⟨g,cap,cur,rfl,_,dm,_⟩
  ·cases h
  ·injection h with h
   simp only at h;subst h;rw[hx] at dm;injection dm with dm
   injection dm with _ dm _
   exact h2 dm
theorem bV.own {w':W8}{base:Nat}{e:TypeId}{size:Nat}(k:bV w w')(h:w.ownsRow base e size v n xs)(h1:e≠155)(h2:e≠5):w'.ownsRow base e size v n xs:=by
 refine⟨h.1,?_⟩;rcases h.2 with hn | ⟨g,cap,cur,rfl,hb,dm,rest⟩
 ·exact .inl hn
 ·exact .inr ⟨g,cap,cur,rfl,hb,k g _ _ _ dm h1 h2,rest⟩
theorem copyCheck_any (B b:Nat)(bs:V8)(w:W8)(h:Lib.IsBuilder 155 5 B b bs w):
  Calls Tryz.prog 169 #[.pointer (some ⟨b,0,none⟩)] w λ e w'=>e=.returned (.tuple #[])/\Lib.BuilderAt 155 5 B b (.pointer (some ⟨b,0,none⟩)) bs w'/\Below B w w'/\bV w w':=by
 rcases h with h | h
 ·refine (copy_fresh b w h.cell0 h.shape h.frozen0).mono ?_;rintro e w' ⟨rfl,rfl⟩;obtain⟨_,v,hb,_⟩:=id h;exact⟨rfl,h.used _,(Below.refl B w).setCell (p:=⟨b,0,none⟩) h.1 _,bV.setCell hb 0 _⟩
 ·refine (copy_used b w h.cell0).mono ?_;rintro e w' ⟨rfl,rfl⟩;exact⟨rfl,h,Below.refl B _,bV.refl _⟩
theorem cell_one_new' (w1:W8)(x:Value)(ty:TypeId)(j:Nat)(u:Value)(h:([x]:V8)[j]?=some u):(w1.alloc (Obj.cells #[x] ty)).cell? ((⟨w1.heap.size,0,none⟩:Addr).add j)=some u:=cell_one_new w1 x ty j u h
theorem one_byte (c:Int):∀ u∈([Value.int .u8 c]:V8),u.oneCell'=true:=by
 intro u hu;simp at hu;subst hu;rfl
def byteVals (l:List UInt8):V8:=l.map λ b=>Value.int .u8 b.toNat
theorem byteVals_str (l:List UInt8)(s:B8):byteVals l++Lib.strCells s=byteVals (l++s.data.toList):=by simp[byteVals,Lib.strCells]
theorem byteVals_one (l:List UInt8)(c:UInt8):byteVals l++[Value.int .u8 c.toNat]=byteVals (l++[c]):=by simp[byteVals]
theorem byteVals_len (l:List UInt8):(byteVals l).length=l.length:=by simp[byteVals]
def Holds (B b:Nat)(l:List UInt8)(w:W8):Prop:=Lib.IsBuilder 155 5 B b (byteVals l) w
theorem wstr_any (B b:Nat)(l:List UInt8)(s:B8)(w:W8)(h:Holds B b l w)(hlen:l.length+s.size<=140737488355328)(hBw:B<=w.heap.size):
  Calls Tryz.prog 111 #[.pointer (some ⟨b,0,none⟩),.string s] w λ e w'=>e=.returned (.tuple #[.int .i64 s.size,.nilIface])/\Holds B b (l++s.data.toList) w'/\Below B w w'/\bV w w':=by
 obtain⟨i0,hi,dD,cD,cd⟩:=info_parts infoByte;have ir:=byteVals_len l;go_enter Tryz.func111,Tryz.ntmps111;go_wp2_with fail;refine (copyCheck_any B b (byteVals l) _ h).mono ?_;rintro e w1 ⟨rfl,h1,aX,dp⟩;obtain⟨hB,v,jM,aI,bJ⟩:=h1;have c0:w1.cell? ⟨b,0,none⟩=some (.pointer (some ⟨b,0,none⟩)):=by rw[Lib.cell_of_heap jM];rfl
 have c1:w1.cell? ⟨b,1,none⟩=some v:=by rw[Lib.cell_of_heap jM];rfl
 have hz:=aX.size;go_wp2_with (at_builtin;refine Lib.wpList_append_own_string _ rfl _ _ 47 9 rfl B 5 i0 Tryz.underlying47 Tryz.underlying9 hi dD cD cd _ _ _ rfl aI s rfl (by unfold maxLen;omega) (by omega) (by omega) ?_);intro v' w2 fX hgrow _;have bS:b<w1.heap.size:=(Array.getElem?_eq_some_iff.1 jM).1;have aY:w2.heap[b]?=some (.cells #[.pointer (some ⟨b,0,none⟩),v] 155 (0,0)):=by
  rw[hgrow.block b bS (λ e=>bJ e.symm)];exact jM
 have d0:w2.cell? ⟨b,0,none⟩=some (.pointer (some ⟨b,0,none⟩)):=by rw[Lib.cell_of_heap aY];rfl
 have d1:w2.cell? ⟨b,1,none⟩=some v:=by rw[Lib.cell_of_heap aY];rfl
 have f1:w2.frozen? ⟨b,1,none⟩=false:=Lib.frozen_of_heap aY 1;obtain⟨ao,n',cap,rfl⟩:∃ ao n' cap,v'=.slice ao n' cap:=by
  rcases fX.2 with⟨hv,_⟩ | ⟨g,cap,cur,hv,_⟩
  ·exact⟨_,_,_,hv⟩
  ·exact⟨_,_,_,hv⟩
 have gl:=Lib.BuilderAt.put (T:=155) (e:=5) hB aY (v':=.slice ao n' cap) (bs':=byteVals l++Lib.strCells s) (by rw[List.length_append,Lib.strCells_length,ir];exact fX) (by decide);rw[byteVals_str] at gl;have HP:=hide gl;have HK:=hide ((dp.trans (bV.grown aI hgrow)).trans (bV.setCell aY 1 (.slice ao n' cap)));have HB:=hide ((aX.grown hgrow (by omega) (λ k hk=>(aI.lt k hk).1)).setCell (p:=⟨b,1,none⟩) hB (.slice ao n' cap));clear gl fX hgrow aX aI jM aY c0 c1 dp;go_wp2_with fail
 go_ret2
 exact⟨rfl,.inr (ad HP),ad HB,ad HK⟩
theorem wbyte_any (B b:Nat)(l:List UInt8)(c:UInt8)(w:W8)(h:Holds B b l w)(hlen:l.length+1<=140737488355328)(hBw:B<=w.heap.size):
  Calls Tryz.prog 167 #[.pointer (some ⟨b,0,none⟩),.int .u8 c.toNat] w λ e w'=>e=.returned .nilIface/\Holds B b (l++[c]) w'/\Below B w w'/\bV w w':=by
 obtain⟨i0,hi,dD,cD,cd⟩:=info_parts infoByte;have ir:=byteVals_len l;go_enter Tryz.func167,Tryz.ntmps167;go_wp2_with fail;refine (copyCheck_any B b (byteVals l) _ h).mono ?_;rintro e w1 ⟨rfl,h1,aX,dp⟩;obtain⟨hB,v,jM,aI,bJ⟩:=h1;have c0:w1.cell? ⟨b,0,none⟩=some (.pointer (some ⟨b,0,none⟩)):=by rw[Lib.cell_of_heap jM];rfl
 have c1:w1.cell? ⟨b,1,none⟩=some v:=by rw[Lib.cell_of_heap jM];rfl
 have hz:=aX.size;go_wp2_with (at_builtin;refine wpList_append_own _ rfl _ _ 47 rfl B 5 i0 (.int .u8 0) 1 1 Tryz.underlying47 hi dD cD cd rfl (by decide) _ _ _ rfl (aI.alloc _) ⟨w1.heap.size,0,none⟩ 1 1 [.int .u8 c.toNat] rfl rfl (cell_one_new' w1 _ _) (one_byte _) (by unfold maxLen;omega) (by omega) (by simp;omega) ?_);intro v' w2 fX hgrow _;have bS:b<w1.heap.size:=(Array.getElem?_eq_some_iff.1 jM).1;have aY:w2.heap[b]?=some (.cells #[.pointer (some ⟨b,0,none⟩),v] 155 (0,0)):=by
  rw[hgrow.block b (by simp;omega) (λ e=>bJ e.symm),Below.heap_alloc _ _ _ bS];exact jM
 have d0:w2.cell? ⟨b,0,none⟩=some (.pointer (some ⟨b,0,none⟩)):=by rw[Lib.cell_of_heap aY];rfl
 have d1:w2.cell? ⟨b,1,none⟩=some v:=by rw[Lib.cell_of_heap aY];rfl
 have f1:w2.frozen? ⟨b,1,none⟩=false:=Lib.frozen_of_heap aY 1;obtain⟨ao,n',cap,rfl⟩:∃ ao n' cap,v'=.slice ao n' cap:=by
  rcases fX.2 with⟨hv,_⟩ | ⟨g,cap,cur,hv,_⟩
  ·exact⟨_,_,_,hv⟩
  ·exact⟨_,_,_,hv⟩
 have gl:=Lib.BuilderAt.put (T:=155) (e:=5) hB aY (v':=.slice ao n' cap) (bs':=byteVals l++[.int .u8 c.toNat]) (by rw[List.length_append,ir];exact fX) (by decide);rw[byteVals_one] at gl;have HP:=hide gl;have HK:=hide (((dp.alloc _).trans (bV.grown (aI.alloc _) hgrow)).trans (bV.setCell aY 1 (.slice ao n' cap)));have HB:=hide (((aX.alloc (by omega) _).grown hgrow (by simp;omega) (λ k hk=>(aI.lt k hk).1)).setCell (p:=⟨b,1,none⟩) hB (.slice ao n' cap));clear gl fX hgrow aX aI jM aY c0 c1 dp;go_wp2_with fail;go_ret;exact⟨rfl,.inr (ad HP),ad HB,ad HK⟩
end
section
open Go.RowKit
def termsT:List (Bool × B8)->Nat->List UInt8
 | [],_=>[]
 | t::r,i=>(if i=0 then 40 else 44)::(t.2.data.toList++termsT r (i+1))
def atomT (pd:B8)(ts:List (Bool × B8)):List UInt8:=pd.data.toList++(termsT ts 0++if ts.length=0 then [] else [41])
theorem termsT_step {ts:List (Bool × B8)}{k:Nat}(h:k<ts.length):termsT (ts.drop k) k=(if k=0 then 40 else 44)::(ts[k].2.data.toList++termsT (ts.drop (k+1)) (k+1)):=by
 rw[List.drop_eq_getElem_cons h,termsT]
theorem size_list (s:B8):s.data.toList.length=s.size:=by rw[Array.length_toList];rfl
theorem assertName_no (W:W8)(v:Value):(Instr.typeAssert (.iface 130 v) 191 193 true).run Tryz.prog W=.ok (.tuple #[.string { data:=#[] },.bool false]) W:=by kernel_rfl
def Wrote (B b:Nat)(w:W8)(l:List UInt8)(e:Ending)(w':W8):Prop:=e=.returned (.tuple #[])/\Holds B b l w'/\Below B w w'/\bV w w'/\B<=w'.heap.size
theorem wterm_any (B b:Nat)(l:List UInt8)(pY:Bool)(s:B8)(w:W8)(h:Holds B b l w)(hlen:l.length+s.size<=140737488355328)(hBw:B<=w.heap.size):
  Calls Tryz.prog 168 #[.pointer (some ⟨b,0,none⟩),tmVal pY s] w (Wrote B b w (l++s.data.toList)):=by
 have E5:=assertVar_yes;have xU:=assertName_no;have yR:=assertName_yes;unfold tmVal
 cases pY with
 | true=>
  rw[if_pos rfl];go_enter Tryz.func168,Tryz.ntmps168;go_wp2_with fail;refine (wstr_any B b l s _ h hlen hBw).mono ?_;rintro e w1 ⟨rfl,h1,aX,dp⟩;go_wp2_with fail;go_end0;exact⟨rfl,h1,aX,dp,Nat.le_trans hBw aX.size⟩
 | false=>
  rw[if_neg (by decide)];go_enter Tryz.func168,Tryz.ntmps168;go_wp2_with fail;refine (wstr_any B b l s _ h hlen hBw).mono ?_;rintro e w1 ⟨rfl,h1,aX,dp⟩;go_wp2_with fail;go_end0;exact⟨rfl,h1,aX,dp,Nat.le_trans hBw aX.size⟩
theorem Holds.alloc {B b:Nat}{l:List UInt8}{w:W8}(h:Holds B b l w)(o:Obj):Holds B b l (w.alloc o):=by
 have key:∀ p,Lib.BuilderAt 155 5 B b p (byteVals l) w->Lib.BuilderAt 155 5 B b p (byteVals l) (w.alloc o):=by
  rintro p ⟨hB,v,hb,aI,bJ⟩;exact⟨hB,v,by rw[Below.heap_alloc _ _ _ (Array.getElem?_eq_some_iff.1 hb).1];exact hb,aI.alloc o,bJ⟩
 rcases h with h | h
 ·exact .inl (key _ h)
 ·exact .inr (key _ h)
theorem watom_any (B b:Nat)(l:List UInt8)(pd:B8)(a:O8)(c base:Nat)(ts:List (Bool × B8))(w:W8)(h:Holds B b l w)(aI:w.ownsRow base 191 1 (.slice a ts.length c) ts.length (ptCells ts))(hlen:l.length+(atomT pd ts).length<=1000000000)(hBw:B<=w.heap.size):
  Calls Tryz.prog 110 #[.pointer (some ⟨b,0,none⟩),.agg #[.string pd,.slice a ts.length c]] w (Wrote B b w (l++atomT pd ts)):=by
 have gy:=own_max aI;unfold maxLen at gy;have dQ:=size_list pd;have e0:(atomT pd ts).length=pd.size+((termsT ts 0).length+(if ts.length=0 then ([]:List UInt8) else [41]).length):=by simp only[atomT,List.length_append,dQ]
 have dc:(w.alloc (.cells #[.string pd,.slice a ts.length c] 79)).heap[w.heap.size]?=_:=heap_alloc_new w _;have bA:=(Below.refl w.heap.size w).alloc L9 (.cells #[.string pd,.slice a ts.length c] 79);have kA:=(bV.refl w).alloc (.cells #[.string pd,.slice a ts.length c] 79);have HE:=hide (show l++atomT pd ts=l++pd.data.toList++(termsT ts 0++if ts.length=0 then [] else [41]) by simp[atomT]);go_enter Tryz.func110,Tryz.ntmps110;go_wp2_with fail;refine (wstr_any B b l pd _ (h.alloc _) (by omega) (by simp;omega)).mono ?_;rintro e w1 ⟨rfl,h1,aX,dp⟩;have gX:=(bA.mono hBw).trans aX;have oq:=kA.trans dp;have jd:=dp _ _ _ _ dc (by decide) (by decide);have fY:=oq.own aI (by decide) (by decide);have cD:=aX.size;rw[World.size_alloc] at cD;obtain⟨x0,oC⟩:=block_cells jd 0;obtain⟨x1,oD⟩:=block_cells jd 1;have qB:=hide aI;clear dc aX dp bA kA aI h
 by_cases hn:ts.length=0
 ·have C6:((ts.length:Int)==0)=true:=by simp[hn]
  have jh:ts=[]:=List.length_eq_zero_iff.1 hn;have vk:=hide (show l++atomT pd ts=l++pd.data.toList by rw[ad HE,jh];simp[termsT]);clear HE hn jh;go_wp2_with fail;go_end0;exact⟨rfl,by rw[ad vk];exact h1,gX,oq,by omega⟩
 ·have C6:((ts.length:Int)==0)=false:=by simp;exact λ e=>hn (by rw[e];rfl)
  have EC:(if ts.length=0 then ([]:List UInt8) else [41])=[41]:=if_neg hn;rw[EC] at e0 HE;have yE:([41]:List UInt8).length=1:=rfl;rw[yE] at e0;clear EC hn;go_wp2_with fail
  go_loopg [17] ts.length (λ gg i wr=>∃ (k:Nat) (m:List UInt8),k<=ts.length/\gg=ts.length-k/\i=.int .i64 k/\Holds B b m wr/\Below B w wr/\bV w wr/\w.heap.size<wr.heap.size/\wr.heap[w.heap.size]?=some (.cells #[.string pd,.slice a ts.length c] 79 (0,0))/\m++termsT (ts.drop k) k=l++pd.data.toList++termsT ts 0)
  exact⟨0,_,Nat.zero_le _,rfl,rfl,h1,gX,oq,by omega,jd,rfl⟩
  case round=>
   clear h1 gX oq jd fY x0 x1 oC oD;obtain⟨k,m,hk,fK,rfl,h1,gX,oq,hsz,jd,hm⟩:=hrel;have ed:=congrArg List.length hm;simp only[List.length_append,dQ] at ed
   by_cases aR:k<ts.length
   ·have iy:=termsT_step aR;have HM:=hide (iy ▸ hm);rw[iy] at ed;simp only[List.length_cons,List.length_append,size_list] at ed;clear hm iy;have fY:=oq.own (ad qB) (by decide) (by decide);obtain⟨g,cap,hv,iE,dn,dB,dx,hc⟩:=own_list1 fY k aR;injection hv with i1 i2 i3
    subst i1 i3;obtain⟨pY,tx,het⟩:∃ pY tx,ts[k]=(pY,tx):=⟨_,_,rfl⟩;have e1:ts[k].1=pY:=(by rw[het]);have e2:ts[k].2=tx:=(by rw[het]);rw[e1,e2] at hc;rw[e2] at HM ed;obtain⟨x1,oD⟩:=block_cells jd 1;clear het e1 e2 fY;have l6:tmVal pY tx=.iface (if pY then 130 else 193) (.string tx):=rfl;rw[l6] at hc;have D1:=hide l6;clear l6;generalize hty:(if pY then 130 else 193)=ty at hc;have En:=hide hty;clear hty
    cases k with
    | zero=>
     go_wp2_with fail;refine (wbyte_any B b m 40 _ h1 (by omega) (by omega)).mono ?_;rintro e w2 ⟨rfl,h2,aY,cN⟩;have cd:=aY.size;have fc:=cN _ _ _ _ jd (by decide) (by decide);have mB:=gX.trans aY;have jJ:=oq.trans cN;clear aY cN jd h1 gX oq x1 oD;go_wp2_with fail;rw[<-ad En,<-ad D1];refine (wterm_any B b _ pY tx _ h2 (by simp;omega) (by omega)).mono ?_;rintro e w3 ⟨rfl,h3,cQ,fL,pX⟩;have oZ:=fL _ _ _ _ fc (by decide) (by decide);have Dx:=cQ.size;have HR:=hide (And.intro h3 (And.intro (mB.trans cQ) (And.intro (jJ.trans fL) oZ)));clear fc oZ h2 h3 cQ fL mB jJ;go_wp2_with fail;go_roundg (ts.length-(0+1));exact⟨0+1,_,by omega,rfl,by go_num,(ad HR).1,(ad HR).2.1,(ad HR).2.2.1,by omega,(ad HR).2.2.2,by have:=ad HM;simpa using this⟩;omega
    | succ k=>
     have j7:(((k+1:Nat):Int)==0)=false:=(by simp;omega);go_wp2_with fail;refine (wbyte_any B b m 44 _ h1 (by omega) (by omega)).mono ?_;rintro e w2 ⟨rfl,h2,aY,cN⟩;have cd:=aY.size;have fc:=cN _ _ _ _ jd (by decide) (by decide);have mB:=gX.trans aY;have jJ:=oq.trans cN;clear aY cN jd h1 gX oq x1 oD;go_wp2_with fail;rw[<-ad En,<-ad D1];refine (wterm_any B b _ pY tx _ h2 (by simp;omega) (by omega)).mono ?_;rintro e w3 ⟨rfl,h3,cQ,fL,pX⟩;have oZ:=fL _ _ _ _ fc (by decide) (by decide);have Dx:=cQ.size;have HR:=hide (And.intro h3 (And.intro (mB.trans cQ) (And.intro (jJ.trans fL) oZ)));clear fc oZ h2 h3 cQ fL mB jJ;go_wp2_with fail;go_roundg (ts.length-(k+1+1));exact⟨k+1+1,_,by omega,rfl,by go_num,(ad HR).1,(ad HR).2.1,(ad HR).2.2.1,by omega,(ad HR).2.2.2,by have:=ad HM;simpa using this⟩;omega
   ·have hd:ts.drop k=[]:=List.drop_of_length_le (by omega);rw[hd] at hm ed;simp only[termsT,List.append_nil,List.length_nil] at hm ed;have HM:=hide hm;clear hm hd;go_wp2_with fail;refine (wbyte_any B b m 41 _ h1 (by omega) (by omega)).mono ?_;rintro e w2 ⟨rfl,h2,aY,cN⟩;have cd:=aY.size;have HR:=hide (And.intro h2 (And.intro (gX.trans aY) (oq.trans cN)));clear h1 gX oq h2 aY cN jd;go_wp2_with fail;go_end0;refine⟨rfl,?_,(ad HR).2.1,(ad HR).2.2,by omega⟩;rw[ad HE,<-List.append_assoc,<-ad HM];exact (ad HR).1
end
section
open Go.RowKit
theorem cs_two {w1:W8}{n:Nat}{u0 u1:Value}(h0:w1.cell? ⟨n,0,none⟩=some u0)(h1:w1.cell? ⟨n,1,none⟩=some u1)(v0 v1:Value):((w1.setCell ⟨n,0,none⟩ v0).setCell ⟨n,1,none⟩ v1).cell? ⟨n,0,none⟩=some v0/\((w1.setCell ⟨n,0,none⟩ v0).setCell ⟨n,1,none⟩ v1).cell? ⟨n,1,none⟩=some v1:=
 ⟨by rw[cs_other' (by omega)];exact bR h0,bR (by rw[cs_other' (by omega)];exact h1)⟩
end
section
open Go.RowKit
structure iJ (w:W8)(a:O8)(c:Nat)(bs:List Nat):Prop where
 cap:bs.length<=c
 max:c<=maxLen
 byte:∀ x∈bs,x<256
 at_:0<bs.length->∃ g o,a=some ⟨g,o,none⟩/\g<w.heap.size/\∀ (j:Nat) (h:j<bs.length),w.cell? ⟨g,o+j,none⟩=some (.int .u8 (bs[j]:Nat))
variable {bs:List Nat} {c:Nat} {w:W8}
theorem iJ.below {w':W8}{a:O8}(h:iJ w a c bs)(k:Below w.heap.size w w'):iJ w' a c bs:=
 ⟨h.cap,h.max,h.byte,λ h0=>let ⟨g,o,e,hg,hc⟩:=h.at_ h0;⟨g,o,e,Nat.lt_of_lt_of_le hg k.size,λ j hj=>(k.cell (p:=⟨g,o+j,none⟩) hg).trans (hc j hj)⟩⟩
theorem iJ.drop {g o:Nat}(h:iJ w (some ⟨g,o,none⟩) c bs)(n:Nat):iJ w (some ⟨g,o+n,none⟩) (c-n) (bs.drop n):=by
 refine⟨by rw[List.length_drop];have:=h.cap;omega,by have:=h.max;omega,λ x hx=>h.byte x (List.mem_of_mem_drop hx),λ h0=>?_⟩;rw[List.length_drop] at h0;obtain⟨g',o',e,hg,hc⟩:=h.at_ (by omega);injection e with e
 injection e with e1 e2
 subst e1 e2;refine⟨g,o+n,rfl,hg,λ j hj=>?_⟩;rw[List.length_drop] at hj;have:=hc (n+j) (by omega);rw[List.getElem_drop,show o+n+j=o+(n+j) by omega];exact this
theorem iJ.none (a:O8)(c:Nat)(hc:c<=maxLen):iJ w a c []:=⟨Nat.zero_le _,hc,by simp,λ h=>by simp at h⟩
end
end Go.Proofs.YtldkpahaocjdpaaGreat
