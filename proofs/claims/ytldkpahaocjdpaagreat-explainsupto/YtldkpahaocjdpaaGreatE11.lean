/-
  The program's scan and what it calls (package read): HasPrefix, signAt, nameAt, variableAt, measure, scan: the plain text's tokens (ReadScanS).
-/
import Derived.Test.YtldkpahaocjdpaaGreatE06
import Derived.Test.YtldkpahaocjdpaaGreatE10
import Derived.Laws.Strings
set_option maxHeartbeats 16000000
set_option maxRecDepth 1000000
namespace Go.Proofs.YtldkpahaocjdpaaGreat
section
open Go.RowKit
def pK (r p:B8):Bool:=decide (p.size<=r.size)&&(r.extract 0 p.size).toList==p.toList
theorem zmv (r p:B8)(w:W8):
  Calls Tryz.prog 239 #[.string r,.string p] w λ e w'=>e=.returned (.bool (pK r p))/\w'=w:=by
 by_cases h:p.size<=r.size
 ·go_enter Tryz.func239,Tryz.ntmps239
  go_wp2
  go_ret;exact⟨by simp[pK,h],rfl⟩
 ·go_enter Tryz.func239,Tryz.ntmps239
  go_wp2
  go_ret;exact⟨by simp[pK];omega,rfl⟩
theorem yV (r p:B8)(w:W8):
  Calls Tryz.prog 220 #[.string r,.string p] w λ e w'=>e=.returned (.bool (pK r p))/\w'=w:=by
 go_enter Tryz.func220,Tryz.ntmps220;go_wp2_with fail;refine (zmv r p _).mono ?_;rintro e w1 ⟨rfl,rfl⟩;go_wp2_with fail;go_ret;exact⟨rfl,rfl⟩
theorem z8n (r:B8)(w:W8):
  Calls Tryz.prog 174 #[.string r] w λ e w'=>e=.returned (.tuple #[.int .i64 (zho r).1,.int .i64 (zho r).2])/\w'=w:=by
 have e1:∀ c:UInt8,pK r { data:=#[c] }=decide (1<=r.size/\(r.extract 0 1).toList=[c]):=λ c=>by
  have h1:(ByteArray.mk #[c]).size=1:=rfl;have h2:(ByteArray.mk #[c]).toList=[c]:=by rw[ByteArray.toList_eq]
  rw[Bool.eq_iff_iff];simp only[pK,h1,h2,Bool.and_eq_true,decide_eq_true_eq,beq_iff_eq]
 have e2:pK r { data:=#[58,45] }=decide (2<=r.size/\(r.extract 0 2).toList=[58,45]):=by
  have h1:(ByteArray.mk #[58,45]).size=2:=rfl;have h2:(ByteArray.mk #[58,45]).toList=[58,45]:=by rw[ByteArray.toList_eq]
  rw[Bool.eq_iff_iff];simp only[pK,h1,h2,Bool.and_eq_true,decide_eq_true_eq,beq_iff_eq]
 have hK:zho r=if pK r { data:=#[40] } then (5,1) else if pK r { data:=#[41] } then (6,1) else if pK r { data:=#[44] } then (7,1) else if pK r { data:=#[46] } then (8,1) else if pK r { data:=#[58,45] } then (9,2) else (1,1):=by
  rw[e1,e1,e1,e1,e2];unfold zho;simp only[decide_eq_true_eq]
 have HK:=zC hK;clear e1 e2 hK
 cases b1:pK r { data:=#[40] } with
 | true=>
  have HF:=zC (show zho r=(5,1) by rw[zA HK,b1];rfl);clear HK;go_enter Tryz.func174,Tryz.ntmps174;go_wp2_with fail;refine (yV r _ _).mono ?_;rintro e w1 ⟨rfl,rfl⟩;go_wp2_with fail
  go_ret2
  exact⟨by rw[zA HF];rfl,rfl⟩
 | false=>
 cases b2:pK r { data:=#[41] } with
 | true=>
  have HF:=zC (show zho r=(6,1) by rw[zA HK,b1,b2];rfl);clear HK;go_enter Tryz.func174,Tryz.ntmps174;go_wp2_with fail;refine (yV r _ _).mono ?_;rintro e w1 ⟨rfl,rfl⟩;go_wp2_with fail;refine (yV r _ _).mono ?_;rintro e w1 ⟨rfl,rfl⟩;go_wp2_with fail
  go_ret2
  exact⟨by rw[zA HF];rfl,rfl⟩
 | false=>
 cases b3:pK r { data:=#[44] } with
 | true=>
  have HF:=zC (show zho r=(7,1) by rw[zA HK,b1,b2,b3];rfl);clear HK;go_enter Tryz.func174,Tryz.ntmps174;go_wp2_with fail;refine (yV r _ _).mono ?_;rintro e w1 ⟨rfl,rfl⟩;go_wp2_with fail;refine (yV r _ _).mono ?_;rintro e w1 ⟨rfl,rfl⟩;go_wp2_with fail;refine (yV r _ _).mono ?_;rintro e w1 ⟨rfl,rfl⟩;go_wp2_with fail
  go_ret2
  exact⟨by rw[zA HF];rfl,rfl⟩
 | false=>
 cases b4:pK r { data:=#[46] } with
 | true=>
  have HF:=zC (show zho r=(8,1) by rw[zA HK,b1,b2,b3,b4];rfl);clear HK;go_enter Tryz.func174,Tryz.ntmps174;go_wp2_with fail;refine (yV r _ _).mono ?_;rintro e w1 ⟨rfl,rfl⟩;go_wp2_with fail;refine (yV r _ _).mono ?_;rintro e w1 ⟨rfl,rfl⟩;go_wp2_with fail;refine (yV r _ _).mono ?_;rintro e w1 ⟨rfl,rfl⟩;go_wp2_with fail;refine (yV r _ _).mono ?_;rintro e w1 ⟨rfl,rfl⟩;go_wp2_with fail
  go_ret2
  exact⟨by rw[zA HF];rfl,rfl⟩
 | false=>
 cases b5:pK r { data:=#[58,45] } with
 | true=>
  have HF:=zC (show zho r=(9,2) by rw[zA HK,b1,b2,b3,b4,b5];rfl);clear HK;go_enter Tryz.func174,Tryz.ntmps174;go_wp2_with fail;refine (yV r _ _).mono ?_;rintro e w1 ⟨rfl,rfl⟩;go_wp2_with fail;refine (yV r _ _).mono ?_;rintro e w1 ⟨rfl,rfl⟩;go_wp2_with fail;refine (yV r _ _).mono ?_;rintro e w1 ⟨rfl,rfl⟩;go_wp2_with fail;refine (yV r _ _).mono ?_;rintro e w1 ⟨rfl,rfl⟩;go_wp2_with fail;refine (yV r _ _).mono ?_;rintro e w1 ⟨rfl,rfl⟩;go_wp2_with fail
  go_ret2
  exact⟨by rw[zA HF];rfl,rfl⟩
 | false=>
  have HF:=zC (show zho r=(1,1) by rw[zA HK,b1,b2,b3,b4,b5];rfl);clear HK;go_enter Tryz.func174,Tryz.ntmps174;go_wp2_with fail;refine (yV r _ _).mono ?_;rintro e w1 ⟨rfl,rfl⟩;go_wp2_with fail;refine (yV r _ _).mono ?_;rintro e w1 ⟨rfl,rfl⟩;go_wp2_with fail;refine (yV r _ _).mono ?_;rintro e w1 ⟨rfl,rfl⟩;go_wp2_with fail;refine (yV r _ _).mono ?_;rintro e w1 ⟨rfl,rfl⟩;go_wp2_with fail;refine (yV r _ _).mono ?_;rintro e w1 ⟨rfl,rfl⟩;go_wp2_with fail
  go_ret2
  exact⟨by rw[zA HF];rfl,rfl⟩
theorem z7p (r:B8)(hr:r.size<=maxLen)(w:W8):
  Calls Tryz.prog 171 #[.string r] w λ e w'=>e=.returned (.tuple #[.int .i64 (zj6 r).1,.int .i64 (zj6 r).2])/\w'=w:=by
 have hle:=zcz xL r 0 (Nat.zero_le _);have oK:=hr;unfold maxLen at oK
 by_cases h8:8<skip xL r 0
 ·have HF:=zC (show zj6 r=(1,skip xL r 0) by unfold zj6;rw[if_pos h8]);go_enter Tryz.func171,Tryz.ntmps171;go_wp2_with fail;refine (zfq r hr _).mono ?_;rintro e w1 ⟨rfl,rfl⟩;go_wp2_with fail
  go_ret2
  exact⟨by rw[zA HF];rfl,rfl⟩
 ·cases hn:(r.extract 0 (skip xL r 0)).toList==[110,111,116] with
  | true=>
   have HF:=zC (show zj6 r=(4,skip xL r 0) by unfold zj6;rw[if_neg h8,if_pos (eq_of_beq hn)]);go_enter Tryz.func171,Tryz.ntmps171;go_wp2_with fail;refine (zfq r hr _).mono ?_;rintro e w1 ⟨rfl,rfl⟩;go_wp2_with fail
   go_ret2
   exact⟨by rw[zA HF];rfl,rfl⟩
  | false=>
   have HF:=zC (show zj6 r=(2,skip xL r 0) by unfold zj6;rw[if_neg h8,if_neg (by intro e;rw[e] at hn;simp at hn)]);go_enter Tryz.func171,Tryz.ntmps171;go_wp2_with fail;refine (zfq r hr _).mono ?_;rintro e w1 ⟨rfl,rfl⟩;go_wp2_with fail
   go_ret2
   exact⟨by rw[zA HF];rfl,rfl⟩
theorem ztd (r:B8)(hr:r.size<=maxLen)(w:W8):
  Calls Tryz.prog 173 #[.string r] w λ e w'=>e=.returned (.tuple #[.int .i64 (z56 r).1,.int .i64 (z56 r).2])/\w'=w:=by
 by_cases h8:8<skip yF r 0
 ·have HF:=zC (show z56 r=(1,skip yF r 0) by unfold z56;rw[if_pos h8]);go_enter Tryz.func173,Tryz.ntmps173;go_wp2_with fail;refine (zgx r hr _).mono ?_;rintro e w1 ⟨rfl,rfl⟩;go_wp2_with fail
  go_ret2
  exact⟨by rw[zA HF];rfl,rfl⟩
 ·have HF:=zC (show z56 r=(3,skip yF r 0) by unfold z56;rw[if_neg h8]);go_enter Tryz.func173,Tryz.ntmps173;go_wp2_with fail;refine (zgx r hr _).mono ?_;rintro e w1 ⟨rfl,rfl⟩;go_wp2_with fail
  go_ret2
  exact⟨by rw[zA HF];rfl,rfl⟩
theorem zui (r:B8)(hr:r.size<=maxLen)(w:W8):
  Calls Tryz.prog 115 #[.string r] w λ e w'=>e=.returned (.tuple #[.int .i64 (oi r).1,.int .i64 (oi r).2])/\w'=w:=by
 by_cases h0:0<r.size
 ·have he:r.toList.isEmpty=false:=by
   rw[ByteArray.toList_eq,List.isEmpty_eq_false_iff];intro e;have:r.data.toList.length=0:=by rw[e];rfl
   rw[Array.length_toList] at this;have h2:r.data.size=r.size:=rfl;omega
  cases hl:xL r[0].toNat with
  | true=>
   have HF:=zC (show oi r=zj6 r by unfold oi;rw[dif_pos h0,if_pos hl]);go_enter Tryz.func115,Tryz.ntmps115;go_wp2_with fail;refine (zbl _ _).mono ?_;rintro e w1 ⟨rfl,rfl⟩;go_wp2_with fail;refine (z7p r hr _).mono ?_;rintro e w1 ⟨rfl,rfl⟩;go_wp2_with fail
   go_ret2
   exact⟨by rw[zA HF];rfl,rfl⟩
  | false=>
   cases hh:yF r[0].toNat with
   | true=>
    have HF:=zC (show oi r=z56 r by unfold oi;rw[dif_pos h0,if_neg (by rw[hl];decide),if_pos hh]);go_enter Tryz.func115,Tryz.ntmps115;go_wp2_with fail;refine (zbl _ _).mono ?_;rintro e w1 ⟨rfl,rfl⟩;go_wp2_with fail;refine (za2 _ _).mono ?_;rintro e w1 ⟨rfl,rfl⟩;go_wp2_with fail;refine (ztd r hr _).mono ?_;rintro e w1 ⟨rfl,rfl⟩;go_wp2_with fail
    go_ret2
    exact⟨by rw[zA HF];rfl,rfl⟩
   | false=>
    have HF:=zC (show oi r=zho r by unfold oi;rw[dif_pos h0,if_neg (by rw[hl];decide),if_neg (by rw[hh];decide)]);go_enter Tryz.func115,Tryz.ntmps115;go_wp2_with fail;refine (zbl _ _).mono ?_;rintro e w1 ⟨rfl,rfl⟩;go_wp2_with fail;refine (za2 _ _).mono ?_;rintro e w1 ⟨rfl,rfl⟩;go_wp2_with fail;refine (z8n r _).mono ?_;rintro e w1 ⟨rfl,rfl⟩;go_wp2_with fail
    go_ret2
    exact⟨by rw[zA HF];rfl,rfl⟩
 ·have he:r.toList.isEmpty=true:=by
   rw[ByteArray.toList_eq,List.isEmpty_iff];apply List.eq_nil_of_length_eq_zero;rw[Array.length_toList];have h2:r.data.size=r.size:=rfl;omega
  have HF:=zC (show oi r=(0,0) by unfold oi;rw[dif_neg h0]);go_enter Tryz.func115,Tryz.ntmps115;go_wp2_with fail
  go_ret2
  exact⟨by rw[zA HF];rfl,rfl⟩
def yb9 (k:Int × Nat × Nat):Value:=.agg #[.int .i64 k.1,.int .i64 k.2.1,.int .i64 k.2.2]
theorem zwj (r:B8):(oi r).2<=r.size:=by
 unfold oi
 split
 ·rename_i h;have h1:=zcz xL r 0 (Nat.zero_le _);have h2:=zcz yF r 0 (Nat.zero_le _)
  split
  ·unfold zj6;split;exact h1;split <;> exact h1
  ·split
   ·unfold z56;split <;> exact h2
   ·unfold zho
    split;exact h
    split;exact h
    split;exact h
    split;exact h
    split
    ·rename_i h5;exact h5.1
    ·exact h
 ·simp
theorem z8i (s:B8)(i:Nat)(hi:i<=s.size)(hs:s.size<=maxLen)(w:W8):
  Calls Tryz.prog 73 #[.string s,.int .i64 i] w λ e w'=>e=.returned (yb9 (zF s i))/\Below w.heap.size w w':=by
 have hb:=zmu zO s i hi;have dK:=zcz zO s i hi;have mh:=hs;unfold maxLen at mh;have tf:(s.extract i s.size).size<=maxLen:=by rw[zda s i];omega
 have yp:=zC tf;have aB:=zso (s.extract i s.size) tf;generalize skip zO (s.extract i s.size) 0=n0 at *;have Up:zF s i=((oi (s.extract (i+n0) s.size)).1,i+n0,i+n0+(oi (s.extract (i+n0) s.size)).2):=by unfold zF;rw[<-hb]
 have bh:=zwj (s.extract (i+n0) s.size);rw[zda s _] at bh;have hle:i+n0<=s.size:=by omega
 have Yo:(i:Int)+n0<=s.size:=by omega
 have LI:(s.extract (i+n0) s.size).size<=maxLen:=by rw[zda s _];omega
 have gU:=zui (s.extract (i+n0) s.size) LI;have WE:=zC Up;have HR:=zC aB;have Oy:=zC gU;clear hb tf LI yp aB Up gU dK;go_enter Tryz.func73,Tryz.ntmps73;go_wp2_with fail;refine (zA HR _).mono ?_;rintro e w1 ⟨rfl,rfl⟩;clear HR;go_wp2_with fail;have et:((i:Int)+n0).toNat=i+n0:=by omega
 try rw[et]
 refine (zA Oy _).mono ?_;rintro e w1 ⟨rfl,rfl⟩;clear Oy;generalize oi (s.extract (i+n0) s.size)=K at *;go_wp2_with fail;refine bodyPost_ret (v:=yb9 (zF s i)) (by rw[zA WE];simp[results,Tryz.results73,go_sem,yb9]) rfl ⟨rfl,B9.alloc L9 _⟩
end
section
open Go.RowKit
structure dT (w:W8)(b:Nat)(s:B8)(pos num:Nat)(mv:Value):Prop where
 lt:b<w.heap.size
 c0:w.cell? ⟨b,0,none⟩=some (.string s)
 c1:w.cell? ⟨b,1,none⟩=some (.int .i64 (zF s pos).1)
 c2:w.cell? ⟨b,2,none⟩=some (.int .i64 (zF s pos).2.1)
 c3:w.cell? ⟨b,3,none⟩=some (.int .i64 (zF s pos).2.2)
 c4:w.cell? ⟨b,4,none⟩=some (.int .i64 num)
 c5:w.cell? ⟨b,5,none⟩=some mv
 fz:∀ o,w.frozen? ⟨b,o,none⟩=false
variable {mv:Value} {pos num b:Nat} {s:B8} {w:W8}
theorem dT.kept {B:List Nat}{w':W8}(h:dT w b s pos num mv)(k:zK B w w')(hn:b∉B):dT w' b s pos num mv:=
 ⟨Nat.lt_of_lt_of_le h.lt k.size,(k.cell h.lt hn).trans h.c0,(k.cell h.lt hn).trans h.c1,(k.cell h.lt hn).trans h.c2,(k.cell h.lt hn).trans h.c3,(k.cell h.lt hn).trans h.c4,(k.cell h.lt hn).trans h.c5,λ o=>(k.frozen h.lt hn).trans (h.fz o)⟩
theorem xT (s:B8)(i:Nat)(hi:i<=s.size):(zF s i).2.1<=(zF s i).2.2/\(zF s i).2.2<=s.size:=by
 have h1:=zcz zO s i hi;have h2:=zwj (s.extract (skip zO s i) s.size);rw[zda] at h2;unfold zF;exact⟨by simp,by simp only;omega⟩
def yM (s:B8)(pos:Nat)(k:Int):Nat:=if (zF s pos).1==k then (zF s pos).2.2 else pos
def xQ (s:B8)(pos:Nat):B8:=s.extract (zF s pos).2.1 (zF s pos).2.2
theorem zmt (s:B8)(i:Nat)(hi:i<=s.size)(hs:s.size<=maxLen)(w:W8):
  Calls Tryz.prog 73 #[.string s,.int .i64 i] w λ e w'=>e=.returned (.agg #[.int .i64 (zF s i).1,.int .i64 (zF s i).2.1,.int .i64 (zF s i).2.2])/\Below w.heap.size w w':=z8i s i hi hs w
variable {w1:W8}
theorem z8d {pos':Nat}(h:dT w1 b s pos num mv):
  dT (((w1.setCell ⟨b,1,none⟩ (.int .i64 (zF s pos').1)).setCell ⟨b,2,none⟩ (.int .i64 (zF s pos').2.1)).setCell ⟨b,3,none⟩ (.int .i64 (zF s pos').2.2)) b s pos' num mv:=by
 obtain⟨aH,c0,c1,c2,c3,c4,c5,fz⟩:=h;refine⟨by simpa using aH,?_,?_,?_,?_,?_,?_,?_⟩
 all_goals go_simp
theorem Below.lr (h:Below w.drew.heap.size w.drew w1):Below w.heap.size w w1:=⟨h.os,h.tape,h.output,h.size,h.block⟩
theorem xI (s:B8)(pos num:Nat)(mv:Value)(k:Int)(b:Nat)(w:W8)(h:dT w b s pos num mv)(aJ:pos<=s.size)(hs:s.size<=maxLen):
  Calls Tryz.prog 116 #[.pointer (some ⟨b,0,none⟩),.int .i64 k] w λ e w'=>e=.returned (.bool ((zF s pos).1==k))/\zK [b] w w'/\dT w' b s (yM s pos k) num mv:=by
 have h':=h;obtain⟨aH,c0,c1,c2,c3,c4,c5,fz⟩:=h
 cases hk:(zF s pos).1==k with
 | false=>
  have bn:((zF s pos).1 != k)=true:=by simp[bne,hk]
  have e1:yM s pos k=pos:=by unfold yM;rw[if_neg (by rw[hk];decide)]
  rw[e1];clear hk e1;go_enter Tryz.func116,Tryz.ntmps116;go_wp2_with fail;go_ret;exact⟨rfl,zK.refl _ _,h'⟩
 | true=>
  have bn:((zF s pos).1 != k)=false:=by simp[bne,hk]
  have e1:yM s pos k=(zF s pos).2.2:=by unfold yM;rw[if_pos hk]
  rw[e1];have hle:=(xT s pos aJ).2;clear hk e1;have HP:=zC (λ (w1:W8) (hb:Below w.heap.size w w1)=>h'.kept ((zK.refl [] w).ak hb) (by simp));go_enter Tryz.func116,Tryz.ntmps116;go_wp2_with fail
  go_region_with (go_at_call 73;refine (zmt s (zF s pos).2.2 hle hs _).mono ?_;rintro e w1 ⟨rfl,aL⟩;obtain⟨Qo,x0,x1,x2,x3,x4,x5,Xi⟩:=zA HP w1 (Below.lr aL))
  all_goals
   go_wp2_with fail;go_ret;exact⟨rfl,((((zK.refl [b] w).ak (Below.lr aL)).setCell (by simp) _).setCell (by simp) _).setCell (by simp) _,z8d (pos':=(zF s pos).2.2) (zA HP w1 (Below.lr aL))⟩
theorem z1r (s:B8)(hs:s.size<=281474976710656)(w:W8):
  Calls Tryz.prog 198 #[.string s] w λ e w'=>e=.returned (.string s)/\Below w.heap.size w w':=by
 go_enter Tryz.func198,Tryz.ntmps198;go_wp2_with fail;refine (Tryz.stringslite_Clone s _ hs).mono ?_;rintro e w1 ⟨rfl,aL⟩;go_wp2_with fail;go_ret;exact⟨rfl,aL⟩
end
section
open Go.RowKit
def zE (s:B8)(p:Nat)(bd:Int)(n:Nat):Int:=if n==30 then zaw s p bd else bd
def zas (s:B8)(p:Nat)(bd:Int):zS:=⟨zI s p bd,(jM s p bd).1⟩
def zbu (s:B8)(p:Nat)(bd:Int):Bool:=(tok s p).kind != 46&&decide (bd<0)
def zbz (s:B8):Nat->Nat->Int->List zS->List zS × Nat × Int
 | 0,p,bd,l=>(l,p,bd)
 | f+1,p,bd,l=>if zbu s p bd then zbz s f (zb2 s p (zE s p bd l.length)) (jK s p (zE s p bd l.length)) (l++[zas s p (zE s p bd l.length)]) else (l,p,bd)
variable {s:B8}
theorem zxw (f:Nat):∀ {p:Nat} {bd:Int} {l:List zL},0<=bd->0<=(zco s f p bd l).2.2:=by
 induction f with
 | zero=>intro p bd l h;exact h
 | succ f ih=>
  intro p bd l h;have h0:0<=zX s p bd l.length:=by
   unfold zX;split
   ·exact j7 _ _ _
   ·exact h
  have h1:=zrs (s:=s) (p:=p) h0;rw[zco]
  split
  ·exact ih (zbv h1)
  ·exact zbv h1
variable {bd:Int} {p:Nat}
theorem zzh (h:0<=bd):0<=jK s p bd:=by
 have h1:=zny (s:=s) (p:=p) h;unfold jK;refine jL (zoc ?_);unfold jM;split
 ·exact zxw 4 (zbv h1)
 ·exact zbv h1
theorem zzj (s:B8)(p:Nat)(bd:Int)(l:List zS)(h:l.length<=30)(hg:zbu s p bd=true):zbz s (31-l.length) p bd l=zbz s (31-(l++[zas s p (zE s p bd l.length)]).length) (zb2 s p (zE s p bd l.length)) (jK s p (zE s p bd l.length)) (l++[zas s p (zE s p bd l.length)]):=by
 have e1:31-l.length=(30-l.length)+1:=by omega
 have e2:31-(l++[zas s p (zE s p bd l.length)]).length=30-l.length:=by simp
 rw[e1,e2,zbz,if_pos hg]
theorem zsu (s:B8)(f p:Nat)(bd:Int)(l:List zS)(hg:zbu s p bd=false):zbz s f p bd l=(l,p,bd):=by
 cases f with
 | zero=>rfl
 | succ f=>rw[zbz,if_neg (by rw[hg];decide)]
theorem zok {n:Nat}(hn:n=30):0<=jK s p (zE s p bd n):=by
 refine zzh ?_;subst hn;simp[zE];exact j7 _ _ _
def yG (s:B8):List zS × Nat × Int:=zbz s 31 0 (-1) []
def zT (s:B8):Int × P9:=yN ((yG s).1.flatMap zS.atoms) []
def yY (s:B8):Bool × Int × Int:=
 if 800<s.size then (false,1,0)
 else if 0<=(yG s).2.2 then (false,2,(yG s).2.2)
 else if 0<=(zT s).1 then (false,3,(zT s).1)
 else if 0<=yT (yG s).1 then (false,4,yT (yG s).1)
 else if 0<=vN (zT s).2 (vI (zT s).2 (yG s).1) (yG s).1 then (false,5,vN (zT s).2 (vI (zT s).2 (yG s).1) (yG s).1)
 else (true,0,0)
theorem zsq (rs:List RR)(r:RR):zab (rs++[r])=zab rs++r.cells:=by simp[zab]
theorem mB.rm {w W w5:W8}{o:Nat}{rs:List RR}{ps qs:P9}{rv pv tv sv:Value}(h:mB w o rs ps qs rv pv tv sv)(hW:∀ k,k<w.heap.size->W.heap[k]?=w.heap[k]?)(hS:w.heap.size<=W.heap.size)(hg:W.grownBy w5 rv.ownBlock){r:RR}(hr:nA w (o+1) r.R r.hv r.bs r.bv){v':Value}(ay:w5.ownsRow (o+1) 246 6 v' (rs.length+1) (zab rs++r.cells)):
  mB (w5.setCell ⟨o,0,none⟩ v') o (rs++[r]) ps qs v' pv tv sv:=by
 have hb:=zf7 hW hS h.rules hg h.lt;have cc:∀ j,w5.cell? ⟨o,j,none⟩=w.cell? ⟨o,j,none⟩:=λ j=>World.cell?_of_block hb
 have ff:∀ j,w5.frozen? ⟨o,j,none⟩=w.frozen? ⟨o,j,none⟩:=λ j=>World.frozen?_of_block hb
 have aH:=h.lt;have hs:=hg.size;refine⟨by simp;omega,Hl ((cc 0).trans h.c0),by rw[zak (by omega),cc 1];exact h.c1,by rw[zak (by omega),cc 2];exact h.c2,by rw[zak (by omega),cc 3];exact h.c3,λ j=>by rw[World.frozen?_setCell,ff j];exact h.fz j,?_,λ x hx=>?_,zek hW hS h.rules hg h.fH (by decide),zek hW hS h.rules hg h.ae (by decide)⟩
 ·rw[zsq,List.length_append];exact ownsRow_setCell_below ay (a:=⟨o,0,none⟩) (by simp) v'
 ·rcases List.mem_append.1 hx with hx | hx
  ·exact zkf hW hS h.rules hg (by decide) (by decide) (h.each x hx)
  ·simp at hx;subst hx;exact zkf hW hS h.rules hg (by decide) (by decide) hr
theorem z1i (f:Nat):∀ {p:Nat} {bd:Int} {l:List zL},(zco s f p bd l).1.length<=l.length+f:=by
 induction f with
 | zero=>intro p bd l;simp[zco]
 | succ f ih=>
  intro p bd l;rw[zco]
  split
  ·refine Nat.le_trans ih ?_;first | (simp;done) | (simp;omega)
  ·first | (simp;done) | (simp;omega)
theorem zvt (s:B8)(p:Nat)(bd:Int):(jM s p bd).1.length<=4:=by
 unfold jM;split
 ·have:=z1i (s:=s) 4 (p:=vF s (zH s p bd).2.1 (zH s p bd).2.2 { data:=#[58,45] }) (bd:=vO s (zH s p bd).2.1 (zH s p bd).2.2 { data:=#[58,45] }) (l:=[]);simpa using this
 ·simp
theorem z1d (l:List RR)(h:∀ r∈l,r.R.body.length<=4):(yJ l).length<=5*l.length:=by
 induction l with
 | nil=>simp[yJ]
 | cons x r ih=>
  have h1:=ih (λ y hy=>h y (List.mem_cons_of_mem _ hy));have h2:=h x List.mem_cons_self;have e:yJ (x::r)=x.R.atoms++yJ r:=by simp[yJ]
  rw[e,List.length_append];simp only[zS.atoms,List.length_cons];omega
theorem zk2 (l:List RR):yJ l=(l.map (·.R)).flatMap zS.atoms:=by
 simp[yJ,List.flatMap_map]
end
section
def zzy (t:Tk):Int:=
 if t.kind=46 then 0 else if t.kind=33 then 1 else if t.kind=110 then 2 else if t.kind=118 then 3 else if t.kind=119 then 4
 else if t.text.toList=[40] then 5 else if t.text.toList=[41] then 6 else if t.text.toList=[44] then 7 else if t.text.toList=[46] then 8 else 9
theorem zpb (s:B8)(k n:Nat)(h:k+n<=s.size):(s.extract k s.size).extract 0 n=s.extract k (k+n):=by
 apply ByteArray.ext;simp[ByteArray.data_extract,Array.extract_extract]
 congr 1
 have:s.data.size=s.size:=rfl;omega
theorem zt6 (s:B8)(k:Nat)(h:k<s.size):(s.extract k (k+1)).toList=[s[k]]:=by
 rw[ByteArray.toList_eq,ByteArray.data_extract,Array.toList_extract];have h1:s.data.toList.length=s.size:=by rw[Array.length_toList];rfl
 rw[List.extract_eq_take_drop];have e:k+1-k=1:=by omega
 rw[e,List.drop_eq_getElem_cons (by omega)];simp[List.take];rfl
theorem z16 (s:B8)(k:Nat)(h:k+1<s.size):(s.extract k (k+2)).toList=[s[k],s[k+1]]:=by
 rw[ByteArray.toList_eq,ByteArray.data_extract,Array.toList_extract];have h1:s.data.toList.length=s.size:=by rw[Array.length_toList];rfl
 rw[List.extract_eq_take_drop];have e:k+2-k=2:=by omega
 rw[e,List.drop_eq_getElem_cons (by omega),List.drop_eq_getElem_cons (by omega)];simp[List.take];exact⟨rfl,rfl⟩
theorem ycl (a c:UInt8):a=c↔(a.toNat:Int)=(c.toNat:Int):=by
 constructor
 ·intro h;rw[h]
 ·intro h;exact UInt8.toNat_inj.1 (by omega)
theorem z8m (s:B8)(k:Nat)(hk:k<s.size):zho (s.extract k s.size) =
  if xA s k=0 then (1,1) else if xA s k=2 then (9,2) else (zzy ⟨115,s.extract k (k+1),k,k+1⟩,1):=by
 have bj:(s.extract k s.size).size=s.size-k:=zda s k;have e1:((s.extract k s.size).extract 0 1).toList=[s[k]]:=by rw[zpb s k 1 (by omega),zt6 s k hk]
 have g1:1<=(s.extract k s.size).size:=by omega
 have t1:=zt6 s k hk;unfold zho zzy;simp only[e1,g1,true_and,t1,List.cons.injEq,and_true];simp only[ycl];unfold xA;rw[dif_pos hk]
 by_cases ee:(s[k].toNat:Int)=58
 ·rw[if_pos ee];have n1:¬ (s[k].toNat:Int)=((40:UInt8).toNat:Int):=by rw[ee];decide
  have n2:¬ (s[k].toNat:Int)=((41:UInt8).toNat:Int):=by rw[ee];decide
  have n3:¬ (s[k].toNat:Int)=((44:UInt8).toNat:Int):=by rw[ee];decide
  have n4:¬ (s[k].toNat:Int)=((46:UInt8).toNat:Int):=by rw[ee];decide
  rw[if_neg n1,if_neg n2,if_neg n3,if_neg n4]
  by_cases h2:k+1<s.size
  ·have e2:((s.extract k s.size).extract 0 2).toList=[s[k],s[k+1]]:=(by rw[zpb s k 2 (by omega),z16 s k h2]);rw[dif_pos h2,e2];have g2:2<=(s.extract k s.size).size:=(by omega);simp only[g2,true_and,List.cons.injEq,and_true,ycl]
   by_cases dU:(s[k+1].toNat:Int)=45
   ·rw[if_pos ⟨by rw[ee];rfl,by rw[dU];rfl⟩,if_pos dU];simp
   ·rw[if_neg (λ h=>dU (by rw[h.2];rfl)),if_neg dU];simp
  ·rw[dif_neg h2,if_neg (by omega)];simp
 ·rw[if_neg ee];have n5:¬ (2<=(s.extract k s.size).size/\((s.extract k s.size).extract 0 2).toList=[58,45]):=by
   rintro⟨g2,h⟩;rw[zpb s k 2 (by omega),z16 s k (by omega)] at h;injection h with h _
   exact ee (by rw[h];rfl)
  rw[if_neg n5]
  by_cases d1:(s[k].toNat:Int)=40
  ·simp[d1]
  ·by_cases d2:(s[k].toNat:Int)=41
   ·simp[d2]
   ·by_cases d3:(s[k].toNat:Int)=44
    ·simp[d3]
    ·by_cases d4:(s[k].toNat:Int)=46
     ·simp[d4]
     ·have m1:¬ (s[k].toNat:Int)=((40:UInt8).toNat:Int):=d1;have m2:¬ (s[k].toNat:Int)=((41:UInt8).toNat:Int):=d2;have m3:¬ (s[k].toNat:Int)=((44:UInt8).toNat:Int):=d3;have m4:¬ (s[k].toNat:Int)=((46:UInt8).toNat:Int):=d4;rw[if_neg m1,if_neg m2,if_neg m3,if_neg m4];simp[d1,d2,d3,d4]
theorem znq (s:B8)(k:Nat):xA s k=0\/xA s k=1\/xA s k=2:=by
 unfold xA
 split
 ·split
  ·split
   ·split <;> simp
   ·simp
  ·split <;> simp
 ·simp
theorem z8j (s:B8)(i:Nat)(hi:i<=s.size):zF s i=(zzy (tok s i),(tok s i).at_,(tok s i).to):=by
 have hk:=zcz zO s i hi;unfold zF tok;generalize skip zO s i=k at *;have bj:(s.extract k s.size).size=s.size-k:=zda s k
 by_cases h0:s.size<=k
 ·have e:k=s.size:=by omega
  rw[zhq,if_pos h0];unfold oi;rw[dif_neg (by omega)];simp[zzy,e]
 ·have aH:k<s.size:=by omega
  have hl:=zmu xL s k hk;have hh:=zmu yF s k hk;have xa:0<(s.extract k s.size).size:=by omega
  have hg:(s.extract k s.size)[0]=s[k]:=by have:=zt5 s k 0 (by omega) xa;simpa using this
  rw[zhq,if_neg h0];unfold oi;rw[dif_pos xa]
  by_cases bc:k<skip xL s k
  ·have oG:xL s[k].toNat=true:=by
    cases hb:xL s[k].toNat with
    | true=>rfl
    | false=>rw[xZ xL s k aH hb] at bc;omega
   have mi:skip xL (s.extract k s.size) 0=skip xL s k-k:=(by omega);have hle:=zcz xL s k hk;have hex:(s.extract k s.size).extract 0 (skip xL s k-k)=s.extract k (skip xL s k):=by
    rw[zpb s k _ (by omega)];congr 1;omega
   rw[if_pos (by rw[hg];exact oG),if_pos bc];unfold zj6;rw[mi,hex]
   by_cases h8:8<skip xL s k-k
   ·have kR:¬ (s.extract k (skip xL s k)).toList=[110,111,116]:=by
     intro e;have:(s.extract k (skip xL s k)).toList.length=3:=by rw[e];rfl
     rw[ByteArray.toList_eq,Array.length_toList] at this;have h2:(s.extract k (skip xL s k)).data.size=(s.extract k (skip xL s k)).size:=rfl;rw[h2,ByteArray.size_extract] at this;omega
    rw[if_pos h8,if_neg kR,if_neg (by omega)];simp[zzy];omega
   ·by_cases hn:(s.extract k (skip xL s k)).toList=[110,111,116]
    ·rw[if_neg h8,if_pos hn,if_pos hn];simp[zzy];omega
    ·rw[if_neg h8,if_neg hn,if_neg hn,if_pos (by omega)];simp[zzy];omega
  ·have oG:xL s[k].toNat=false:=by
    cases hb:xL s[k].toNat with
    | false=>rfl
    | true=>
     have h1:=xY xL s k aH hb;have h2:=zp5 xL s (k+1);omega
   rw[if_neg (by rw[hg,oG];decide),if_neg bc]
   by_cases hhigh:k<skip yF s k
   ·have PZ:yF s[k].toNat=true:=by
     cases hb:yF s[k].toNat with
     | true=>rfl
     | false=>rw[xZ yF s k aH hb] at hhigh;omega
    have mi:skip yF (s.extract k s.size) 0=skip yF s k-k:=(by omega);rw[if_pos (by rw[hg];exact PZ),if_pos hhigh];unfold z56;rw[mi]
    by_cases h8:8<skip yF s k-k
    ·rw[if_pos h8,if_neg (by omega)];simp[zzy];omega
    ·rw[if_neg h8,if_pos (by omega)];simp[zzy];omega
   ·have PZ:yF s[k].toNat=false:=by
     cases hb:yF s[k].toNat with
     | false=>rfl
     | true=>
      have h1:=xY yF s k aH hb;have h2:=zp5 yF s (k+1);omega
    rw[if_neg (by rw[hg,PZ];decide),if_neg hhigh,z8m s k aH];rcases znq s k with h | h | h
    ·rw[if_pos h,if_pos h];simp[zzy]
    ·rw[if_neg (by omega),if_neg (by omega),if_neg (by omega),if_neg (by omega)]
    ·rw[if_neg (by omega),if_pos h,if_neg (by omega),if_pos h];have e:({ data:=#[58,45] }:B8).toList=[58,45]:=(by rw[ByteArray.toList_eq]);simp[zzy,e]
end
section
theorem z5i (s:B8)(i:Nat):(tok s i).kind=46\/(tok s i).kind=33\/((tok s i).kind=110/\(tok s i).text=s.extract (tok s i).at_ (tok s i).to)\/((tok s i).kind=118/\(tok s i).text=s.extract (tok s i).at_ (tok s i).to)\/(tok s i).kind=119 \/
  ((tok s i).kind=115/\((tok s i).text.toList=[40]\/(tok s i).text.toList=[41]\/(tok s i).text.toList=[44]\/(tok s i).text.toList=[46]\/(tok s i).text.toList=[58,45])):=by
 unfold tok;generalize skip zO s i=k;unfold zhq
 by_cases h0:s.size<=k
 ·simp[h0]
 ·rw[if_neg h0]
  by_cases h1:k<skip xL s k
  ·rw[if_pos h1]
   split
   ·simp
   ·split <;> simp
  ·rw[if_neg h1]
   by_cases h2:k<skip yF s k
   ·rw[if_pos h2]
    split <;> simp
   ·rw[if_neg h2]
    by_cases h3:xA s k=0
    ·rw[if_pos h3];simp
    ·rw[if_neg h3]
     by_cases h4:xA s k=2
     ·rw[if_pos h4];have:({ data:=#[58,45] }:B8).toList=[58,45]:=by rw[ByteArray.toList_eq]
      simp[this]
     ·rw[if_neg h4];have hk:k<s.size:=(by omega);have t1:=zt6 s k hk;simp only[t1];have hs:(s[k].toNat:Int)=40\/(s[k].toNat:Int)=41\/(s[k].toNat:Int)=44\/(s[k].toNat:Int)=46:=by
       unfold xA at h3 h4;rw[dif_pos hk] at h3 h4
       by_cases hc:(s[k].toNat:Int)=58
       ·rw[if_pos hc] at h3 h4
        by_cases hd:k+1<s.size
        ·rw[dif_pos hd] at h3 h4
         by_cases he:(s[k+1].toNat:Int)=45
         ·rw[if_pos he] at h4;exact absurd rfl h4
         ·rw[if_neg he] at h3;exact absurd rfl h3
        ·rw[dif_neg hd] at h3;exact absurd rfl h3
       ·rw[if_neg hc] at h3
        by_cases hd:(s[k].toNat:Int)=40\/(s[k].toNat:Int)=41\/(s[k].toNat:Int)=44\/(s[k].toNat:Int)=46
        ·exact hd
        ·rw[if_neg hd] at h3;exact absurd rfl h3
      have u:∀ c:UInt8,(s[k].toNat:Int)=(c.toNat:Int)->s[k]=c:=λ c h=>(ycl _ _).2 h
      rcases hs with h | h | h | h
      ·simp[u 40 h]
      ·simp[u 41 h]
      ·simp[u 44 h]
      ·simp[u 46 h]
structure yaa (s:B8)(p:Nat):Prop where
 k0:(zF s p).1=0↔(tok s p).kind=46
 k2:(zF s p).1=2↔(tok s p).kind=110
 k3:(zF s p).1=3↔(tok s p).kind=118
 k4:(zF s p).1=4↔(tok s p).kind=119
 k5:(zF s p).1=5↔((tok s p).kind=115/\(tok s p).text.toList=[40])
 k6:(zF s p).1=6↔((tok s p).kind=115/\(tok s p).text.toList=[41])
 k7:(zF s p).1=7↔((tok s p).kind=115/\(tok s p).text.toList=[44])
 k8:(zF s p).1=8↔((tok s p).kind=115/\(tok s p).text.toList=[46])
 k9:(zF s p).1=9↔((tok s p).kind=115/\(tok s p).text.toList=[58,45])
 at_:(zF s p).2.1=(tok s p).at_
 sm:(zF s p).2.2=(tok s p).to
 word:(tok s p).kind=110\/(tok s p).kind=118->xQ s p=(tok s p).text
theorem zfh (s:B8)(p:Nat)(hp:p<=s.size):yaa s p:=by
 have h:=z5i s p;have e:=z8j s p hp;have e1:(zF s p).1=zzy (tok s p):=by rw[e]
 have e2:(zF s p).2.1=(tok s p).at_:=by rw[e]
 have e3:(zF s p).2.2=(tok s p).to:=by rw[e]
 have hw:(tok s p).kind=110\/(tok s p).kind=118->xQ s p=(tok s p).text:=by
  intro hk;unfold xQ;rw[e2,e3];rcases h with h | h | h | h | h | h
  ·omega
  ·omega
  ·exact h.2.symm
  ·exact h.2.symm
  ·omega
  ·omega
 refine⟨?_,?_,?_,?_,?_,?_,?_,?_,?_,e2,e3,hw⟩
 all_goals
  rw[e1];unfold zzy;rcases h with h | h | h | h | h | ⟨h,h' | h' | h' | h' | h'⟩
  all_goals first | (simp[h,h'];done) | (simp[h.1];done) | (simp[h];done)
end
end Go.Proofs.YtldkpahaocjdpaaGreat
