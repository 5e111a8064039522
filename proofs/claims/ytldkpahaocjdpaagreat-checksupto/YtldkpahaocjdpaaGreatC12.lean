/-
  The program's scan and what it calls (package read): HasPrefix, signAt, nameAt, variableAt, measure, scan: the plain text's tokens (ReadScanS).
-/
import Derived.Test.YtldkpahaocjdpaaGreatC05
import Derived.Test.YtldkpahaocjdpaaGreatC11
set_option maxHeartbeats 16000000
set_option maxRecDepth 1000000
namespace Go.Proofs.YtldkpahaocjdpaaGreat
section
open Go.RowKit
def tf (r p:B8):Bool:=decide (p.size<=r.size)&&(r.extract 0 p.size).toList==p.toList
theorem zkn (r p:B8)(w:W8):
  Calls Tryz.prog 239 #[.string r,.string p] w λ e w'=>e=.returned (.bool (tf r p))/\w'=w:=by
 by_cases h:p.size<=r.size
 ·go_enter Tryz.func239,Tryz.ntmps239
  go_wp2
  go_ret;exact⟨by simp[tf,h],rfl⟩
 ·go_enter Tryz.func239,Tryz.ntmps239
  go_wp2
  go_ret;exact⟨by simp[tf];omega,rfl⟩
theorem xD (r p:B8)(w:W8):
  Calls Tryz.prog 220 #[.string r,.string p] w λ e w'=>e=.returned (.bool (tf r p))/\w'=w:=by
 go_enter Tryz.func220,Tryz.ntmps220;go_wp2_with fail;refine (zkn r p _).mono ?_;rintro e w1 ⟨rfl,rfl⟩;go_wp2_with fail;go_ret;exact⟨rfl,rfl⟩
theorem z43 (r:B8)(w:W8):
  Calls Tryz.prog 174 #[.string r] w λ e w'=>e=.returned (.tuple #[.int .i64 (zgd r).1,.int .i64 (zgd r).2])/\w'=w:=by
 have e1:∀ c:UInt8,tf r { data:=#[c] }=decide (1<=r.size/\(r.extract 0 1).toList=[c]):=λ c=>by
  have h1:(ByteArray.mk #[c]).size=1:=rfl;have h2:(ByteArray.mk #[c]).toList=[c]:=by rw[ByteArray.toList_eq]
  rw[Bool.eq_iff_iff];simp only[tf,h1,h2,Bool.and_eq_true,decide_eq_true_eq,beq_iff_eq]
 have e2:tf r { data:=#[58,45] }=decide (2<=r.size/\(r.extract 0 2).toList=[58,45]):=by
  have h1:(ByteArray.mk #[58,45]).size=2:=rfl;have h2:(ByteArray.mk #[58,45]).toList=[58,45]:=by rw[ByteArray.toList_eq]
  rw[Bool.eq_iff_iff];simp only[tf,h1,h2,Bool.and_eq_true,decide_eq_true_eq,beq_iff_eq]
 have hK:zgd r=if tf r { data:=#[40] } then (5,1) else if tf r { data:=#[41] } then (6,1) else if tf r { data:=#[44] } then (7,1) else if tf r { data:=#[46] } then (8,1) else if tf r { data:=#[58,45] } then (9,2) else (1,1):=by
  rw[e1,e1,e1,e1,e2];unfold zgd;simp only[decide_eq_true_eq]
 have HK:=zC hK;clear e1 e2 hK
 cases b1:tf r { data:=#[40] } with
 | true=>
  have HF:=zC (show zgd r=(5,1) by rw[zA HK,b1];rfl);clear HK;go_enter Tryz.func174,Tryz.ntmps174;go_wp2_with fail;refine (xD r _ _).mono ?_;rintro e w1 ⟨rfl,rfl⟩;go_wp2_with fail
  go_ret2
  exact⟨by rw[zA HF];rfl,rfl⟩
 | false=>
 cases b2:tf r { data:=#[41] } with
 | true=>
  have HF:=zC (show zgd r=(6,1) by rw[zA HK,b1,b2];rfl);clear HK;go_enter Tryz.func174,Tryz.ntmps174;go_wp2_with fail;refine (xD r _ _).mono ?_;rintro e w1 ⟨rfl,rfl⟩;go_wp2_with fail;refine (xD r _ _).mono ?_;rintro e w1 ⟨rfl,rfl⟩;go_wp2_with fail
  go_ret2
  exact⟨by rw[zA HF];rfl,rfl⟩
 | false=>
 cases b3:tf r { data:=#[44] } with
 | true=>
  have HF:=zC (show zgd r=(7,1) by rw[zA HK,b1,b2,b3];rfl);clear HK;go_enter Tryz.func174,Tryz.ntmps174;go_wp2_with fail;refine (xD r _ _).mono ?_;rintro e w1 ⟨rfl,rfl⟩;go_wp2_with fail;refine (xD r _ _).mono ?_;rintro e w1 ⟨rfl,rfl⟩;go_wp2_with fail;refine (xD r _ _).mono ?_;rintro e w1 ⟨rfl,rfl⟩;go_wp2_with fail
  go_ret2
  exact⟨by rw[zA HF];rfl,rfl⟩
 | false=>
 cases b4:tf r { data:=#[46] } with
 | true=>
  have HF:=zC (show zgd r=(8,1) by rw[zA HK,b1,b2,b3,b4];rfl);clear HK;go_enter Tryz.func174,Tryz.ntmps174;go_wp2_with fail;refine (xD r _ _).mono ?_;rintro e w1 ⟨rfl,rfl⟩;go_wp2_with fail;refine (xD r _ _).mono ?_;rintro e w1 ⟨rfl,rfl⟩;go_wp2_with fail;refine (xD r _ _).mono ?_;rintro e w1 ⟨rfl,rfl⟩;go_wp2_with fail;refine (xD r _ _).mono ?_;rintro e w1 ⟨rfl,rfl⟩;go_wp2_with fail
  go_ret2
  exact⟨by rw[zA HF];rfl,rfl⟩
 | false=>
 cases b5:tf r { data:=#[58,45] } with
 | true=>
  have HF:=zC (show zgd r=(9,2) by rw[zA HK,b1,b2,b3,b4,b5];rfl);clear HK;go_enter Tryz.func174,Tryz.ntmps174;go_wp2_with fail;refine (xD r _ _).mono ?_;rintro e w1 ⟨rfl,rfl⟩;go_wp2_with fail;refine (xD r _ _).mono ?_;rintro e w1 ⟨rfl,rfl⟩;go_wp2_with fail;refine (xD r _ _).mono ?_;rintro e w1 ⟨rfl,rfl⟩;go_wp2_with fail;refine (xD r _ _).mono ?_;rintro e w1 ⟨rfl,rfl⟩;go_wp2_with fail;refine (xD r _ _).mono ?_;rintro e w1 ⟨rfl,rfl⟩;go_wp2_with fail
  go_ret2
  exact⟨by rw[zA HF];rfl,rfl⟩
 | false=>
  have HF:=zC (show zgd r=(1,1) by rw[zA HK,b1,b2,b3,b4,b5];rfl);clear HK;go_enter Tryz.func174,Tryz.ntmps174;go_wp2_with fail;refine (xD r _ _).mono ?_;rintro e w1 ⟨rfl,rfl⟩;go_wp2_with fail;refine (xD r _ _).mono ?_;rintro e w1 ⟨rfl,rfl⟩;go_wp2_with fail;refine (xD r _ _).mono ?_;rintro e w1 ⟨rfl,rfl⟩;go_wp2_with fail;refine (xD r _ _).mono ?_;rintro e w1 ⟨rfl,rfl⟩;go_wp2_with fail;refine (xD r _ _).mono ?_;rintro e w1 ⟨rfl,rfl⟩;go_wp2_with fail
  go_ret2
  exact⟨by rw[zA HF];rfl,rfl⟩
theorem z38 (r:B8)(hr:r.size<=maxLen)(w:W8):
  Calls Tryz.prog 171 #[.string r] w λ e w'=>e=.returned (.tuple #[.int .i64 (ziz r).1,.int .i64 (ziz r).2])/\w'=w:=by
 have hle:=zb8 xP r 0 (Nat.zero_le _);have so:=hr;unfold maxLen at so
 by_cases h8:8<skip xP r 0
 ·have HF:=zC (show ziz r=(1,skip xP r 0) by unfold ziz;rw[if_pos h8]);go_enter Tryz.func171,Tryz.ntmps171;go_wp2_with fail;refine (zem r hr _).mono ?_;rintro e w1 ⟨rfl,rfl⟩;go_wp2_with fail
  go_ret2
  exact⟨by rw[zA HF];rfl,rfl⟩
 ·cases hn:(r.extract 0 (skip xP r 0)).toList==[110,111,116] with
  | true=>
   have HF:=zC (show ziz r=(4,skip xP r 0) by unfold ziz;rw[if_neg h8,if_pos (eq_of_beq hn)]);go_enter Tryz.func171,Tryz.ntmps171;go_wp2_with fail;refine (zem r hr _).mono ?_;rintro e w1 ⟨rfl,rfl⟩;go_wp2_with fail
   go_ret2
   exact⟨by rw[zA HF];rfl,rfl⟩
  | false=>
   have HF:=zC (show ziz r=(2,skip xP r 0) by unfold ziz;rw[if_neg h8,if_neg (by intro e;rw[e] at hn;simp at hn)]);go_enter Tryz.func171,Tryz.ntmps171;go_wp2_with fail;refine (zem r hr _).mono ?_;rintro e w1 ⟨rfl,rfl⟩;go_wp2_with fail
   go_ret2
   exact⟨by rw[zA HF];rfl,rfl⟩
theorem zq4 (r:B8)(hr:r.size<=maxLen)(w:W8):
  Calls Tryz.prog 173 #[.string r] w λ e w'=>e=.returned (.tuple #[.int .i64 (z2n r).1,.int .i64 (z2n r).2])/\w'=w:=by
 by_cases h8:8<skip yJ r 0
 ·have HF:=zC (show z2n r=(1,skip yJ r 0) by unfold z2n;rw[if_pos h8]);go_enter Tryz.func173,Tryz.ntmps173;go_wp2_with fail;refine (zfl r hr _).mono ?_;rintro e w1 ⟨rfl,rfl⟩;go_wp2_with fail
  go_ret2
  exact⟨by rw[zA HF];rfl,rfl⟩
 ·have HF:=zC (show z2n r=(3,skip yJ r 0) by unfold z2n;rw[if_neg h8]);go_enter Tryz.func173,Tryz.ntmps173;go_wp2_with fail;refine (zfl r hr _).mono ?_;rintro e w1 ⟨rfl,rfl⟩;go_wp2_with fail
  go_ret2
  exact⟨by rw[zA HF];rfl,rfl⟩
theorem zrz (r:B8)(hr:r.size<=maxLen)(w:W8):
  Calls Tryz.prog 115 #[.string r] w λ e w'=>e=.returned (.tuple #[.int .i64 (rP r).1,.int .i64 (rP r).2])/\w'=w:=by
 by_cases h0:0<r.size
 ·have he:r.toList.isEmpty=false:=by
   rw[ByteArray.toList_eq,List.isEmpty_eq_false_iff];intro e;have:r.data.toList.length=0:=by rw[e];rfl
   rw[Array.length_toList] at this;have h2:r.data.size=r.size:=rfl;omega
  cases hl:xP r[0].toNat with
  | true=>
   have HF:=zC (show rP r=ziz r by unfold rP;rw[dif_pos h0,if_pos hl]);go_enter Tryz.func115,Tryz.ntmps115;go_wp2_with fail;refine (za5 _ _).mono ?_;rintro e w1 ⟨rfl,rfl⟩;go_wp2_with fail;refine (z38 r hr _).mono ?_;rintro e w1 ⟨rfl,rfl⟩;go_wp2_with fail
   go_ret2
   exact⟨by rw[zA HF];rfl,rfl⟩
  | false=>
   cases hh:yJ r[0].toNat with
   | true=>
    have HF:=zC (show rP r=z2n r by unfold rP;rw[dif_pos h0,if_neg (by rw[hl];decide),if_pos hh]);go_enter Tryz.func115,Tryz.ntmps115;go_wp2_with fail;refine (za5 _ _).mono ?_;rintro e w1 ⟨rfl,rfl⟩;go_wp2_with fail;refine (zak _ _).mono ?_;rintro e w1 ⟨rfl,rfl⟩;go_wp2_with fail;refine (zq4 r hr _).mono ?_;rintro e w1 ⟨rfl,rfl⟩;go_wp2_with fail
    go_ret2
    exact⟨by rw[zA HF];rfl,rfl⟩
   | false=>
    have HF:=zC (show rP r=zgd r by unfold rP;rw[dif_pos h0,if_neg (by rw[hl];decide),if_neg (by rw[hh];decide)]);go_enter Tryz.func115,Tryz.ntmps115;go_wp2_with fail;refine (za5 _ _).mono ?_;rintro e w1 ⟨rfl,rfl⟩;go_wp2_with fail;refine (zak _ _).mono ?_;rintro e w1 ⟨rfl,rfl⟩;go_wp2_with fail;refine (z43 r _).mono ?_;rintro e w1 ⟨rfl,rfl⟩;go_wp2_with fail
    go_ret2
    exact⟨by rw[zA HF];rfl,rfl⟩
 ·have he:r.toList.isEmpty=true:=by
   rw[ByteArray.toList_eq,List.isEmpty_iff];apply List.eq_nil_of_length_eq_zero;rw[Array.length_toList];have h2:r.data.size=r.size:=rfl;omega
  have HF:=zC (show rP r=(0,0) by unfold rP;rw[dif_neg h0]);go_enter Tryz.func115,Tryz.ntmps115;go_wp2_with fail
  go_ret2
  exact⟨by rw[zA HF];rfl,rfl⟩
def z79 (k:Int × Nat × Nat):Value:=.agg #[.int .i64 k.1,.int .i64 k.2.1,.int .i64 k.2.2]
theorem ztv (r:B8):(rP r).2<=r.size:=by
 unfold rP
 split
 ·rename_i h;have h1:=zb8 xP r 0 (Nat.zero_le _);have h2:=zb8 yJ r 0 (Nat.zero_le _)
  split
  ·unfold ziz;split;exact h1;split <;> exact h1
  ·split
   ·unfold z2n;split <;> exact h2
   ·unfold zgd
    split;exact h
    split;exact h
    split;exact h
    split;exact h
    split
    ·rename_i h5;exact h5.1
    ·exact h
 ·simp
theorem z4y (s:B8)(i:Nat)(hi:i<=s.size)(hs:s.size<=maxLen)(w:W8):
  Calls Tryz.prog 73 #[.string s,.int .i64 i] w λ e w'=>e=.returned (z79 (zG s i))/\Below w.heap.size w w':=by
 have hb:=zkm zO s i hi;have eK:=zb8 zO s i hi;have mh:=hs;unfold maxLen at mh;have AP:(s.extract i s.size).size<=maxLen:=by rw[zcm s i];omega
 have EX:=zC AP;have aB:=zqe (s.extract i s.size) AP;generalize skip zO (s.extract i s.size) 0=n0 at *;have UF:zG s i=((rP (s.extract (i+n0) s.size)).1,i+n0,i+n0+(rP (s.extract (i+n0) s.size)).2):=by unfold zG;rw[<-hb]
 have bh:=ztv (s.extract (i+n0) s.size);rw[zcm s _] at bh;have hle:i+n0<=s.size:=by omega
 have X7:(i:Int)+n0<=s.size:=by omega
 have Mg:(s.extract (i+n0) s.size).size<=maxLen:=by rw[zcm s _];omega
 have lg:=zrz (s.extract (i+n0) s.size) Mg;have Wf:=zC UF;have HR:=zC aB;have OO:=zC lg;clear hb AP Mg EX aB UF lg eK;go_enter Tryz.func73,Tryz.ntmps73;go_wp2_with fail;refine (zA HR _).mono ?_;rintro e w1 ⟨rfl,rfl⟩;clear HR;go_wp2_with fail;have et:((i:Int)+n0).toNat=i+n0:=by omega
 try rw[et]
 refine (zA OO _).mono ?_;rintro e w1 ⟨rfl,rfl⟩;clear OO;generalize rP (s.extract (i+n0) s.size)=K at *;go_wp2_with fail;refine bodyPost_ret (v:=z79 (zG s i)) (by rw[zA Wf];simp[results,Tryz.results73,go_sem,z79]) rfl ⟨rfl,B9.alloc L9 _⟩
end
section
open Go.RowKit
structure ic (w:W8)(b:Nat)(s:B8)(pos num:Nat)(mv:Value):Prop where
 lt:b<w.heap.size
 c0:w.cell? ⟨b,0,none⟩=some (.string s)
 c1:w.cell? ⟨b,1,none⟩=some (.int .i64 (zG s pos).1)
 c2:w.cell? ⟨b,2,none⟩=some (.int .i64 (zG s pos).2.1)
 c3:w.cell? ⟨b,3,none⟩=some (.int .i64 (zG s pos).2.2)
 c4:w.cell? ⟨b,4,none⟩=some (.int .i64 num)
 c5:w.cell? ⟨b,5,none⟩=some mv
 fz:∀ o,w.frozen? ⟨b,o,none⟩=false
variable {mv:Value} {pos num b:Nat} {s:B8} {w:W8}
theorem ic.kept {B:List Nat}{w':W8}(h:ic w b s pos num mv)(k:zN B w w')(hn:b∉B):ic w' b s pos num mv:=
 ⟨Nat.lt_of_lt_of_le h.lt k.size,(k.cell h.lt hn).trans h.c0,(k.cell h.lt hn).trans h.c1,(k.cell h.lt hn).trans h.c2,(k.cell h.lt hn).trans h.c3,(k.cell h.lt hn).trans h.c4,(k.cell h.lt hn).trans h.c5,λ o=>(k.frozen h.lt hn).trans (h.fz o)⟩
theorem xT (s:B8)(i:Nat)(hi:i<=s.size):(zG s i).2.1<=(zG s i).2.2/\(zG s i).2.2<=s.size:=by
 have h1:=zb8 zO s i hi;have h2:=ztv (s.extract (skip zO s i) s.size);rw[zcm] at h2;unfold zG;exact⟨by simp,by simp only;omega⟩
def yU (s:B8)(pos:Nat)(k:Int):Nat:=if (zG s pos).1==k then (zG s pos).2.2 else pos
def xR (s:B8)(pos:Nat):B8:=s.extract (zG s pos).2.1 (zG s pos).2.2
theorem zkl (s:B8)(i:Nat)(hi:i<=s.size)(hs:s.size<=maxLen)(w:W8):
  Calls Tryz.prog 73 #[.string s,.int .i64 i] w λ e w'=>e=.returned (.agg #[.int .i64 (zG s i).1,.int .i64 (zG s i).2.1,.int .i64 (zG s i).2.2])/\Below w.heap.size w w':=z4y s i hi hs w
variable {w1:W8}
theorem z4r {pos':Nat}(h:ic w1 b s pos num mv):
  ic (((w1.setCell ⟨b,1,none⟩ (.int .i64 (zG s pos').1)).setCell ⟨b,2,none⟩ (.int .i64 (zG s pos').2.1)).setCell ⟨b,3,none⟩ (.int .i64 (zG s pos').2.2)) b s pos' num mv:=by
 obtain⟨aG,c0,c1,c2,c3,c4,c5,fz⟩:=h;refine⟨by simpa using aG,?_,?_,?_,?_,?_,?_,?_⟩
 all_goals go_simp
theorem Below.nw (h:Below w.drew.heap.size w.drew w1):Below w.heap.size w w1:=⟨h.os,h.tape,h.output,h.size,h.block⟩
theorem xO (s:B8)(pos num:Nat)(mv:Value)(k:Int)(b:Nat)(w:W8)(h:ic w b s pos num mv)(aI:pos<=s.size)(hs:s.size<=maxLen):
  Calls Tryz.prog 116 #[.pointer (some ⟨b,0,none⟩),.int .i64 k] w λ e w'=>e=.returned (.bool ((zG s pos).1==k))/\zN [b] w w'/\ic w' b s (yU s pos k) num mv:=by
 have h':=h;obtain⟨aG,c0,c1,c2,c3,c4,c5,fz⟩:=h
 cases hk:(zG s pos).1==k with
 | false=>
  have cy:((zG s pos).1 != k)=true:=by simp[bne,hk]
  have e1:yU s pos k=pos:=by unfold yU;rw[if_neg (by rw[hk];decide)]
  rw[e1];clear hk e1;go_enter Tryz.func116,Tryz.ntmps116;go_wp2_with fail;go_ret;exact⟨rfl,zN.refl _ _,h'⟩
 | true=>
  have cy:((zG s pos).1 != k)=false:=by simp[bne,hk]
  have e1:yU s pos k=(zG s pos).2.2:=by unfold yU;rw[if_pos hk]
  rw[e1];have hle:=(xT s pos aI).2;clear hk e1;have HP:=zC (λ (w1:W8) (hb:Below w.heap.size w w1)=>h'.kept ((zN.refl [] w).ai hb) (by simp));go_enter Tryz.func116,Tryz.ntmps116;go_wp2_with fail
  go_region_with (go_at_call 73;refine (zkl s (zG s pos).2.2 hle hs _).mono ?_;rintro e w1 ⟨rfl,aM⟩;obtain⟨QE,x0,x1,x2,x3,x4,x5,WR⟩:=zA HP w1 (Below.nw aM))
  all_goals
   go_wp2_with fail;go_ret;exact⟨rfl,((((zN.refl [b] w).ai (Below.nw aM)).setCell (by simp) _).setCell (by simp) _).setCell (by simp) _,z4r (pos':=(zG s pos).2.2) (zA HP w1 (Below.nw aM))⟩
theorem zyp (s:B8)(hs:s.size<=281474976710656)(w:W8):
  Calls Tryz.prog 198 #[.string s] w λ e w'=>e=.returned (.string s)/\Below w.heap.size w w':=by
 go_enter Tryz.func198,Tryz.ntmps198;go_wp2_with fail;refine (Tryz.stringslite_Clone s _ hs).mono ?_;rintro e w1 ⟨rfl,aM⟩;go_wp2_with fail;go_ret;exact⟨rfl,aM⟩
end
section
open Go.RowKit
def zE (s:B8)(p:Nat)(bd:Int)(n:Nat):Int:=if n==30 then zab s p bd else bd
def qZ (s:B8)(p:Nat)(bd:Int):zP:=⟨zK s p bd,(jI s p bd).1⟩
def zbb (s:B8)(p:Nat)(bd:Int):Bool:=(tok s p).kind != 46&&decide (bd<0)
def zbd (s:B8):Nat->Nat->Int->List zP->List zP × Nat × Int
 | 0,p,bd,l=>(l,p,bd)
 | f+1,p,bd,l=>if zbb s p bd then zbd s f (zbi s p (zE s p bd l.length)) (jG s p (zE s p bd l.length)) (l++[qZ s p (zE s p bd l.length)]) else (l,p,bd)
variable {s:B8}
theorem zu4 (f:Nat):∀ {p:Nat} {bd:Int} {l:List zL},0<=bd->0<=(zb4 s f p bd l).2.2:=by
 induction f with
 | zero=>intro p bd l h;exact h
 | succ f ih=>
  intro p bd l h;have h0:0<=zX s p bd l.length:=by
   unfold zX;split
   ·exact jT _ _ _
   ·exact h
  have h1:=zpl (s:=s) (p:=p) h0;rw[zb4]
  split
  ·exact ih (zbc h1)
  ·exact zbc h1
variable {bd:Int} {p:Nat}
theorem zwp (h:0<=bd):0<=jG s p bd:=by
 have h1:=zlg (s:=s) (p:=p) h;unfold jG;refine jH (zls ?_);unfold jI;split
 ·exact zu4 4 (zbc h1)
 ·exact zbc h1
theorem zwr (s:B8)(p:Nat)(bd:Int)(l:List zP)(h:l.length<=30)(hg:zbb s p bd=true):zbd s (31-l.length) p bd l=zbd s (31-(l++[qZ s p (zE s p bd l.length)]).length) (zbi s p (zE s p bd l.length)) (jG s p (zE s p bd l.length)) (l++[qZ s p (zE s p bd l.length)]):=by
 have e1:31-l.length=(30-l.length)+1:=by omega
 have e2:31-(l++[qZ s p (zE s p bd l.length)]).length=30-l.length:=by simp
 rw[e1,e2,zbd,if_pos hg]
theorem zqk (s:B8)(f p:Nat)(bd:Int)(l:List zP)(hg:zbb s p bd=false):zbd s f p bd l=(l,p,bd):=by
 cases f with
 | zero=>rfl
 | succ f=>rw[zbd,if_neg (by rw[hg];decide)]
theorem zl2 {n:Nat}(hn:n=30):0<=jG s p (zE s p bd n):=by
 refine zwp ?_;subst hn;simp[zE];exact jT _ _ _
def yO (s:B8):List zP × Nat × Int:=zbd s 31 0 (-1) []
def yA (s:B8):Int × P9:=yV ((yO s).1.flatMap zP.atoms) []
def yH (s:B8):Bool × Int × Int:=
 if 800<s.size then (false,1,0)
 else if 0<=(yO s).2.2 then (false,2,(yO s).2.2)
 else if 0<=(yA s).1 then (false,3,(yA s).1)
 else if 0<=xB (yO s).1 then (false,4,xB (yO s).1)
 else if 0<=vL (yA s).2 (vF (yA s).2 (yO s).1) (yO s).1 then (false,5,vL (yA s).2 (vF (yA s).2 (yO s).1) (yO s).1)
 else (true,0,0)
theorem zqg (rs:List RR)(r:RR):qM (rs++[r])=qM rs++r.cells:=by simp[qM]
theorem oS.tV {w W w5:W8}{o:Nat}{rs:List RR}{ps qs:P9}{rv pv tv sv:Value}(h:oS w o rs ps qs rv pv tv sv)(hW:∀ k,k<w.heap.size->W.heap[k]?=w.heap[k]?)(hS:w.heap.size<=W.heap.size)(hg:W.grownBy w5 rv.ownBlock){r:RR}(hr:j7 w (o+1) r.R r.hv r.bs r.bv){v':Value}(aC:w5.ownsRow (o+1) 246 6 v' (rs.length+1) (qM rs++r.cells)):
  oS (w5.setCell ⟨o,0,none⟩ v') o (rs++[r]) ps qs v' pv tv sv:=by
 have hb:=zeu hW hS h.rules hg h.lt;have cc:∀ j,w5.cell? ⟨o,j,none⟩=w.cell? ⟨o,j,none⟩:=λ j=>World.cell?_of_block hb
 have ff:∀ j,w5.frozen? ⟨o,j,none⟩=w.frozen? ⟨o,j,none⟩:=λ j=>World.frozen?_of_block hb
 have aG:=h.lt;have hs:=hg.size;refine⟨by simp;omega,Iq ((cc 0).trans h.c0),by rw[qU (by omega),cc 1];exact h.c1,by rw[qU (by omega),cc 2];exact h.c2,by rw[qU (by omega),cc 3];exact h.c3,λ j=>by rw[World.frozen?_setCell,ff j];exact h.fz j,?_,λ x hx=>?_,zdj hW hS h.rules hg h.fC (by decide),zdj hW hS h.rules hg h.ae (by decide)⟩
 ·rw[zqg,List.length_append];exact ownsRow_setCell_below aC (a:=⟨o,0,none⟩) (by simp) v'
 ·rcases List.mem_append.1 hx with hx | hx
  ·exact zi6 hW hS h.rules hg (by decide) (by decide) (h.each x hx)
  ·simp at hx;subst hx;exact zi6 hW hS h.rules hg (by decide) (by decide) hr
theorem zyk (f:Nat):∀ {p:Nat} {bd:Int} {l:List zL},(zb4 s f p bd l).1.length<=l.length+f:=by
 induction f with
 | zero=>intro p bd l;simp[zb4]
 | succ f ih=>
  intro p bd l;rw[zb4]
  split
  ·refine Nat.le_trans ih ?_;first | (simp;done) | (simp;omega)
  ·first | (simp;done) | (simp;omega)
theorem zs9 (s:B8)(p:Nat)(bd:Int):(jI s p bd).1.length<=4:=by
 unfold jI;split
 ·have:=zyk (s:=s) 4 (p:=vA s (zI s p bd).2.1 (zI s p bd).2.2 { data:=#[58,45] }) (bd:=vM s (zI s p bd).2.1 (zI s p bd).2.2 { data:=#[58,45] }) (l:=[]);simpa using this
 ·simp
theorem zyf (l:List RR)(h:∀ r∈l,r.R.body.length<=4):(yR l).length<=5*l.length:=by
 induction l with
 | nil=>simp[yR]
 | cons x r ih=>
  have h1:=ih (λ y hy=>h y (List.mem_cons_of_mem _ hy));have h2:=h x List.mem_cons_self;have e:yR (x::r)=x.R.atoms++yR r:=by simp[yR]
  rw[e,List.length_append];simp only[zP.atoms,List.length_cons];omega
theorem zju (l:List RR):yR l=(l.map (·.R)).flatMap zP.atoms:=by
 simp[yR,List.flatMap_map]
end
section
theorem z12 (s:B8)(i:Nat):(tok s i).kind=46\/(tok s i).kind=33\/((tok s i).kind=110/\(tok s i).text=s.extract (tok s i).at_ (tok s i).to)\/((tok s i).kind=118/\(tok s i).text=s.extract (tok s i).at_ (tok s i).to)\/(tok s i).kind=119 \/
  ((tok s i).kind=115/\((tok s i).text.toList=[40]\/(tok s i).text.toList=[41]\/(tok s i).text.toList=[44]\/(tok s i).text.toList=[46]\/(tok s i).text.toList=[58,45])):=by
 unfold tok;generalize skip zO s i=k;unfold zgh
 by_cases h0:s.size<=k
 ·simp[h0]
 ·rw[if_neg h0]
  by_cases h1:k<skip xP s k
  ·rw[if_pos h1]
   split
   ·simp
   ·split <;> simp
  ·rw[if_neg h1]
   by_cases h2:k<skip yJ s k
   ·rw[if_pos h2]
    split <;> simp
   ·rw[if_neg h2]
    by_cases h3:xG s k=0
    ·rw[if_pos h3];simp
    ·rw[if_neg h3]
     by_cases h4:xG s k=2
     ·rw[if_pos h4];have:({ data:=#[58,45] }:B8).toList=[58,45]:=by rw[ByteArray.toList_eq]
      simp[this]
     ·rw[if_neg h4];have hk:k<s.size:=(by omega);have t1:=zro s k hk;simp only[t1];have hs:(s[k].toNat:Int)=40\/(s[k].toNat:Int)=41\/(s[k].toNat:Int)=44\/(s[k].toNat:Int)=46:=by
       unfold xG at h3 h4;rw[dif_pos hk] at h3 h4
       by_cases hc:(s[k].toNat:Int)=58
       ·rw[if_pos hc] at h3 h4
        by_cases hd:k+1<s.size
        ·rw[dif_pos hd] at h3 h4
         by_cases he:(s[k+1].toNat:Int)=45
         ·rw[if_pos he] at h4;exact absurd rfl h4
         ·rw[if_neg he] at h3;exact absurd rfl h3
        ·rw[dif_neg hd] at h3;exact absurd rfl h3
       ·rw[if_neg hc] at h3
        by_cases hd:(s[k].toNat:Int)=40\/(s[k].toNat:Int)=41\/(s[k].toNat:Int)=44\/(s[k].toNat:Int)=46
        ·exact hd
        ·rw[if_neg hd] at h3;exact absurd rfl h3
      have u:∀ c:UInt8,(s[k].toNat:Int)=(c.toNat:Int)->s[k]=c:=λ c h=>(z8l _ _).2 h
      rcases hs with h | h | h | h
      ·simp[u 40 h]
      ·simp[u 41 h]
      ·simp[u 44 h]
      ·simp[u 46 h]
structure z6l (s:B8)(p:Nat):Prop where
 k0:(zG s p).1=0↔(tok s p).kind=46
 k2:(zG s p).1=2↔(tok s p).kind=110
 k3:(zG s p).1=3↔(tok s p).kind=118
 k4:(zG s p).1=4↔(tok s p).kind=119
 k5:(zG s p).1=5↔((tok s p).kind=115/\(tok s p).text.toList=[40])
 k6:(zG s p).1=6↔((tok s p).kind=115/\(tok s p).text.toList=[41])
 k7:(zG s p).1=7↔((tok s p).kind=115/\(tok s p).text.toList=[44])
 k8:(zG s p).1=8↔((tok s p).kind=115/\(tok s p).text.toList=[46])
 k9:(zG s p).1=9↔((tok s p).kind=115/\(tok s p).text.toList=[58,45])
 at_:(zG s p).2.1=(tok s p).at_
 uF:(zG s p).2.2=(tok s p).to
 word:(tok s p).kind=110\/(tok s p).kind=118->xR s p=(tok s p).text
theorem zee (s:B8)(p:Nat)(hp:p<=s.size):z6l s p:=by
 have h:=z12 s p;have e:=z4z s p hp;have e1:(zG s p).1=zw7 (tok s p):=by rw[e]
 have e2:(zG s p).2.1=(tok s p).at_:=by rw[e]
 have e3:(zG s p).2.2=(tok s p).to:=by rw[e]
 have hw:(tok s p).kind=110\/(tok s p).kind=118->xR s p=(tok s p).text:=by
  intro hk;unfold xR;rw[e2,e3];rcases h with h | h | h | h | h | h
  ·omega
  ·omega
  ·exact h.2.symm
  ·exact h.2.symm
  ·omega
  ·omega
 refine⟨?_,?_,?_,?_,?_,?_,?_,?_,?_,e2,e3,hw⟩
 all_goals
  rw[e1];unfold zw7;rcases h with h | h | h | h | h | ⟨h,h' | h' | h' | h' | h'⟩
  all_goals first | (simp[h,h'];done) | (simp[h.1];done) | (simp[h];done)
end
end Go.Proofs.YtldkpahaocjdpaaGreat
