/-
  Plain, no walk: what a token of a text is, as the document's section Words says it: blanks are passed by; a row of a..z and 0..9, a row of A..Z, the signs ( ) , . :- ; all else is none.
-/
import Derived.Below
import Derived.WalkKit
import Derived.WalkSpells
import Derived.WalkLawsBesides
import Derived.Deep.QuietTactic
import Derived.BigQuiet
import Derived.Deep.RegionWith
import Derived.Lib.Strings
import Derived.Laws.Strings
import Derived.Test.YtldkpahaocjdpaaGreatD04
import Derived.BigRegion
set_option maxHeartbeats 16000000
set_option maxRecDepth 1000000
namespace Go.Proofs.YtldkpahaocjdpaaGreat
section
def jJ (c:Int):Bool:=(decide (97<=c)&&decide (c<=122))||(decide (48<=c)&&decide (c<=57))
def yZ (c:Int):Bool:=decide (65<=c)&&decide (c<=90)
def yH (c:Int):Bool:=decide (c=32)||decide (c=10)
def skip (p:Int->Bool)(s:B8)(i:Nat):Nat:=
 if h:i<s.size then (if p s[i].toNat then skip p s (i+1) else i) else i
termination_by s.size-i
theorem za9 (p:Int->Bool)(s:B8)(i:Nat)(h:i<s.size)(hp:p s[i].toNat=true):skip p s i=skip p s (i+1):=by
 rw[skip];simp[h,hp]
theorem zba (p:Int->Bool)(s:B8)(i:Nat)(h:i<s.size)(hp:p s[i].toNat=false):skip p s i=i:=by
 rw[skip];simp[h,hp]
theorem zd6 (p:Int->Bool)(s:B8)(i:Nat)(h:¬ i<s.size):skip p s i=i:=by
 rw[skip];simp[h]
theorem z3s (p:Int->Bool)(s:B8)(i:Nat):i<=skip p s i:=by
 fun_induction skip p s i <;> omega
theorem zfh (p:Int->Bool)(s:B8)(i:Nat)(h:i<=s.size):skip p s i<=s.size:=by
 fun_induction skip p s i <;> omega
structure Tk where
 kind:Int
 text:B8
 at_:Nat
 to:Nat
def zai (s:B8)(i:Nat):Nat:=
 if h:i<s.size then
  (if (s[i].toNat:Int)=58 then (if h2:i+1<s.size then (if (s[i+1].toNat:Int)=45 then 2 else 0) else 0)
  else if (s[i].toNat:Int)=40\/(s[i].toNat:Int)=41\/(s[i].toNat:Int)=44\/(s[i].toNat:Int)=46 then 1 else 0)
 else 0
def z4c (s:B8)(i:Nat):Tk:=
 if s.size<=i then ⟨46,⟨#[]⟩,s.size,i⟩
 else if i<skip jJ s i then
  (if (s.extract i (skip jJ s i)).toList=[110,111,116] then ⟨119,s.extract i (skip jJ s i),i,skip jJ s i⟩
  else if skip jJ s i-i<=8 then ⟨110,s.extract i (skip jJ s i),i,skip jJ s i⟩
  else ⟨33,⟨#[]⟩,i,skip jJ s i⟩)
 else if i<skip yZ s i then
  (if skip yZ s i-i<=8 then ⟨118,s.extract i (skip yZ s i),i,skip yZ s i⟩
  else ⟨33,⟨#[]⟩,i,skip yZ s i⟩)
 else if zai s i=0 then ⟨33,⟨#[]⟩,i,i+1⟩
 else if zai s i=2 then ⟨115,⟨#[58,45]⟩,i,i+2⟩
 else ⟨115,s.extract i (i+1),i,i+1⟩
def tok (s:B8)(i:Nat):Tk:=z4c s (skip yH s i)
end
section
open Go.RowKit
variable {p:Prop}
theorem zC (h:p):Hid p:=h
theorem zA (h:Hid p):p:=h
theorem more {x:Int}{j:Nat}{l:List Int}{d:Int}(h:∀ c,c∈l.take j->x≠c)(hd:¬ x=d){j':Nat}(hj:j'=j+1)(hl:l[j]?=some d):∀ c,c∈l.take j'->x≠c:=by
 subst hj;intro c hc;rw[List.take_add_one,hl] at hc;simp at hc;rcases hc with hc | hc
 ·exact h c hc
 ·subst hc;exact hd
end
section
open Go.RowKit
structure yC (B:List Nat)(w w':W8):Prop where
 os:w'.os=w.os
 tape:w'.tape=w.tape
 output:w'.output=w.output
 size:w.heap.size<=w'.heap.size
 block:∀ k,k<w.heap.size->k∉B->w'.heap[k]?=w.heap[k]?
theorem yC.refl (B:List Nat)(w:W8):yC B w w:=⟨rfl,rfl,rfl,Nat.le_refl _,λ _ _ _=>rfl⟩
theorem yC.trans {B:List Nat}{a b c:W8}(h:yC B a b)(k:yC B b c):yC B a c:=
 ⟨k.os.trans h.os,k.tape.trans h.tape,k.output.trans h.output,Nat.le_trans h.size k.size,λ i hi hn=>(k.block i (Nat.lt_of_lt_of_le hi h.size) hn).trans (h.block i hi hn)⟩
variable {a w w':W8} {B:List Nat}
theorem yC.aF (h:yC B a w)(k:Below w.heap.size w w'):yC B a w':=
 h.trans ⟨k.os,k.tape,k.output,k.size,λ i hi _=>k.block i hi⟩
theorem yC.alloc (h:yC B a w)(o:Obj):yC B a (w.alloc o):=
 h.trans ⟨rfl,rfl,rfl,by simp,λ k hk _=>Below.heap_alloc _ _ _ hk⟩
theorem yC.drew (h:yC B a w):yC B a w.drew:=⟨h.os,h.tape,h.output,h.size,h.block⟩
theorem yC.setCell {B:List Nat}{a w:W8}(h:yC B a w){p:Addr}(hp:p.block∈B\/a.heap.size<=p.block)(u:Value):yC B a (w.setCell p u):=
 ⟨h.os,h.tape,h.output,by have:=h.size;simpa[World.setCell] using this,λ k hk hn=>(Below.heap_setCell _ _ _ _ (by rintro rfl;rcases hp with hp | hp;exact hn hp;omega)).trans (h.block k hk hn)⟩
theorem yC.mono {C:List Nat}(h:yC B w w')(hs:∀ k,k∈B->k∈C\/w.heap.size<=k):yC C w w':=
 ⟨h.os,h.tape,h.output,h.size,λ k hk hn=>h.block k hk (λ hb=>by rcases hs k hb with h1 | h1;exact hn h1;omega)⟩
variable {p:Addr}
theorem yC.cell (h:yC B w w')(hp:p.block<w.heap.size)(hn:p.block∉B):w'.cell? p=w.cell? p:=World.cell?_of_block (w:=w) (h.block p.block hp hn)
theorem yC.frozen (h:yC B w w')(hp:p.block<w.heap.size)(hn:p.block∉B):w'.frozen? p=w.frozen? p:=World.frozen?_of_block (w:=w) (h.block p.block hp hn)
def zjy (s:B8)(pos:Nat)(bad:Int):Int:=if bad<0 then (tok s pos).at_ else bad
def isS (s:B8)(pos:Nat)(bad:Int)(wd:B8):Bool:=decide (bad<0)&&((tok s pos).kind==115&&(tok s pos).text.toList==wd.toList)
def jW (s:B8)(pos:Nat)(bad:Int):Int:=if (tok s pos).kind=33\/(tok s pos).kind=46 then zjy s pos bad else bad
def fm (s:B8)(pos:Nat)(bad:Int):Nat:=if jW s pos bad<0 then (tok s pos).to else pos
theorem yca {w1:W8}{n:Nat}{u0 u1 u2:Value}(h0:w1.cell? ⟨n,0,none⟩=some u0)(h1:w1.cell? ⟨n,1,none⟩=some u1)(h2:w1.cell? ⟨n,2,none⟩=some u2)(v0 v1 v2:Value):
  (((w1.setCell ⟨n,0,none⟩ v0).setCell ⟨n,1,none⟩ v1).setCell ⟨n,2,none⟩ v2).cell? ⟨n,0,none⟩=some v0 /\
  (((w1.setCell ⟨n,0,none⟩ v0).setCell ⟨n,1,none⟩ v1).setCell ⟨n,2,none⟩ v2).cell? ⟨n,1,none⟩=some v1 /\
  (((w1.setCell ⟨n,0,none⟩ v0).setCell ⟨n,1,none⟩ v1).setCell ⟨n,2,none⟩ v2).cell? ⟨n,2,none⟩=some v2:=by
 refine⟨?_,?_,?_⟩ <;> go_simp
end
section
open Go.RowKit
theorem zau (c:Int)(w:W8):
  Calls Tryz.prog 170 #[.int .u8 c] w λ e w'=>e=.returned (.bool (jJ c))/\w'=w:=by
 go_enter Tryz.func170,Tryz.ntmps170
 go_wp2
 all_goals go_ret
 all_goals exact⟨by simp[jJ, *];try omega,rfl⟩
theorem zae (c:Int)(w:W8):
  Calls Tryz.prog 172 #[.int .u8 c] w λ e w'=>e=.returned (.bool (yZ c))/\w'=w:=by
 go_enter Tryz.func172,Tryz.ntmps172
 go_wp2
 all_goals go_ret
 all_goals exact⟨by simp[yZ, *];try omega,rfl⟩
theorem zgt (c:Int)(w:W8):
  Calls Tryz.prog 114 #[.int .u8 c] w λ e w'=>e=.returned (.bool (yH c))/\w'=w:=by
 go_enter Tryz.func114,Tryz.ntmps114
 go_wp2
 all_goals go_ret
 ·exact⟨by simp[yH, *],rfl⟩
 ·exact⟨by rename_i h;show Ending.returned (Value.bool (c==32||c==10))=_;congr 2,rfl⟩
theorem zfe (s:B8)(hs:s.size<=maxLen)(w:W8):
  Calls Tryz.prog 113 #[.string s,.func (.func 170) #[] #[]] w λ e w'=>e=.returned (.int .i64 (skip jJ s 0))/\w'=w:=by
 unfold maxLen at hs;go_enter Tryz.func113,Tryz.ntmps113
 go_wp2
 go_loop [5] (λ t=>∃ m:Nat,m<=s.size/\t=.int .i64 m/\skip jJ s m=skip jJ s 0) (λ t=>s.size-(intOf t).toNat)
 exact⟨0,Nat.zero_le _,rfl,rfl⟩
 case round=>
  obtain⟨m,hm,rfl,dQ⟩:=hrel;have HM:Hid (skip jJ s m=skip jJ s 0):=dQ;clear dQ
  by_cases ed:m<s.size
  ·cases aX:jJ s[m].toNat with
   | true=>
    have wg:Hid (skip jJ s (m+1)=skip jJ s 0):=(za9 jJ s m ed aX).symm.trans HM.out;go_wp2_with (go_at_call 170;refine (zau _ _).mono ?_;rintro e w' ⟨rfl,rfl⟩)
    go_round
    case rel=>exact⟨m+1,by omega,by go_num,wg.out⟩
    case measure=>simp[intOf];omega
   | false=>
    have HN:=zC (HM.out.symm.trans (zba jJ s m ed aX));go_wp2_with (go_at_call 170;refine (zau _ _).mono ?_;rintro e w' ⟨rfl,rfl⟩);go_ret;exact⟨by rw[zA HN];rfl,rfl⟩
  ·have HN:=zC (HM.out.symm.trans (zd6 jJ s m ed));go_wp2_with (go_at_call 170;refine (zau _ _).mono ?_;rintro e w' ⟨rfl,rfl⟩);go_ret;exact⟨by rw[zA HN];rfl,rfl⟩
theorem zgh (s:B8)(hs:s.size<=maxLen)(w:W8):
  Calls Tryz.prog 113 #[.string s,.func (.func 172) #[] #[]] w λ e w'=>e=.returned (.int .i64 (skip yZ s 0))/\w'=w:=by
 unfold maxLen at hs;go_enter Tryz.func113,Tryz.ntmps113
 go_wp2
 go_loop [5] (λ t=>∃ m:Nat,m<=s.size/\t=.int .i64 m/\skip yZ s m=skip yZ s 0) (λ t=>s.size-(intOf t).toNat)
 exact⟨0,Nat.zero_le _,rfl,rfl⟩
 case round=>
  obtain⟨m,hm,rfl,dQ⟩:=hrel;have HM:Hid (skip yZ s m=skip yZ s 0):=dQ;clear dQ
  by_cases ed:m<s.size
  ·cases aX:yZ s[m].toNat with
   | true=>
    have wg:Hid (skip yZ s (m+1)=skip yZ s 0):=(za9 yZ s m ed aX).symm.trans HM.out;go_wp2_with (go_at_call 172;refine (zae _ _).mono ?_;rintro e w' ⟨rfl,rfl⟩)
    go_round
    case rel=>exact⟨m+1,by omega,by go_num,wg.out⟩
    case measure=>simp[intOf];omega
   | false=>
    have HN:=zC (HM.out.symm.trans (zba yZ s m ed aX));go_wp2_with (go_at_call 172;refine (zae _ _).mono ?_;rintro e w' ⟨rfl,rfl⟩);go_ret;exact⟨by rw[zA HN];rfl,rfl⟩
  ·have HN:=zC (HM.out.symm.trans (zd6 yZ s m ed));go_wp2_with (go_at_call 172;refine (zae _ _).mono ?_;rintro e w' ⟨rfl,rfl⟩);go_ret;exact⟨by rw[zA HN];rfl,rfl⟩
theorem zsj (s:B8)(hs:s.size<=maxLen)(w:W8):
  Calls Tryz.prog 113 #[.string s,.func (.func 114) #[] #[]] w λ e w'=>e=.returned (.int .i64 (skip yH s 0))/\w'=w:=by
 unfold maxLen at hs;go_enter Tryz.func113,Tryz.ntmps113
 go_wp2
 go_loop [5] (λ t=>∃ m:Nat,m<=s.size/\t=.int .i64 m/\skip yH s m=skip yH s 0) (λ t=>s.size-(intOf t).toNat)
 exact⟨0,Nat.zero_le _,rfl,rfl⟩
 case round=>
  obtain⟨m,hm,rfl,dQ⟩:=hrel;have HM:Hid (skip yH s m=skip yH s 0):=dQ;clear dQ
  by_cases ed:m<s.size
  ·cases aX:yH s[m].toNat with
   | true=>
    have wg:Hid (skip yH s (m+1)=skip yH s 0):=(za9 yH s m ed aX).symm.trans HM.out;go_wp2_with (go_at_call 114;refine (zgt _ _).mono ?_;rintro e w' ⟨rfl,rfl⟩)
    go_round
    case rel=>exact⟨m+1,by omega,by go_num,wg.out⟩
    case measure=>simp[intOf];omega
   | false=>
    have HN:=zC (HM.out.symm.trans (zba yH s m ed aX));go_wp2_with (go_at_call 114;refine (zgt _ _).mono ?_;rintro e w' ⟨rfl,rfl⟩);go_ret;exact⟨by rw[zA HN];rfl,rfl⟩
  ·have HN:=zC (HM.out.symm.trans (zd6 yH s m ed));go_wp2_with (go_at_call 114;refine (zgt _ _).mono ?_;rintro e w' ⟨rfl,rfl⟩);go_ret;exact⟨by rw[zA HN];rfl,rfl⟩
end
section
theorem zcf (s:B8)(a:Nat):(s.extract a s.size).size=s.size-a:=by
 simp[ByteArray.size_extract]
theorem ztu (s:B8)(a j:Nat)(h:a+j<s.size)(h':j<(s.extract a s.size).size):(s.extract a s.size)[j]=s[a+j]:=by
 simp[ByteArray.getElem_extract]
theorem z7t (p:Int->Bool)(s:B8)(a:Nat)(ha:a<=s.size):∀ (d j:Nat),s.size-(a+j)=d->a+j<=s.size->a+skip p (s.extract a s.size) j=skip p s (a+j):=by
 intro d
 induction d with
 | zero=>
  intro j hd hj;rw[zd6 p s (a+j) (by omega),zd6 p _ j (by rw[zcf s a];omega)]
 | succ d ih=>
  intro j hd hj;have h1:a+j<s.size:=by omega
  have h2:j<(s.extract a s.size).size:=by rw[zcf s a];omega
  cases hp:p s[a+j].toNat with
  | true=>
   rw[za9 p s (a+j) h1 hp,za9 p _ j h2 (by rw[ztu s a j h1 h2];exact hp)];have:=ih (j+1) (by omega) (by omega);rw[this,Nat.add_assoc]
  | false=>
   rw[zba p s (a+j) h1 hp,zba p _ j h2 (by rw[ztu s a j h1 h2];exact hp)]
theorem zl6 (p:Int->Bool)(s:B8)(a:Nat)(ha:a<=s.size):a+skip p (s.extract a s.size) 0=skip p s a:=
 z7t p s a ha _ 0 rfl (by omega)
def zdc (r:B8):Int × Nat:=
 if 1<=r.size/\(r.extract 0 1).toList=[40] then (5,1)
 else if 1<=r.size/\(r.extract 0 1).toList=[41] then (6,1)
 else if 1<=r.size/\(r.extract 0 1).toList=[44] then (7,1)
 else if 1<=r.size/\(r.extract 0 1).toList=[46] then (8,1)
 else if 2<=r.size/\(r.extract 0 2).toList=[58,45] then (9,2)
 else (1,1)
def zhr (r:B8):Int × Nat:=if 8<skip jJ r 0 then (1,skip jJ r 0) else if (r.extract 0 (skip jJ r 0)).toList=[110,111,116] then (4,skip jJ r 0) else (2,skip jJ r 0)
def z4l (r:B8):Int × Nat:=if 8<skip yZ r 0 then (1,skip yZ r 0) else (3,skip yZ r 0)
def qL (r:B8):Int × Nat:=
 if h:0<r.size then (if jJ r[0].toNat then zhr r else if yZ r[0].toNat then z4l r else zdc r) else (0,0)
def zD (s:B8)(i:Nat):Int × Nat × Nat:=((qL (s.extract (skip yH s i) s.size)).1,skip yH s i,skip yH s i+(qL (s.extract (skip yH s i) s.size)).2)
end
section
open Go.RowKit
def dt (r p:B8):Bool:=decide (p.size<=r.size)&&(r.extract 0 p.size).toList==p.toList
theorem zl7 (r p:B8)(w:W8):
  Calls Tryz.prog 239 #[.string r,.string p] w λ e w'=>e=.returned (.bool (dt r p))/\w'=w:=by
 by_cases h:p.size<=r.size
 ·go_enter Tryz.func239,Tryz.ntmps239
  go_wp2
  go_ret;exact⟨by simp[dt,h],rfl⟩
 ·go_enter Tryz.func239,Tryz.ntmps239
  go_wp2
  go_ret;exact⟨by simp[dt];omega,rfl⟩
theorem yK (r p:B8)(w:W8):
  Calls Tryz.prog 220 #[.string r,.string p] w λ e w'=>e=.returned (.bool (dt r p))/\w'=w:=by
 go_enter Tryz.func220,Tryz.ntmps220;go_wp2_with fail;refine (zl7 r p _).mono ?_;rintro e w1 ⟨rfl,rfl⟩;go_wp2_with fail;go_ret;exact⟨rfl,rfl⟩
theorem z7r (r:B8)(w:W8):
  Calls Tryz.prog 174 #[.string r] w λ e w'=>e=.returned (.tuple #[.int .i64 (zdc r).1,.int .i64 (zdc r).2])/\w'=w:=by
 have e1:∀ c:UInt8,dt r { data:=#[c] }=decide (1<=r.size/\(r.extract 0 1).toList=[c]):=λ c=>by
  have h1:(ByteArray.mk #[c]).size=1:=rfl;have h2:(ByteArray.mk #[c]).toList=[c]:=by rw[ByteArray.toList_eq]
  rw[Bool.eq_iff_iff];simp only[dt,h1,h2,Bool.and_eq_true,decide_eq_true_eq,beq_iff_eq]
 have e2:dt r { data:=#[58,45] }=decide (2<=r.size/\(r.extract 0 2).toList=[58,45]):=by
  have h1:(ByteArray.mk #[58,45]).size=2:=rfl;have h2:(ByteArray.mk #[58,45]).toList=[58,45]:=by rw[ByteArray.toList_eq]
  rw[Bool.eq_iff_iff];simp only[dt,h1,h2,Bool.and_eq_true,decide_eq_true_eq,beq_iff_eq]
 have hK:zdc r=if dt r { data:=#[40] } then (5,1) else if dt r { data:=#[41] } then (6,1) else if dt r { data:=#[44] } then (7,1) else if dt r { data:=#[46] } then (8,1) else if dt r { data:=#[58,45] } then (9,2) else (1,1):=by
  rw[e1,e1,e1,e1,e2];unfold zdc;simp only[decide_eq_true_eq]
 have HK:=zC hK;clear e1 e2 hK
 cases b1:dt r { data:=#[40] } with
 | true=>
  have HF:=zC (show zdc r=(5,1) by rw[zA HK,b1];rfl);clear HK;go_enter Tryz.func174,Tryz.ntmps174;go_wp2_with fail;refine (yK r _ _).mono ?_;rintro e w1 ⟨rfl,rfl⟩;go_wp2_with fail
  go_ret2
  exact⟨by rw[zA HF];rfl,rfl⟩
 | false=>
 cases b2:dt r { data:=#[41] } with
 | true=>
  have HF:=zC (show zdc r=(6,1) by rw[zA HK,b1,b2];rfl);clear HK;go_enter Tryz.func174,Tryz.ntmps174;go_wp2_with fail;refine (yK r _ _).mono ?_;rintro e w1 ⟨rfl,rfl⟩;go_wp2_with fail;refine (yK r _ _).mono ?_;rintro e w1 ⟨rfl,rfl⟩;go_wp2_with fail
  go_ret2
  exact⟨by rw[zA HF];rfl,rfl⟩
 | false=>
 cases b3:dt r { data:=#[44] } with
 | true=>
  have HF:=zC (show zdc r=(7,1) by rw[zA HK,b1,b2,b3];rfl);clear HK;go_enter Tryz.func174,Tryz.ntmps174;go_wp2_with fail;refine (yK r _ _).mono ?_;rintro e w1 ⟨rfl,rfl⟩;go_wp2_with fail;refine (yK r _ _).mono ?_;rintro e w1 ⟨rfl,rfl⟩;go_wp2_with fail;refine (yK r _ _).mono ?_;rintro e w1 ⟨rfl,rfl⟩;go_wp2_with fail
  go_ret2
  exact⟨by rw[zA HF];rfl,rfl⟩
 | false=>
 cases b4:dt r { data:=#[46] } with
 | true=>
  have HF:=zC (show zdc r=(8,1) by rw[zA HK,b1,b2,b3,b4];rfl);clear HK;go_enter Tryz.func174,Tryz.ntmps174;go_wp2_with fail;refine (yK r _ _).mono ?_;rintro e w1 ⟨rfl,rfl⟩;go_wp2_with fail;refine (yK r _ _).mono ?_;rintro e w1 ⟨rfl,rfl⟩;go_wp2_with fail;refine (yK r _ _).mono ?_;rintro e w1 ⟨rfl,rfl⟩;go_wp2_with fail;refine (yK r _ _).mono ?_;rintro e w1 ⟨rfl,rfl⟩;go_wp2_with fail
  go_ret2
  exact⟨by rw[zA HF];rfl,rfl⟩
 | false=>
 cases b5:dt r { data:=#[58,45] } with
 | true=>
  have HF:=zC (show zdc r=(9,2) by rw[zA HK,b1,b2,b3,b4,b5];rfl);clear HK;go_enter Tryz.func174,Tryz.ntmps174;go_wp2_with fail;refine (yK r _ _).mono ?_;rintro e w1 ⟨rfl,rfl⟩;go_wp2_with fail;refine (yK r _ _).mono ?_;rintro e w1 ⟨rfl,rfl⟩;go_wp2_with fail;refine (yK r _ _).mono ?_;rintro e w1 ⟨rfl,rfl⟩;go_wp2_with fail;refine (yK r _ _).mono ?_;rintro e w1 ⟨rfl,rfl⟩;go_wp2_with fail;refine (yK r _ _).mono ?_;rintro e w1 ⟨rfl,rfl⟩;go_wp2_with fail
  go_ret2
  exact⟨by rw[zA HF];rfl,rfl⟩
 | false=>
  have HF:=zC (show zdc r=(1,1) by rw[zA HK,b1,b2,b3,b4,b5];rfl);clear HK;go_enter Tryz.func174,Tryz.ntmps174;go_wp2_with fail;refine (yK r _ _).mono ?_;rintro e w1 ⟨rfl,rfl⟩;go_wp2_with fail;refine (yK r _ _).mono ?_;rintro e w1 ⟨rfl,rfl⟩;go_wp2_with fail;refine (yK r _ _).mono ?_;rintro e w1 ⟨rfl,rfl⟩;go_wp2_with fail;refine (yK r _ _).mono ?_;rintro e w1 ⟨rfl,rfl⟩;go_wp2_with fail;refine (yK r _ _).mono ?_;rintro e w1 ⟨rfl,rfl⟩;go_wp2_with fail
  go_ret2
  exact⟨by rw[zA HF];rfl,rfl⟩
theorem z6t (r:B8)(hr:r.size<=maxLen)(w:W8):
  Calls Tryz.prog 171 #[.string r] w λ e w'=>e=.returned (.tuple #[.int .i64 (zhr r).1,.int .i64 (zhr r).2])/\w'=w:=by
 have hle:=zfh jJ r 0 (Nat.zero_le _);have dH:=hr;unfold maxLen at dH
 by_cases h8:8<skip jJ r 0
 ·have HF:=zC (show zhr r=(1,skip jJ r 0) by unfold zhr;rw[if_pos h8]);go_enter Tryz.func171,Tryz.ntmps171;go_wp2_with fail;refine (zfe r hr _).mono ?_;rintro e w1 ⟨rfl,rfl⟩;go_wp2_with fail
  go_ret2
  exact⟨by rw[zA HF];rfl,rfl⟩
 ·cases hn:(r.extract 0 (skip jJ r 0)).toList==[110,111,116] with
  | true=>
   have HF:=zC (show zhr r=(4,skip jJ r 0) by unfold zhr;rw[if_neg h8,if_pos (eq_of_beq hn)]);go_enter Tryz.func171,Tryz.ntmps171;go_wp2_with fail;refine (zfe r hr _).mono ?_;rintro e w1 ⟨rfl,rfl⟩;go_wp2_with fail
   go_ret2
   exact⟨by rw[zA HF];rfl,rfl⟩
  | false=>
   have HF:=zC (show zhr r=(2,skip jJ r 0) by unfold zhr;rw[if_neg h8,if_neg (by intro e;rw[e] at hn;simp at hn)]);go_enter Tryz.func171,Tryz.ntmps171;go_wp2_with fail;refine (zfe r hr _).mono ?_;rintro e w1 ⟨rfl,rfl⟩;go_wp2_with fail
   go_ret2
   exact⟨by rw[zA HF];rfl,rfl⟩
theorem zs3 (r:B8)(hr:r.size<=maxLen)(w:W8):
  Calls Tryz.prog 173 #[.string r] w λ e w'=>e=.returned (.tuple #[.int .i64 (z4l r).1,.int .i64 (z4l r).2])/\w'=w:=by
 by_cases h8:8<skip yZ r 0
 ·have HF:=zC (show z4l r=(1,skip yZ r 0) by unfold z4l;rw[if_pos h8]);go_enter Tryz.func173,Tryz.ntmps173;go_wp2_with fail;refine (zgh r hr _).mono ?_;rintro e w1 ⟨rfl,rfl⟩;go_wp2_with fail
  go_ret2
  exact⟨by rw[zA HF];rfl,rfl⟩
 ·have HF:=zC (show z4l r=(3,skip yZ r 0) by unfold z4l;rw[if_neg h8]);go_enter Tryz.func173,Tryz.ntmps173;go_wp2_with fail;refine (zgh r hr _).mono ?_;rintro e w1 ⟨rfl,rfl⟩;go_wp2_with fail
  go_ret2
  exact⟨by rw[zA HF];rfl,rfl⟩
theorem zt2 (r:B8)(hr:r.size<=maxLen)(w:W8):
  Calls Tryz.prog 115 #[.string r] w λ e w'=>e=.returned (.tuple #[.int .i64 (qL r).1,.int .i64 (qL r).2])/\w'=w:=by
 by_cases h0:0<r.size
 ·have he:r.toList.isEmpty=false:=by
   rw[ByteArray.toList_eq,List.isEmpty_eq_false_iff];intro e;have:r.data.toList.length=0:=by rw[e];rfl
   rw[Array.length_toList] at this;have h2:r.data.size=r.size:=rfl;omega
  cases hl:jJ r[0].toNat with
  | true=>
   have HF:=zC (show qL r=zhr r by unfold qL;rw[dif_pos h0,if_pos hl]);go_enter Tryz.func115,Tryz.ntmps115;go_wp2_with fail;refine (zau _ _).mono ?_;rintro e w1 ⟨rfl,rfl⟩;go_wp2_with fail;refine (z6t r hr _).mono ?_;rintro e w1 ⟨rfl,rfl⟩;go_wp2_with fail
   go_ret2
   exact⟨by rw[zA HF];rfl,rfl⟩
  | false=>
   cases hh:yZ r[0].toNat with
   | true=>
    have HF:=zC (show qL r=z4l r by unfold qL;rw[dif_pos h0,if_neg (by rw[hl];decide),if_pos hh]);go_enter Tryz.func115,Tryz.ntmps115;go_wp2_with fail;refine (zau _ _).mono ?_;rintro e w1 ⟨rfl,rfl⟩;go_wp2_with fail;refine (zae _ _).mono ?_;rintro e w1 ⟨rfl,rfl⟩;go_wp2_with fail;refine (zs3 r hr _).mono ?_;rintro e w1 ⟨rfl,rfl⟩;go_wp2_with fail
    go_ret2
    exact⟨by rw[zA HF];rfl,rfl⟩
   | false=>
    have HF:=zC (show qL r=zdc r by unfold qL;rw[dif_pos h0,if_neg (by rw[hl];decide),if_neg (by rw[hh];decide)]);go_enter Tryz.func115,Tryz.ntmps115;go_wp2_with fail;refine (zau _ _).mono ?_;rintro e w1 ⟨rfl,rfl⟩;go_wp2_with fail;refine (zae _ _).mono ?_;rintro e w1 ⟨rfl,rfl⟩;go_wp2_with fail;refine (z7r r _).mono ?_;rintro e w1 ⟨rfl,rfl⟩;go_wp2_with fail
    go_ret2
    exact⟨by rw[zA HF];rfl,rfl⟩
 ·have he:r.toList.isEmpty=true:=by
   rw[ByteArray.toList_eq,List.isEmpty_iff];apply List.eq_nil_of_length_eq_zero;rw[Array.length_toList];have h2:r.data.size=r.size:=rfl;omega
  have HF:=zC (show qL r=(0,0) by unfold qL;rw[dif_neg h0]);go_enter Tryz.func115,Tryz.ntmps115;go_wp2_with fail
  go_ret2
  exact⟨by rw[zA HF];rfl,rfl⟩
def ybe (k:Int × Nat × Nat):Value:=.agg #[.int .i64 k.1,.int .i64 k.2.1,.int .i64 k.2.2]
theorem zv8 (r:B8):(qL r).2<=r.size:=by
 unfold qL
 split
 ·rename_i h;have h1:=zfh jJ r 0 (Nat.zero_le _);have h2:=zfh yZ r 0 (Nat.zero_le _)
  split
  ·unfold zhr;split;exact h1;split <;> exact h1
  ·split
   ·unfold z4l;split <;> exact h2
   ·unfold zdc
    split;exact h
    split;exact h
    split;exact h
    split;exact h
    split
    ·rename_i h5;exact h5.1
    ·exact h
 ·simp
theorem z7o (s:B8)(i:Nat)(hi:i<=s.size)(hs:s.size<=maxLen)(w:W8):
  Calls Tryz.prog 73 #[.string s,.int .i64 i] w λ e w'=>e=.returned (ybe (zD s i))/\Below w.heap.size w w':=by
 have hb:=zl6 yH s i hi;have ja:=zfh yH s i hi;have im:=hs;unfold maxLen at im;have mg:(s.extract i s.size).size<=maxLen:=by rw[zcf s i];omega
 have qb:=zC mg;have aE:=zsj (s.extract i s.size) mg;generalize skip yH (s.extract i s.size) 0=n0 at *;have F8:zD s i=((qL (s.extract (i+n0) s.size)).1,i+n0,i+n0+(qL (s.extract (i+n0) s.size)).2):=by unfold zD;rw[<-hb]
 have ed:=zv8 (s.extract (i+n0) s.size);rw[zcf s _] at ed;have hle:i+n0<=s.size:=by omega
 have JF:(i:Int)+n0<=s.size:=by omega
 have mh:(s.extract (i+n0) s.size).size<=maxLen:=by rw[zcf s _];omega
 have eX:=zt2 (s.extract (i+n0) s.size) mh;have Ig:=zC F8;have HR:=zC aE;have Eg:=zC eX;clear hb mg mh qb aE F8 eX ja;go_enter Tryz.func73,Tryz.ntmps73;go_wp2_with fail;refine (zA HR _).mono ?_;rintro e w1 ⟨rfl,rfl⟩;clear HR;go_wp2_with fail;have et:((i:Int)+n0).toNat=i+n0:=by omega
 try rw[et]
 refine (zA Eg _).mono ?_;rintro e w1 ⟨rfl,rfl⟩;clear Eg;generalize qL (s.extract (i+n0) s.size)=K at *;go_wp2_with fail;refine bodyPost_ret (v:=ybe (zD s i)) (by rw[zA Ig];simp[results,Tryz.results73,go_sem,ybe]) rfl ⟨rfl,B9.alloc L9 _⟩
end
section
def zza (t:Tk):Int:=
 if t.kind=46 then 0 else if t.kind=33 then 1 else if t.kind=110 then 2 else if t.kind=118 then 3 else if t.kind=119 then 4
 else if t.text.toList=[40] then 5 else if t.text.toList=[41] then 6 else if t.text.toList=[44] then 7 else if t.text.toList=[46] then 8 else 9
theorem zo9 (s:B8)(k n:Nat)(h:k+n<=s.size):(s.extract k s.size).extract 0 n=s.extract k (k+n):=by
 apply ByteArray.ext;simp[ByteArray.data_extract,Array.extract_extract]
 congr 1
 have:s.data.size=s.size:=rfl;omega
theorem ztv (s:B8)(k:Nat)(h:k<s.size):(s.extract k (k+1)).toList=[s[k]]:=by
 rw[ByteArray.toList_eq,ByteArray.data_extract,Array.toList_extract];have h1:s.data.toList.length=s.size:=by rw[Array.length_toList];rfl
 rw[List.extract_eq_take_drop];have e:k+1-k=1:=by omega
 rw[e,List.drop_eq_getElem_cons (by omega)];simp[List.take];rfl
theorem z01 (s:B8)(k:Nat)(h:k+1<s.size):(s.extract k (k+2)).toList=[s[k],s[k+1]]:=by
 rw[ByteArray.toList_eq,ByteArray.data_extract,Array.toList_extract];have h1:s.data.toList.length=s.size:=by rw[Array.length_toList];rfl
 rw[List.extract_eq_take_drop];have e:k+2-k=2:=by omega
 rw[e,List.drop_eq_getElem_cons (by omega),List.drop_eq_getElem_cons (by omega)];simp[List.take];exact⟨rfl,rfl⟩
theorem ybs (a c:UInt8):a=c↔(a.toNat:Int)=(c.toNat:Int):=by
 constructor
 ·intro h;rw[h]
 ·intro h;exact UInt8.toNat_inj.1 (by omega)
theorem z7q (s:B8)(k:Nat)(hk:k<s.size):zdc (s.extract k s.size) =
  if zai s k=0 then (1,1) else if zai s k=2 then (9,2) else (zza ⟨115,s.extract k (k+1),k,k+1⟩,1):=by
 have hsz:(s.extract k s.size).size=s.size-k:=zcf s k;have e1:((s.extract k s.size).extract 0 1).toList=[s[k]]:=by rw[zo9 s k 1 (by omega),ztv s k hk]
 have g1:1<=(s.extract k s.size).size:=by omega
 have t1:=ztv s k hk;unfold zdc zza;simp only[e1,g1,true_and,t1,List.cons.injEq,and_true];simp only[ybs];unfold zai;rw[dif_pos hk]
 by_cases rU:(s[k].toNat:Int)=58
 ·rw[if_pos rU];have n1:¬ (s[k].toNat:Int)=((40:UInt8).toNat:Int):=by rw[rU];decide
  have n2:¬ (s[k].toNat:Int)=((41:UInt8).toNat:Int):=by rw[rU];decide
  have n3:¬ (s[k].toNat:Int)=((44:UInt8).toNat:Int):=by rw[rU];decide
  have n4:¬ (s[k].toNat:Int)=((46:UInt8).toNat:Int):=by rw[rU];decide
  rw[if_neg n1,if_neg n2,if_neg n3,if_neg n4]
  by_cases h2:k+1<s.size
  ·have e2:((s.extract k s.size).extract 0 2).toList=[s[k],s[k+1]]:=(by rw[zo9 s k 2 (by omega),z01 s k h2]);rw[dif_pos h2,e2];have g2:2<=(s.extract k s.size).size:=(by omega);simp only[g2,true_and,List.cons.injEq,and_true,ybs]
   by_cases Aj:(s[k+1].toNat:Int)=45
   ·rw[if_pos ⟨by rw[rU];rfl,by rw[Aj];rfl⟩,if_pos Aj];simp
   ·rw[if_neg (λ h=>Aj (by rw[h.2];rfl)),if_neg Aj];simp
  ·rw[dif_neg h2,if_neg (by omega)];simp
 ·rw[if_neg rU];have n5:¬ (2<=(s.extract k s.size).size/\((s.extract k s.size).extract 0 2).toList=[58,45]):=by
   rintro⟨g2,h⟩;rw[zo9 s k 2 (by omega),z01 s k (by omega)] at h;injection h with h _
   exact rU (by rw[h];rfl)
  rw[if_neg n5]
  by_cases d1:(s[k].toNat:Int)=40
  ·simp[d1]
  ·by_cases d2:(s[k].toNat:Int)=41
   ·simp[d2]
   ·by_cases d3:(s[k].toNat:Int)=44
    ·simp[d3]
    ·by_cases d4:(s[k].toNat:Int)=46
     ·simp[d4]
     ·have m1:¬ (s[k].toNat:Int)=((40:UInt8).toNat:Int):=d1;have m2:¬ (s[k].toNat:Int)=((41:UInt8).toNat:Int):=d2;have m3:¬ (s[k].toNat:Int)=((44:UInt8).toNat:Int):=d3;have m4:¬ (s[k].toNat:Int)=((46:UInt8).toNat:Int):=d4;rw[if_neg m1,if_neg m2,if_neg m3,if_neg m4];simp[d1,d2,d3,d4]
theorem zmy (s:B8)(k:Nat):zai s k=0\/zai s k=1\/zai s k=2:=by
 unfold zai
 split
 ·split
  ·split
   ·split <;> simp
   ·simp
  ·split <;> simp
 ·simp
theorem z7p (s:B8)(i:Nat)(hi:i<=s.size):zD s i=(zza (tok s i),(tok s i).at_,(tok s i).to):=by
 have hk:=zfh yH s i hi;unfold zD tok;generalize skip yH s i=k at *;have hsz:(s.extract k s.size).size=s.size-k:=zcf s k
 by_cases h0:s.size<=k
 ·have e:k=s.size:=by omega
  rw[z4c,if_pos h0];unfold qL;rw[dif_neg (by omega)];simp[zza,e]
 ·have bP:k<s.size:=by omega
  have hl:=zl6 jJ s k hk;have hh:=zl6 yZ s k hk;have oa:0<(s.extract k s.size).size:=by omega
  have hg:(s.extract k s.size)[0]=s[k]:=by have:=ztu s k 0 (by omega) oa;simpa using this
  rw[z4c,if_neg h0];unfold qL;rw[dif_pos oa]
  by_cases aX:k<skip jJ s k
  ·have oo:jJ s[k].toNat=true:=by
    cases hb:jJ s[k].toNat with
    | true=>rfl
    | false=>rw[zba jJ s k bP hb] at aX;omega
   have nJ:skip jJ (s.extract k s.size) 0=skip jJ s k-k:=(by omega);have hle:=zfh jJ s k hk;have hex:(s.extract k s.size).extract 0 (skip jJ s k-k)=s.extract k (skip jJ s k):=by
    rw[zo9 s k _ (by omega)];congr 1;omega
   rw[if_pos (by rw[hg];exact oo),if_pos aX];unfold zhr;rw[nJ,hex]
   by_cases h8:8<skip jJ s k-k
   ·have nF:¬ (s.extract k (skip jJ s k)).toList=[110,111,116]:=by
     intro e;have:(s.extract k (skip jJ s k)).toList.length=3:=by rw[e];rfl
     rw[ByteArray.toList_eq,Array.length_toList] at this;have h2:(s.extract k (skip jJ s k)).data.size=(s.extract k (skip jJ s k)).size:=rfl;rw[h2,ByteArray.size_extract] at this;omega
    rw[if_pos h8,if_neg nF,if_neg (by omega)];simp[zza];omega
   ·by_cases hn:(s.extract k (skip jJ s k)).toList=[110,111,116]
    ·rw[if_neg h8,if_pos hn,if_pos hn];simp[zza];omega
    ·rw[if_neg h8,if_neg hn,if_neg hn,if_pos (by omega)];simp[zza];omega
  ·have oo:jJ s[k].toNat=false:=by
    cases hb:jJ s[k].toNat with
    | false=>rfl
    | true=>
     have h1:=za9 jJ s k bP hb;have h2:=z3s jJ s (k+1);omega
   rw[if_neg (by rw[hg,oo];decide),if_neg aX]
   by_cases hhigh:k<skip yZ s k
   ·have CC:yZ s[k].toNat=true:=by
     cases hb:yZ s[k].toNat with
     | true=>rfl
     | false=>rw[zba yZ s k bP hb] at hhigh;omega
    have nJ:skip yZ (s.extract k s.size) 0=skip yZ s k-k:=(by omega);rw[if_pos (by rw[hg];exact CC),if_pos hhigh];unfold z4l;rw[nJ]
    by_cases h8:8<skip yZ s k-k
    ·rw[if_pos h8,if_neg (by omega)];simp[zza];omega
    ·rw[if_neg h8,if_pos (by omega)];simp[zza];omega
   ·have CC:yZ s[k].toNat=false:=by
     cases hb:yZ s[k].toNat with
     | false=>rfl
     | true=>
      have h1:=za9 yZ s k bP hb;have h2:=z3s yZ s (k+1);omega
    rw[if_neg (by rw[hg,CC];decide),if_neg hhigh,z7q s k bP];rcases zmy s k with h | h | h
    ·rw[if_pos h,if_pos h];simp[zza]
    ·rw[if_neg (by omega),if_neg (by omega),if_neg (by omega),if_neg (by omega)]
    ·rw[if_neg (by omega),if_pos h,if_neg (by omega),if_pos h];have e:({ data:=#[58,45] }:B8).toList=[58,45]:=(by rw[ByteArray.toList_eq]);simp[zza,e]
end
section
open Go.RowKit
theorem zU {a b:B8}:(a.toList==b.toList)=true↔a=b:=by
 rw[beq_iff_eq,ByteArray.toList_eq,ByteArray.toList_eq];exact⟨λ h=>ByteArray.ext (Array.toList_inj.1 h),λ h=>by rw[h]⟩
theorem zlb:∀ x:List UInt8,Op.bytesLess x x=false
 | []=>rfl
 | a::r=>by simp[Op.bytesLess,zlb r]
theorem NB:∀ x y z:List UInt8,Op.bytesLess x y=true->Op.bytesLess y z=true->Op.bytesLess x z=true
 | _,[],_,h,_=>by simp[Op.bytesLess] at h
 | _,_::_,[],_,h=>by simp[Op.bytesLess] at h
 | [],_::_,_::_,_,_=>rfl
 | a::x,b::y,c::z,h1,h2=>by
  simp only[Op.bytesLess,Bool.or_eq_true,Bool.and_eq_true,decide_eq_true_eq,beq_iff_eq] at h1 h2 ⊢;rcases h1 with h1 | ⟨rfl,h1⟩
  ·rcases h2 with h2 | ⟨rfl,_⟩
   ·exact .inl (UInt8.lt_trans h1 h2)
   ·exact .inl h1
  ·rcases h2 with h2 | ⟨rfl,h2⟩
   ·exact .inl h2
   ·exact .inr ⟨rfl,NB x y z h1 h2⟩
theorem zv0:∀ x y:List UInt8,Op.bytesLess x y=false->Op.bytesLess y x=false->x=y
 | [],[],_,_=>rfl
 | [],_::_,h,_=>by simp[Op.bytesLess] at h
 | _::_,[],_,h=>by simp[Op.bytesLess] at h
 | a::x,b::y,h1,h2=>by
  simp only[Op.bytesLess,Bool.or_eq_false_iff,Bool.and_eq_false_iff,decide_eq_false_iff_not,beq_eq_false_iff_ne,ne_eq] at h1 h2;have Ao:a=b:=UInt8.le_antisymm (UInt8.not_lt.1 h2.1) (UInt8.not_lt.1 h1.1);subst Ao;rw[zv0 x y (h1.2.resolve_left (λ h=>h rfl)) (h2.2.resolve_left (λ h=>h rfl))]
def ze1 (x y:B8):Bool:=Op.bytesLess x.toList y.toList
theorem zrf (x:B8):ze1 x x=false:=zlb _
variable {x y:B8}
theorem N2 {z:B8}(h1:ze1 x y=true)(h2:ze1 y z=true):ze1 x z=true:=NB _ _ _ h1 h2
theorem N0 (h1:ze1 x y=false)(h2:ze1 y x=false):x=y:=zU.1 (by rw[beq_iff_eq];exact zv0 _ _ h1 h2)
def zvl (x y:B8):Int:=if ze1 x y then -1 else if x.toList==y.toList then 0 else 1
end
section
open Go.RowKit
abbrev zX:=List (B8 × B8)
abbrev zb8:=Bool × B8
def pAt:zX->B8->Option B8
 | [],_=>none
 | x::r,n=>if x.1.toList==n.toList then some x.2 else pAt r n
def dr (e:zX)(n:B8):B8:=(pAt e n).getD { data:=#[] }
variable {e:zX}
theorem z62 {k:Nat}{n:B8}(h:k<e.length):pAt (e.drop k) n=if e[k].1.toList==n.toList then some e[k].2 else pAt (e.drop (k+1)) n:=by
 rw[List.drop_eq_getElem_cons h];rfl
def eAt (e:zX)(i:Nat):B8 × B8:=(e[i]?).getD ({ data:=#[] },{ data:=#[] })
def zW (e:zX):V8:=
 [.int .i64 (e.length:Nat),.string (eAt e 0).1,.string (eAt e 0).2,.string (eAt e 1).1,.string (eAt e 1).2,.string (eAt e 2).1,.string (eAt e 2).2,.string (eAt e 3).1,.string (eAt e 3).2,.string (eAt e 4).1,.string (eAt e 4).2,.string (eAt e 5).1,.string (eAt e 5).2,
 .string (eAt e 6).1,.string (eAt e 6).2,.string (eAt e 7).1,.string (eAt e 7).2,.string (eAt e 8).1,.string (eAt e 8).2,.string (eAt e 9).1,.string (eAt e 9).2,.string (eAt e 10).1,.string (eAt e 10).2,.string (eAt e 11).1,.string (eAt e 11).2]
def jD (e:zX):Value:=.agg (zW e).toArray
variable {i:Nat}
theorem zad (e:zX)(h:i<12):(zW e)[1+i*2]?=some (.string (eAt e i).1):=by
 match i,h with
 | 0,_ | 1,_ | 2,_ | 3,_ | 4,_ | 5,_ | 6,_ | 7,_ | 8,_ | 9,_ | 10,_ | 11,_=>rfl
theorem qJ (e:zX)(h:i<12):(zW e)[1+i*2+1]?=some (.string (eAt e i).2):=by
 match i,h with
 | 0,_ | 1,_ | 2,_ | 3,_ | 4,_ | 5,_ | 6,_ | 7,_ | 8,_ | 9,_ | 10,_ | 11,_=>rfl
theorem ycp (h:i<e.length):eAt e i=e[i]:=by unfold eAt;rw[List.getElem?_eq_getElem h];rfl
def z8p (w:W8)(b:Nat)(e:zX):Prop:=∀ j v,(zW e)[j]?=some v->w.cell? ⟨b,j,none⟩=some v
theorem zsa (w:W8)(b:Nat)(e:zX)(v:B8)(h:z8p w b e)(hl:e.length<=12):
  Calls Tryz.prog 201 #[.pointer (some ⟨b,0,none⟩),.string v] w λ en w'=>en=.returned (.tuple #[.string (dr e v),.bool (pAt e v).isSome])/\w'=w:=by
 have c0:=h 0 _ rfl;have HB:=zC h;clear h;go_enter Tryz.func201,Tryz.ntmps201;go_wp2_with fail
 go_loop [11] (λ i=>∃ k:Nat,k<=e.length/\i=.int .i64 k/\pAt (e.drop k) v=pAt e v) (λ i=>e.length-(intOf i).toNat)
 exact⟨0,Nat.zero_le _,rfl,rfl⟩
 case round=>
  obtain⟨k,hk,rfl,bj⟩:=hrel;have HF:=zC bj;clear bj
  by_cases aN:k<e.length
  ·have d1:=zA HB _ _ (zad e (i:=k) (by omega));have d2:=zA HB _ _ (qJ e (i:=k) (by omega));rw[ycp aN] at d1 d2;have HS:=zC (z62 (n:=v) aN);have qj:(k:Int)<e.length:=(by omega);have lG:(k:Int)<12:=by omega
   cases hq:e[k].1.toList==v.toList with
   | true=>
    have HE:=zC (show pAt e v=some e[k].2 by rw[<-zA HF,zA HS,if_pos hq]);go_wp2_with fail
    go_ret2
    exact⟨by unfold dr;rw[zA HE];rfl,rfl⟩
   | false=>
    have HE:=zC (show pAt (e.drop (k+1)) v=pAt e v by rw[<-zA HF,zA HS,if_neg (by rw[hq];decide)]);go_wp2_with fail
    go_round
    case rel=>exact⟨k+1,by omega,by go_num,zA HE⟩
    case measure=>simp[intOf];omega
  ·have HE:=zC (show pAt e v=none by rw[<-zA HF,List.drop_of_length_le (by omega)];rfl);go_wp2_with fail
   go_ret2
   exact⟨by unfold dr;rw[zA HE];rfl,rfl⟩
end
end Go.Proofs.YtldkpahaocjdpaaGreat
