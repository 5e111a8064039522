/-
  Plain, no walk: what a token of a text is, as the document's section Words says it: blanks are passed by; a row of a..z and 0..9, a row of A..Z, the signs ( ) , . :- ; all else is none.
-/
import Derived.Below
import Derived.WalkKit
import Derived.WalkSpells
import Derived.WalkLawsBesides
import Derived.Deep.QuietTactic
import Derived.BigQuiet
import Derived.Deep.RegionWith
import Derived.Lib.Strings
import Derived.Laws.Strings
import Derived.Test.YtldkpahaocjdpaaGreatR04
import Derived.BigRegion
set_option maxHeartbeats 16000000
set_option maxRecDepth 1000000
namespace Go.Proofs.YtldkpahaocjdpaaGreat
section
def jD (c:Int):Bool:=(decide (97<=c)&&decide (c<=122))||(decide (48<=c)&&decide (c<=57))
def yZ (c:Int):Bool:=decide (65<=c)&&decide (c<=90)
def yG (c:Int):Bool:=decide (c=32)||decide (c=10)
def skip (p:Int->Bool)(s:B8)(i:Nat):Nat:=
 if h:i<s.size then (if p s[i].toNat then skip p s (i+1) else i) else i
termination_by s.size-i
theorem zbb (p:Int->Bool)(s:B8)(i:Nat)(h:i<s.size)(hp:p s[i].toNat=true):skip p s i=skip p s (i+1):=by
 rw[skip];simp[h,hp]
theorem zbc (p:Int->Bool)(s:B8)(i:Nat)(h:i<s.size)(hp:p s[i].toNat=false):skip p s i=i:=by
 rw[skip];simp[h,hp]
theorem zcn (p:Int->Bool)(s:B8)(i:Nat)(h:¬ i<s.size):skip p s i=i:=by
 rw[skip];simp[h]
theorem z5i (p:Int->Bool)(s:B8)(i:Nat):i<=skip p s i:=by
 fun_induction skip p s i <;> omega
theorem zed (p:Int->Bool)(s:B8)(i:Nat)(h:i<=s.size):skip p s i<=s.size:=by
 fun_induction skip p s i <;> omega
structure Tk where
 kind:Int
 text:B8
 at_:Nat
 to:Nat
def qG (s:B8)(i:Nat):Nat:=
 if h:i<s.size then
  (if (s[i].toNat:Int)=58 then (if h2:i+1<s.size then (if (s[i+1].toNat:Int)=45 then 2 else 0) else 0)
  else if (s[i].toNat:Int)=40\/(s[i].toNat:Int)=41\/(s[i].toNat:Int)=44\/(s[i].toNat:Int)=46 then 1 else 0)
 else 0
def z05 (s:B8)(i:Nat):Tk:=
 if s.size<=i then ⟨46,⟨#[]⟩,s.size,i⟩
 else if i<skip jD s i then
  (if (s.extract i (skip jD s i)).toList=[110,111,116] then ⟨119,s.extract i (skip jD s i),i,skip jD s i⟩
  else if skip jD s i-i<=8 then ⟨110,s.extract i (skip jD s i),i,skip jD s i⟩
  else ⟨33,⟨#[]⟩,i,skip jD s i⟩)
 else if i<skip yZ s i then
  (if skip yZ s i-i<=8 then ⟨118,s.extract i (skip yZ s i),i,skip yZ s i⟩
  else ⟨33,⟨#[]⟩,i,skip yZ s i⟩)
 else if qG s i=0 then ⟨33,⟨#[]⟩,i,i+1⟩
 else if qG s i=2 then ⟨115,⟨#[58,45]⟩,i,i+2⟩
 else ⟨115,s.extract i (i+1),i,i+1⟩
def tok (s:B8)(i:Nat):Tk:=z05 s (skip yG s i)
end
section
open Go.RowKit
variable {p:Prop}
theorem zC (h:p):Hid p:=h
theorem zA (h:Hid p):p:=h
theorem more {x:Int}{j:Nat}{l:List Int}{d:Int}(h:∀ c,c∈l.take j->x≠c)(hd:¬ x=d){j':Nat}(hj:j'=j+1)(hl:l[j]?=some d):∀ c,c∈l.take j'->x≠c:=by
 subst hj;intro c hc;rw[List.take_add_one,hl] at hc;simp at hc;rcases hc with hc | hc
 ·exact h c hc
 ·subst hc;exact hd
end
section
open Go.RowKit
structure yA (B:List Nat)(w w':W8):Prop where
 os:w'.os=w.os
 tape:w'.tape=w.tape
 output:w'.output=w.output
 size:w.heap.size<=w'.heap.size
 block:∀ k,k<w.heap.size->k∉B->w'.heap[k]?=w.heap[k]?
theorem yA.refl (B:List Nat)(w:W8):yA B w w:=⟨rfl,rfl,rfl,Nat.le_refl _,λ _ _ _=>rfl⟩
theorem yA.trans {B:List Nat}{a b c:W8}(h:yA B a b)(k:yA B b c):yA B a c:=
 ⟨k.os.trans h.os,k.tape.trans h.tape,k.output.trans h.output,Nat.le_trans h.size k.size,λ i hi hn=>(k.block i (Nat.lt_of_lt_of_le hi h.size) hn).trans (h.block i hi hn)⟩
variable {a w w':W8} {B:List Nat}
theorem yA.aF (h:yA B a w)(k:Below w.heap.size w w'):yA B a w':=
 h.trans ⟨k.os,k.tape,k.output,k.size,λ i hi _=>k.block i hi⟩
theorem yA.alloc (h:yA B a w)(o:Obj):yA B a (w.alloc o):=
 h.trans ⟨rfl,rfl,rfl,by simp,λ k hk _=>Below.heap_alloc _ _ _ hk⟩
theorem yA.drew (h:yA B a w):yA B a w.drew:=⟨h.os,h.tape,h.output,h.size,h.block⟩
theorem yA.setCell {B:List Nat}{a w:W8}(h:yA B a w){p:Addr}(hp:p.block∈B\/a.heap.size<=p.block)(u:Value):yA B a (w.setCell p u):=
 ⟨h.os,h.tape,h.output,by have:=h.size;simpa[World.setCell] using this,λ k hk hn=>(Below.heap_setCell _ _ _ _ (by rintro rfl;rcases hp with hp | hp;exact hn hp;omega)).trans (h.block k hk hn)⟩
theorem yA.mono {C:List Nat}(h:yA B w w')(hs:∀ k,k∈B->k∈C\/w.heap.size<=k):yA C w w':=
 ⟨h.os,h.tape,h.output,h.size,λ k hk hn=>h.block k hk (λ hb=>by rcases hs k hb with h1 | h1;exact hn h1;omega)⟩
variable {p:Addr}
theorem yA.cell (h:yA B w w')(hp:p.block<w.heap.size)(hn:p.block∉B):w'.cell? p=w.cell? p:=World.cell?_of_block (w:=w) (h.block p.block hp hn)
theorem yA.frozen (h:yA B w w')(hp:p.block<w.heap.size)(hn:p.block∉B):w'.frozen? p=w.frozen? p:=World.frozen?_of_block (w:=w) (h.block p.block hp hn)
def zkd (s:B8)(pos:Nat)(bad:Int):Int:=if bad<0 then (tok s pos).at_ else bad
def isS (s:B8)(pos:Nat)(bad:Int)(wd:B8):Bool:=decide (bad<0)&&((tok s pos).kind==115&&(tok s pos).text.toList==wd.toList)
def jV (s:B8)(pos:Nat)(bad:Int):Int:=if (tok s pos).kind=33\/(tok s pos).kind=46 then zkd s pos bad else bad
def gu (s:B8)(pos:Nat)(bad:Int):Nat:=if jV s pos bad<0 then (tok s pos).to else pos
theorem ydn {w1:W8}{n:Nat}{u0 u1 u2:Value}(h0:w1.cell? ⟨n,0,none⟩=some u0)(h1:w1.cell? ⟨n,1,none⟩=some u1)(h2:w1.cell? ⟨n,2,none⟩=some u2)(v0 v1 v2:Value):
  (((w1.setCell ⟨n,0,none⟩ v0).setCell ⟨n,1,none⟩ v1).setCell ⟨n,2,none⟩ v2).cell? ⟨n,0,none⟩=some v0 /\
  (((w1.setCell ⟨n,0,none⟩ v0).setCell ⟨n,1,none⟩ v1).setCell ⟨n,2,none⟩ v2).cell? ⟨n,1,none⟩=some v1 /\
  (((w1.setCell ⟨n,0,none⟩ v0).setCell ⟨n,1,none⟩ v1).setCell ⟨n,2,none⟩ v2).cell? ⟨n,2,none⟩=some v2:=by
 refine⟨?_,?_,?_⟩ <;> go_simp
end
section
open Go.RowKit
theorem zau (c:Int)(w:W8):
  Calls Tryz.prog 170 #[.int .u8 c] w λ e w'=>e=.returned (.bool (jD c))/\w'=w:=by
 go_enter Tryz.func170,Tryz.ntmps170
 go_wp2
 all_goals go_ret
 all_goals exact⟨by simp[jD, *];try omega,rfl⟩
theorem zag (c:Int)(w:W8):
  Calls Tryz.prog 172 #[.int .u8 c] w λ e w'=>e=.returned (.bool (yZ c))/\w'=w:=by
 go_enter Tryz.func172,Tryz.ntmps172
 go_wp2
 all_goals go_ret
 all_goals exact⟨by simp[yZ, *];try omega,rfl⟩
theorem zg4 (c:Int)(w:W8):
  Calls Tryz.prog 114 #[.int .u8 c] w λ e w'=>e=.returned (.bool (yG c))/\w'=w:=by
 go_enter Tryz.func114,Tryz.ntmps114
 go_wp2
 all_goals go_ret
 ·exact⟨by simp[yG, *],rfl⟩
 ·exact⟨by rename_i h;show Ending.returned (Value.bool (c==32||c==10))=_;congr 2,rfl⟩
theorem zfk (s:B8)(hs:s.size<=maxLen)(w:W8):
  Calls Tryz.prog 113 #[.string s,.func (.func 170) #[] #[]] w λ e w'=>e=.returned (.int .i64 (skip jD s 0))/\w'=w:=by
 unfold maxLen at hs;go_enter Tryz.func113,Tryz.ntmps113
 go_wp2
 go_loop [5] (λ t=>∃ m:Nat,m<=s.size/\t=.int .i64 m/\skip jD s m=skip jD s 0) (λ t=>s.size-(intOf t).toNat)
 exact⟨0,Nat.zero_le _,rfl,rfl⟩
 case round=>
  obtain⟨m,hm,rfl,dQ⟩:=hrel;have HM:Hid (skip jD s m=skip jD s 0):=dQ;clear dQ
  by_cases ed:m<s.size
  ·cases aX:jD s[m].toNat with
   | true=>
    have wg:Hid (skip jD s (m+1)=skip jD s 0):=(zbb jD s m ed aX).symm.trans HM.out;go_wp2_with (go_at_call 170;refine (zau _ _).mono ?_;rintro e w' ⟨rfl,rfl⟩)
    go_round
    case rel=>exact⟨m+1,by omega,by go_num,wg.out⟩
    case measure=>simp[intOf];omega
   | false=>
    have HN:=zC (HM.out.symm.trans (zbc jD s m ed aX));go_wp2_with (go_at_call 170;refine (zau _ _).mono ?_;rintro e w' ⟨rfl,rfl⟩);go_ret;exact⟨by rw[zA HN];rfl,rfl⟩
  ·have HN:=zC (HM.out.symm.trans (zcn jD s m ed));go_wp2_with (go_at_call 170;refine (zau _ _).mono ?_;rintro e w' ⟨rfl,rfl⟩);go_ret;exact⟨by rw[zA HN];rfl,rfl⟩
theorem zgr (s:B8)(hs:s.size<=maxLen)(w:W8):
  Calls Tryz.prog 113 #[.string s,.func (.func 172) #[] #[]] w λ e w'=>e=.returned (.int .i64 (skip yZ s 0))/\w'=w:=by
 unfold maxLen at hs;go_enter Tryz.func113,Tryz.ntmps113
 go_wp2
 go_loop [5] (λ t=>∃ m:Nat,m<=s.size/\t=.int .i64 m/\skip yZ s m=skip yZ s 0) (λ t=>s.size-(intOf t).toNat)
 exact⟨0,Nat.zero_le _,rfl,rfl⟩
 case round=>
  obtain⟨m,hm,rfl,dQ⟩:=hrel;have HM:Hid (skip yZ s m=skip yZ s 0):=dQ;clear dQ
  by_cases ed:m<s.size
  ·cases aX:yZ s[m].toNat with
   | true=>
    have wg:Hid (skip yZ s (m+1)=skip yZ s 0):=(zbb yZ s m ed aX).symm.trans HM.out;go_wp2_with (go_at_call 172;refine (zag _ _).mono ?_;rintro e w' ⟨rfl,rfl⟩)
    go_round
    case rel=>exact⟨m+1,by omega,by go_num,wg.out⟩
    case measure=>simp[intOf];omega
   | false=>
    have HN:=zC (HM.out.symm.trans (zbc yZ s m ed aX));go_wp2_with (go_at_call 172;refine (zag _ _).mono ?_;rintro e w' ⟨rfl,rfl⟩);go_ret;exact⟨by rw[zA HN];rfl,rfl⟩
  ·have HN:=zC (HM.out.symm.trans (zcn yZ s m ed));go_wp2_with (go_at_call 172;refine (zag _ _).mono ?_;rintro e w' ⟨rfl,rfl⟩);go_ret;exact⟨by rw[zA HN];rfl,rfl⟩
theorem ztw (s:B8)(hs:s.size<=maxLen)(w:W8):
  Calls Tryz.prog 113 #[.string s,.func (.func 114) #[] #[]] w λ e w'=>e=.returned (.int .i64 (skip yG s 0))/\w'=w:=by
 unfold maxLen at hs;go_enter Tryz.func113,Tryz.ntmps113
 go_wp2
 go_loop [5] (λ t=>∃ m:Nat,m<=s.size/\t=.int .i64 m/\skip yG s m=skip yG s 0) (λ t=>s.size-(intOf t).toNat)
 exact⟨0,Nat.zero_le _,rfl,rfl⟩
 case round=>
  obtain⟨m,hm,rfl,dQ⟩:=hrel;have HM:Hid (skip yG s m=skip yG s 0):=dQ;clear dQ
  by_cases ed:m<s.size
  ·cases aX:yG s[m].toNat with
   | true=>
    have wg:Hid (skip yG s (m+1)=skip yG s 0):=(zbb yG s m ed aX).symm.trans HM.out;go_wp2_with (go_at_call 114;refine (zg4 _ _).mono ?_;rintro e w' ⟨rfl,rfl⟩)
    go_round
    case rel=>exact⟨m+1,by omega,by go_num,wg.out⟩
    case measure=>simp[intOf];omega
   | false=>
    have HN:=zC (HM.out.symm.trans (zbc yG s m ed aX));go_wp2_with (go_at_call 114;refine (zg4 _ _).mono ?_;rintro e w' ⟨rfl,rfl⟩);go_ret;exact⟨by rw[zA HN];rfl,rfl⟩
  ·have HN:=zC (HM.out.symm.trans (zcn yG s m ed));go_wp2_with (go_at_call 114;refine (zg4 _ _).mono ?_;rintro e w' ⟨rfl,rfl⟩);go_ret;exact⟨by rw[zA HN];rfl,rfl⟩
end
section
theorem zcg (s:B8)(a:Nat):(s.extract a s.size).size=s.size-a:=by
 simp[ByteArray.size_extract]
theorem zu9 (s:B8)(a j:Nat)(h:a+j<s.size)(h':j<(s.extract a s.size).size):(s.extract a s.size)[j]=s[a+j]:=by
 simp[ByteArray.getElem_extract]
theorem z84 (p:Int->Bool)(s:B8)(a:Nat)(ha:a<=s.size):∀ (d j:Nat),s.size-(a+j)=d->a+j<=s.size->a+skip p (s.extract a s.size) j=skip p s (a+j):=by
 intro d
 induction d with
 | zero=>
  intro j hd hj;rw[zcn p s (a+j) (by omega),zcn p _ j (by rw[zcg s a];omega)]
 | succ d ih=>
  intro j hd hj;have h1:a+j<s.size:=by omega
  have h2:j<(s.extract a s.size).size:=by rw[zcg s a];omega
  cases hp:p s[a+j].toNat with
  | true=>
   rw[zbb p s (a+j) h1 hp,zbb p _ j h2 (by rw[zu9 s a j h1 h2];exact hp)];have:=ih (j+1) (by omega) (by omega);rw[this,Nat.add_assoc]
  | false=>
   rw[zbc p s (a+j) h1 hp,zbc p _ j h2 (by rw[zu9 s a j h1 h2];exact hp)]
theorem zmp (p:Int->Bool)(s:B8)(a:Nat)(ha:a<=s.size):a+skip p (s.extract a s.size) 0=skip p s a:=
 z84 p s a ha _ 0 rfl (by omega)
def zdk (r:B8):Int × Nat:=
 if 1<=r.size/\(r.extract 0 1).toList=[40] then (5,1)
 else if 1<=r.size/\(r.extract 0 1).toList=[41] then (6,1)
 else if 1<=r.size/\(r.extract 0 1).toList=[44] then (7,1)
 else if 1<=r.size/\(r.extract 0 1).toList=[46] then (8,1)
 else if 2<=r.size/\(r.extract 0 2).toList=[58,45] then (9,2)
 else (1,1)
def zh1 (r:B8):Int × Nat:=if 8<skip jD r 0 then (1,skip jD r 0) else if (r.extract 0 (skip jD r 0)).toList=[110,111,116] then (4,skip jD r 0) else (2,skip jD r 0)
def z6b (r:B8):Int × Nat:=if 8<skip yZ r 0 then (1,skip yZ r 0) else (3,skip yZ r 0)
def qF (r:B8):Int × Nat:=
 if h:0<r.size then (if jD r[0].toNat then zh1 r else if yZ r[0].toNat then z6b r else zdk r) else (0,0)
def zD (s:B8)(i:Nat):Int × Nat × Nat:=((qF (s.extract (skip yG s i) s.size)).1,skip yG s i,skip yG s i+(qF (s.extract (skip yG s i) s.size)).2)
end
section
open Go.RowKit
def dt (r p:B8):Bool:=decide (p.size<=r.size)&&(r.extract 0 p.size).toList==p.toList
theorem zmq (r p:B8)(w:W8):
  Calls Tryz.prog 239 #[.string r,.string p] w λ e w'=>e=.returned (.bool (dt r p))/\w'=w:=by
 by_cases h:p.size<=r.size
 ·go_enter Tryz.func239,Tryz.ntmps239
  go_wp2
  go_ret;exact⟨by simp[dt,h],rfl⟩
 ·go_enter Tryz.func239,Tryz.ntmps239
  go_wp2
  go_ret;exact⟨by simp[dt];omega,rfl⟩
theorem yL (r p:B8)(w:W8):
  Calls Tryz.prog 220 #[.string r,.string p] w λ e w'=>e=.returned (.bool (dt r p))/\w'=w:=by
 go_enter Tryz.func220,Tryz.ntmps220;go_wp2_with fail;refine (zmq r p _).mono ?_;rintro e w1 ⟨rfl,rfl⟩;go_wp2_with fail;go_ret;exact⟨rfl,rfl⟩
theorem z83 (r:B8)(w:W8):
  Calls Tryz.prog 174 #[.string r] w λ e w'=>e=.returned (.tuple #[.int .i64 (zdk r).1,.int .i64 (zdk r).2])/\w'=w:=by
 have e1:∀ c:UInt8,dt r { data:=#[c] }=decide (1<=r.size/\(r.extract 0 1).toList=[c]):=λ c=>by
  have h1:(ByteArray.mk #[c]).size=1:=rfl;have h2:(ByteArray.mk #[c]).toList=[c]:=by rw[ByteArray.toList_eq]
  rw[Bool.eq_iff_iff];simp only[dt,h1,h2,Bool.and_eq_true,decide_eq_true_eq,beq_iff_eq]
 have e2:dt r { data:=#[58,45] }=decide (2<=r.size/\(r.extract 0 2).toList=[58,45]):=by
  have h1:(ByteArray.mk #[58,45]).size=2:=rfl;have h2:(ByteArray.mk #[58,45]).toList=[58,45]:=by rw[ByteArray.toList_eq]
  rw[Bool.eq_iff_iff];simp only[dt,h1,h2,Bool.and_eq_true,decide_eq_true_eq,beq_iff_eq]
 have hK:zdk r=if dt r { data:=#[40] } then (5,1) else if dt r { data:=#[41] } then (6,1) else if dt r { data:=#[44] } then (7,1) else if dt r { data:=#[46] } then (8,1) else if dt r { data:=#[58,45] } then (9,2) else (1,1):=by
  rw[e1,e1,e1,e1,e2];unfold zdk;simp only[decide_eq_true_eq]
 have HK:=zC hK;clear e1 e2 hK
 cases b1:dt r { data:=#[40] } with
 | true=>
  have HF:=zC (show zdk r=(5,1) by rw[zA HK,b1];rfl);clear HK;go_enter Tryz.func174,Tryz.ntmps174;go_wp2_with fail;refine (yL r _ _).mono ?_;rintro e w1 ⟨rfl,rfl⟩;go_wp2_with fail
  go_ret2
  exact⟨by rw[zA HF];rfl,rfl⟩
 | false=>
 cases b2:dt r { data:=#[41] } with
 | true=>
  have HF:=zC (show zdk r=(6,1) by rw[zA HK,b1,b2];rfl);clear HK;go_enter Tryz.func174,Tryz.ntmps174;go_wp2_with fail;refine (yL r _ _).mono ?_;rintro e w1 ⟨rfl,rfl⟩;go_wp2_with fail;refine (yL r _ _).mono ?_;rintro e w1 ⟨rfl,rfl⟩;go_wp2_with fail
  go_ret2
  exact⟨by rw[zA HF];rfl,rfl⟩
 | false=>
 cases b3:dt r { data:=#[44] } with
 | true=>
  have HF:=zC (show zdk r=(7,1) by rw[zA HK,b1,b2,b3];rfl);clear HK;go_enter Tryz.func174,Tryz.ntmps174;go_wp2_with fail;refine (yL r _ _).mono ?_;rintro e w1 ⟨rfl,rfl⟩;go_wp2_with fail;refine (yL r _ _).mono ?_;rintro e w1 ⟨rfl,rfl⟩;go_wp2_with fail;refine (yL r _ _).mono ?_;rintro e w1 ⟨rfl,rfl⟩;go_wp2_with fail
  go_ret2
  exact⟨by rw[zA HF];rfl,rfl⟩
 | false=>
 cases b4:dt r { data:=#[46] } with
 | true=>
  have HF:=zC (show zdk r=(8,1) by rw[zA HK,b1,b2,b3,b4];rfl);clear HK;go_enter Tryz.func174,Tryz.ntmps174;go_wp2_with fail;refine (yL r _ _).mono ?_;rintro e w1 ⟨rfl,rfl⟩;go_wp2_with fail;refine (yL r _ _).mono ?_;rintro e w1 ⟨rfl,rfl⟩;go_wp2_with fail;refine (yL r _ _).mono ?_;rintro e w1 ⟨rfl,rfl⟩;go_wp2_with fail;refine (yL r _ _).mono ?_;rintro e w1 ⟨rfl,rfl⟩;go_wp2_with fail
  go_ret2
  exact⟨by rw[zA HF];rfl,rfl⟩
 | false=>
 cases b5:dt r { data:=#[58,45] } with
 | true=>
  have HF:=zC (show zdk r=(9,2) by rw[zA HK,b1,b2,b3,b4,b5];rfl);clear HK;go_enter Tryz.func174,Tryz.ntmps174;go_wp2_with fail;refine (yL r _ _).mono ?_;rintro e w1 ⟨rfl,rfl⟩;go_wp2_with fail;refine (yL r _ _).mono ?_;rintro e w1 ⟨rfl,rfl⟩;go_wp2_with fail;refine (yL r _ _).mono ?_;rintro e w1 ⟨rfl,rfl⟩;go_wp2_with fail;refine (yL r _ _).mono ?_;rintro e w1 ⟨rfl,rfl⟩;go_wp2_with fail;refine (yL r _ _).mono ?_;rintro e w1 ⟨rfl,rfl⟩;go_wp2_with fail
  go_ret2
  exact⟨by rw[zA HF];rfl,rfl⟩
 | false=>
  have HF:=zC (show zdk r=(1,1) by rw[zA HK,b1,b2,b3,b4,b5];rfl);clear HK;go_enter Tryz.func174,Tryz.ntmps174;go_wp2_with fail;refine (yL r _ _).mono ?_;rintro e w1 ⟨rfl,rfl⟩;go_wp2_with fail;refine (yL r _ _).mono ?_;rintro e w1 ⟨rfl,rfl⟩;go_wp2_with fail;refine (yL r _ _).mono ?_;rintro e w1 ⟨rfl,rfl⟩;go_wp2_with fail;refine (yL r _ _).mono ?_;rintro e w1 ⟨rfl,rfl⟩;go_wp2_with fail;refine (yL r _ _).mono ?_;rintro e w1 ⟨rfl,rfl⟩;go_wp2_with fail
  go_ret2
  exact⟨by rw[zA HF];rfl,rfl⟩
theorem z75 (r:B8)(hr:r.size<=maxLen)(w:W8):
  Calls Tryz.prog 171 #[.string r] w λ e w'=>e=.returned (.tuple #[.int .i64 (zh1 r).1,.int .i64 (zh1 r).2])/\w'=w:=by
 have hle:=zed jD r 0 (Nat.zero_le _);have dH:=hr;unfold maxLen at dH
 by_cases h8:8<skip jD r 0
 ·have HF:=zC (show zh1 r=(1,skip jD r 0) by unfold zh1;rw[if_pos h8]);go_enter Tryz.func171,Tryz.ntmps171;go_wp2_with fail;refine (zfk r hr _).mono ?_;rintro e w1 ⟨rfl,rfl⟩;go_wp2_with fail
  go_ret2
  exact⟨by rw[zA HF];rfl,rfl⟩
 ·cases hn:(r.extract 0 (skip jD r 0)).toList==[110,111,116] with
  | true=>
   have HF:=zC (show zh1 r=(4,skip jD r 0) by unfold zh1;rw[if_neg h8,if_pos (eq_of_beq hn)]);go_enter Tryz.func171,Tryz.ntmps171;go_wp2_with fail;refine (zfk r hr _).mono ?_;rintro e w1 ⟨rfl,rfl⟩;go_wp2_with fail
   go_ret2
   exact⟨by rw[zA HF];rfl,rfl⟩
  | false=>
   have HF:=zC (show zh1 r=(2,skip jD r 0) by unfold zh1;rw[if_neg h8,if_neg (by intro e;rw[e] at hn;simp at hn)]);go_enter Tryz.func171,Tryz.ntmps171;go_wp2_with fail;refine (zfk r hr _).mono ?_;rintro e w1 ⟨rfl,rfl⟩;go_wp2_with fail
   go_ret2
   exact⟨by rw[zA HF];rfl,rfl⟩
theorem zul (r:B8)(hr:r.size<=maxLen)(w:W8):
  Calls Tryz.prog 173 #[.string r] w λ e w'=>e=.returned (.tuple #[.int .i64 (z6b r).1,.int .i64 (z6b r).2])/\w'=w:=by
 by_cases h8:8<skip yZ r 0
 ·have HF:=zC (show z6b r=(1,skip yZ r 0) by unfold z6b;rw[if_pos h8]);go_enter Tryz.func173,Tryz.ntmps173;go_wp2_with fail;refine (zgr r hr _).mono ?_;rintro e w1 ⟨rfl,rfl⟩;go_wp2_with fail
  go_ret2
  exact⟨by rw[zA HF];rfl,rfl⟩
 ·have HF:=zC (show z6b r=(3,skip yZ r 0) by unfold z6b;rw[if_neg h8]);go_enter Tryz.func173,Tryz.ntmps173;go_wp2_with fail;refine (zgr r hr _).mono ?_;rintro e w1 ⟨rfl,rfl⟩;go_wp2_with fail
  go_ret2
  exact⟨by rw[zA HF];rfl,rfl⟩
theorem zvi (r:B8)(hr:r.size<=maxLen)(w:W8):
  Calls Tryz.prog 115 #[.string r] w λ e w'=>e=.returned (.tuple #[.int .i64 (qF r).1,.int .i64 (qF r).2])/\w'=w:=by
 by_cases h0:0<r.size
 ·have he:r.toList.isEmpty=false:=by
   rw[ByteArray.toList_eq,List.isEmpty_eq_false_iff];intro e;have:r.data.toList.length=0:=by rw[e];rfl
   rw[Array.length_toList] at this;have h2:r.data.size=r.size:=rfl;omega
  cases hl:jD r[0].toNat with
  | true=>
   have HF:=zC (show qF r=zh1 r by unfold qF;rw[dif_pos h0,if_pos hl]);go_enter Tryz.func115,Tryz.ntmps115;go_wp2_with fail;refine (zau _ _).mono ?_;rintro e w1 ⟨rfl,rfl⟩;go_wp2_with fail;refine (z75 r hr _).mono ?_;rintro e w1 ⟨rfl,rfl⟩;go_wp2_with fail
   go_ret2
   exact⟨by rw[zA HF];rfl,rfl⟩
  | false=>
   cases hh:yZ r[0].toNat with
   | true=>
    have HF:=zC (show qF r=z6b r by unfold qF;rw[dif_pos h0,if_neg (by rw[hl];decide),if_pos hh]);go_enter Tryz.func115,Tryz.ntmps115;go_wp2_with fail;refine (zau _ _).mono ?_;rintro e w1 ⟨rfl,rfl⟩;go_wp2_with fail;refine (zag _ _).mono ?_;rintro e w1 ⟨rfl,rfl⟩;go_wp2_with fail;refine (zul r hr _).mono ?_;rintro e w1 ⟨rfl,rfl⟩;go_wp2_with fail
    go_ret2
    exact⟨by rw[zA HF];rfl,rfl⟩
   | false=>
    have HF:=zC (show qF r=zdk r by unfold qF;rw[dif_pos h0,if_neg (by rw[hl];decide),if_neg (by rw[hh];decide)]);go_enter Tryz.func115,Tryz.ntmps115;go_wp2_with fail;refine (zau _ _).mono ?_;rintro e w1 ⟨rfl,rfl⟩;go_wp2_with fail;refine (zag _ _).mono ?_;rintro e w1 ⟨rfl,rfl⟩;go_wp2_with fail;refine (z83 r _).mono ?_;rintro e w1 ⟨rfl,rfl⟩;go_wp2_with fail
    go_ret2
    exact⟨by rw[zA HF];rfl,rfl⟩
 ·have he:r.toList.isEmpty=true:=by
   rw[ByteArray.toList_eq,List.isEmpty_iff];apply List.eq_nil_of_length_eq_zero;rw[Array.length_toList];have h2:r.data.size=r.size:=rfl;omega
  have HF:=zC (show qF r=(0,0) by unfold qF;rw[dif_neg h0]);go_enter Tryz.func115,Tryz.ntmps115;go_wp2_with fail
  go_ret2
  exact⟨by rw[zA HF];rfl,rfl⟩
def ycu (k:Int × Nat × Nat):Value:=.agg #[.int .i64 k.1,.int .i64 k.2.1,.int .i64 k.2.2]
theorem zxz (r:B8):(qF r).2<=r.size:=by
 unfold qF
 split
 ·rename_i h;have h1:=zed jD r 0 (Nat.zero_le _);have h2:=zed yZ r 0 (Nat.zero_le _)
  split
  ·unfold zh1;split;exact h1;split <;> exact h1
  ·split
   ·unfold z6b;split <;> exact h2
   ·unfold zdk
    split;exact h
    split;exact h
    split;exact h
    split;exact h
    split
    ·rename_i h5;exact h5.1
    ·exact h
 ·simp
theorem z80 (s:B8)(i:Nat)(hi:i<=s.size)(hs:s.size<=maxLen)(w:W8):
  Calls Tryz.prog 73 #[.string s,.int .i64 i] w λ e w'=>e=.returned (ycu (zD s i))/\Below w.heap.size w w':=by
 have hb:=zmp yG s i hi;have ja:=zed yG s i hi;have im:=hs;unfold maxLen at im;have mg:(s.extract i s.size).size<=maxLen:=by rw[zcg s i];omega
 have qb:=zC mg;have aE:=ztw (s.extract i s.size) mg;generalize skip yG (s.extract i s.size) 0=n0 at *;have F8:zD s i=((qF (s.extract (i+n0) s.size)).1,i+n0,i+n0+(qF (s.extract (i+n0) s.size)).2):=by unfold zD;rw[<-hb]
 have ed:=zxz (s.extract (i+n0) s.size);rw[zcg s _] at ed;have hle:i+n0<=s.size:=by omega
 have JF:(i:Int)+n0<=s.size:=by omega
 have mh:(s.extract (i+n0) s.size).size<=maxLen:=by rw[zcg s _];omega
 have eX:=zvi (s.extract (i+n0) s.size) mh;have Ig:=zC F8;have HR:=zC aE;have Eg:=zC eX;clear hb mg mh qb aE F8 eX ja;go_enter Tryz.func73,Tryz.ntmps73;go_wp2_with fail;refine (zA HR _).mono ?_;rintro e w1 ⟨rfl,rfl⟩;clear HR;go_wp2_with fail;have et:((i:Int)+n0).toNat=i+n0:=by omega
 try rw[et]
 refine (zA Eg _).mono ?_;rintro e w1 ⟨rfl,rfl⟩;clear Eg;generalize qF (s.extract (i+n0) s.size)=K at *;go_wp2_with fail;refine bodyPost_ret (v:=ycu (zD s i)) (by rw[zA Ig];simp[results,Tryz.results73,go_sem,ycu]) rfl ⟨rfl,B9.alloc L9 _⟩
end
section
def z06 (t:Tk):Int:=
 if t.kind=46 then 0 else if t.kind=33 then 1 else if t.kind=110 then 2 else if t.kind=118 then 3 else if t.kind=119 then 4
 else if t.text.toList=[40] then 5 else if t.text.toList=[41] then 6 else if t.text.toList=[44] then 7 else if t.text.toList=[46] then 8 else 9
theorem zqa (s:B8)(k n:Nat)(h:k+n<=s.size):(s.extract k s.size).extract 0 n=s.extract k (k+n):=by
 apply ByteArray.ext;simp[ByteArray.data_extract,Array.extract_extract]
 congr 1
 have:s.data.size=s.size:=rfl;omega
theorem zva (s:B8)(k:Nat)(h:k<s.size):(s.extract k (k+1)).toList=[s[k]]:=by
 rw[ByteArray.toList_eq,ByteArray.data_extract,Array.toList_extract];have h1:s.data.toList.length=s.size:=by rw[Array.length_toList];rfl
 rw[List.extract_eq_take_drop];have e:k+1-k=1:=by omega
 rw[e,List.drop_eq_getElem_cons (by omega)];simp[List.take];rfl
theorem z2n (s:B8)(k:Nat)(h:k+1<s.size):(s.extract k (k+2)).toList=[s[k],s[k+1]]:=by
 rw[ByteArray.toList_eq,ByteArray.data_extract,Array.toList_extract];have h1:s.data.toList.length=s.size:=by rw[Array.length_toList];rfl
 rw[List.extract_eq_take_drop];have e:k+2-k=2:=by omega
 rw[e,List.drop_eq_getElem_cons (by omega),List.drop_eq_getElem_cons (by omega)];simp[List.take];exact⟨rfl,rfl⟩
theorem yc7 (a c:UInt8):a=c↔(a.toNat:Int)=(c.toNat:Int):=by
 constructor
 ·intro h;rw[h]
 ·intro h;exact UInt8.toNat_inj.1 (by omega)
theorem z82 (s:B8)(k:Nat)(hk:k<s.size):zdk (s.extract k s.size) =
  if qG s k=0 then (1,1) else if qG s k=2 then (9,2) else (z06 ⟨115,s.extract k (k+1),k,k+1⟩,1):=by
 have hsz:(s.extract k s.size).size=s.size-k:=zcg s k;have e1:((s.extract k s.size).extract 0 1).toList=[s[k]]:=by rw[zqa s k 1 (by omega),zva s k hk]
 have g1:1<=(s.extract k s.size).size:=by omega
 have t1:=zva s k hk;unfold zdk z06;simp only[e1,g1,true_and,t1,List.cons.injEq,and_true];simp only[yc7];unfold qG;rw[dif_pos hk]
 by_cases rU:(s[k].toNat:Int)=58
 ·rw[if_pos rU];have n1:¬ (s[k].toNat:Int)=((40:UInt8).toNat:Int):=by rw[rU];decide
  have n2:¬ (s[k].toNat:Int)=((41:UInt8).toNat:Int):=by rw[rU];decide
  have n3:¬ (s[k].toNat:Int)=((44:UInt8).toNat:Int):=by rw[rU];decide
  have n4:¬ (s[k].toNat:Int)=((46:UInt8).toNat:Int):=by rw[rU];decide
  rw[if_neg n1,if_neg n2,if_neg n3,if_neg n4]
  by_cases h2:k+1<s.size
  ·have e2:((s.extract k s.size).extract 0 2).toList=[s[k],s[k+1]]:=(by rw[zqa s k 2 (by omega),z2n s k h2]);rw[dif_pos h2,e2];have g2:2<=(s.extract k s.size).size:=(by omega);simp only[g2,true_and,List.cons.injEq,and_true,yc7]
   by_cases Aj:(s[k+1].toNat:Int)=45
   ·rw[if_pos ⟨by rw[rU];rfl,by rw[Aj];rfl⟩,if_pos Aj];simp
   ·rw[if_neg (λ h=>Aj (by rw[h.2];rfl)),if_neg Aj];simp
  ·rw[dif_neg h2,if_neg (by omega)];simp
 ·rw[if_neg rU];have n5:¬ (2<=(s.extract k s.size).size/\((s.extract k s.size).extract 0 2).toList=[58,45]):=by
   rintro⟨g2,h⟩;rw[zqa s k 2 (by omega),z2n s k (by omega)] at h;injection h with h _
   exact rU (by rw[h];rfl)
  rw[if_neg n5]
  by_cases d1:(s[k].toNat:Int)=40
  ·simp[d1]
  ·by_cases d2:(s[k].toNat:Int)=41
   ·simp[d2]
   ·by_cases d3:(s[k].toNat:Int)=44
    ·simp[d3]
    ·by_cases d4:(s[k].toNat:Int)=46
     ·simp[d4]
     ·have m1:¬ (s[k].toNat:Int)=((40:UInt8).toNat:Int):=d1;have m2:¬ (s[k].toNat:Int)=((41:UInt8).toNat:Int):=d2;have m3:¬ (s[k].toNat:Int)=((44:UInt8).toNat:Int):=d3;have m4:¬ (s[k].toNat:Int)=((46:UInt8).toNat:Int):=d4;rw[if_neg m1,if_neg m2,if_neg m3,if_neg m4];simp[d1,d2,d3,d4]
theorem zoe (s:B8)(k:Nat):qG s k=0\/qG s k=1\/qG s k=2:=by
 unfold qG
 split
 ·split
  ·split
   ·split <;> simp
   ·simp
  ·split <;> simp
 ·simp
theorem z81 (s:B8)(i:Nat)(hi:i<=s.size):zD s i=(z06 (tok s i),(tok s i).at_,(tok s i).to):=by
 have hk:=zed yG s i hi;unfold zD tok;generalize skip yG s i=k at *;have hsz:(s.extract k s.size).size=s.size-k:=zcg s k
 by_cases h0:s.size<=k
 ·have e:k=s.size:=by omega
  rw[z05,if_pos h0];unfold qF;rw[dif_neg (by omega)];simp[z06,e]
 ·have bP:k<s.size:=by omega
  have hl:=zmp jD s k hk;have hh:=zmp yZ s k hk;have oa:0<(s.extract k s.size).size:=by omega
  have hg:(s.extract k s.size)[0]=s[k]:=by have:=zu9 s k 0 (by omega) oa;simpa using this
  rw[z05,if_neg h0];unfold qF;rw[dif_pos oa]
  by_cases aX:k<skip jD s k
  ·have oo:jD s[k].toNat=true:=by
    cases hb:jD s[k].toNat with
    | true=>rfl
    | false=>rw[zbc jD s k bP hb] at aX;omega
   have nJ:skip jD (s.extract k s.size) 0=skip jD s k-k:=(by omega);have hle:=zed jD s k hk;have hex:(s.extract k s.size).extract 0 (skip jD s k-k)=s.extract k (skip jD s k):=by
    rw[zqa s k _ (by omega)];congr 1;omega
   rw[if_pos (by rw[hg];exact oo),if_pos aX];unfold zh1;rw[nJ,hex]
   by_cases h8:8<skip jD s k-k
   ·have nF:¬ (s.extract k (skip jD s k)).toList=[110,111,116]:=by
     intro e;have:(s.extract k (skip jD s k)).toList.length=3:=by rw[e];rfl
     rw[ByteArray.toList_eq,Array.length_toList] at this;have h2:(s.extract k (skip jD s k)).data.size=(s.extract k (skip jD s k)).size:=rfl;rw[h2,ByteArray.size_extract] at this;omega
    rw[if_pos h8,if_neg nF,if_neg (by omega)];simp[z06];omega
   ·by_cases hn:(s.extract k (skip jD s k)).toList=[110,111,116]
    ·rw[if_neg h8,if_pos hn,if_pos hn];simp[z06];omega
    ·rw[if_neg h8,if_neg hn,if_neg hn,if_pos (by omega)];simp[z06];omega
  ·have oo:jD s[k].toNat=false:=by
    cases hb:jD s[k].toNat with
    | false=>rfl
    | true=>
     have h1:=zbb jD s k bP hb;have h2:=z5i jD s (k+1);omega
   rw[if_neg (by rw[hg,oo];decide),if_neg aX]
   by_cases hhigh:k<skip yZ s k
   ·have CC:yZ s[k].toNat=true:=by
     cases hb:yZ s[k].toNat with
     | true=>rfl
     | false=>rw[zbc yZ s k bP hb] at hhigh;omega
    have nJ:skip yZ (s.extract k s.size) 0=skip yZ s k-k:=(by omega);rw[if_pos (by rw[hg];exact CC),if_pos hhigh];unfold z6b;rw[nJ]
    by_cases h8:8<skip yZ s k-k
    ·rw[if_pos h8,if_neg (by omega)];simp[z06];omega
    ·rw[if_neg h8,if_pos (by omega)];simp[z06];omega
   ·have CC:yZ s[k].toNat=false:=by
     cases hb:yZ s[k].toNat with
     | false=>rfl
     | true=>
      have h1:=zbb yZ s k bP hb;have h2:=z5i yZ s (k+1);omega
    rw[if_neg (by rw[hg,CC];decide),if_neg hhigh,z82 s k bP];rcases zoe s k with h | h | h
    ·rw[if_pos h,if_pos h];simp[z06]
    ·rw[if_neg (by omega),if_neg (by omega),if_neg (by omega),if_neg (by omega)]
    ·rw[if_neg (by omega),if_pos h,if_neg (by omega),if_pos h];have e:({ data:=#[58,45] }:B8).toList=[58,45]:=(by rw[ByteArray.toList_eq]);simp[z06,e]
end
section
open Go.RowKit
theorem yB {a b:B8}:(a.toList==b.toList)=true↔a=b:=by
 rw[beq_iff_eq,ByteArray.toList_eq,ByteArray.toList_eq];exact⟨λ h=>ByteArray.ext (Array.toList_inj.1 h),λ h=>by rw[h]⟩
theorem zlo:∀ x:List UInt8,Op.bytesLess x x=false
 | []=>rfl
 | a::r=>by simp[Op.bytesLess,zlo r]
theorem N9:∀ x y z:List UInt8,Op.bytesLess x y=true->Op.bytesLess y z=true->Op.bytesLess x z=true
 | _,[],_,h,_=>by simp[Op.bytesLess] at h
 | _,_::_,[],_,h=>by simp[Op.bytesLess] at h
 | [],_::_,_::_,_,_=>rfl
 | a::x,b::y,c::z,h1,h2=>by
  simp only[Op.bytesLess,Bool.or_eq_true,Bool.and_eq_true,decide_eq_true_eq,beq_iff_eq] at h1 h2 ⊢;rcases h1 with h1 | ⟨rfl,h1⟩
  ·rcases h2 with h2 | ⟨rfl,_⟩
   ·exact .inl (UInt8.lt_trans h1 h2)
   ·exact .inl h1
  ·rcases h2 with h2 | ⟨rfl,h2⟩
   ·exact .inl h2
   ·exact .inr ⟨rfl,N9 x y z h1 h2⟩
theorem zxo:∀ x y:List UInt8,Op.bytesLess x y=false->Op.bytesLess y x=false->x=y
 | [],[],_,_=>rfl
 | [],_::_,h,_=>by simp[Op.bytesLess] at h
 | _::_,[],_,h=>by simp[Op.bytesLess] at h
 | a::x,b::y,h1,h2=>by
  simp only[Op.bytesLess,Bool.or_eq_false_iff,Bool.and_eq_false_iff,decide_eq_false_iff_not,beq_eq_false_iff_ne,ne_eq] at h1 h2;have Ao:a=b:=UInt8.le_antisymm (UInt8.not_lt.1 h2.1) (UInt8.not_lt.1 h1.1);subst Ao;rw[zxo x y (h1.2.resolve_left (λ h=>h rfl)) (h2.2.resolve_left (λ h=>h rfl))]
def ze8 (x y:B8):Bool:=Op.bytesLess x.toList y.toList
theorem zsp (x:B8):ze8 x x=false:=zlo _
variable {x y:B8}
theorem OE {z:B8}(h1:ze8 x y=true)(h2:ze8 y z=true):ze8 x z=true:=N9 _ _ _ h1 h2
theorem OC (h1:ze8 x y=false)(h2:ze8 y x=false):x=y:=yB.1 (by rw[beq_iff_eq];exact zxo _ _ h1 h2)
def zw7 (x y:B8):Int:=if ze8 x y then -1 else if x.toList==y.toList then 0 else 1
end
section
open Go.RowKit
abbrev zY:=List (B8 × B8)
abbrev zca:=Bool × B8
def pAt:zY->B8->Option B8
 | [],_=>none
 | x::r,n=>if x.1.toList==n.toList then some x.2 else pAt r n
def dR (e:zY)(n:B8):B8:=(pAt e n).getD { data:=#[] }
variable {e:zY}
theorem z8f {k:Nat}{n:B8}(h:k<e.length):pAt (e.drop k) n=if e[k].1.toList==n.toList then some e[k].2 else pAt (e.drop (k+1)) n:=by
 rw[List.drop_eq_getElem_cons h];rfl
def eAt (e:zY)(i:Nat):B8 × B8:=(e[i]?).getD ({ data:=#[] },{ data:=#[] })
def zT (e:zY):V8:=
 [.int .i64 (e.length:Nat),.string (eAt e 0).1,.string (eAt e 0).2,.string (eAt e 1).1,.string (eAt e 1).2,.string (eAt e 2).1,.string (eAt e 2).2,.string (eAt e 3).1,.string (eAt e 3).2,.string (eAt e 4).1,.string (eAt e 4).2,.string (eAt e 5).1,.string (eAt e 5).2,
 .string (eAt e 6).1,.string (eAt e 6).2,.string (eAt e 7).1,.string (eAt e 7).2,.string (eAt e 8).1,.string (eAt e 8).2,.string (eAt e 9).1,.string (eAt e 9).2,.string (eAt e 10).1,.string (eAt e 10).2,.string (eAt e 11).1,.string (eAt e 11).2]
def jA (e:zY):Value:=.agg (zT e).toArray
variable {i:Nat}
theorem zae (e:zY)(h:i<12):(zT e)[1+i*2]?=some (.string (eAt e i).1):=by
 match i,h with
 | 0,_ | 1,_ | 2,_ | 3,_ | 4,_ | 5,_ | 6,_ | 7,_ | 8,_ | 9,_ | 10,_ | 11,_=>rfl
theorem qI (e:zY)(h:i<12):(zT e)[1+i*2+1]?=some (.string (eAt e i).2):=by
 match i,h with
 | 0,_ | 1,_ | 2,_ | 3,_ | 4,_ | 5,_ | 6,_ | 7,_ | 8,_ | 9,_ | 10,_ | 11,_=>rfl
theorem yd2 (h:i<e.length):eAt e i=e[i]:=by unfold eAt;rw[List.getElem?_eq_getElem h];rfl
def z9w (w:W8)(b:Nat)(e:zY):Prop:=∀ j v,(zT e)[j]?=some v->w.cell? ⟨b,j,none⟩=some v
theorem zti (w:W8)(b:Nat)(e:zY)(v:B8)(h:z9w w b e)(hl:e.length<=12):
  Calls Tryz.prog 201 #[.pointer (some ⟨b,0,none⟩),.string v] w λ en w'=>en=.returned (.tuple #[.string (dR e v),.bool (pAt e v).isSome])/\w'=w:=by
 have c0:=h 0 _ rfl;have HB:=zC h;clear h;go_enter Tryz.func201,Tryz.ntmps201;go_wp2_with fail
 go_loop [11] (λ i=>∃ k:Nat,k<=e.length/\i=.int .i64 k/\pAt (e.drop k) v=pAt e v) (λ i=>e.length-(intOf i).toNat)
 exact⟨0,Nat.zero_le _,rfl,rfl⟩
 case round=>
  obtain⟨k,hk,rfl,bj⟩:=hrel;have HF:=zC bj;clear bj
  by_cases aN:k<e.length
  ·have d1:=zA HB _ _ (zae e (i:=k) (by omega));have d2:=zA HB _ _ (qI e (i:=k) (by omega));rw[yd2 aN] at d1 d2;have HS:=zC (z8f (n:=v) aN);have qj:(k:Int)<e.length:=(by omega);have lG:(k:Int)<12:=by omega
   cases hq:e[k].1.toList==v.toList with
   | true=>
    have HE:=zC (show pAt e v=some e[k].2 by rw[<-zA HF,zA HS,if_pos hq]);go_wp2_with fail
    go_ret2
    exact⟨by unfold dR;rw[zA HE];rfl,rfl⟩
   | false=>
    have HE:=zC (show pAt (e.drop (k+1)) v=pAt e v by rw[<-zA HF,zA HS,if_neg (by rw[hq];decide)]);go_wp2_with fail
    go_round
    case rel=>exact⟨k+1,by omega,by go_num,zA HE⟩
    case measure=>simp[intOf];omega
  ·have HE:=zC (show pAt e v=none by rw[<-zA HF,List.drop_of_length_le (by omega)];rfl);go_wp2_with fail
   go_ret2
   exact⟨by unfold dR;rw[zA HE];rfl,rfl⟩
end
end Go.Proofs.YtldkpahaocjdpaaGreat
