/-
  Plain, no walk: what a token of a text is, as the document's section Words says it: blanks are passed by; a row of a..z and 0..9, a row of A..Z, the signs ( ) , . :- ; all else is none.
-/
import Derived.Test.YtldkpahaocjdpaaGreatC00
import Derived.Below
import Derived.Test.YtldkpahaocjdpaaGreatProg
import Derived.WalkKit
import Derived.WalkSpells
import Derived.WalkLawsBesides
import Derived.Deep.QuietTactic
import Derived.BigQuiet
import Derived.Lib.Strings
import Derived.Laws.Strings
set_option maxHeartbeats 16000000
set_option maxRecDepth 1000000
namespace Go.Proofs.YtldkpahaocjdpaaGreat
section
def xP (c:Int):Bool:=(decide (97<=c)&&decide (c<=122))||(decide (48<=c)&&decide (c<=57))
def yJ (c:Int):Bool:=decide (65<=c)&&decide (c<=90)
def zO (c:Int):Bool:=decide (c=32)||decide (c=10)
def skip (p:Int->Bool)(s:B8)(i:Nat):Nat:=
 if h:i<s.size then (if p s[i].toNat then skip p s (i+1) else i) else i
termination_by s.size-i
theorem xW (p:Int->Bool)(s:B8)(i:Nat)(h:i<s.size)(hp:p s[i].toNat=true):skip p s i=skip p s (i+1):=by
 rw[skip];simp[h,hp]
theorem xX (p:Int->Bool)(s:B8)(i:Nat)(h:i<s.size)(hp:p s[i].toNat=false):skip p s i=i:=by
 rw[skip];simp[h,hp]
theorem jF (p:Int->Bool)(s:B8)(i:Nat)(h:¬ i<s.size):skip p s i=i:=by
 rw[skip];simp[h]
theorem zn6 (p:Int->Bool)(s:B8)(i:Nat):i<=skip p s i:=by
 fun_induction skip p s i <;> omega
theorem zb8 (p:Int->Bool)(s:B8)(i:Nat)(h:i<=s.size):skip p s i<=s.size:=by
 fun_induction skip p s i <;> omega
def zoz (s:B8)(i:Nat):Nat:=if h:i<s.size then s[i].toNat else 256
variable {i:Nat} {s:B8}
theorem zo0 (h:i<s.size):zoz s i=s[i].toNat:=by simp[zoz,h]
structure Tk where
 kind:Int
 text:B8
 at_:Nat
 to:Nat
def xG (s:B8)(i:Nat):Nat:=
 if h:i<s.size then
  (if (s[i].toNat:Int)=58 then (if h2:i+1<s.size then (if (s[i+1].toNat:Int)=45 then 2 else 0) else 0)
  else if (s[i].toNat:Int)=40\/(s[i].toNat:Int)=41\/(s[i].toNat:Int)=44\/(s[i].toNat:Int)=46 then 1 else 0)
 else 0
def zgh (s:B8)(i:Nat):Tk:=
 if s.size<=i then ⟨46,⟨#[]⟩,s.size,i⟩
 else if i<skip xP s i then
  (if (s.extract i (skip xP s i)).toList=[110,111,116] then ⟨119,s.extract i (skip xP s i),i,skip xP s i⟩
  else if skip xP s i-i<=8 then ⟨110,s.extract i (skip xP s i),i,skip xP s i⟩
  else ⟨33,⟨#[]⟩,i,skip xP s i⟩)
 else if i<skip yJ s i then
  (if skip yJ s i-i<=8 then ⟨118,s.extract i (skip yJ s i),i,skip yJ s i⟩
  else ⟨33,⟨#[]⟩,i,skip yJ s i⟩)
 else if xG s i=0 then ⟨33,⟨#[]⟩,i,i+1⟩
 else if xG s i=2 then ⟨115,⟨#[58,45]⟩,i,i+2⟩
 else ⟨115,s.extract i (i+1),i,i+1⟩
def tok (s:B8)(i:Nat):Tk:=zgh s (skip zO s i)
variable {k:Nat}
theorem z8k (h:skip zO s i=k)(hk:s.size<=k):tok s i=⟨46,⟨#[]⟩,s.size,k⟩:=by
 unfold tok;rw[h];simp[zgh,hk]
variable {m:Nat}
theorem z13 (h:skip zO s i=k)(hk:k<s.size)(hm:skip xP s k=m)(nQ:k<m)(ht:((s.extract k m).toList==[110,111,116])=true):
  tok s i=⟨119,s.extract k m,k,m⟩:=by
 have El:(s.extract k m).toList=[110,111,116]:=eq_of_beq ht;unfold tok;rw[h,zgh,if_neg (by omega),hm,if_pos nQ,if_pos El]
theorem zup (h:skip zO s i=k)(hk:k<s.size)(hm:skip xP s k=m)(nQ:k<m)(ht:((s.extract k m).toList==[110,111,116])=false)(h8:((m-k:Nat):Int)<=8):
  tok s i=⟨110,s.extract k m,k,m⟩:=by
 have El:¬ (s.extract k m).toList=[110,111,116]:=λ e=>by rw[e] at ht;simp at ht
 unfold tok;rw[h,zgh,if_neg (by omega),hm,if_pos nQ,if_neg El,if_pos (by omega)]
theorem zuo (h:skip zO s i=k)(hk:k<s.size)(hm:skip xP s k=m)(nQ:k<m)(ht:((s.extract k m).toList==[110,111,116])=false)(h8:8<((m-k:Nat):Int)):
  tok s i=⟨33,⟨#[]⟩,k,m⟩:=by
 have El:¬ (s.extract k m).toList=[110,111,116]:=λ e=>by rw[e] at ht;simp at ht
 unfold tok;rw[h,zgh,if_neg (by omega),hm,if_pos nQ,if_neg El,if_neg (by omega)]
theorem z14 (h:skip zO s i=k)(hk:k<s.size)(hl:skip xP s k=k)(hm:skip yJ s k=m)(nQ:k<m)(h8:(m:Int)-k<=8):
  tok s i=⟨118,s.extract k m,k,m⟩:=by
 unfold tok;rw[h,zgh,if_neg (by omega),if_neg (by omega),hm,if_pos nQ,if_pos (by omega)]
theorem zkx (h:skip zO s i=k)(hk:k<s.size)(hl:skip xP s k=k)(hm:skip yJ s k=m)(nQ:k<m)(h8:8<(m:Int)-k):
  tok s i=⟨33,⟨#[]⟩,k,m⟩:=by
 unfold tok;rw[h,zgh,if_neg (by omega),if_neg (by omega),hm,if_pos nQ,if_neg (by omega)]
theorem z5l (h:skip zO s i=k)(hk:k<s.size)(hl:skip xP s k=k)(hm:skip yJ s k=k)(hn:xG s k=2):
  tok s i=⟨115,⟨#[58,45]⟩,k,k+2⟩:=by
 unfold tok;rw[h,zgh,if_neg (by omega),if_neg (by omega),if_neg (by omega),hn,if_neg (by omega),if_pos rfl]
theorem zji (h:skip zO s i=k)(hk:k<s.size)(hl:skip xP s k=k)(hm:skip yJ s k=k)(hn:xG s k=1):
  tok s i=⟨115,s.extract k (k+1),k,k+1⟩:=by
 unfold tok;rw[h,zgh,if_neg (by omega),if_neg (by omega),if_neg (by omega),hn,if_neg (by omega),if_neg (by omega)]
theorem zob (h:skip zO s i=k)(hk:k<s.size)(hl:skip xP s k=k)(hm:skip yJ s k=k)(hn:xG s k=0):
  tok s i=⟨33,⟨#[]⟩,k,k+1⟩:=by
 unfold tok;rw[h,zgh,if_neg (by omega),if_neg (by omega),if_neg (by omega),if_pos hn]
theorem zqr (hk:k<s.size)(h1:(s[k].toNat:Int)=58)(h2:k+1<s.size)(h3:(s[k+1].toNat:Int)=45):xG s k=2:=by
 simp[xG,hk,h1,h2,h3]
theorem zhd (hk:k<s.size)(h1:(s[k].toNat:Int)=58)(h2:∀ h:k+1<s.size,¬ (s[k+1].toNat:Int)=45):xG s k=0:=by
 by_cases h:k+1<s.size
 ·simp[xG,hk,h1,h,h2 h]
 ·simp[xG,hk,h1,h]
theorem zdp (hk:k<s.size)(h1:¬ (s[k].toNat:Int)=58)(h2:(s[k].toNat:Int)=40\/(s[k].toNat:Int)=41\/(s[k].toNat:Int)=44\/(s[k].toNat:Int)=46):xG s k=1:=by
 rw[xG,dif_pos hk,if_neg h1,if_pos h2]
theorem zwz (hk:k<s.size)(h1:¬ (s[k].toNat:Int)=58)(h2:¬ ((s[k].toNat:Int)=40\/(s[k].toNat:Int)=41\/(s[k].toNat:Int)=44\/(s[k].toNat:Int)=46)):xG s k=0:=by
 rw[xG,dif_pos hk,if_neg h1,if_neg h2]
end
section
open Go.RowKit
variable {p:Prop}
theorem zC (h:p):Hid p:=h
theorem zA (h:Hid p):p:=h
theorem zal (c:Int)(w:W8):
  Calls Tryz.prog 182 #[.int .u8 c] w λ e w'=>e=.returned (.bool (xP c))/\w'=w:=by
 go_enter Tryz.func182,Tryz.ntmps182
 go_wp2
 all_goals go_ret
 all_goals exact⟨by simp[xP, *];try omega,rfl⟩
theorem qF (c:Int)(w:W8):
  Calls Tryz.prog 183 #[.int .u8 c] w λ e w'=>e=.returned (.bool (yJ c))/\w'=w:=by
 go_enter Tryz.func183,Tryz.ntmps183
 go_wp2
 all_goals go_ret
 all_goals exact⟨by simp[yJ, *];try omega,rfl⟩
theorem more {x:Int}{j:Nat}{l:List Int}{d:Int}(h:∀ c,c∈l.take j->x≠c)(hd:¬ x=d){j':Nat}(hj:j'=j+1)(hl:l[j]?=some d):∀ c,c∈l.take j'->x≠c:=by
 subst hj;intro c hc;rw[List.take_add_one,hl] at hc;simp at hc;rcases hc with hc | hc
 ·exact h c hc
 ·subst hc;exact hd
def vC (t:Tk):Value:=.agg #[.int .u8 t.kind,.string t.text,.int .i64 t.at_]
end
section
open Go.RowKit
theorem za5 (c:Int)(w:W8):
  Calls Tryz.prog 170 #[.int .u8 c] w λ e w'=>e=.returned (.bool (xP c))/\w'=w:=by
 go_enter Tryz.func170,Tryz.ntmps170
 go_wp2
 all_goals go_ret
 all_goals exact⟨by simp[xP, *];try omega,rfl⟩
theorem zak (c:Int)(w:W8):
  Calls Tryz.prog 172 #[.int .u8 c] w λ e w'=>e=.returned (.bool (yJ c))/\w'=w:=by
 go_enter Tryz.func172,Tryz.ntmps172
 go_wp2
 all_goals go_ret
 all_goals exact⟨by simp[yJ, *];try omega,rfl⟩
theorem zf3 (c:Int)(w:W8):
  Calls Tryz.prog 114 #[.int .u8 c] w λ e w'=>e=.returned (.bool (zO c))/\w'=w:=by
 go_enter Tryz.func114,Tryz.ntmps114
 go_wp2
 all_goals go_ret
 ·exact⟨by simp[zO, *],rfl⟩
 ·exact⟨by rename_i h;show Ending.returned (Value.bool (c==32||c==10))=_;congr 2,rfl⟩
theorem zem (s:B8)(hs:s.size<=maxLen)(w:W8):
  Calls Tryz.prog 113 #[.string s,.func (.func 170) #[] #[]] w λ e w'=>e=.returned (.int .i64 (skip xP s 0))/\w'=w:=by
 unfold maxLen at hs;go_enter Tryz.func113,Tryz.ntmps113
 go_wp2
 go_loop [5] (λ t=>∃ m:Nat,m<=s.size/\t=.int .i64 m/\skip xP s m=skip xP s 0) (λ t=>s.size-(intOf t).toNat)
 exact⟨0,Nat.zero_le _,rfl,rfl⟩
 case round=>
  obtain⟨m,hm,rfl,cE⟩:=hrel;have HM:Hid (skip xP s m=skip xP s 0):=cE;clear cE
  by_cases bh:m<s.size
  ·cases cC:xP s[m].toNat with
   | true=>
    have rR:Hid (skip xP s (m+1)=skip xP s 0):=(xW xP s m bh cC).symm.trans HM.out;go_wp2_with (go_at_call 170;refine (za5 _ _).mono ?_;rintro e w' ⟨rfl,rfl⟩)
    go_round
    case rel=>exact⟨m+1,by omega,by go_num,rR.out⟩
    case measure=>simp[intOf];omega
   | false=>
    have HN:=zC (HM.out.symm.trans (xX xP s m bh cC));go_wp2_with (go_at_call 170;refine (za5 _ _).mono ?_;rintro e w' ⟨rfl,rfl⟩);go_ret;exact⟨by rw[zA HN];rfl,rfl⟩
  ·have HN:=zC (HM.out.symm.trans (jF xP s m bh));go_wp2_with (go_at_call 170;refine (za5 _ _).mono ?_;rintro e w' ⟨rfl,rfl⟩);go_ret;exact⟨by rw[zA HN];rfl,rfl⟩
theorem zfl (s:B8)(hs:s.size<=maxLen)(w:W8):
  Calls Tryz.prog 113 #[.string s,.func (.func 172) #[] #[]] w λ e w'=>e=.returned (.int .i64 (skip yJ s 0))/\w'=w:=by
 unfold maxLen at hs;go_enter Tryz.func113,Tryz.ntmps113
 go_wp2
 go_loop [5] (λ t=>∃ m:Nat,m<=s.size/\t=.int .i64 m/\skip yJ s m=skip yJ s 0) (λ t=>s.size-(intOf t).toNat)
 exact⟨0,Nat.zero_le _,rfl,rfl⟩
 case round=>
  obtain⟨m,hm,rfl,cE⟩:=hrel;have HM:Hid (skip yJ s m=skip yJ s 0):=cE;clear cE
  by_cases bh:m<s.size
  ·cases cC:yJ s[m].toNat with
   | true=>
    have rR:Hid (skip yJ s (m+1)=skip yJ s 0):=(xW yJ s m bh cC).symm.trans HM.out;go_wp2_with (go_at_call 172;refine (zak _ _).mono ?_;rintro e w' ⟨rfl,rfl⟩)
    go_round
    case rel=>exact⟨m+1,by omega,by go_num,rR.out⟩
    case measure=>simp[intOf];omega
   | false=>
    have HN:=zC (HM.out.symm.trans (xX yJ s m bh cC));go_wp2_with (go_at_call 172;refine (zak _ _).mono ?_;rintro e w' ⟨rfl,rfl⟩);go_ret;exact⟨by rw[zA HN];rfl,rfl⟩
  ·have HN:=zC (HM.out.symm.trans (jF yJ s m bh));go_wp2_with (go_at_call 172;refine (zak _ _).mono ?_;rintro e w' ⟨rfl,rfl⟩);go_ret;exact⟨by rw[zA HN];rfl,rfl⟩
theorem zqe (s:B8)(hs:s.size<=maxLen)(w:W8):
  Calls Tryz.prog 113 #[.string s,.func (.func 114) #[] #[]] w λ e w'=>e=.returned (.int .i64 (skip zO s 0))/\w'=w:=by
 unfold maxLen at hs;go_enter Tryz.func113,Tryz.ntmps113
 go_wp2
 go_loop [5] (λ t=>∃ m:Nat,m<=s.size/\t=.int .i64 m/\skip zO s m=skip zO s 0) (λ t=>s.size-(intOf t).toNat)
 exact⟨0,Nat.zero_le _,rfl,rfl⟩
 case round=>
  obtain⟨m,hm,rfl,cE⟩:=hrel;have HM:Hid (skip zO s m=skip zO s 0):=cE;clear cE
  by_cases bh:m<s.size
  ·cases cC:zO s[m].toNat with
   | true=>
    have rR:Hid (skip zO s (m+1)=skip zO s 0):=(xW zO s m bh cC).symm.trans HM.out;go_wp2_with (go_at_call 114;refine (zf3 _ _).mono ?_;rintro e w' ⟨rfl,rfl⟩)
    go_round
    case rel=>exact⟨m+1,by omega,by go_num,rR.out⟩
    case measure=>simp[intOf];omega
   | false=>
    have HN:=zC (HM.out.symm.trans (xX zO s m bh cC));go_wp2_with (go_at_call 114;refine (zf3 _ _).mono ?_;rintro e w' ⟨rfl,rfl⟩);go_ret;exact⟨by rw[zA HN];rfl,rfl⟩
  ·have HN:=zC (HM.out.symm.trans (jF zO s m bh));go_wp2_with (go_at_call 114;refine (zf3 _ _).mono ?_;rintro e w' ⟨rfl,rfl⟩);go_ret;exact⟨by rw[zA HN];rfl,rfl⟩
end
section
theorem zcm (s:B8)(a:Nat):(s.extract a s.size).size=s.size-a:=by
 simp[ByteArray.size_extract]
theorem zrn (s:B8)(a j:Nat)(h:a+j<s.size)(h':j<(s.extract a s.size).size):(s.extract a s.size)[j]=s[a+j]:=by
 simp[ByteArray.getElem_extract]
theorem z45 (p:Int->Bool)(s:B8)(a:Nat)(ha:a<=s.size):∀ (d j:Nat),s.size-(a+j)=d->a+j<=s.size->a+skip p (s.extract a s.size) j=skip p s (a+j):=by
 intro d
 induction d with
 | zero=>
  intro j hd hj;rw[jF p s (a+j) (by omega),jF p _ j (by rw[zcm s a];omega)]
 | succ d ih=>
  intro j hd hj;have h1:a+j<s.size:=by omega
  have h2:j<(s.extract a s.size).size:=by rw[zcm s a];omega
  cases hp:p s[a+j].toNat with
  | true=>
   rw[xW p s (a+j) h1 hp,xW p _ j h2 (by rw[zrn s a j h1 h2];exact hp)];have:=ih (j+1) (by omega) (by omega);rw[this,Nat.add_assoc]
  | false=>
   rw[xX p s (a+j) h1 hp,xX p _ j h2 (by rw[zrn s a j h1 h2];exact hp)]
theorem zkm (p:Int->Bool)(s:B8)(a:Nat)(ha:a<=s.size):a+skip p (s.extract a s.size) 0=skip p s a:=
 z45 p s a ha _ 0 rfl (by omega)
def zgd (r:B8):Int × Nat:=
 if 1<=r.size/\(r.extract 0 1).toList=[40] then (5,1)
 else if 1<=r.size/\(r.extract 0 1).toList=[41] then (6,1)
 else if 1<=r.size/\(r.extract 0 1).toList=[44] then (7,1)
 else if 1<=r.size/\(r.extract 0 1).toList=[46] then (8,1)
 else if 2<=r.size/\(r.extract 0 2).toList=[58,45] then (9,2)
 else (1,1)
def ziz (r:B8):Int × Nat:=if 8<skip xP r 0 then (1,skip xP r 0) else if (r.extract 0 (skip xP r 0)).toList=[110,111,116] then (4,skip xP r 0) else (2,skip xP r 0)
def z2n (r:B8):Int × Nat:=if 8<skip yJ r 0 then (1,skip yJ r 0) else (3,skip yJ r 0)
def rP (r:B8):Int × Nat:=
 if h:0<r.size then (if xP r[0].toNat then ziz r else if yJ r[0].toNat then z2n r else zgd r) else (0,0)
def zG (s:B8)(i:Nat):Int × Nat × Nat:=((rP (s.extract (skip zO s i) s.size)).1,skip zO s i,skip zO s i+(rP (s.extract (skip zO s i) s.size)).2)
end
section
open Go.RowKit
theorem zyu (s:B8)(i:Nat)(hi:i<=s.size)(hs:s.size<=maxLen)(w:W8)(K0:skip zO s i<s.size)(K1:skip xP s (skip zO s i)=skip zO s i)(K2:skip yJ s (skip zO s i)=skip zO s i)(K3:¬ (zoz s (skip zO s i):Int)=58):
  Calls Tryz.prog 123 #[.string s,.int .i64 i] w λ e w'=>e=.returned (.tuple #[vC (tok s i),.int .i64 (tok s i).to])/\Below w.heap.size w w':=by
 unfold maxLen at hs;go_enter Tryz.func123,Tryz.ntmps123
 go_wp2
 go_loop [1] (λ t=>∃ k:Nat,i<=k/\k<=s.size/\t=.int .i64 k/\skip zO s k=skip zO s i) (λ t=>s.size-(intOf t).toNat)
 exact⟨i,Nat.le_refl _,hi,rfl,rfl⟩
 case round=>
  obtain⟨k,Lp,hk,rfl,od⟩:=hrel;have HS:Hid (skip zO s k=skip zO s i):=od;clear od
  by_cases aG:k<s.size
  ·by_cases hb:zO s[k].toNat=true
   ·have HB:Hid (skip zO s (k+1)=skip zO s i):=(xW zO s k aG hb).symm.trans HS.out;have hc:(s[k].toNat:Int)=32\/(s[k].toNat:Int)=10:=(by simpa[zO] using hb);clear hb HS;rcases hc with hc | hc
    all_goals
     go_wp2
     go_round
     case rel=>exact⟨k+1,by omega,by omega,by go_num,HB.out⟩
     case measure=>simp[intOf];omega
   ·have kH:zO s[k].toNat=false:=(by simpa using hb);have HB:Hid (skip zO s i=k):=HS.out.symm.trans (xX zO s k aG kH);have oO:((s[k].toNat:Int)==32)=false:=(by simp[zO] at kH;simp[kH.1]);have nN:((s[k].toNat:Int)==10)=false:=(by simp[zO] at kH;simp[kH.2]);clear hb kH HS;have EY:skip xP s k=k:=(by have:=K1;rwa [HB.out] at this);have K':=zC EY;clear K1 EY;have Bc:=zC (show skip yJ s k=k by rwa [HB.out] at K2);clear K2 K0;have J9:=zC (show ¬ (s[k].toNat:Int)=58 by rw[HB.out,zo0 aG] at K3;exact K3);clear K3
    go_wp2
    go_loop [6] (λ t=>∃ m:Nat,k<=m/\m<=s.size/\t=.int .i64 m/\skip xP s m=skip xP s k) (λ t=>s.size-(intOf t).toNat)
    exact⟨k,Nat.le_refl _,hk,rfl,rfl⟩
    case round=>
     obtain⟨m,nQ,hm,rfl,cE⟩:=hrel;have HM:Hid (skip xP s m=skip xP s k):=cE;clear cE
     by_cases hgo:∃ h:m<s.size,xP s[m].toNat=true
     ·obtain⟨bh,cC⟩:=hgo;have rR:Hid (skip xP s (m+1)=skip xP s k):=(xW xP s m bh cC).symm.trans HM.out;go_wp2_with (go_at_call 182;refine (zal _ _).mono ?_;rintro e w' ⟨rfl,rfl⟩)
      go_round
      case rel=>exact⟨m+1,by omega,by omega,by go_num,rR.out⟩
      case measure=>simp[intOf];omega
     ·have nY:Hid (skip xP s k=m):=by
       refine HM.out.symm.trans ?_
       by_cases bh:m<s.size
       ·exact xX _ _ _ bh (by cases h:xP s[m].toNat;rfl;exact absurd ⟨bh,h⟩ hgo)
       ·exact jF _ _ _ bh
      have sh:k=m:=(by rw[<-nY.out];exact (zA K').symm);subst sh;have cC:xP s[k].toNat=false:=(by cases h:xP s[k].toNat;rfl;exact absurd ⟨aG,h⟩ hgo);clear hgo HM nQ hm K';go_wp2_with (go_at_call 182;refine (zal _ _).mono ?_;rintro e w' ⟨rfl,rfl⟩)
      go_loop [6] (λ t=>∃ m:Nat,k<=m/\m<=s.size/\t=.int .i64 m/\skip yJ s m=skip yJ s k) (λ t=>s.size-(intOf t).toNat)
      exact⟨k,Nat.le_refl _,hk,rfl,rfl⟩
      case round=>
       obtain⟨m,nQ,hm,rfl,cE⟩:=hrel;have HN:Hid (skip yJ s m=skip yJ s k):=cE;clear cE
       by_cases hgo:∃ h:m<s.size,yJ s[m].toNat=true
       ·obtain⟨bh,Fj⟩:=hgo;have rR:Hid (skip yJ s (m+1)=skip yJ s k):=(xW yJ s m bh Fj).symm.trans HN.out;go_wp2_with (go_at_call 183;refine (qF _ _).mono ?_;rintro e w' ⟨rfl,rfl⟩)
        go_round
        case rel=>exact⟨m+1,by omega,by omega,by go_num,rR.out⟩
        case measure=>simp[intOf];omega
       ·have tz:Hid (skip yJ s k=m):=by
         refine HN.out.symm.trans ?_
         by_cases bh:m<s.size
         ·exact xX _ _ _ bh (by cases h:yJ s[m].toNat;rfl;exact absurd ⟨bh,h⟩ hgo)
         ·exact jF _ _ _ bh
        have sh:k=m:=(by rw[<-tz.out];exact (zA Bc).symm);subst sh;have Fj:yJ s[k].toNat=false:=(by cases h:yJ s[k].toNat;rfl;exact absurd ⟨aG,h⟩ hgo);clear hgo HN nQ hm Bc;have di:=zA J9;clear J9;have P2:((s[k].toNat:Int)==58)=false:=(by simp[di]);have nW:=zC di;clear di;go_wp2_with (go_at_call 183;refine (qF _ _).mono ?_;rintro e w' ⟨rfl,rfl⟩)
        go_loopw [6] (λ t wr=>∃ j n:Nat,(j=0/\t=.int .i64 0\/j=1/\t=.int .i64 1\/j=2/\t=.int .i64 2\/j=3/\t=.int .i64 3\/j=4/\t=.int .i64 4)/\(∀ c,c∈([40,41,44,46]:List Int).take j->(s[k].toNat:Int)≠c)/\wr=(w.alloc (Obj.cells #[.int IntKind.u8 0,.string { data:=#[] },.int IntKind.i64 0] 233)).drewN n) (λ t _=>4-(intOf t).toNat)
        exact⟨0,0,by simp,by simp,rfl⟩
        case round=>
         obtain⟨j,n,hj,hd,rfl⟩:=hrel;have HD:=zC hd;clear hd;rcases hj with⟨rfl,rfl⟩ | ⟨rfl,rfl⟩ | ⟨rfl,rfl⟩ | ⟨rfl,rfl⟩ | ⟨rfl,rfl⟩
         ·by_cases hq:(s[k].toNat:Int)=40
          ·have e1:(((({ data:=#[40,41,44,46] }:B8)[0]'(by decide)).toNat:Int)==(s[k].toNat:Int))=true:=(by rw[hq];rfl);have HL:Hid (xG s k=1):=zdp aG (zA nW) (by omega);clear hq;go_wp2_with fail;go_quiet (fail)
           go_wp2
           have HT:=zji HB.out aG nY.out tz.out HL.out;exact bodyPost_ret (v:=.tuple #[vC (tok s i),.int .i64 (tok s i).to]) (by rw[HT];simp[results,Tryz.results123,go_sem,vC]) rfl ⟨rfl,by first | exact B9.alloc L9 _ | exact below_drewN (B9.alloc L9 _) _ | exact (((below_drewN (B9.alloc L9 _) _).setCell L9 _).setCell L9 _).setCell L9 _⟩
          ·have e1:(((({ data:=#[40,41,44,46] }:B8)[0]'(by decide)).toNat:Int)==(s[k].toNat:Int))=false:=(by rw[beq_eq_false_iff_ne];show (40:Int)≠_;omega);have HQ:=zC hq;clear hq;go_wp2_with fail;go_quiet (fail)
           go_wp2
           go_roundw
           case rel=>exact⟨1,_,by simp,more HD.out (zA HQ) rfl rfl,rfl⟩
           case measure=>simp[intOf]
         ·by_cases hq:(s[k].toNat:Int)=41
          ·have e1:(((({ data:=#[40,41,44,46] }:B8)[1]'(by decide)).toNat:Int)==(s[k].toNat:Int))=true:=(by rw[hq];rfl);have HL:Hid (xG s k=1):=zdp aG (zA nW) (by omega);clear hq;go_wp2_with fail;go_quiet (fail)
           go_wp2
           have HT:=zji HB.out aG nY.out tz.out HL.out;exact bodyPost_ret (v:=.tuple #[vC (tok s i),.int .i64 (tok s i).to]) (by rw[HT];simp[results,Tryz.results123,go_sem,vC]) rfl ⟨rfl,by first | exact B9.alloc L9 _ | exact below_drewN (B9.alloc L9 _) _ | exact (((below_drewN (B9.alloc L9 _) _).setCell L9 _).setCell L9 _).setCell L9 _⟩
          ·have e1:(((({ data:=#[40,41,44,46] }:B8)[1]'(by decide)).toNat:Int)==(s[k].toNat:Int))=false:=(by rw[beq_eq_false_iff_ne];show (41:Int)≠_;omega);have HQ:=zC hq;clear hq;go_wp2_with fail;go_quiet (fail)
           go_wp2
           go_roundw
           case rel=>exact⟨2,_,by simp,more HD.out (zA HQ) rfl rfl,rfl⟩
           case measure=>simp[intOf]
         ·by_cases hq:(s[k].toNat:Int)=44
          ·have e1:(((({ data:=#[40,41,44,46] }:B8)[2]'(by decide)).toNat:Int)==(s[k].toNat:Int))=true:=(by rw[hq];rfl);have HL:Hid (xG s k=1):=zdp aG (zA nW) (by omega);clear hq;go_wp2_with fail;go_quiet (fail)
           go_wp2
           have HT:=zji HB.out aG nY.out tz.out HL.out;exact bodyPost_ret (v:=.tuple #[vC (tok s i),.int .i64 (tok s i).to]) (by rw[HT];simp[results,Tryz.results123,go_sem,vC]) rfl ⟨rfl,by first | exact B9.alloc L9 _ | exact below_drewN (B9.alloc L9 _) _ | exact (((below_drewN (B9.alloc L9 _) _).setCell L9 _).setCell L9 _).setCell L9 _⟩
          ·have e1:(((({ data:=#[40,41,44,46] }:B8)[2]'(by decide)).toNat:Int)==(s[k].toNat:Int))=false:=(by rw[beq_eq_false_iff_ne];show (44:Int)≠_;omega);have HQ:=zC hq;clear hq;go_wp2_with fail;go_quiet (fail)
           go_wp2
           go_roundw
           case rel=>exact⟨3,_,by simp,more HD.out (zA HQ) rfl rfl,rfl⟩
           case measure=>simp[intOf]
         ·by_cases hq:(s[k].toNat:Int)=46
          ·have e1:(((({ data:=#[40,41,44,46] }:B8)[3]'(by decide)).toNat:Int)==(s[k].toNat:Int))=true:=(by rw[hq];rfl);have HL:Hid (xG s k=1):=zdp aG (zA nW) (by omega);clear hq;go_wp2_with fail;go_quiet (fail)
           go_wp2
           have HT:=zji HB.out aG nY.out tz.out HL.out;exact bodyPost_ret (v:=.tuple #[vC (tok s i),.int .i64 (tok s i).to]) (by rw[HT];simp[results,Tryz.results123,go_sem,vC]) rfl ⟨rfl,by first | exact B9.alloc L9 _ | exact below_drewN (B9.alloc L9 _) _ | exact (((below_drewN (B9.alloc L9 _) _).setCell L9 _).setCell L9 _).setCell L9 _⟩
          ·have e1:(((({ data:=#[40,41,44,46] }:B8)[3]'(by decide)).toNat:Int)==(s[k].toNat:Int))=false:=(by rw[beq_eq_false_iff_ne];show (46:Int)≠_;omega);have HQ:=zC hq;clear hq;go_wp2_with fail;go_quiet (fail)
           go_wp2
           go_roundw
           case rel=>exact⟨4,_,by simp,more HD.out (zA HQ) rfl rfl,rfl⟩
           case measure=>simp[intOf]
         ·have HL:Hid (xG s k=0):=zwz aG (zA nW) (by have:=HD.out;simp at this;omega)
          go_wp2
          have HT:=zob HB.out aG nY.out tz.out HL.out;exact bodyPost_ret (v:=.tuple #[vC (tok s i),.int .i64 (tok s i).to]) (by rw[HT];simp[results,Tryz.results123,go_sem,vC]) rfl ⟨rfl,by first | exact B9.alloc L9 _ | exact below_drewN (B9.alloc L9 _) _ | exact (((below_drewN (B9.alloc L9 _) _).setCell L9 _).setCell L9 _).setCell L9 _⟩
  ·exact absurd (by have h:=HS.out.symm.trans (jF zO s k aG);rw[h] at K0;exact K0) aG
end
section
def zw7 (t:Tk):Int:=
 if t.kind=46 then 0 else if t.kind=33 then 1 else if t.kind=110 then 2 else if t.kind=118 then 3 else if t.kind=119 then 4
 else if t.text.toList=[40] then 5 else if t.text.toList=[41] then 6 else if t.text.toList=[44] then 7 else if t.text.toList=[46] then 8 else 9
theorem zm9 (s:B8)(k n:Nat)(h:k+n<=s.size):(s.extract k s.size).extract 0 n=s.extract k (k+n):=by
 apply ByteArray.ext;simp[ByteArray.data_extract,Array.extract_extract]
 congr 1
 have:s.data.size=s.size:=rfl;omega
theorem zro (s:B8)(k:Nat)(h:k<s.size):(s.extract k (k+1)).toList=[s[k]]:=by
 rw[ByteArray.toList_eq,ByteArray.data_extract,Array.toList_extract];have h1:s.data.toList.length=s.size:=by rw[Array.length_toList];rfl
 rw[List.extract_eq_take_drop];have e:k+1-k=1:=by omega
 rw[e,List.drop_eq_getElem_cons (by omega)];simp[List.take];rfl
theorem zyz (s:B8)(k:Nat)(h:k+1<s.size):(s.extract k (k+2)).toList=[s[k],s[k+1]]:=by
 rw[ByteArray.toList_eq,ByteArray.data_extract,Array.toList_extract];have h1:s.data.toList.length=s.size:=by rw[Array.length_toList];rfl
 rw[List.extract_eq_take_drop];have e:k+2-k=2:=by omega
 rw[e,List.drop_eq_getElem_cons (by omega),List.drop_eq_getElem_cons (by omega)];simp[List.take];exact⟨rfl,rfl⟩
theorem z8l (a c:UInt8):a=c↔(a.toNat:Int)=(c.toNat:Int):=by
 constructor
 ·intro h;rw[h]
 ·intro h;exact UInt8.toNat_inj.1 (by omega)
theorem z42 (s:B8)(k:Nat)(hk:k<s.size):zgd (s.extract k s.size) =
  if xG s k=0 then (1,1) else if xG s k=2 then (9,2) else (zw7 ⟨115,s.extract k (k+1),k,k+1⟩,1):=by
 have aT:(s.extract k s.size).size=s.size-k:=zcm s k;have e1:((s.extract k s.size).extract 0 1).toList=[s[k]]:=by rw[zm9 s k 1 (by omega),zro s k hk]
 have g1:1<=(s.extract k s.size).size:=by omega
 have t1:=zro s k hk;unfold zgd zw7;simp only[e1,g1,true_and,t1,List.cons.injEq,and_true];simp only[z8l];unfold xG;rw[dif_pos hk]
 by_cases di:(s[k].toNat:Int)=58
 ·rw[if_pos di];have n1:¬ (s[k].toNat:Int)=((40:UInt8).toNat:Int):=by rw[di];decide
  have n2:¬ (s[k].toNat:Int)=((41:UInt8).toNat:Int):=by rw[di];decide
  have n3:¬ (s[k].toNat:Int)=((44:UInt8).toNat:Int):=by rw[di];decide
  have n4:¬ (s[k].toNat:Int)=((46:UInt8).toNat:Int):=by rw[di];decide
  rw[if_neg n1,if_neg n2,if_neg n3,if_neg n4]
  by_cases h2:k+1<s.size
  ·have e2:((s.extract k s.size).extract 0 2).toList=[s[k],s[k+1]]:=(by rw[zm9 s k 2 (by omega),zyz s k h2]);rw[dif_pos h2,e2];have g2:2<=(s.extract k s.size).size:=(by omega);simp only[g2,true_and,List.cons.injEq,and_true,z8l]
   by_cases dd:(s[k+1].toNat:Int)=45
   ·rw[if_pos ⟨by rw[di];rfl,by rw[dd];rfl⟩,if_pos dd];simp
   ·rw[if_neg (λ h=>dd (by rw[h.2];rfl)),if_neg dd];simp
  ·rw[dif_neg h2,if_neg (by omega)];simp
 ·rw[if_neg di];have n5:¬ (2<=(s.extract k s.size).size/\((s.extract k s.size).extract 0 2).toList=[58,45]):=by
   rintro⟨g2,h⟩;rw[zm9 s k 2 (by omega),zyz s k (by omega)] at h;injection h with h _
   exact di (by rw[h];rfl)
  rw[if_neg n5]
  by_cases d1:(s[k].toNat:Int)=40
  ·simp[d1]
  ·by_cases d2:(s[k].toNat:Int)=41
   ·simp[d2]
   ·by_cases d3:(s[k].toNat:Int)=44
    ·simp[d3]
    ·by_cases d4:(s[k].toNat:Int)=46
     ·simp[d4]
     ·have m1:¬ (s[k].toNat:Int)=((40:UInt8).toNat:Int):=d1;have m2:¬ (s[k].toNat:Int)=((41:UInt8).toNat:Int):=d2;have m3:¬ (s[k].toNat:Int)=((44:UInt8).toNat:Int):=d3;have m4:¬ (s[k].toNat:Int)=((46:UInt8).toNat:Int):=d4;rw[if_neg m1,if_neg m2,if_neg m3,if_neg m4];simp[d1,d2,d3,d4]
theorem zla (s:B8)(k:Nat):xG s k=0\/xG s k=1\/xG s k=2:=by
 unfold xG
 split
 ·split
  ·split
   ·split <;> simp
   ·simp
  ·split <;> simp
 ·simp
theorem z4z (s:B8)(i:Nat)(hi:i<=s.size):zG s i=(zw7 (tok s i),(tok s i).at_,(tok s i).to):=by
 have hk:=zb8 zO s i hi;unfold zG tok;generalize skip zO s i=k at *;have aT:(s.extract k s.size).size=s.size-k:=zcm s k
 by_cases h0:s.size<=k
 ·have e:k=s.size:=by omega
  rw[zgh,if_pos h0];unfold rP;rw[dif_neg (by omega)];simp[zw7,e]
 ·have aG:k<s.size:=by omega
  have hl:=zkm xP s k hk;have hh:=zkm yJ s k hk;have DX:0<(s.extract k s.size).size:=by omega
  have hg:(s.extract k s.size)[0]=s[k]:=by have:=zrn s k 0 (by omega) DX;simpa using this
  rw[zgh,if_neg h0];unfold rP;rw[dif_pos DX]
  by_cases cC:k<skip xP s k
  ·have ji:xP s[k].toNat=true:=by
    cases hb:xP s[k].toNat with
    | true=>rfl
    | false=>rw[xX xP s k aG hb] at cC;omega
   have od:skip xP (s.extract k s.size) 0=skip xP s k-k:=(by omega);have hle:=zb8 xP s k hk;have hex:(s.extract k s.size).extract 0 (skip xP s k-k)=s.extract k (skip xP s k):=by
    rw[zm9 s k _ (by omega)];congr 1;omega
   rw[if_pos (by rw[hg];exact ji),if_pos cC];unfold ziz;rw[od,hex]
   by_cases h8:8<skip xP s k-k
   ·have lJ:¬ (s.extract k (skip xP s k)).toList=[110,111,116]:=by
     intro e;have:(s.extract k (skip xP s k)).toList.length=3:=by rw[e];rfl
     rw[ByteArray.toList_eq,Array.length_toList] at this;have h2:(s.extract k (skip xP s k)).data.size=(s.extract k (skip xP s k)).size:=rfl;rw[h2,ByteArray.size_extract] at this;omega
    rw[if_pos h8,if_neg lJ,if_neg (by omega)];simp[zw7];omega
   ·by_cases hn:(s.extract k (skip xP s k)).toList=[110,111,116]
    ·rw[if_neg h8,if_pos hn,if_pos hn];simp[zw7];omega
    ·rw[if_neg h8,if_neg hn,if_neg hn,if_pos (by omega)];simp[zw7];omega
  ·have ji:xP s[k].toNat=false:=by
    cases hb:xP s[k].toNat with
    | false=>rfl
    | true=>
     have h1:=xW xP s k aG hb;have h2:=zn6 xP s (k+1);omega
   rw[if_neg (by rw[hg,ji];decide),if_neg cC]
   by_cases hhigh:k<skip yJ s k
   ·have Qg:yJ s[k].toNat=true:=by
     cases hb:yJ s[k].toNat with
     | true=>rfl
     | false=>rw[xX yJ s k aG hb] at hhigh;omega
    have od:skip yJ (s.extract k s.size) 0=skip yJ s k-k:=(by omega);rw[if_pos (by rw[hg];exact Qg),if_pos hhigh];unfold z2n;rw[od]
    by_cases h8:8<skip yJ s k-k
    ·rw[if_pos h8,if_neg (by omega)];simp[zw7];omega
    ·rw[if_neg h8,if_pos (by omega)];simp[zw7];omega
   ·have Qg:yJ s[k].toNat=false:=by
     cases hb:yJ s[k].toNat with
     | false=>rfl
     | true=>
      have h1:=xW yJ s k aG hb;have h2:=zn6 yJ s (k+1);omega
    rw[if_neg (by rw[hg,Qg];decide),if_neg hhigh,z42 s k aG];rcases zla s k with h | h | h
    ·rw[if_pos h,if_pos h];simp[zw7]
    ·rw[if_neg (by omega),if_neg (by omega),if_neg (by omega),if_neg (by omega)]
    ·rw[if_neg (by omega),if_pos h,if_neg (by omega),if_pos h];have e:({ data:=#[58,45] }:B8).toList=[58,45]:=(by rw[ByteArray.toList_eq]);simp[zw7,e]
end
section
open Go.RowKit
theorem vO {a b:B8}:(a.toList==b.toList)=true↔a=b:=by
 rw[beq_iff_eq,ByteArray.toList_eq,ByteArray.toList_eq];exact⟨λ h=>ByteArray.ext (Array.toList_inj.1 h),λ h=>by rw[h]⟩
theorem zj6:∀ x:List UInt8,Op.bytesLess x x=false
 | []=>rfl
 | a::r=>by simp[Op.bytesLess,zj6 r]
theorem Vf:∀ x y z:List UInt8,Op.bytesLess x y=true->Op.bytesLess y z=true->Op.bytesLess x z=true
 | _,[],_,h,_=>by simp[Op.bytesLess] at h
 | _,_::_,[],_,h=>by simp[Op.bytesLess] at h
 | [],_::_,_::_,_,_=>rfl
 | a::x,b::y,c::z,h1,h2=>by
  simp only[Op.bytesLess,Bool.or_eq_true,Bool.and_eq_true,decide_eq_true_eq,beq_iff_eq] at h1 h2 ⊢;rcases h1 with h1 | ⟨rfl,h1⟩
  ·rcases h2 with h2 | ⟨rfl,_⟩
   ·exact .inl (UInt8.lt_trans h1 h2)
   ·exact .inl h1
  ·rcases h2 with h2 | ⟨rfl,h2⟩
   ·exact .inl h2
   ·exact .inr ⟨rfl,Vf x y z h1 h2⟩
theorem zto:∀ x y:List UInt8,Op.bytesLess x y=false->Op.bytesLess y x=false->x=y
 | [],[],_,_=>rfl
 | [],_::_,h,_=>by simp[Op.bytesLess] at h
 | _::_,[],_,h=>by simp[Op.bytesLess] at h
 | a::x,b::y,h1,h2=>by
  simp only[Op.bytesLess,Bool.or_eq_false_iff,Bool.and_eq_false_iff,decide_eq_false_iff_not,beq_eq_false_iff_ne,ne_eq] at h1 h2;have IP:a=b:=UInt8.le_antisymm (UInt8.not_lt.1 h2.1) (UInt8.not_lt.1 h1.1);subst IP;rw[zto x y (h1.2.resolve_left (λ h=>h rfl)) (h2.2.resolve_left (λ h=>h rfl))]
def zb5 (x y:B8):Bool:=Op.bytesLess x.toList y.toList
theorem zio (x:B8):zb5 x x=false:=zj6 _
variable {x y:B8}
theorem zf7 {z:B8}(h1:zb5 x y=true)(h2:zb5 y z=true):zb5 x z=true:=Vf _ _ _ h1 h2
theorem zzt (h1:zb5 x y=false)(h2:zb5 y x=false):x=y:=vO.1 (by rw[beq_iff_eq];exact zto _ _ h1 h2)
def yae (x y:B8):Int:=if zb5 x y then -1 else if x.toList==y.toList then 0 else 1
end
end Go.Proofs.YtldkpahaocjdpaaGreat
