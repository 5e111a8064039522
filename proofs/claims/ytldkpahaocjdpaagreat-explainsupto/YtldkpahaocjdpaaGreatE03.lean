/-
  Plain, no walk: what a token of a text is, as the document's section Words says it: blanks are passed by; a row of a..z and 0..9, a row of A..Z, the signs ( ) , . :- ; all else is none.
-/
import Derived.Test.YtldkpahaocjdpaaGreatE00
import Derived.Below
import Derived.Test.YtldkpahaocjdpaaGreatProg
import Derived.WalkKit
import Derived.WalkSpells
import Derived.WalkLawsBesides
import Derived.Deep.QuietTactic
import Derived.BigQuiet
import Derived.Lib.Strings
set_option maxHeartbeats 16000000
set_option maxRecDepth 1000000
namespace Go.Proofs.YtldkpahaocjdpaaGreat
section
def xL (c:Int):Bool:=(decide (97<=c)&&decide (c<=122))||(decide (48<=c)&&decide (c<=57))
def yF (c:Int):Bool:=decide (65<=c)&&decide (c<=90)
def zO (c:Int):Bool:=decide (c=32)||decide (c=10)
def skip (p:Int->Bool)(s:B8)(i:Nat):Nat:=
 if h:i<s.size then (if p s[i].toNat then skip p s (i+1) else i) else i
termination_by s.size-i
theorem xY (p:Int->Bool)(s:B8)(i:Nat)(h:i<s.size)(hp:p s[i].toNat=true):skip p s i=skip p s (i+1):=by
 rw[skip];simp[h,hp]
theorem xZ (p:Int->Bool)(s:B8)(i:Nat)(h:i<s.size)(hp:p s[i].toNat=false):skip p s i=i:=by
 rw[skip];simp[h,hp]
theorem jJ (p:Int->Bool)(s:B8)(i:Nat)(h:¬ i<s.size):skip p s i=i:=by
 rw[skip];simp[h]
theorem zp5 (p:Int->Bool)(s:B8)(i:Nat):i<=skip p s i:=by
 fun_induction skip p s i <;> omega
theorem zcz (p:Int->Bool)(s:B8)(i:Nat)(h:i<=s.size):skip p s i<=s.size:=by
 fun_induction skip p s i <;> omega
def zq6 (s:B8)(i:Nat):Nat:=if h:i<s.size then s[i].toNat else 256
variable {i:Nat} {s:B8}
theorem zq7 (h:i<s.size):zq6 s i=s[i].toNat:=by simp[zq6,h]
structure Tk where
 kind:Int
 text:B8
 at_:Nat
 to:Nat
def xA (s:B8)(i:Nat):Nat:=
 if h:i<s.size then
  (if (s[i].toNat:Int)=58 then (if h2:i+1<s.size then (if (s[i+1].toNat:Int)=45 then 2 else 0) else 0)
  else if (s[i].toNat:Int)=40\/(s[i].toNat:Int)=41\/(s[i].toNat:Int)=44\/(s[i].toNat:Int)=46 then 1 else 0)
 else 0
def zhq (s:B8)(i:Nat):Tk:=
 if s.size<=i then ⟨46,⟨#[]⟩,s.size,i⟩
 else if i<skip xL s i then
  (if (s.extract i (skip xL s i)).toList=[110,111,116] then ⟨119,s.extract i (skip xL s i),i,skip xL s i⟩
  else if skip xL s i-i<=8 then ⟨110,s.extract i (skip xL s i),i,skip xL s i⟩
  else ⟨33,⟨#[]⟩,i,skip xL s i⟩)
 else if i<skip yF s i then
  (if skip yF s i-i<=8 then ⟨118,s.extract i (skip yF s i),i,skip yF s i⟩
  else ⟨33,⟨#[]⟩,i,skip yF s i⟩)
 else if xA s i=0 then ⟨33,⟨#[]⟩,i,i+1⟩
 else if xA s i=2 then ⟨115,⟨#[58,45]⟩,i,i+2⟩
 else ⟨115,s.extract i (i+1),i,i+1⟩
def tok (s:B8)(i:Nat):Tk:=zhq s (skip zO s i)
variable {k:Nat}
theorem yci (h:skip zO s i=k)(hk:s.size<=k):tok s i=⟨46,⟨#[]⟩,s.size,k⟩:=by
 unfold tok;rw[h];simp[zhq,hk]
variable {m:Nat}
theorem z5j (h:skip zO s i=k)(hk:k<s.size)(hm:skip xL s k=m)(nF:k<m)(ht:((s.extract k m).toList==[110,111,116])=true):
  tok s i=⟨119,s.extract k m,k,m⟩:=by
 have Dm:(s.extract k m).toList=[110,111,116]:=eq_of_beq ht;unfold tok;rw[h,zhq,if_neg (by omega),hm,if_pos nF,if_pos Dm]
theorem zxh (h:skip zO s i=k)(hk:k<s.size)(hm:skip xL s k=m)(nF:k<m)(ht:((s.extract k m).toList==[110,111,116])=false)(h8:((m-k:Nat):Int)<=8):
  tok s i=⟨110,s.extract k m,k,m⟩:=by
 have Dm:¬ (s.extract k m).toList=[110,111,116]:=λ e=>by rw[e] at ht;simp at ht
 unfold tok;rw[h,zhq,if_neg (by omega),hm,if_pos nF,if_neg Dm,if_pos (by omega)]
theorem zxg (h:skip zO s i=k)(hk:k<s.size)(hm:skip xL s k=m)(nF:k<m)(ht:((s.extract k m).toList==[110,111,116])=false)(h8:8<((m-k:Nat):Int)):
  tok s i=⟨33,⟨#[]⟩,k,m⟩:=by
 have Dm:¬ (s.extract k m).toList=[110,111,116]:=λ e=>by rw[e] at ht;simp at ht
 unfold tok;rw[h,zhq,if_neg (by omega),hm,if_pos nF,if_neg Dm,if_neg (by omega)]
theorem z5k (h:skip zO s i=k)(hk:k<s.size)(hl:skip xL s k=k)(hm:skip yF s k=m)(nF:k<m)(h8:(m:Int)-k<=8):
  tok s i=⟨118,s.extract k m,k,m⟩:=by
 unfold tok;rw[h,zhq,if_neg (by omega),if_neg (by omega),hm,if_pos nF,if_pos (by omega)]
theorem zm4 (h:skip zO s i=k)(hk:k<s.size)(hl:skip xL s k=k)(hm:skip yF s k=m)(nF:k<m)(h8:8<(m:Int)-k):
  tok s i=⟨33,⟨#[]⟩,k,m⟩:=by
 unfold tok;rw[h,zhq,if_neg (by omega),if_neg (by omega),hm,if_pos nF,if_neg (by omega)]
theorem z82 (h:skip zO s i=k)(hk:k<s.size)(hl:skip xL s k=k)(hm:skip yF s k=k)(hn:xA s k=2):
  tok s i=⟨115,⟨#[58,45]⟩,k,k+2⟩:=by
 unfold tok;rw[h,zhq,if_neg (by omega),if_neg (by omega),if_neg (by omega),hn,if_neg (by omega),if_pos rfl]
theorem zko (h:skip zO s i=k)(hk:k<s.size)(hl:skip xL s k=k)(hm:skip yF s k=k)(hn:xA s k=1):
  tok s i=⟨115,s.extract k (k+1),k,k+1⟩:=by
 unfold tok;rw[h,zhq,if_neg (by omega),if_neg (by omega),if_neg (by omega),hn,if_neg (by omega),if_neg (by omega)]
theorem zqa (h:skip zO s i=k)(hk:k<s.size)(hl:skip xL s k=k)(hm:skip yF s k=k)(hn:xA s k=0):
  tok s i=⟨33,⟨#[]⟩,k,k+1⟩:=by
 unfold tok;rw[h,zhq,if_neg (by omega),if_neg (by omega),if_neg (by omega),if_pos hn]
theorem zsy (hk:k<s.size)(h1:(s[k].toNat:Int)=58)(h2:k+1<s.size)(h3:(s[k+1].toNat:Int)=45):xA s k=2:=by
 simp[xA,hk,h1,h2,h3]
theorem zij (hk:k<s.size)(h1:(s[k].toNat:Int)=58)(h2:∀ h:k+1<s.size,¬ (s[k+1].toNat:Int)=45):xA s k=0:=by
 by_cases h:k+1<s.size
 ·simp[xA,hk,h1,h,h2 h]
 ·simp[xA,hk,h1,h]
theorem zex (hk:k<s.size)(h1:¬ (s[k].toNat:Int)=58)(h2:(s[k].toNat:Int)=40\/(s[k].toNat:Int)=41\/(s[k].toNat:Int)=44\/(s[k].toNat:Int)=46):xA s k=1:=by
 rw[xA,dif_pos hk,if_neg h1,if_pos h2]
theorem zzp (hk:k<s.size)(h1:¬ (s[k].toNat:Int)=58)(h2:¬ ((s[k].toNat:Int)=40\/(s[k].toNat:Int)=41\/(s[k].toNat:Int)=44\/(s[k].toNat:Int)=46)):xA s k=0:=by
 rw[xA,dif_pos hk,if_neg h1,if_neg h2]
end
section
open Go.RowKit
variable {p:Prop}
theorem zC (h:p):Hid p:=h
theorem zA (h:Hid p):p:=h
theorem za3 (c:Int)(w:W8):
  Calls Tryz.prog 182 #[.int .u8 c] w λ e w'=>e=.returned (.bool (xL c))/\w'=w:=by
 go_enter Tryz.func182,Tryz.ntmps182
 go_wp2
 all_goals go_ret
 all_goals exact⟨by simp[xL, *];try omega,rfl⟩
theorem qU (c:Int)(w:W8):
  Calls Tryz.prog 183 #[.int .u8 c] w λ e w'=>e=.returned (.bool (yF c))/\w'=w:=by
 go_enter Tryz.func183,Tryz.ntmps183
 go_wp2
 all_goals go_ret
 all_goals exact⟨by simp[yF, *];try omega,rfl⟩
theorem more {x:Int}{j:Nat}{l:List Int}{d:Int}(h:∀ c,c∈l.take j->x≠c)(hd:¬ x=d){j':Nat}(hj:j'=j+1)(hl:l[j]?=some d):∀ c,c∈l.take j'->x≠c:=by
 subst hj;intro c hc;rw[List.take_add_one,hl] at hc;simp at hc;rcases hc with hc | hc
 ·exact h c hc
 ·subst hc;exact hd
def vH (t:Tk):Value:=.agg #[.int .u8 t.kind,.string t.text,.int .i64 t.at_]
end
section
open Go.RowKit
theorem zbl (c:Int)(w:W8):
  Calls Tryz.prog 170 #[.int .u8 c] w λ e w'=>e=.returned (.bool (xL c))/\w'=w:=by
 go_enter Tryz.func170,Tryz.ntmps170
 go_wp2
 all_goals go_ret
 all_goals exact⟨by simp[xL, *];try omega,rfl⟩
theorem za2 (c:Int)(w:W8):
  Calls Tryz.prog 172 #[.int .u8 c] w λ e w'=>e=.returned (.bool (yF c))/\w'=w:=by
 go_enter Tryz.func172,Tryz.ntmps172
 go_wp2
 all_goals go_ret
 all_goals exact⟨by simp[yF, *];try omega,rfl⟩
theorem zhc (c:Int)(w:W8):
  Calls Tryz.prog 114 #[.int .u8 c] w λ e w'=>e=.returned (.bool (zO c))/\w'=w:=by
 go_enter Tryz.func114,Tryz.ntmps114
 go_wp2
 all_goals go_ret
 ·exact⟨by simp[zO, *],rfl⟩
 ·exact⟨by rename_i h;show Ending.returned (Value.bool (c==32||c==10))=_;congr 2,rfl⟩
theorem zfq (s:B8)(hs:s.size<=maxLen)(w:W8):
  Calls Tryz.prog 113 #[.string s,.func (.func 170) #[] #[]] w λ e w'=>e=.returned (.int .i64 (skip xL s 0))/\w'=w:=by
 unfold maxLen at hs;go_enter Tryz.func113,Tryz.ntmps113
 go_wp2
 go_loop [5] (λ t=>∃ m:Nat,m<=s.size/\t=.int .i64 m/\skip xL s m=skip xL s 0) (λ t=>s.size-(intOf t).toNat)
 exact⟨0,Nat.zero_le _,rfl,rfl⟩
 case round=>
  obtain⟨m,hm,rfl,bM⟩:=hrel;have HM:Hid (skip xL s m=skip xL s 0):=bM;clear bM
  by_cases bh:m<s.size
  ·cases bc:xL s[m].toNat with
   | true=>
    have ot:Hid (skip xL s (m+1)=skip xL s 0):=(xY xL s m bh bc).symm.trans HM.out;go_wp2_with (go_at_call 170;refine (zbl _ _).mono ?_;rintro e w' ⟨rfl,rfl⟩)
    go_round
    case rel=>exact⟨m+1,by omega,by go_num,ot.out⟩
    case measure=>simp[intOf];omega
   | false=>
    have HN:=zC (HM.out.symm.trans (xZ xL s m bh bc));go_wp2_with (go_at_call 170;refine (zbl _ _).mono ?_;rintro e w' ⟨rfl,rfl⟩);go_ret;exact⟨by rw[zA HN];rfl,rfl⟩
  ·have HN:=zC (HM.out.symm.trans (jJ xL s m bh));go_wp2_with (go_at_call 170;refine (zbl _ _).mono ?_;rintro e w' ⟨rfl,rfl⟩);go_ret;exact⟨by rw[zA HN];rfl,rfl⟩
theorem zgx (s:B8)(hs:s.size<=maxLen)(w:W8):
  Calls Tryz.prog 113 #[.string s,.func (.func 172) #[] #[]] w λ e w'=>e=.returned (.int .i64 (skip yF s 0))/\w'=w:=by
 unfold maxLen at hs;go_enter Tryz.func113,Tryz.ntmps113
 go_wp2
 go_loop [5] (λ t=>∃ m:Nat,m<=s.size/\t=.int .i64 m/\skip yF s m=skip yF s 0) (λ t=>s.size-(intOf t).toNat)
 exact⟨0,Nat.zero_le _,rfl,rfl⟩
 case round=>
  obtain⟨m,hm,rfl,bM⟩:=hrel;have HM:Hid (skip yF s m=skip yF s 0):=bM;clear bM
  by_cases bh:m<s.size
  ·cases bc:yF s[m].toNat with
   | true=>
    have ot:Hid (skip yF s (m+1)=skip yF s 0):=(xY yF s m bh bc).symm.trans HM.out;go_wp2_with (go_at_call 172;refine (za2 _ _).mono ?_;rintro e w' ⟨rfl,rfl⟩)
    go_round
    case rel=>exact⟨m+1,by omega,by go_num,ot.out⟩
    case measure=>simp[intOf];omega
   | false=>
    have HN:=zC (HM.out.symm.trans (xZ yF s m bh bc));go_wp2_with (go_at_call 172;refine (za2 _ _).mono ?_;rintro e w' ⟨rfl,rfl⟩);go_ret;exact⟨by rw[zA HN];rfl,rfl⟩
  ·have HN:=zC (HM.out.symm.trans (jJ yF s m bh));go_wp2_with (go_at_call 172;refine (za2 _ _).mono ?_;rintro e w' ⟨rfl,rfl⟩);go_ret;exact⟨by rw[zA HN];rfl,rfl⟩
theorem zso (s:B8)(hs:s.size<=maxLen)(w:W8):
  Calls Tryz.prog 113 #[.string s,.func (.func 114) #[] #[]] w λ e w'=>e=.returned (.int .i64 (skip zO s 0))/\w'=w:=by
 unfold maxLen at hs;go_enter Tryz.func113,Tryz.ntmps113
 go_wp2
 go_loop [5] (λ t=>∃ m:Nat,m<=s.size/\t=.int .i64 m/\skip zO s m=skip zO s 0) (λ t=>s.size-(intOf t).toNat)
 exact⟨0,Nat.zero_le _,rfl,rfl⟩
 case round=>
  obtain⟨m,hm,rfl,bM⟩:=hrel;have HM:Hid (skip zO s m=skip zO s 0):=bM;clear bM
  by_cases bh:m<s.size
  ·cases bc:zO s[m].toNat with
   | true=>
    have ot:Hid (skip zO s (m+1)=skip zO s 0):=(xY zO s m bh bc).symm.trans HM.out;go_wp2_with (go_at_call 114;refine (zhc _ _).mono ?_;rintro e w' ⟨rfl,rfl⟩)
    go_round
    case rel=>exact⟨m+1,by omega,by go_num,ot.out⟩
    case measure=>simp[intOf];omega
   | false=>
    have HN:=zC (HM.out.symm.trans (xZ zO s m bh bc));go_wp2_with (go_at_call 114;refine (zhc _ _).mono ?_;rintro e w' ⟨rfl,rfl⟩);go_ret;exact⟨by rw[zA HN];rfl,rfl⟩
  ·have HN:=zC (HM.out.symm.trans (jJ zO s m bh));go_wp2_with (go_at_call 114;refine (zhc _ _).mono ?_;rintro e w' ⟨rfl,rfl⟩);go_ret;exact⟨by rw[zA HN];rfl,rfl⟩
end
section
theorem zda (s:B8)(a:Nat):(s.extract a s.size).size=s.size-a:=by
 simp[ByteArray.size_extract]
theorem zt5 (s:B8)(a j:Nat)(h:a+j<s.size)(h':j<(s.extract a s.size).size):(s.extract a s.size)[j]=s[a+j]:=by
 simp[ByteArray.getElem_extract]
theorem z8p (p:Int->Bool)(s:B8)(a:Nat)(ha:a<=s.size):∀ (d j:Nat),s.size-(a+j)=d->a+j<=s.size->a+skip p (s.extract a s.size) j=skip p s (a+j):=by
 intro d
 induction d with
 | zero=>
  intro j hd hj;rw[jJ p s (a+j) (by omega),jJ p _ j (by rw[zda s a];omega)]
 | succ d ih=>
  intro j hd hj;have h1:a+j<s.size:=by omega
  have h2:j<(s.extract a s.size).size:=by rw[zda s a];omega
  cases hp:p s[a+j].toNat with
  | true=>
   rw[xY p s (a+j) h1 hp,xY p _ j h2 (by rw[zt5 s a j h1 h2];exact hp)];have:=ih (j+1) (by omega) (by omega);rw[this,Nat.add_assoc]
  | false=>
   rw[xZ p s (a+j) h1 hp,xZ p _ j h2 (by rw[zt5 s a j h1 h2];exact hp)]
theorem zmu (p:Int->Bool)(s:B8)(a:Nat)(ha:a<=s.size):a+skip p (s.extract a s.size) 0=skip p s a:=
 z8p p s a ha _ 0 rfl (by omega)
def zho (r:B8):Int × Nat:=
 if 1<=r.size/\(r.extract 0 1).toList=[40] then (5,1)
 else if 1<=r.size/\(r.extract 0 1).toList=[41] then (6,1)
 else if 1<=r.size/\(r.extract 0 1).toList=[44] then (7,1)
 else if 1<=r.size/\(r.extract 0 1).toList=[46] then (8,1)
 else if 2<=r.size/\(r.extract 0 2).toList=[58,45] then (9,2)
 else (1,1)
def zj6 (r:B8):Int × Nat:=if 8<skip xL r 0 then (1,skip xL r 0) else if (r.extract 0 (skip xL r 0)).toList=[110,111,116] then (4,skip xL r 0) else (2,skip xL r 0)
def z56 (r:B8):Int × Nat:=if 8<skip yF r 0 then (1,skip yF r 0) else (3,skip yF r 0)
def oi (r:B8):Int × Nat:=
 if h:0<r.size then (if xL r[0].toNat then zj6 r else if yF r[0].toNat then z56 r else zho r) else (0,0)
def zF (s:B8)(i:Nat):Int × Nat × Nat:=((oi (s.extract (skip zO s i) s.size)).1,skip zO s i,skip zO s i+(oi (s.extract (skip zO s i) s.size)).2)
end
section
open Go.RowKit
def pK (r p:B8):Bool:=decide (p.size<=r.size)&&(r.extract 0 p.size).toList==p.toList
theorem zmv (r p:B8)(w:W8):
  Calls Tryz.prog 239 #[.string r,.string p] w λ e w'=>e=.returned (.bool (pK r p))/\w'=w:=by
 by_cases h:p.size<=r.size
 ·go_enter Tryz.func239,Tryz.ntmps239
  go_wp2
  go_ret;exact⟨by simp[pK,h],rfl⟩
 ·go_enter Tryz.func239,Tryz.ntmps239
  go_wp2
  go_ret;exact⟨by simp[pK];omega,rfl⟩
theorem yV (r p:B8)(w:W8):
  Calls Tryz.prog 220 #[.string r,.string p] w λ e w'=>e=.returned (.bool (pK r p))/\w'=w:=by
 go_enter Tryz.func220,Tryz.ntmps220;go_wp2_with fail;refine (zmv r p _).mono ?_;rintro e w1 ⟨rfl,rfl⟩;go_wp2_with fail;go_ret;exact⟨rfl,rfl⟩
theorem z8n (r:B8)(w:W8):
  Calls Tryz.prog 174 #[.string r] w λ e w'=>e=.returned (.tuple #[.int .i64 (zho r).1,.int .i64 (zho r).2])/\w'=w:=by
 have e1:∀ c:UInt8,pK r { data:=#[c] }=decide (1<=r.size/\(r.extract 0 1).toList=[c]):=λ c=>by
  have h1:(ByteArray.mk #[c]).size=1:=rfl;have h2:(ByteArray.mk #[c]).toList=[c]:=by rw[ByteArray.toList_eq]
  rw[Bool.eq_iff_iff];simp only[pK,h1,h2,Bool.and_eq_true,decide_eq_true_eq,beq_iff_eq]
 have e2:pK r { data:=#[58,45] }=decide (2<=r.size/\(r.extract 0 2).toList=[58,45]):=by
  have h1:(ByteArray.mk #[58,45]).size=2:=rfl;have h2:(ByteArray.mk #[58,45]).toList=[58,45]:=by rw[ByteArray.toList_eq]
  rw[Bool.eq_iff_iff];simp only[pK,h1,h2,Bool.and_eq_true,decide_eq_true_eq,beq_iff_eq]
 have hK:zho r=if pK r { data:=#[40] } then (5,1) else if pK r { data:=#[41] } then (6,1) else if pK r { data:=#[44] } then (7,1) else if pK r { data:=#[46] } then (8,1) else if pK r { data:=#[58,45] } then (9,2) else (1,1):=by
  rw[e1,e1,e1,e1,e2];unfold zho;simp only[decide_eq_true_eq]
 have HK:=zC hK;clear e1 e2 hK
 cases b1:pK r { data:=#[40] } with
 | true=>
  have HF:=zC (show zho r=(5,1) by rw[zA HK,b1];rfl);clear HK;go_enter Tryz.func174,Tryz.ntmps174;go_wp2_with fail;refine (yV r _ _).mono ?_;rintro e w1 ⟨rfl,rfl⟩;go_wp2_with fail
  go_ret2
  exact⟨by rw[zA HF];rfl,rfl⟩
 | false=>
 cases b2:pK r { data:=#[41] } with
 | true=>
  have HF:=zC (show zho r=(6,1) by rw[zA HK,b1,b2];rfl);clear HK;go_enter Tryz.func174,Tryz.ntmps174;go_wp2_with fail;refine (yV r _ _).mono ?_;rintro e w1 ⟨rfl,rfl⟩;go_wp2_with fail;refine (yV r _ _).mono ?_;rintro e w1 ⟨rfl,rfl⟩;go_wp2_with fail
  go_ret2
  exact⟨by rw[zA HF];rfl,rfl⟩
 | false=>
 cases b3:pK r { data:=#[44] } with
 | true=>
  have HF:=zC (show zho r=(7,1) by rw[zA HK,b1,b2,b3];rfl);clear HK;go_enter Tryz.func174,Tryz.ntmps174;go_wp2_with fail;refine (yV r _ _).mono ?_;rintro e w1 ⟨rfl,rfl⟩;go_wp2_with fail;refine (yV r _ _).mono ?_;rintro e w1 ⟨rfl,rfl⟩;go_wp2_with fail;refine (yV r _ _).mono ?_;rintro e w1 ⟨rfl,rfl⟩;go_wp2_with fail
  go_ret2
  exact⟨by rw[zA HF];rfl,rfl⟩
 | false=>
 cases b4:pK r { data:=#[46] } with
 | true=>
  have HF:=zC (show zho r=(8,1) by rw[zA HK,b1,b2,b3,b4];rfl);clear HK;go_enter Tryz.func174,Tryz.ntmps174;go_wp2_with fail;refine (yV r _ _).mono ?_;rintro e w1 ⟨rfl,rfl⟩;go_wp2_with fail;refine (yV r _ _).mono ?_;rintro e w1 ⟨rfl,rfl⟩;go_wp2_with fail;refine (yV r _ _).mono ?_;rintro e w1 ⟨rfl,rfl⟩;go_wp2_with fail;refine (yV r _ _).mono ?_;rintro e w1 ⟨rfl,rfl⟩;go_wp2_with fail
  go_ret2
  exact⟨by rw[zA HF];rfl,rfl⟩
 | false=>
 cases b5:pK r { data:=#[58,45] } with
 | true=>
  have HF:=zC (show zho r=(9,2) by rw[zA HK,b1,b2,b3,b4,b5];rfl);clear HK;go_enter Tryz.func174,Tryz.ntmps174;go_wp2_with fail;refine (yV r _ _).mono ?_;rintro e w1 ⟨rfl,rfl⟩;go_wp2_with fail;refine (yV r _ _).mono ?_;rintro e w1 ⟨rfl,rfl⟩;go_wp2_with fail;refine (yV r _ _).mono ?_;rintro e w1 ⟨rfl,rfl⟩;go_wp2_with fail;refine (yV r _ _).mono ?_;rintro e w1 ⟨rfl,rfl⟩;go_wp2_with fail;refine (yV r _ _).mono ?_;rintro e w1 ⟨rfl,rfl⟩;go_wp2_with fail
  go_ret2
  exact⟨by rw[zA HF];rfl,rfl⟩
 | false=>
  have HF:=zC (show zho r=(1,1) by rw[zA HK,b1,b2,b3,b4,b5];rfl);clear HK;go_enter Tryz.func174,Tryz.ntmps174;go_wp2_with fail;refine (yV r _ _).mono ?_;rintro e w1 ⟨rfl,rfl⟩;go_wp2_with fail;refine (yV r _ _).mono ?_;rintro e w1 ⟨rfl,rfl⟩;go_wp2_with fail;refine (yV r _ _).mono ?_;rintro e w1 ⟨rfl,rfl⟩;go_wp2_with fail;refine (yV r _ _).mono ?_;rintro e w1 ⟨rfl,rfl⟩;go_wp2_with fail;refine (yV r _ _).mono ?_;rintro e w1 ⟨rfl,rfl⟩;go_wp2_with fail
  go_ret2
  exact⟨by rw[zA HF];rfl,rfl⟩
theorem z7p (r:B8)(hr:r.size<=maxLen)(w:W8):
  Calls Tryz.prog 171 #[.string r] w λ e w'=>e=.returned (.tuple #[.int .i64 (zj6 r).1,.int .i64 (zj6 r).2])/\w'=w:=by
 have hle:=zcz xL r 0 (Nat.zero_le _);have oK:=hr;unfold maxLen at oK
 by_cases h8:8<skip xL r 0
 ·have HF:=zC (show zj6 r=(1,skip xL r 0) by unfold zj6;rw[if_pos h8]);go_enter Tryz.func171,Tryz.ntmps171;go_wp2_with fail;refine (zfq r hr _).mono ?_;rintro e w1 ⟨rfl,rfl⟩;go_wp2_with fail
  go_ret2
  exact⟨by rw[zA HF];rfl,rfl⟩
 ·cases hn:(r.extract 0 (skip xL r 0)).toList==[110,111,116] with
  | true=>
   have HF:=zC (show zj6 r=(4,skip xL r 0) by unfold zj6;rw[if_neg h8,if_pos (eq_of_beq hn)]);go_enter Tryz.func171,Tryz.ntmps171;go_wp2_with fail;refine (zfq r hr _).mono ?_;rintro e w1 ⟨rfl,rfl⟩;go_wp2_with fail
   go_ret2
   exact⟨by rw[zA HF];rfl,rfl⟩
  | false=>
   have HF:=zC (show zj6 r=(2,skip xL r 0) by unfold zj6;rw[if_neg h8,if_neg (by intro e;rw[e] at hn;simp at hn)]);go_enter Tryz.func171,Tryz.ntmps171;go_wp2_with fail;refine (zfq r hr _).mono ?_;rintro e w1 ⟨rfl,rfl⟩;go_wp2_with fail
   go_ret2
   exact⟨by rw[zA HF];rfl,rfl⟩
theorem ztd (r:B8)(hr:r.size<=maxLen)(w:W8):
  Calls Tryz.prog 173 #[.string r] w λ e w'=>e=.returned (.tuple #[.int .i64 (z56 r).1,.int .i64 (z56 r).2])/\w'=w:=by
 by_cases h8:8<skip yF r 0
 ·have HF:=zC (show z56 r=(1,skip yF r 0) by unfold z56;rw[if_pos h8]);go_enter Tryz.func173,Tryz.ntmps173;go_wp2_with fail;refine (zgx r hr _).mono ?_;rintro e w1 ⟨rfl,rfl⟩;go_wp2_with fail
  go_ret2
  exact⟨by rw[zA HF];rfl,rfl⟩
 ·have HF:=zC (show z56 r=(3,skip yF r 0) by unfold z56;rw[if_neg h8]);go_enter Tryz.func173,Tryz.ntmps173;go_wp2_with fail;refine (zgx r hr _).mono ?_;rintro e w1 ⟨rfl,rfl⟩;go_wp2_with fail
  go_ret2
  exact⟨by rw[zA HF];rfl,rfl⟩
theorem zui (r:B8)(hr:r.size<=maxLen)(w:W8):
  Calls Tryz.prog 115 #[.string r] w λ e w'=>e=.returned (.tuple #[.int .i64 (oi r).1,.int .i64 (oi r).2])/\w'=w:=by
 by_cases h0:0<r.size
 ·have he:r.toList.isEmpty=false:=by
   rw[ByteArray.toList_eq,List.isEmpty_eq_false_iff];intro e;have:r.data.toList.length=0:=by rw[e];rfl
   rw[Array.length_toList] at this;have h2:r.data.size=r.size:=rfl;omega
  cases hl:xL r[0].toNat with
  | true=>
   have HF:=zC (show oi r=zj6 r by unfold oi;rw[dif_pos h0,if_pos hl]);go_enter Tryz.func115,Tryz.ntmps115;go_wp2_with fail;refine (zbl _ _).mono ?_;rintro e w1 ⟨rfl,rfl⟩;go_wp2_with fail;refine (z7p r hr _).mono ?_;rintro e w1 ⟨rfl,rfl⟩;go_wp2_with fail
   go_ret2
   exact⟨by rw[zA HF];rfl,rfl⟩
  | false=>
   cases hh:yF r[0].toNat with
   | true=>
    have HF:=zC (show oi r=z56 r by unfold oi;rw[dif_pos h0,if_neg (by rw[hl];decide),if_pos hh]);go_enter Tryz.func115,Tryz.ntmps115;go_wp2_with fail;refine (zbl _ _).mono ?_;rintro e w1 ⟨rfl,rfl⟩;go_wp2_with fail;refine (za2 _ _).mono ?_;rintro e w1 ⟨rfl,rfl⟩;go_wp2_with fail;refine (ztd r hr _).mono ?_;rintro e w1 ⟨rfl,rfl⟩;go_wp2_with fail
    go_ret2
    exact⟨by rw[zA HF];rfl,rfl⟩
   | false=>
    have HF:=zC (show oi r=zho r by unfold oi;rw[dif_pos h0,if_neg (by rw[hl];decide),if_neg (by rw[hh];decide)]);go_enter Tryz.func115,Tryz.ntmps115;go_wp2_with fail;refine (zbl _ _).mono ?_;rintro e w1 ⟨rfl,rfl⟩;go_wp2_with fail;refine (za2 _ _).mono ?_;rintro e w1 ⟨rfl,rfl⟩;go_wp2_with fail;refine (z8n r _).mono ?_;rintro e w1 ⟨rfl,rfl⟩;go_wp2_with fail
    go_ret2
    exact⟨by rw[zA HF];rfl,rfl⟩
 ·have he:r.toList.isEmpty=true:=by
   rw[ByteArray.toList_eq,List.isEmpty_iff];apply List.eq_nil_of_length_eq_zero;rw[Array.length_toList];have h2:r.data.size=r.size:=rfl;omega
  have HF:=zC (show oi r=(0,0) by unfold oi;rw[dif_neg h0]);go_enter Tryz.func115,Tryz.ntmps115;go_wp2_with fail
  go_ret2
  exact⟨by rw[zA HF];rfl,rfl⟩
def yb9 (k:Int × Nat × Nat):Value:=.agg #[.int .i64 k.1,.int .i64 k.2.1,.int .i64 k.2.2]
theorem zwj (r:B8):(oi r).2<=r.size:=by
 unfold oi
 split
 ·rename_i h;have h1:=zcz xL r 0 (Nat.zero_le _);have h2:=zcz yF r 0 (Nat.zero_le _)
  split
  ·unfold zj6;split;exact h1;split <;> exact h1
  ·split
   ·unfold z56;split <;> exact h2
   ·unfold zho
    split;exact h
    split;exact h
    split;exact h
    split;exact h
    split
    ·rename_i h5;exact h5.1
    ·exact h
 ·simp
theorem z8i (s:B8)(i:Nat)(hi:i<=s.size)(hs:s.size<=maxLen)(w:W8):
  Calls Tryz.prog 73 #[.string s,.int .i64 i] w λ e w'=>e=.returned (yb9 (zF s i))/\Below w.heap.size w w':=by
 have hb:=zmu zO s i hi;have dK:=zcz zO s i hi;have mh:=hs;unfold maxLen at mh;have tf:(s.extract i s.size).size<=maxLen:=by rw[zda s i];omega
 have yp:=zC tf;have aB:=zso (s.extract i s.size) tf;generalize skip zO (s.extract i s.size) 0=n0 at *;have Up:zF s i=((oi (s.extract (i+n0) s.size)).1,i+n0,i+n0+(oi (s.extract (i+n0) s.size)).2):=by unfold zF;rw[<-hb]
 have bh:=zwj (s.extract (i+n0) s.size);rw[zda s _] at bh;have hle:i+n0<=s.size:=by omega
 have Yo:(i:Int)+n0<=s.size:=by omega
 have LI:(s.extract (i+n0) s.size).size<=maxLen:=by rw[zda s _];omega
 have gU:=zui (s.extract (i+n0) s.size) LI;have WE:=zC Up;have HR:=zC aB;have Oy:=zC gU;clear hb tf LI yp aB Up gU dK;go_enter Tryz.func73,Tryz.ntmps73;go_wp2_with fail;refine (zA HR _).mono ?_;rintro e w1 ⟨rfl,rfl⟩;clear HR;go_wp2_with fail;have et:((i:Int)+n0).toNat=i+n0:=by omega
 try rw[et]
 refine (zA Oy _).mono ?_;rintro e w1 ⟨rfl,rfl⟩;clear Oy;generalize oi (s.extract (i+n0) s.size)=K at *;go_wp2_with fail;refine bodyPost_ret (v:=yb9 (zF s i)) (by rw[zA WE];simp[results,Tryz.results73,go_sem,yb9]) rfl ⟨rfl,B9.alloc L9 _⟩
end
section
open Go.RowKit
theorem yaw (s:B8)(i:Nat)(hi:i<=s.size)(hs:s.size<=maxLen)(w:W8)(K:skip zO s i<s.size->skip zO s i<skip xL s (skip zO s i)):
  Calls Tryz.prog 123 #[.string s,.int .i64 i] w λ e w'=>e=.returned (.tuple #[vH (tok s i),.int .i64 (tok s i).to])/\Below w.heap.size w w':=by
 unfold maxLen at hs;go_enter Tryz.func123,Tryz.ntmps123
 go_wp2
 go_loop [1] (λ t=>∃ k:Nat,i<=k/\k<=s.size/\t=.int .i64 k/\skip zO s k=skip zO s i) (λ t=>s.size-(intOf t).toNat)
 exact⟨i,Nat.le_refl _,hi,rfl,rfl⟩
 case round=>
  obtain⟨k,KL,hk,rfl,mi⟩:=hrel;have HS:Hid (skip zO s k=skip zO s i):=mi;clear mi
  by_cases aH:k<s.size
  ·by_cases hb:zO s[k].toNat=true
   ·have HB:Hid (skip zO s (k+1)=skip zO s i):=(xY zO s k aH hb).symm.trans HS.out;have hc:(s[k].toNat:Int)=32\/(s[k].toNat:Int)=10:=(by simpa[zO] using hb);clear hb HS;rcases hc with hc | hc
    all_goals
     go_wp2
     go_round
     case rel=>exact⟨k+1,by omega,by omega,by go_num,HB.out⟩
     case measure=>simp[intOf];omega
   ·have gj:zO s[k].toNat=false:=(by simpa using hb);have HB:Hid (skip zO s i=k):=HS.out.symm.trans (xZ zO s k aH gj);have va:((s[k].toNat:Int)==32)=false:=(by simp[zO] at gj;simp[gj.1]);have nS:((s[k].toNat:Int)==10)=false:=(by simp[zO] at gj;simp[gj.2]);clear hb gj HS;have K':k<skip xL s k:=(by have:=K (by rw[HB.out];exact aH);rwa [HB.out] at this);clear K
    go_wp2
    go_loop [6] (λ t=>∃ m:Nat,k<=m/\m<=s.size/\t=.int .i64 m/\skip xL s m=skip xL s k) (λ t=>s.size-(intOf t).toNat)
    exact⟨k,Nat.le_refl _,hk,rfl,rfl⟩
    case round=>
     obtain⟨m,nF,hm,rfl,bM⟩:=hrel;have HM:Hid (skip xL s m=skip xL s k):=bM;clear bM
     by_cases hgo:∃ h:m<s.size,xL s[m].toNat=true
     ·obtain⟨bh,bc⟩:=hgo;have ot:Hid (skip xL s (m+1)=skip xL s k):=(xY xL s m bh bc).symm.trans HM.out;go_wp2_with (go_at_call 182;refine (za3 _ _).mono ?_;rintro e w' ⟨rfl,rfl⟩)
      go_round
      case rel=>exact⟨m+1,by omega,by omega,by go_num,ot.out⟩
      case measure=>simp[intOf];omega
     ·have lU:Hid (skip xL s k=m):=by
       refine HM.out.symm.trans ?_
       by_cases bh:m<s.size
       ·exact xZ _ _ _ bh (by cases h:xL s[m].toNat;rfl;exact absurd ⟨bh,h⟩ hgo)
       ·exact jJ _ _ _ bh
      have mR:k<m:=(by rw[<-lU.out];exact K');clear K'
      by_cases bh:m<s.size
      ·have bc:xL s[m].toNat=false:=(by cases h:xL s[m].toNat;rfl;exact absurd ⟨bh,h⟩ hgo);clear hgo;go_wp2_with (go_at_call 182;refine (za3 _ _).mono ?_;rintro e w' ⟨rfl,rfl⟩)
       all_goals
        first
         | have HT:=z5j HB.out aH lU.out mR ‹_›
         | have HT:=zxh HB.out aH lU.out mR ‹_› ‹_›
         | have HT:=zxg HB.out aH lU.out mR ‹_› ‹_›
        exact bodyPost_ret (v:=.tuple #[vH (tok s i),.int .i64 (tok s i).to]) (by rw[HT];simp[results,Tryz.results123,go_sem,vH]) rfl ⟨rfl,by first | exact B9.alloc L9 _ | exact below_drewN (B9.alloc L9 _) _⟩
      ·clear hgo;go_wp2_with (go_at_call 182;refine (za3 _ _).mono ?_;rintro e w' ⟨rfl,rfl⟩)
       all_goals
        first
         | have HT:=z5j HB.out aH lU.out mR ‹_›
         | have HT:=zxh HB.out aH lU.out mR ‹_› ‹_›
         | have HT:=zxg HB.out aH lU.out mR ‹_› ‹_›
        exact bodyPost_ret (v:=.tuple #[vH (tok s i),.int .i64 (tok s i).to]) (by rw[HT];simp[results,Tryz.results123,go_sem,vH]) rfl ⟨rfl,by first | exact B9.alloc L9 _ | exact below_drewN (B9.alloc L9 _) _⟩
  ·have HB:Hid (skip zO s i=k):=HS.out.symm.trans (jJ zO s k aH);clear HS
   go_wp2
   have HT:=yci HB.out (by omega);exact bodyPost_ret (v:=.tuple #[vH (tok s i),.int .i64 (tok s i).to]) (by rw[HT];simp[results,Tryz.results123,go_sem,vH]) rfl ⟨rfl,by first | exact B9.alloc L9 _ | exact below_drewN (B9.alloc L9 _) _⟩
end
section
open Go.RowKit
theorem z6w (s:B8)(i:Nat)(hi:i<=s.size)(hs:s.size<=maxLen)(w:W8)(K0:skip zO s i<s.size)(K1:skip xL s (skip zO s i)=skip zO s i)(K2:skip zO s i<skip yF s (skip zO s i)):
  Calls Tryz.prog 123 #[.string s,.int .i64 i] w λ e w'=>e=.returned (.tuple #[vH (tok s i),.int .i64 (tok s i).to])/\Below w.heap.size w w':=by
 unfold maxLen at hs;go_enter Tryz.func123,Tryz.ntmps123
 go_wp2
 go_loop [1] (λ t=>∃ k:Nat,i<=k/\k<=s.size/\t=.int .i64 k/\skip zO s k=skip zO s i) (λ t=>s.size-(intOf t).toNat)
 exact⟨i,Nat.le_refl _,hi,rfl,rfl⟩
 case round=>
  obtain⟨k,KL,hk,rfl,mi⟩:=hrel;have HS:Hid (skip zO s k=skip zO s i):=mi;clear mi
  by_cases aH:k<s.size
  ·by_cases hb:zO s[k].toNat=true
   ·have HB:Hid (skip zO s (k+1)=skip zO s i):=(xY zO s k aH hb).symm.trans HS.out;have hc:(s[k].toNat:Int)=32\/(s[k].toNat:Int)=10:=(by simpa[zO] using hb);clear hb HS;rcases hc with hc | hc
    all_goals
     go_wp2
     go_round
     case rel=>exact⟨k+1,by omega,by omega,by go_num,HB.out⟩
     case measure=>simp[intOf];omega
   ·have gj:zO s[k].toNat=false:=(by simpa using hb);have HB:Hid (skip zO s i=k):=HS.out.symm.trans (xZ zO s k aH gj);have va:((s[k].toNat:Int)==32)=false:=(by simp[zO] at gj;simp[gj.1]);have nS:((s[k].toNat:Int)==10)=false:=(by simp[zO] at gj;simp[gj.2]);clear hb gj HS;have D1:skip xL s k=k:=(by have:=K1;rwa [HB.out] at this);have K':=zC D1;clear K1 D1;have yr:k<skip yF s k:=(by rwa [HB.out] at K2);clear K2 K0
    go_wp2
    go_loop [6] (λ t=>∃ m:Nat,k<=m/\m<=s.size/\t=.int .i64 m/\skip xL s m=skip xL s k) (λ t=>s.size-(intOf t).toNat)
    exact⟨k,Nat.le_refl _,hk,rfl,rfl⟩
    case round=>
     obtain⟨m,nF,hm,rfl,bM⟩:=hrel;have HM:Hid (skip xL s m=skip xL s k):=bM;clear bM
     by_cases hgo:∃ h:m<s.size,xL s[m].toNat=true
     ·obtain⟨bh,bc⟩:=hgo;have ot:Hid (skip xL s (m+1)=skip xL s k):=(xY xL s m bh bc).symm.trans HM.out;go_wp2_with (go_at_call 182;refine (za3 _ _).mono ?_;rintro e w' ⟨rfl,rfl⟩)
      go_round
      case rel=>exact⟨m+1,by omega,by omega,by go_num,ot.out⟩
      case measure=>simp[intOf];omega
     ·have lU:Hid (skip xL s k=m):=by
       refine HM.out.symm.trans ?_
       by_cases bh:m<s.size
       ·exact xZ _ _ _ bh (by cases h:xL s[m].toNat;rfl;exact absurd ⟨bh,h⟩ hgo)
       ·exact jJ _ _ _ bh
      have oF:k=m:=(by rw[<-lU.out];exact (zA K').symm);subst oF;have bc:xL s[k].toNat=false:=(by cases h:xL s[k].toNat;rfl;exact absurd ⟨aH,h⟩ hgo);clear hgo HM nF hm K';go_wp2_with (go_at_call 182;refine (za3 _ _).mono ?_;rintro e w' ⟨rfl,rfl⟩)
      go_loop [6] (λ t=>∃ m:Nat,k<=m/\m<=s.size/\t=.int .i64 m/\skip yF s m=skip yF s k) (λ t=>s.size-(intOf t).toNat)
      exact⟨k,Nat.le_refl _,hk,rfl,rfl⟩
      case round=>
       obtain⟨m,nF,hm,rfl,bM⟩:=hrel;have HN:Hid (skip yF s m=skip yF s k):=bM;clear bM
       by_cases hgo:∃ h:m<s.size,yF s[m].toNat=true
       ·obtain⟨bh,Ej⟩:=hgo;have ot:Hid (skip yF s (m+1)=skip yF s k):=(xY yF s m bh Ej).symm.trans HN.out;go_wp2_with (go_at_call 183;refine (qU _ _).mono ?_;rintro e w' ⟨rfl,rfl⟩)
        go_round
        case rel=>exact⟨m+1,by omega,by omega,by go_num,ot.out⟩
        case measure=>simp[intOf];omega
       ·have pS:Hid (skip yF s k=m):=by
         refine HN.out.symm.trans ?_
         by_cases bh:m<s.size
         ·exact xZ _ _ _ bh (by cases h:yF s[m].toNat;rfl;exact absurd ⟨bh,h⟩ hgo)
         ·exact jJ _ _ _ bh
        have mR:k<m:=(by rw[<-pS.out];exact yr);clear yr
        by_cases bh:m<s.size
        ·have Ej:yF s[m].toNat=false:=(by cases h:yF s[m].toNat;rfl;exact absurd ⟨bh,h⟩ hgo);clear hgo;go_wp2_with (go_at_call 183;refine (qU _ _).mono ?_;rintro e w' ⟨rfl,rfl⟩)
         all_goals
          first
           | have HT:=z5k HB.out aH lU.out pS.out mR ‹_›
           | have HT:=zm4 HB.out aH lU.out pS.out mR ‹_›
          exact bodyPost_ret (v:=.tuple #[vH (tok s i),.int .i64 (tok s i).to]) (by rw[HT];simp[results,Tryz.results123,go_sem,vH]) rfl ⟨rfl,by first | exact B9.alloc L9 _ | exact below_drewN (B9.alloc L9 _) _⟩
        ·clear hgo;go_wp2_with (go_at_call 183;refine (qU _ _).mono ?_;rintro e w' ⟨rfl,rfl⟩)
         all_goals
          first
           | have HT:=z5k HB.out aH lU.out pS.out mR ‹_›
           | have HT:=zm4 HB.out aH lU.out pS.out mR ‹_›
          exact bodyPost_ret (v:=.tuple #[vH (tok s i),.int .i64 (tok s i).to]) (by rw[HT];simp[results,Tryz.results123,go_sem,vH]) rfl ⟨rfl,by first | exact B9.alloc L9 _ | exact below_drewN (B9.alloc L9 _) _⟩
  ·exact absurd (by have h:=HS.out.symm.trans (jJ zO s k aH);rw[h] at K0;exact K0) aH
end
section
open Go.RowKit
theorem z1w (s:B8)(i:Nat)(hi:i<=s.size)(hs:s.size<=maxLen)(w:W8)(K0:skip zO s i<s.size)(K1:skip xL s (skip zO s i)=skip zO s i)(K2:skip yF s (skip zO s i)=skip zO s i)(K3:(zq6 s (skip zO s i):Int)=58):
  Calls Tryz.prog 123 #[.string s,.int .i64 i] w λ e w'=>e=.returned (.tuple #[vH (tok s i),.int .i64 (tok s i).to])/\Below w.heap.size w w':=by
 unfold maxLen at hs;go_enter Tryz.func123,Tryz.ntmps123
 go_wp2
 go_loop [1] (λ t=>∃ k:Nat,i<=k/\k<=s.size/\t=.int .i64 k/\skip zO s k=skip zO s i) (λ t=>s.size-(intOf t).toNat)
 exact⟨i,Nat.le_refl _,hi,rfl,rfl⟩
 case round=>
  obtain⟨k,KL,hk,rfl,mi⟩:=hrel;have HS:Hid (skip zO s k=skip zO s i):=mi;clear mi
  by_cases aH:k<s.size
  ·by_cases hb:zO s[k].toNat=true
   ·have HB:Hid (skip zO s (k+1)=skip zO s i):=(xY zO s k aH hb).symm.trans HS.out;have hc:(s[k].toNat:Int)=32\/(s[k].toNat:Int)=10:=(by simpa[zO] using hb);clear hb HS;rcases hc with hc | hc
    all_goals
     go_wp2
     go_round
     case rel=>exact⟨k+1,by omega,by omega,by go_num,HB.out⟩
     case measure=>simp[intOf];omega
   ·have gj:zO s[k].toNat=false:=(by simpa using hb);have HB:Hid (skip zO s i=k):=HS.out.symm.trans (xZ zO s k aH gj);have va:((s[k].toNat:Int)==32)=false:=(by simp[zO] at gj;simp[gj.1]);have nS:((s[k].toNat:Int)==10)=false:=(by simp[zO] at gj;simp[gj.2]);clear hb gj HS;have D1:skip xL s k=k:=(by have:=K1;rwa [HB.out] at this);have K':=zC D1;clear K1 D1;have yr:=zC (show skip yF s k=k by rwa [HB.out] at K2);clear K2 K0;have JI:=zC (show (s[k].toNat:Int)=58 by rw[HB.out,zq7 aH] at K3;exact K3);clear K3
    go_wp2
    go_loop [6] (λ t=>∃ m:Nat,k<=m/\m<=s.size/\t=.int .i64 m/\skip xL s m=skip xL s k) (λ t=>s.size-(intOf t).toNat)
    exact⟨k,Nat.le_refl _,hk,rfl,rfl⟩
    case round=>
     obtain⟨m,nF,hm,rfl,bM⟩:=hrel;have HM:Hid (skip xL s m=skip xL s k):=bM;clear bM
     by_cases hgo:∃ h:m<s.size,xL s[m].toNat=true
     ·obtain⟨bh,bc⟩:=hgo;have ot:Hid (skip xL s (m+1)=skip xL s k):=(xY xL s m bh bc).symm.trans HM.out;go_wp2_with (go_at_call 182;refine (za3 _ _).mono ?_;rintro e w' ⟨rfl,rfl⟩)
      go_round
      case rel=>exact⟨m+1,by omega,by omega,by go_num,ot.out⟩
      case measure=>simp[intOf];omega
     ·have lU:Hid (skip xL s k=m):=by
       refine HM.out.symm.trans ?_
       by_cases bh:m<s.size
       ·exact xZ _ _ _ bh (by cases h:xL s[m].toNat;rfl;exact absurd ⟨bh,h⟩ hgo)
       ·exact jJ _ _ _ bh
      have oF:k=m:=(by rw[<-lU.out];exact (zA K').symm);subst oF;have bc:xL s[k].toNat=false:=(by cases h:xL s[k].toNat;rfl;exact absurd ⟨aH,h⟩ hgo);clear hgo HM nF hm K';go_wp2_with (go_at_call 182;refine (za3 _ _).mono ?_;rintro e w' ⟨rfl,rfl⟩)
      go_loop [6] (λ t=>∃ m:Nat,k<=m/\m<=s.size/\t=.int .i64 m/\skip yF s m=skip yF s k) (λ t=>s.size-(intOf t).toNat)
      exact⟨k,Nat.le_refl _,hk,rfl,rfl⟩
      case round=>
       obtain⟨m,nF,hm,rfl,bM⟩:=hrel;have HN:Hid (skip yF s m=skip yF s k):=bM;clear bM
       by_cases hgo:∃ h:m<s.size,yF s[m].toNat=true
       ·obtain⟨bh,Ej⟩:=hgo;have ot:Hid (skip yF s (m+1)=skip yF s k):=(xY yF s m bh Ej).symm.trans HN.out;go_wp2_with (go_at_call 183;refine (qU _ _).mono ?_;rintro e w' ⟨rfl,rfl⟩)
        go_round
        case rel=>exact⟨m+1,by omega,by omega,by go_num,ot.out⟩
        case measure=>simp[intOf];omega
       ·have pS:Hid (skip yF s k=m):=by
         refine HN.out.symm.trans ?_
         by_cases bh:m<s.size
         ·exact xZ _ _ _ bh (by cases h:yF s[m].toNat;rfl;exact absurd ⟨bh,h⟩ hgo)
         ·exact jJ _ _ _ bh
        have oF:k=m:=(by rw[<-pS.out];exact (zA yr).symm);subst oF;have Ej:yF s[k].toNat=false:=(by cases h:yF s[k].toNat;rfl;exact absurd ⟨aH,h⟩ hgo);clear hgo HN nF hm yr;have ee:=zA JI;clear JI;have lR:=zC ee;have PL:((s[k].toNat:Int)==58)=true:=(by rw[ee];rfl);clear ee
        by_cases aW:k+1<s.size
        ·by_cases dU:(s[k+1].toNat:Int)=45
         ·have HL:=zC (zsy aH (zA lR) aW dU);go_wp2_with (go_at_call 183;refine (qU _ _).mono ?_;rintro e w' ⟨rfl,rfl⟩);have HT:=z82 HB.out aH lU.out pS.out (zA HL);exact bodyPost_ret (v:=.tuple #[vH (tok s i),.int .i64 (tok s i).to]) (by rw[HT];simp[results,Tryz.results123,go_sem,vH]) rfl ⟨rfl,by first | exact B9.alloc L9 _ | exact below_drewN (B9.alloc L9 _) _ | exact (((below_drewN (B9.alloc L9 _) _).setCell L9 _).setCell L9 _).setCell L9 _⟩
         ·have Ov:=zC (zij aH (zA lR) (λ _=>dU));have e45:((s[k+1].toNat:Int)==45)=false:=(by simp[dU]);clear dU;go_wp2_with (go_at_call 183;refine (qU _ _).mono ?_;rintro e w' ⟨rfl,rfl⟩)
          go_loopw [6] (λ t wr=>∃ j n:Nat,(j=0/\t=.int .i64 0\/j=1/\t=.int .i64 1\/j=2/\t=.int .i64 2\/j=3/\t=.int .i64 3\/j=4/\t=.int .i64 4)/\(∀ c,c∈([40,41,44,46]:List Int).take j->(s[k].toNat:Int)≠c)/\wr=(w.alloc (Obj.cells #[.int IntKind.u8 0,.string { data:=#[] },.int IntKind.i64 0] 233)).drewN n) (λ t _=>4-(intOf t).toNat)
          exact⟨0,0,by simp,by simp,rfl⟩
          case round=>
           obtain⟨j,n,hj,hd,rfl⟩:=hrel;have HD:=zC hd;clear hd;rcases hj with⟨rfl,rfl⟩ | ⟨rfl,rfl⟩ | ⟨rfl,rfl⟩ | ⟨rfl,rfl⟩ | ⟨rfl,rfl⟩
           ·have e1:(((({ data:=#[40,41,44,46] }:B8)[0]'(by decide)).toNat:Int)==(s[k].toNat:Int))=false:=(by rw[zA lR];rfl);have HQ:Hid (¬ (s[k].toNat:Int)=40):=(by show ¬ _;rw[zA lR];decide);go_wp2_with fail;go_quiet (fail)
            go_wp2
            go_roundw
            case rel=>exact⟨1,_,by simp,more HD.out (zA HQ) rfl rfl,rfl⟩
            case measure=>simp[intOf]
           ·have e1:(((({ data:=#[40,41,44,46] }:B8)[1]'(by decide)).toNat:Int)==(s[k].toNat:Int))=false:=(by rw[zA lR];rfl);have HQ:Hid (¬ (s[k].toNat:Int)=41):=(by show ¬ _;rw[zA lR];decide);go_wp2_with fail;go_quiet (fail)
            go_wp2
            go_roundw
            case rel=>exact⟨2,_,by simp,more HD.out (zA HQ) rfl rfl,rfl⟩
            case measure=>simp[intOf]
           ·have e1:(((({ data:=#[40,41,44,46] }:B8)[2]'(by decide)).toNat:Int)==(s[k].toNat:Int))=false:=(by rw[zA lR];rfl);have HQ:Hid (¬ (s[k].toNat:Int)=44):=(by show ¬ _;rw[zA lR];decide);go_wp2_with fail;go_quiet (fail)
            go_wp2
            go_roundw
            case rel=>exact⟨3,_,by simp,more HD.out (zA HQ) rfl rfl,rfl⟩
            case measure=>simp[intOf]
           ·have e1:(((({ data:=#[40,41,44,46] }:B8)[3]'(by decide)).toNat:Int)==(s[k].toNat:Int))=false:=(by rw[zA lR];rfl);have HQ:Hid (¬ (s[k].toNat:Int)=46):=(by show ¬ _;rw[zA lR];decide);go_wp2_with fail;go_quiet (fail)
            go_wp2
            go_roundw
            case rel=>exact⟨4,_,by simp,more HD.out (zA HQ) rfl rfl,rfl⟩
            case measure=>simp[intOf]
           ·have HL:Hid (xA s k=0):=Ov
            go_wp2
            have HT:=zqa HB.out aH lU.out pS.out HL.out;exact bodyPost_ret (v:=.tuple #[vH (tok s i),.int .i64 (tok s i).to]) (by rw[HT];simp[results,Tryz.results123,go_sem,vH]) rfl ⟨rfl,by first | exact B9.alloc L9 _ | exact below_drewN (B9.alloc L9 _) _ | exact (((below_drewN (B9.alloc L9 _) _).setCell L9 _).setCell L9 _).setCell L9 _⟩
        ·have Ov:=zC (zij aH (zA lR) (λ h=>absurd h aW));go_wp2_with (go_at_call 183;refine (qU _ _).mono ?_;rintro e w' ⟨rfl,rfl⟩)
         go_loopw [6] (λ t wr=>∃ j n:Nat,(j=0/\t=.int .i64 0\/j=1/\t=.int .i64 1\/j=2/\t=.int .i64 2\/j=3/\t=.int .i64 3\/j=4/\t=.int .i64 4)/\(∀ c,c∈([40,41,44,46]:List Int).take j->(s[k].toNat:Int)≠c)/\wr=(w.alloc (Obj.cells #[.int IntKind.u8 0,.string { data:=#[] },.int IntKind.i64 0] 233)).drewN n) (λ t _=>4-(intOf t).toNat)
         exact⟨0,0,by simp,by simp,rfl⟩
         case round=>
          obtain⟨j,n,hj,hd,rfl⟩:=hrel;have HD:=zC hd;clear hd;rcases hj with⟨rfl,rfl⟩ | ⟨rfl,rfl⟩ | ⟨rfl,rfl⟩ | ⟨rfl,rfl⟩ | ⟨rfl,rfl⟩
          ·have e1:(((({ data:=#[40,41,44,46] }:B8)[0]'(by decide)).toNat:Int)==(s[k].toNat:Int))=false:=(by rw[zA lR];rfl);have HQ:Hid (¬ (s[k].toNat:Int)=40):=(by show ¬ _;rw[zA lR];decide);go_wp2_with fail;go_quiet (fail)
           go_wp2
           go_roundw
           case rel=>exact⟨1,_,by simp,more HD.out (zA HQ) rfl rfl,rfl⟩
           case measure=>simp[intOf]
          ·have e1:(((({ data:=#[40,41,44,46] }:B8)[1]'(by decide)).toNat:Int)==(s[k].toNat:Int))=false:=(by rw[zA lR];rfl);have HQ:Hid (¬ (s[k].toNat:Int)=41):=(by show ¬ _;rw[zA lR];decide);go_wp2_with fail;go_quiet (fail)
           go_wp2
           go_roundw
           case rel=>exact⟨2,_,by simp,more HD.out (zA HQ) rfl rfl,rfl⟩
           case measure=>simp[intOf]
          ·have e1:(((({ data:=#[40,41,44,46] }:B8)[2]'(by decide)).toNat:Int)==(s[k].toNat:Int))=false:=(by rw[zA lR];rfl);have HQ:Hid (¬ (s[k].toNat:Int)=44):=(by show ¬ _;rw[zA lR];decide);go_wp2_with fail;go_quiet (fail)
           go_wp2
           go_roundw
           case rel=>exact⟨3,_,by simp,more HD.out (zA HQ) rfl rfl,rfl⟩
           case measure=>simp[intOf]
          ·have e1:(((({ data:=#[40,41,44,46] }:B8)[3]'(by decide)).toNat:Int)==(s[k].toNat:Int))=false:=(by rw[zA lR];rfl);have HQ:Hid (¬ (s[k].toNat:Int)=46):=(by show ¬ _;rw[zA lR];decide);go_wp2_with fail;go_quiet (fail)
           go_wp2
           go_roundw
           case rel=>exact⟨4,_,by simp,more HD.out (zA HQ) rfl rfl,rfl⟩
           case measure=>simp[intOf]
          ·have HL:Hid (xA s k=0):=Ov
           go_wp2
           have HT:=zqa HB.out aH lU.out pS.out HL.out;exact bodyPost_ret (v:=.tuple #[vH (tok s i),.int .i64 (tok s i).to]) (by rw[HT];simp[results,Tryz.results123,go_sem,vH]) rfl ⟨rfl,by first | exact B9.alloc L9 _ | exact below_drewN (B9.alloc L9 _) _ | exact (((below_drewN (B9.alloc L9 _) _).setCell L9 _).setCell L9 _).setCell L9 _⟩
  ·exact absurd (by have h:=HS.out.symm.trans (jJ zO s k aH);rw[h] at K0;exact K0) aH
end
end Go.Proofs.YtldkpahaocjdpaaGreat
