/-
  Plain, no walk: what a token of a text is, as the document's section Words says it: blanks are passed by; a row of a..z and 0..9, a row of A..Z, the signs ( ) , . :- ; all else is none.
-/
import Derived.Test.YtldkpahaocjdpaaGreatA00
import Derived.Below
import Derived.WalkKit
import Derived.WalkSpells
import Derived.WalkLawsBesides
import Derived.Deep.QuietTactic
import Derived.BigQuiet
import Derived.Lib.Strings
import Derived.Deep.RegionWith
import Derived.Deep.LoopGhost
import Derived.Deep.AppendLies
import Derived.Deep.RegionLaw
import Derived.Deep.DeepCutAuto
import Derived.Test.YtldkpahaocjdpaaGreatA03
set_option maxHeartbeats 16000000
set_option maxRecDepth 1000000
namespace Go.Proofs.YtldkpahaocjdpaaGreat
open Go.Value renaming slice->U,int->I,string->Y,bool->Vb,pointer->Vp,agg->Va,tuple->Vt
open Go.IntKind renaming i64->J
open Go.Ending renaming returned->Vr
open Go.Obj renaming cells->Vc
open _root_.Option renaming none->G,some->P
open _root_.Bool renaming true->Bt,false->Bf
open Go.Addr renaming mk->C
open _root_.List renaming length->Z
open Go.World renaming heap->X,alloc->Al,setCell->Sc,cell?->Ce,ownsRow->Ow
open _root_.Array renaming size->F
open Go.Proofs.Tryz
set_option linter.defProp false
def bO(c:Int):Bool:=(decide (97<=c)&&decide (c<=122))||(decide (48<=c)&&decide (c<=57))
def di(c:Int):Bool:=decide (65<=c)&&decide (c<=90)
def dU(c:Int):Bool:=decide (c=32)||decide (c=10)
def skip(p:Int->Bool)(s:B8)(i:Nat):Nat:=
 if h:i<s.size then(if p s[i].toNat then skip p s (i+1) else i) else i
termination_by s.size-i
def vY(p s i)(h:i<s.size)(a:p s[i].toNat=Bt):skip p s i=skip p s (i+1):=by rw[skip];simp[h,a]
def vZ(p s i)(h:i<s.size)(a:p s[i].toNat=Bf):skip p s i=i:=by rw[skip];simp[h,a]
def xL(p s i)(h:¬i<s.size):skip p s i=i:=by rw[skip];simp[h]
def aak(p s i):i<=skip p s i:=by fun_induction skip p s i<;>omega
def uR(p s i)(h:i<=s.size):skip p s i<=s.size:=by fun_induction skip p s i<;>omega
def TY(s:B8)(i:Nat):Nat:=if h:i<s.size then s[i].toNat else 256
variable {a:B8}{b c d:Nat}
def aos(h:b<a.size):TY a b=a[b].toNat:=by simp[TY,h]
structure Tk where
 kind:Int
 text:B8
 aC:Nat
 zto:Nat
def jw(s:B8)(i:Nat):Nat:=
 if h:i<s.size then
  (if(s[i].toNat:Int)=58 then(if h2:i+1<s.size then(if(s[i+1].toNat:Int)=45 then 2 else 0) else 0)
  else if(s[i].toNat:Int)=40\/(s[i].toNat:Int)=41\/(s[i].toNat:Int)=44\/(s[i].toNat:Int)=46 then 1 else 0)
 else 0
def qO(s:B8)(i:Nat):Tk:=
 if s.size<=i then ⟨46,⟨#[]⟩,s.size,i⟩
 else if i<skip bO s i then
  (if(s.extract i (skip bO s i)).toList=[110,111,116] then ⟨119,s.extract i (skip bO s i),i,skip bO s i⟩
  else if skip bO s i-i<=8 then ⟨110,s.extract i (skip bO s i),i,skip bO s i⟩
  else ⟨33,⟨#[]⟩,i,skip bO s i⟩)
 else if i<skip di s i then
  (if skip di s i-i<=8 then ⟨118,s.extract i (skip di s i),i,skip di s i⟩
  else ⟨33,⟨#[]⟩,i,skip di s i⟩)
 else if jw s i=0 then ⟨33,⟨#[]⟩,i,i+1⟩
 else if jw s i=2 then ⟨115,⟨#[58,45]⟩,i,i+2⟩
 else ⟨115,s.extract i (i+1),i,i+1⟩
def az(s:B8)(i:Nat):Tk:=qO s (skip dU s i)
def anx(h:skip dU a b=c)(s:a.size<=c):az a b=⟨46,⟨#[]⟩,a.size,c⟩:=by unfold az;rw[h];simp[qO,s]
def anB(h:skip dU a b=c)(e:c<a.size)(k:skip bO a c=d)(s:c<d)(m:((a.extract c d).toList==[110,111,116])=Bt):az a b=⟨119,a.extract c d,c,d⟩:=by have i:=eq_of_beq m;unfold az;rw[h,qO,aB O,k,aD s,aD i]
def anA(h:skip dU a b=c)(g:c<a.size)(m:skip bO a c=d)(s:c<d)(k:((a.extract c d).toList==[110,111,116])=Bf)(f:((d-c:Nat):Int)<=8):az a b=⟨110,a.extract c d,c,d⟩:=by
 have i:¬(a.extract c d).toList=[110,111,116]:=λe=>by rw[e]at k;simp at k
 unfold az;rw[h,qO,aB O,m,aD s,aB i,aD O]
def anz(h:skip dU a b=c)(g:c<a.size)(m:skip bO a c=d)(s:c<d)(k:((a.extract c d).toList==[110,111,116])=Bf)(f:8<((d-c:Nat):Int)):az a b=⟨33,⟨#[]⟩,c,d⟩:=by
 have i:¬(a.extract c d).toList=[110,111,116]:=λe=>by rw[e]at k;simp at k
 unfold az;rw[h,qO,aB O,m,aD s,aB i,aB O]
def anC(h:skip dU a b=c)(m:c<a.size)(e:skip bO a c=c)(i:skip di a c=d)(s:c<d)(k:(d:Int)-c<=8):az a b=⟨118,a.extract c d,c,d⟩:=by unfold az;rw[h,qO,aB O,aB O,i,aD s,aD O]
def anD(h:skip dU a b=c)(m:c<a.size)(e:skip bO a c=c)(i:skip di a c=d)(s:c<d)(k:8<(d:Int)-c):az a b=⟨33,⟨#[]⟩,c,d⟩:=by unfold az;rw[h,qO,aB O,aB O,i,aD s,aB O]
def anE(h:skip dU a b=c)(i:c<a.size)(k:skip bO a c=c)(d:skip di a c=c)(s:jw a c=2):az a b=⟨115,⟨#[58,45]⟩,c,c+2⟩:=by unfold az;rw[h,qO,aB O,aB O,aB O,s,aB O,aD rfl]
def Kf(h:skip dU a b=c)(i:c<a.size)(k:skip bO a c=c)(d:skip di a c=c)(s:jw a c=1):az a b=⟨115,a.extract c (c+1),c,c+1⟩:=by unfold az;rw[h,qO,aB O,aB O,aB O,s,aB O,aB O]
def ab5(h:skip dU a b=c)(i:c<a.size)(k:skip bO a c=c)(d:skip di a c=c)(s:jw a c=0):az a b=⟨33,⟨#[]⟩,c,c+1⟩:=by unfold az;rw[h,qO,aB O,aB O,aB O,aD s]
def amg(d:b<a.size)(s:(a[b].toNat:Int)=58)(k:b+1<a.size)(c:(a[b+1].toNat:Int)=45):jw a b=2:=by simp[jw,d,s,k,c]
def amd(k:b<a.size)(s:(a[b].toNat:Int)=58)(c:∀h,¬(a[b+1].toNat:Int)=45):jw a b=0:=by
 by_cases h:b+1<a.size
 .simp[jw,k,s,h,c h]
 simp[jw,k,s,h]
def JY(c:b<a.size)(s:¬(a[b].toNat:Int)=58)(k:(a[b].toNat:Int)=40\/(a[b].toNat:Int)=41\/(a[b].toNat:Int)=44\/(a[b].toNat:Int)=46):jw a b=1:=by rw[jw,tr c,aB s,aD k]
def ame(c:b<a.size)(s:¬(a[b].toNat:Int)=58)(k:¬((a[b].toNat:Int)=40\/(a[b].toNat:Int)=41\/(a[b].toNat:Int)=44\/(a[b].toNat:Int)=46)):jw a b=0:=by rw[jw,tr c,aB s,aB k]
open Go.RowKit
variable {a:Prop}
def H(h:a):Hid a:=h
def ag(h:Hid a):a:=h
def OJ(c w):Calls prog 182 #[I .u8 c] w λe a=>e=Vr (Vb (bO c))/\a=w:=by
 go_in
 go_wp2
 all_goals go_ret
 all_goals exact⟨by simp[bO, *];try omega,rfl⟩
def Fk(c w):Calls prog 183 #[I .u8 c] w λe a=>e=Vr (Vb (di c))/\a=w:=by
 go_in
 go_wp2
 all_goals go_ret
 all_goals exact⟨by simp[di, *];try omega,rfl⟩
def jP{x j}{l:List Int}{d}(h:∀c,c∈l.take j->x≠c)(e:¬x=d){b}(a:b=j+1)(f:l[j]?=P d):∀c,c∈l.take b->x≠c:=by
 subst a;intro c a;rw[List.take_add_one,f]at a;simp at a;rcases a with a|a
 .exact h c a
 subst a;exact e
def jx(t:Tk):V9:=Va #[I .u8 t.kind,Y t.text,I J t.aC]
def CE(c w):Calls prog 170 #[I .u8 c] w λe a=>e=Vr (Vb (bO c))/\a=w:=by
 go_in
 go_wp2
 all_goals go_ret
 all_goals exact⟨by simp[bO, *];try omega,rfl⟩
def Fj(c w):Calls prog 172 #[I .u8 c] w λe a=>e=Vr (Vb (di c))/\a=w:=by
 go_in
 go_wp2
 all_goals go_ret
 all_goals exact⟨by simp[di, *];try omega,rfl⟩
def OI(c w):Calls prog 114 #[I .u8 c] w λe h=>e=Vr (Vb (dU c))/\h=w:=by
 go_in
 go_wp2
 all_goals go_ret
 .exact⟨by simp[dU, *],rfl⟩
 exact⟨by rename_i h;show Vr (Vb (c==32||c==10))=_;congr 2,rfl⟩
def Qp(s)(f:s.size<=maxLen)(w):Calls prog 113 #[Y s,.func (.func 170) #[] #[]] w λe b=>e=Vr (I J (skip bO s 0))/\b=w:=by
 unfold maxLen at f;go_in
 go_wp2
 go_loop [5] (λt=>∃m:Nat,m<=s.size/\t=I J m/\skip bO s m=skip bO s 0) (λt=>s.size-(intOf t).toNat)
 exact⟨0,aI _,rfl,rfl⟩
 case round=>
  obtain⟨m,_,rfl,a⟩:=hrel;have d:Hid (skip bO s m=skip bO s 0):=a;clear a
  by_cases a:m<s.size
  .cases t:bO s[m].toNat with
   |true=>
    have c:Hid (skip bO s (m+1)=skip bO s 0):=(vY bO s m a t).symm.trans d.out;go_wp2_with(go_at_call 170;refine(CE _ _).mono ?_;rintro e b⟨rfl,rfl⟩)
    go_round
    case rel=>exact⟨m+1,O,oN,c.out⟩
    case measure=>simp[intOf];omega
   |false=>have c:=H (d.out.symm.trans (vZ bO s m a t));go_wp2_with(go_at_call 170;refine(CE _ _).mono ?_;rintro e b⟨rfl,rfl⟩);go_ret;exact⟨by rw[ag c];rfl,rfl⟩
  have c:=H (d.out.symm.trans (xL bO s m a));go_wp2_with(go_at_call 170;refine(CE _ _).mono ?_;rintro e b⟨rfl,rfl⟩);go_ret;exact⟨by rw[ag c];rfl,rfl⟩
def aa1(s)(f:s.size<=maxLen)(w):Calls prog 113 #[Y s,.func (.func 172) #[] #[]] w λe b=>e=Vr (I J (skip di s 0))/\b=w:=by
 unfold maxLen at f;go_in
 go_wp2
 go_loop [5] (λt=>∃m:Nat,m<=s.size/\t=I J m/\skip di s m=skip di s 0) (λt=>s.size-(intOf t).toNat)
 exact⟨0,aI _,rfl,rfl⟩
 case round=>
  obtain⟨m,_,rfl,a⟩:=hrel;have d:Hid (skip di s m=skip di s 0):=a;clear a
  by_cases a:m<s.size
  .cases t:di s[m].toNat with
   |true=>
    have c:Hid (skip di s (m+1)=skip di s 0):=(vY di s m a t).symm.trans d.out;go_wp2_with(go_at_call 172;refine(Fj _ _).mono ?_;rintro e b⟨rfl,rfl⟩)
    go_round
    case rel=>exact⟨m+1,O,oN,c.out⟩
    case measure=>simp[intOf];omega
   |false=>have c:=H (d.out.symm.trans (vZ di s m a t));go_wp2_with(go_at_call 172;refine(Fj _ _).mono ?_;rintro e b⟨rfl,rfl⟩);go_ret;exact⟨by rw[ag c];rfl,rfl⟩
  have c:=H (d.out.symm.trans (xL di s m a));go_wp2_with(go_at_call 172;refine(Fj _ _).mono ?_;rintro e b⟨rfl,rfl⟩);go_ret;exact⟨by rw[ag c];rfl,rfl⟩
def alo(s)(f:s.size<=maxLen)(w):Calls prog 113 #[Y s,.func (.func 114) #[] #[]] w λe b=>e=Vr (I J (skip dU s 0))/\b=w:=by
 unfold maxLen at f;go_in
 go_wp2
 go_loop [5] (λt=>∃m:Nat,m<=s.size/\t=I J m/\skip dU s m=skip dU s 0) (λt=>s.size-(intOf t).toNat)
 exact⟨0,aI _,rfl,rfl⟩
 case round=>
  obtain⟨m,_,rfl,a⟩:=hrel;have d:Hid (skip dU s m=skip dU s 0):=a;clear a
  by_cases a:m<s.size
  .cases t:dU s[m].toNat with
   |true=>
    have c:Hid (skip dU s (m+1)=skip dU s 0):=(vY dU s m a t).symm.trans d.out;go_wp2_with(go_at_call 114;refine(OI _ _).mono ?_;rintro e b⟨rfl,rfl⟩)
    go_round
    case rel=>exact⟨m+1,O,oN,c.out⟩
    case measure=>simp[intOf];omega
   |false=>have c:=H (d.out.symm.trans (vZ dU s m a t));go_wp2_with(go_at_call 114;refine(OI _ _).mono ?_;rintro e b⟨rfl,rfl⟩);go_ret;exact⟨by rw[ag c];rfl,rfl⟩
  have c:=H (d.out.symm.trans (xL dU s m a));go_wp2_with(go_at_call 114;refine(OI _ _).mono ?_;rintro e b⟨rfl,rfl⟩);go_ret;exact⟨by rw[ag c];rfl,rfl⟩
def yI(s:B8)(a):(s.extract a s.size).size=s.size-a:=by simp[ByteArray.size_extract]
def Nc(s:B8)(a j)(h:a+j<s.size)(b:j<(s.extract a s.size).size):(s.extract a s.size)[j]=s[a+j]:=by simp[SY]
def amj(p s a)(i:a<=s.size):∀d j,s.size-(a+j)=d->a+j<=s.size->a+skip p (s.extract a s.size) j=skip p s (a+j):=by
 intro d
 induction d with
 |zero=>intro j f g;rw[xL p s (a+j) O,xL p _ j (by rw[yI s a];omega)]
 |succ d h=>
  intro j f g;have b:a+j<s.size:=O
  have c:j<(s.extract a s.size).size:=by rw[yI s a];omega
  cases e:p s[a+j].toNat with
  |true=>rw[vY p s (a+j) b e,vY p _ j c (by rw[Nc s a j b c];exact e)];have:=h (j+1) O O;rw[this,G3]
  |false=>rw[vZ p s (a+j) b e,vZ p _ j c (by rw[Nc s a j b c];exact e)]
def QF(p s a)(b:a<=s.size):a+skip p (s.extract a s.size) 0=skip p s a:=
 amj p s a b _ 0 rfl O
def qN(r:B8):Int×Nat:=
 if 1<=r.size/\(r.extract 0 1).toList=[40] then(5,1)
 else if 1<=r.size/\(r.extract 0 1).toList=[41] then(6,1)
 else if 1<=r.size/\(r.extract 0 1).toList=[44] then(7,1)
 else if 1<=r.size/\(r.extract 0 1).toList=[46] then(8,1)
 else if 2<=r.size/\(r.extract 0 2).toList=[58,45] then(9,2)
 else(1,1)
def tN(r:B8):Int×Nat:=if 8<skip bO r 0 then(1,skip bO r 0) else if(r.extract 0 (skip bO r 0)).toList=[110,111,116] then(4,skip bO r 0) else(2,skip bO r 0)
def wo(r:B8):Int×Nat:=if 8<skip di r 0 then(1,skip di r 0) else(3,skip di r 0)
def ng(r:B8):Int×Nat:=
 if h:0<r.size then(if bO r[0].toNat then tN r else if di r[0].toNat then wo r else qN r) else(0,0)
def aE(s:B8)(i:Nat):Int×Nat×Nat:=((ng (s.extract (skip dU s i) s.size)).1,skip dU s i,skip dU s i+(ng (s.extract (skip dU s i) s.size)).2)
def oI(r p:B8):Bool:=decide (p.size<=r.size)&&(r.extract 0 p.size).toList==p.toList
def amk(r p w):Calls prog 239 #[Y r,Y p] w λe h=>e=Vr (Vb (oI r p))/\h=w:=by
 by_cases h:p.size<=r.size
 .go_in
  go_wp2
  go_ret;exact⟨by simp[oI,h],rfl⟩
 go_in
 go_wp2
 go_ret;exact⟨by simp[oI];omega,rfl⟩
def np(r p w):Calls prog 220 #[Y r,Y p] w λe a=>e=Vr (Vb (oI r p))/\a=w:=by go_in;go_wp2_with fail;refine(amk r p _).mono ?_;rintro e a⟨rfl,rfl⟩;go_wp2;go_ret;exact⟨rfl,rfl⟩
def amh(r w):Calls prog 174 #[Y r] w λe d=>e=Vr (Vt #[I J (qN r).1,I J (qN r).2])/\d=w:=by
 have d:∀c:UInt8,oI r ⟨#[c]⟩=decide (1<=r.size/\(r.extract 0 1).toList=[c]):=λc=>by
  have i:(ByteArray.mk #[c]).size=1:=rfl;have j:(ByteArray.mk #[c]).toList=[c]:=by rw[ByteArray.toList_eq]
  rw[oX];simp only[oI,i,j,pE,qW,qV]
 have b:oI r ⟨#[58,45]⟩=decide (2<=r.size/\(r.extract 0 2).toList=[58,45]):=by
  have i:(ByteArray.mk #[58,45]).size=2:=rfl;have j:(ByteArray.mk #[58,45]).toList=[58,45]:=by rw[ByteArray.toList_eq]
  rw[oX];simp only[oI,i,j,pE,qW,qV]
 have c:qN r=if oI r ⟨#[40]⟩ then(5,1) else if oI r ⟨#[41]⟩ then(6,1) else if oI r ⟨#[44]⟩ then(7,1) else if oI r ⟨#[46]⟩ then(8,1) else if oI r ⟨#[58,45]⟩ then(9,2) else(1,1):=by rw[d,d,d,d,b];unfold qN;simp only[qW]
 have a:=H c;clear d b c
 cases d:oI r ⟨#[40]⟩ with
 |true=>
  have b:=H (show qN r=(5,1) by rw[ag a,d];rfl);clear a;go_in;go_wp2_with fail;refine(np r _ _).mono ?_;rintro e c⟨rfl,rfl⟩;go_wp2
  go_ret2
  exact⟨by rw[ag b];rfl,rfl⟩
 |false=>
 cases f:oI r ⟨#[41]⟩ with
 |true=>
  have b:=H (show qN r=(6,1) by rw[ag a,d,f];rfl);clear a;go_in;go_wp2_with fail;refine(np r _ _).mono ?_;rintro e c⟨rfl,rfl⟩;go_wp2_with fail;refine(np r _ _).mono ?_;rintro e c⟨rfl,rfl⟩;go_wp2
  go_ret2
  exact⟨by rw[ag b];rfl,rfl⟩
 |false=>
 cases g:oI r ⟨#[44]⟩ with
 |true=>
  have b:=H (show qN r=(7,1) by rw[ag a,d,f,g];rfl);clear a;go_in;go_wp2_with fail;refine(np r _ _).mono ?_;rintro e c⟨rfl,rfl⟩;go_wp2_with fail;refine(np r _ _).mono ?_;rintro e c⟨rfl,rfl⟩;go_wp2_with fail;refine(np r _ _).mono ?_;rintro e c⟨rfl,rfl⟩;go_wp2
  go_ret2
  exact⟨by rw[ag b];rfl,rfl⟩
 |false=>
 cases h:oI r ⟨#[46]⟩ with
 |true=>
  have b:=H (show qN r=(8,1) by rw[ag a,d,f,g,h];rfl);clear a;go_in;go_wp2_with fail;refine(np r _ _).mono ?_;rintro e c⟨rfl,rfl⟩;go_wp2_with fail;refine(np r _ _).mono ?_;rintro e c⟨rfl,rfl⟩;go_wp2_with fail;refine(np r _ _).mono ?_;rintro e c⟨rfl,rfl⟩;go_wp2_with fail;refine(np r _ _).mono ?_;rintro e c⟨rfl,rfl⟩;go_wp2
  go_ret2
  exact⟨by rw[ag b];rfl,rfl⟩
 |false=>
 cases k:oI r ⟨#[58,45]⟩ with
 |true=>
  have b:=H (show qN r=(9,2) by rw[ag a,d,f,g,h,k];rfl);clear a;go_in;go_wp2_with fail;refine(np r _ _).mono ?_;rintro e c⟨rfl,rfl⟩;go_wp2_with fail;refine(np r _ _).mono ?_;rintro e c⟨rfl,rfl⟩;go_wp2_with fail;refine(np r _ _).mono ?_;rintro e c⟨rfl,rfl⟩;go_wp2_with fail;refine(np r _ _).mono ?_;rintro e c⟨rfl,rfl⟩;go_wp2_with fail;refine(np r _ _).mono ?_;rintro e c⟨rfl,rfl⟩;go_wp2
  go_ret2
  exact⟨by rw[ag b];rfl,rfl⟩
 |false=>
  have b:=H (show qN r=(1,1) by rw[ag a,d,f,g,h,k];rfl);clear a;go_in;go_wp2_with fail;refine(np r _ _).mono ?_;rintro e c⟨rfl,rfl⟩;go_wp2_with fail;refine(np r _ _).mono ?_;rintro e c⟨rfl,rfl⟩;go_wp2_with fail;refine(np r _ _).mono ?_;rintro e c⟨rfl,rfl⟩;go_wp2_with fail;refine(np r _ _).mono ?_;rintro e c⟨rfl,rfl⟩;go_wp2_with fail;refine(np r _ _).mono ?_;rintro e c⟨rfl,rfl⟩;go_wp2
  go_ret2
  exact⟨by rw[ag b];rfl,rfl⟩
def aiU(r)(b:r.size<=maxLen)(w):Calls prog 171 #[Y r] w λe h=>e=Vr (Vt #[I J (tN r).1,I J (tN r).2])/\h=w:=by
 have h:=uR bO r 0 (aI _);have f:=b;unfold maxLen at f
 by_cases c:8<skip bO r 0
 .have a:=H (show tN r=(1,skip bO r 0) by unfold tN;rw[aD c]);go_in;go_wp2_with fail;refine(Qp r b _).mono ?_;rintro e g⟨rfl,rfl⟩;go_wp2
  go_ret2
  exact⟨by rw[ag a];rfl,rfl⟩
 cases d:(r.extract 0 (skip bO r 0)).toList==[110,111,116] with
 |true=>
  have a:=H (show tN r=(4,skip bO r 0) by unfold tN;rw[aB c,aD (eq_of_beq d)]);go_in;go_wp2_with fail;refine(Qp r b _).mono ?_;rintro e g⟨rfl,rfl⟩;go_wp2
  go_ret2
  exact⟨by rw[ag a];rfl,rfl⟩
 |false=>
  have a:=H (show tN r=(2,skip bO r 0) by unfold tN;rw[aB c,aB (by intro e;rw[e]at d;simp at d)]);go_in;go_wp2_with fail;refine(Qp r b _).mono ?_;rintro e g⟨rfl,rfl⟩;go_wp2
  go_ret2
  exact⟨by rw[ag a];rfl,rfl⟩
def anZ(r)(c:r.size<=maxLen)(w):Calls prog 173 #[Y r] w λe b=>e=Vr (Vt #[I J (wo r).1,I J (wo r).2])/\b=w:=by
 by_cases b:8<skip di r 0
 .have a:=H (show wo r=(1,skip di r 0) by unfold wo;rw[aD b]);go_in;go_wp2_with fail;refine(aa1 r c _).mono ?_;rintro e d⟨rfl,rfl⟩;go_wp2
  go_ret2
  exact⟨by rw[ag a];rfl,rfl⟩
 have a:=H (show wo r=(3,skip di r 0) by unfold wo;rw[aB b]);go_in;go_wp2_with fail;refine(aa1 r c _).mono ?_;rintro e d⟨rfl,rfl⟩;go_wp2
 go_ret2
 exact⟨by rw[ag a];rfl,rfl⟩
def aiy(r)(g:r.size<=maxLen)(w):Calls prog 115 #[Y r] w λe c=>e=Vr (Vt #[I J (ng r).1,I J (ng r).2])/\c=w:=by
 by_cases c:0<r.size
 .have i:r.toList.isEmpty=false:=by
   rw[ByteArray.toList_eq,List.isEmpty_eq_false_iff];intro e;have:Z r.data.toList=0:=by rw[e];rfl
   rw[Bq]at this;have h:r.data.size=r.size:=rfl;omega
  cases d:bO r[0].toNat with
  |true=>
   have a:=H (show ng r=tN r by unfold ng;rw[tr c,aD d]);go_in;go_wp2_with fail;refine(CE _ _).mono ?_;rintro e b⟨rfl,rfl⟩;go_wp2_with fail;refine(aiU r g _).mono ?_;rintro e b⟨rfl,rfl⟩;go_wp2
   go_ret2
   exact⟨by rw[ag a];rfl,rfl⟩
  |false=>
   cases f:di r[0].toNat with
   |true=>
    have a:=H (show ng r=wo r by unfold ng;rw[tr c,aB (by rw[d];decide),aD f]);go_in;go_wp2_with fail;refine(CE _ _).mono ?_;rintro e b⟨rfl,rfl⟩;go_wp2_with fail;refine(Fj _ _).mono ?_;rintro e b⟨rfl,rfl⟩;go_wp2_with fail;refine(anZ r g _).mono ?_;rintro e b⟨rfl,rfl⟩;go_wp2
    go_ret2
    exact⟨by rw[ag a];rfl,rfl⟩
   |false=>
    have a:=H (show ng r=qN r by unfold ng;rw[tr c,aB (by rw[d];decide),aB (by rw[f];decide)]);go_in;go_wp2_with fail;refine(CE _ _).mono ?_;rintro e b⟨rfl,rfl⟩;go_wp2_with fail;refine(Fj _ _).mono ?_;rintro e b⟨rfl,rfl⟩;go_wp2_with fail;refine(amh r _).mono ?_;rintro e b⟨rfl,rfl⟩;go_wp2
    go_ret2
    exact⟨by rw[ag a];rfl,rfl⟩
 have i:r.toList.isEmpty=true:=by rw[ByteArray.toList_eq,List.isEmpty_iff];apply wK;rw[Bq];have h:r.data.size=r.size:=rfl;omega
 have a:=H (show ng r=(0,0) by unfold ng;rw[DV c]);go_in;go_wp2
 go_ret2
 exact⟨by rw[ag a];rfl,rfl⟩
def QC(k:Int×Nat×Nat):V9:=Va #[I J k.1,I J k.2.1,I J k.2.2]
def YI(r):(ng r).2<=r.size:=by
 unfold ng
 split
 .rename_i h;have a:=uR bO r 0 (aI _);have b:=uR di r 0 (aI _)
  split
  .unfold tN;split;exact a;split<;>exact a
  split
  .unfold wo;split<;>exact b
  unfold qN
  split;exact h
  split;exact h
  split;exact h
  split;exact h
  split
  .rename_i c;exact c.1
  exact h
 simp
def alX(s:B8)(i)(p:i<=s.size)(t:s.size<=maxLen)(w):Calls prog 73 #[Y s,I J i] w λe o=>e=Vr (QC (aE s i))/\Below (F (X w)) w o:=by
 have o:=QF dU s i p;have k:=uR dU s i p;have m:=t;unfold maxLen at m;have b:(s.extract i s.size).size<=maxLen:=by rw[yI s i];omega
 have j:=H b;have K:=alo (s.extract i s.size) b;generalize skip dU (s.extract i s.size) 0=a at*;have f:aE s i=((ng (s.extract (i+a) s.size)).1,i+a,i+a+(ng (s.extract (i+a) s.size)).2):=by unfold aE;rw[<-o]
 have l:=YI (s.extract (i+a) s.size);rw[yI s _]at l;have r:i+a<=s.size:=O
 have q:(i:Int)+a<=s.size:=O
 have g:(s.extract (i+a) s.size).size<=maxLen:=by rw[yI s _];omega
 have d:=aiy (s.extract (i+a) s.size) g;have h:=H f;have n:=H K;have c:=H d;clear o b g j K f d k;go_in;go_wp2_with fail;refine(n _).mono ?_;rintro e k⟨rfl,rfl⟩;clear n;go_wp2_with fail;have n:((i:Int)+a).toNat=i+a:=O
 try rw[n]
 refine(c _).mono ?_;rintro e k⟨rfl,rfl⟩;clear c;generalize ng (s.extract (i+a) s.size)=K at*;go_wp2_with fail;refine bN (v:=QC (aE s i)) (by rw[ag h];simp[results,results73,go_sem,QC]) rfl ⟨rfl,B9.alloc L9 _⟩
def aeQ(s:B8)(i)(T:i<=s.size)(V:s.size<=maxLen)(w):Calls prog 123 #[Y s,I J i] w λe z=>e=Vr (Vt #[jx (az s i),I J (az s i).zto])/\Below (F (X w)) w z:=by
 unfold maxLen at V;go_in
 go_wp2
 go_loop [1] (λt=>∃k:Nat,i<=k/\k<=s.size/\t=I J k/\skip dU s k=skip dU s i) (λt=>s.size-(intOf t).toNat)
 exact⟨i,bD _,T,rfl,rfl⟩
 case round=>
  obtain⟨k,_,N,rfl,a⟩:=hrel;have D:Hid (skip dU s k=skip dU s i):=a;clear a
  by_cases a:k<s.size
  .by_cases l:dU s[k].toNat=Bt
   .have o:Hid (skip dU s (k+1)=skip dU s i):=(vY dU s k a l).symm.trans D.out;have m:(s[k].toNat:Int)=32\/(s[k].toNat:Int)=10:=(by simpa[dU]using l);clear l D;rcases m with m|m
    all_goals
     go_wp2
     go_round
     case rel=>exact⟨k+1,O,O,oN,o.out⟩
     case measure=>simp[intOf];omega
   have m:dU s[k].toNat=false:=(oU l);have o:Hid (skip dU s i=k):=D.out.symm.trans (vZ dU s k a m);have R:((s[k].toNat:Int)==32)=false:=(by simp[dU]at m;simp[m.1]);have S:((s[k].toNat:Int)==10)=false:=(by simp[dU]at m;simp[m.2]);clear l m D
   go_wp2
   go_loop [6] (λt=>∃m:Nat,k<=m/\m<=s.size/\t=I J m/\skip bO s m=skip bO s k) (λt=>s.size-(intOf t).toNat)
   exact⟨k,bD _,N,rfl,rfl⟩
   case round=>
    obtain⟨m,y,q,rfl,l⟩:=hrel;have B:Hid (skip bO s m=skip bO s k):=l;clear l
    by_cases b:∃h:m<s.size,bO s[m].toNat=Bt
    .obtain⟨d,v⟩:=b;have A:Hid (skip bO s (m+1)=skip bO s k):=(vY bO s m d v).symm.trans B.out;go_wp2_with(go_at_call 182;refine(OJ _ _).mono ?_;rintro e z⟨rfl,rfl⟩)
     go_round
     case rel=>exact⟨m+1,O,O,oN,A.out⟩
     case measure=>simp[intOf];omega
    have f:Hid (skip bO s k=m):=by
     refine B.out.symm.trans ?_
     by_cases d:m<s.size
     .exact vZ _ _ _ d (by cases h:bO s[m].toNat;rfl;exact absurd ⟨d,h⟩ b)
     exact xL _ _ _ d
    by_cases j:k<m
    .by_cases d:m<s.size
     all_goals
      first
      | (have v:bO s[m].toNat=false:=(by cases h:bO s[m].toNat;rfl;exact absurd ⟨d,h⟩ b))
      |skip
      clear b;go_wp2_with(go_at_call 182;refine(OJ _ _).mono ?_;rintro e z⟨rfl,rfl⟩)
      all_goals
       first
        |have g:=anB o.out a f.out j ‹_›
        |have g:=anA o.out a f.out j ‹_› ‹_›
        |have g:=anz o.out a f.out j ‹_› ‹_›
       exact bN (v:=Vt #[jx (az s i),I J (az s i).zto]) (by rw[g];simp[results,results123,go_sem,jx]) rfl ⟨rfl,by first|exact B9.alloc L9 _|exact below_drewN oA _⟩
    have r:k=m:=O;subst r;have v:bO s[k].toNat=false:=(by cases h:bO s[k].toNat;rfl;exact absurd ⟨a,h⟩ b);clear b B y q j;go_wp2_with(go_at_call 182;refine(OJ _ _).mono ?_;rintro e z⟨rfl,rfl⟩)
    go_loop [6] (λt=>∃m:Nat,k<=m/\m<=s.size/\t=I J m/\skip di s m=skip di s k) (λt=>s.size-(intOf t).toNat)
    exact⟨k,bD _,N,rfl,rfl⟩
    case round=>
     obtain⟨m,y,q,rfl,l⟩:=hrel;have E:Hid (skip di s m=skip di s k):=l;clear l
     by_cases b:∃h:m<s.size,di s[m].toNat=Bt
     .obtain⟨d,B⟩:=b;have A:Hid (skip di s (m+1)=skip di s k):=(vY di s m d B).symm.trans E.out;go_wp2_with(go_at_call 183;refine(Fk _ _).mono ?_;rintro e z⟨rfl,rfl⟩)
      go_round
      case rel=>exact⟨m+1,O,O,oN,A.out⟩
      case measure=>simp[intOf];omega
     have l:Hid (skip di s k=m):=by
      refine E.out.symm.trans ?_
      by_cases d:m<s.size
      .exact vZ _ _ _ d (by cases h:di s[m].toNat;rfl;exact absurd ⟨d,h⟩ b)
      exact xL _ _ _ d
     by_cases j:k<m
     .by_cases d:m<s.size
      all_goals
       first
       | (have B:di s[m].toNat=false:=(by cases h:di s[m].toNat;rfl;exact absurd ⟨d,h⟩ b))
       |skip
       clear b;go_wp2_with(go_at_call 183;refine(Fk _ _).mono ?_;rintro e z⟨rfl,rfl⟩)
       all_goals
        first
         |have g:=anC o.out a f.out l.out j ‹_›
         |have g:=anD o.out a f.out l.out j ‹_›
        exact bN (v:=Vt #[jx (az s i),I J (az s i).zto]) (by rw[g];simp[results,results123,go_sem,jx]) rfl ⟨rfl,by first|exact B9.alloc L9 _|exact below_drewN oA _⟩
     have r:k=m:=O;subst r;have B:di s[k].toNat=false:=(by cases h:di s[k].toNat;rfl;exact absurd ⟨a,h⟩ b);clear b E y q j
     by_cases r:(s[k].toNat:Int)=58
     .have b:=H r;have E:((s[k].toNat:Int)==58)=true:=(by rw[r];rfl);clear r
      by_cases j:∃y:k+1<s.size,(s[k+1].toNat:Int)=45
      .obtain⟨y,j⟩:=j;have q:=H (amg a b y j);go_wp2_with(go_at_call 183;refine(Fk _ _).mono ?_;rintro e z⟨rfl,rfl⟩);have g:=anE o.out a f.out l.out q;exact bN (v:=Vt #[jx (az s i),I J (az s i).zto]) (by rw[g];simp[results,results123,go_sem,jx]) rfl ⟨rfl,by first|exact B9.alloc L9 _|exact below_drewN oA _|exact(((below_drewN oA _).setCell L9 _).setCell L9 _).setCell L9 _⟩
      have L:=H (amd a b (λh e=>j ⟨h,e⟩))
      by_cases y:k+1<s.size
      all_goals
       first
       | (have Q:((s[k+1].toNat:Int)==45)=false:=(by simp;exact λe=>j ⟨y,e⟩))
       |skip
       clear j;go_wp2_with(go_at_call 183;refine(Fk _ _).mono ?_;rintro e z⟨rfl,rfl⟩)
       go_loopw [6] (λt wr=>∃j n:Nat,(j=0/\t=I J 0\/j=1/\t=I J 1\/j=2/\t=I J 2\/j=3/\t=I J 3\/j=4/\t=I J 4)/\(∀c,c∈([40,41,44,46]:List Int).take j->(s[k].toNat:Int)≠c)/\wr=(Al w (Vc #[I IntKind.u8 0,Y ⟨#[]⟩,I J 0] 233)).drewN n) (λt _=>4-(intOf t).toNat)
       exact⟨0,0,oS,oS,rfl⟩
       case round=>
        obtain⟨j,n,M,K,rfl⟩:=hrel;have x:=H K;clear K;rcases M with⟨rfl,rfl⟩|⟨rfl,rfl⟩|⟨rfl,rfl⟩|⟨rfl,rfl⟩|⟨rfl,rfl⟩
        .have u:((((⟨#[40,41,44,46]⟩:B8)[0]'oD).toNat:Int)==(s[k].toNat:Int))=false:=(by rw[ag b];rfl);have p:Hid (¬(s[k].toNat:Int)=40):=(by show ¬_;rw[ag b];decide);go_wp2;go_quiet(fail)
         go_wp2
         go_roundw
         case rel=>exact⟨1,_,oS,jP x.out p rfl rfl,rfl⟩
         case measure=>simp[intOf]
        .have u:((((⟨#[40,41,44,46]⟩:B8)[1]'oD).toNat:Int)==(s[k].toNat:Int))=false:=(by rw[ag b];rfl);have p:Hid (¬(s[k].toNat:Int)=41):=(by show ¬_;rw[ag b];decide);go_wp2;go_quiet(fail)
         go_wp2
         go_roundw
         case rel=>exact⟨2,_,oS,jP x.out p rfl rfl,rfl⟩
         case measure=>simp[intOf]
        .have u:((((⟨#[40,41,44,46]⟩:B8)[2]'oD).toNat:Int)==(s[k].toNat:Int))=false:=(by rw[ag b];rfl);have p:Hid (¬(s[k].toNat:Int)=44):=(by show ¬_;rw[ag b];decide);go_wp2;go_quiet(fail)
         go_wp2
         go_roundw
         case rel=>exact⟨3,_,oS,jP x.out p rfl rfl,rfl⟩
         case measure=>simp[intOf]
        .have u:((((⟨#[40,41,44,46]⟩:B8)[3]'oD).toNat:Int)==(s[k].toNat:Int))=false:=(by rw[ag b];rfl);have p:Hid (¬(s[k].toNat:Int)=46):=(by show ¬_;rw[ag b];decide);go_wp2;go_quiet(fail)
         go_wp2
         go_roundw
         case rel=>exact⟨4,_,oS,jP x.out p rfl rfl,rfl⟩
         case measure=>simp[intOf]
        have q:Hid (jw s k=0):=L
        go_wp2
        have g:=ab5 o.out a f.out l.out q.out;exact bN (v:=Vt #[jx (az s i),I J (az s i).zto]) (by rw[g];simp[results,results123,go_sem,jx]) rfl ⟨rfl,by first|exact B9.alloc L9 _|exact below_drewN oA _|exact(((below_drewN oA _).setCell L9 _).setCell L9 _).setCell L9 _⟩
     have E:((s[k].toNat:Int)==58)=false:=(by simp[r]);have b:=H r;clear r;go_wp2_with(go_at_call 183;refine(Fk _ _).mono ?_;rintro e z⟨rfl,rfl⟩)
     go_loopw [6] (λt wr=>∃j n:Nat,(j=0/\t=I J 0\/j=1/\t=I J 1\/j=2/\t=I J 2\/j=3/\t=I J 3\/j=4/\t=I J 4)/\(∀c,c∈([40,41,44,46]:List Int).take j->(s[k].toNat:Int)≠c)/\wr=(Al w (Vc #[I IntKind.u8 0,Y ⟨#[]⟩,I J 0] 233)).drewN n) (λt _=>4-(intOf t).toNat)
     exact⟨0,0,oS,oS,rfl⟩
     case round=>
      obtain⟨j,n,M,K,rfl⟩:=hrel;have x:=H K;clear K;rcases M with⟨rfl,rfl⟩|⟨rfl,rfl⟩|⟨rfl,rfl⟩|⟨rfl,rfl⟩|⟨rfl,rfl⟩
      .by_cases t:(s[k].toNat:Int)=40
       .have u:((((⟨#[40,41,44,46]⟩:B8)[0]'oD).toNat:Int)==(s[k].toNat:Int))=true:=(by rw[t];rfl);have q:Hid (jw s k=1):=JY a b O;clear t;go_wp2;go_quiet(fail)
        go_wp2
        have g:=Kf o.out a f.out l.out q.out;exact bN (v:=Vt #[jx (az s i),I J (az s i).zto]) (by rw[g];simp[results,results123,go_sem,jx]) rfl ⟨rfl,by first|exact B9.alloc L9 _|exact below_drewN oA _|exact(((below_drewN oA _).setCell L9 _).setCell L9 _).setCell L9 _⟩
       have u:((((⟨#[40,41,44,46]⟩:B8)[0]'oD).toNat:Int)==(s[k].toNat:Int))=false:=(by rw[BK];show(40:Int)≠_;omega);have p:=H t;clear t;go_wp2;go_quiet(fail)
       go_wp2
       go_roundw
       case rel=>exact⟨1,_,oS,jP x.out p rfl rfl,rfl⟩
       case measure=>simp[intOf]
      .by_cases t:(s[k].toNat:Int)=41
       .have u:((((⟨#[40,41,44,46]⟩:B8)[1]'oD).toNat:Int)==(s[k].toNat:Int))=true:=(by rw[t];rfl);have q:Hid (jw s k=1):=JY a b O;clear t;go_wp2;go_quiet(fail)
        go_wp2
        have g:=Kf o.out a f.out l.out q.out;exact bN (v:=Vt #[jx (az s i),I J (az s i).zto]) (by rw[g];simp[results,results123,go_sem,jx]) rfl ⟨rfl,by first|exact B9.alloc L9 _|exact below_drewN oA _|exact(((below_drewN oA _).setCell L9 _).setCell L9 _).setCell L9 _⟩
       have u:((((⟨#[40,41,44,46]⟩:B8)[1]'oD).toNat:Int)==(s[k].toNat:Int))=false:=(by rw[BK];show(41:Int)≠_;omega);have p:=H t;clear t;go_wp2;go_quiet(fail)
       go_wp2
       go_roundw
       case rel=>exact⟨2,_,oS,jP x.out p rfl rfl,rfl⟩
       case measure=>simp[intOf]
      .by_cases t:(s[k].toNat:Int)=44
       .have u:((((⟨#[40,41,44,46]⟩:B8)[2]'oD).toNat:Int)==(s[k].toNat:Int))=true:=(by rw[t];rfl);have q:Hid (jw s k=1):=JY a b O;clear t;go_wp2;go_quiet(fail)
        go_wp2
        have g:=Kf o.out a f.out l.out q.out;exact bN (v:=Vt #[jx (az s i),I J (az s i).zto]) (by rw[g];simp[results,results123,go_sem,jx]) rfl ⟨rfl,by first|exact B9.alloc L9 _|exact below_drewN oA _|exact(((below_drewN oA _).setCell L9 _).setCell L9 _).setCell L9 _⟩
       have u:((((⟨#[40,41,44,46]⟩:B8)[2]'oD).toNat:Int)==(s[k].toNat:Int))=false:=(by rw[BK];show(44:Int)≠_;omega);have p:=H t;clear t;go_wp2;go_quiet(fail)
       go_wp2
       go_roundw
       case rel=>exact⟨3,_,oS,jP x.out p rfl rfl,rfl⟩
       case measure=>simp[intOf]
      .by_cases t:(s[k].toNat:Int)=46
       .have u:((((⟨#[40,41,44,46]⟩:B8)[3]'oD).toNat:Int)==(s[k].toNat:Int))=true:=(by rw[t];rfl);have q:Hid (jw s k=1):=JY a b O;clear t;go_wp2;go_quiet(fail)
        go_wp2
        have g:=Kf o.out a f.out l.out q.out;exact bN (v:=Vt #[jx (az s i),I J (az s i).zto]) (by rw[g];simp[results,results123,go_sem,jx]) rfl ⟨rfl,by first|exact B9.alloc L9 _|exact below_drewN oA _|exact(((below_drewN oA _).setCell L9 _).setCell L9 _).setCell L9 _⟩
       have u:((((⟨#[40,41,44,46]⟩:B8)[3]'oD).toNat:Int)==(s[k].toNat:Int))=false:=(by rw[BK];show(46:Int)≠_;omega);have p:=H t;clear t;go_wp2;go_quiet(fail)
       go_wp2
       go_roundw
       case rel=>exact⟨4,_,oS,jP x.out p rfl rfl,rfl⟩
       case measure=>simp[intOf]
      have q:Hid (jw s k=0):=ame a b (by have:=x.out;simp at this;omega)
      go_wp2
      have g:=ab5 o.out a f.out l.out q.out;exact bN (v:=Vt #[jx (az s i),I J (az s i).zto]) (by rw[g];simp[results,results123,go_sem,jx]) rfl ⟨rfl,by first|exact B9.alloc L9 _|exact below_drewN oA _|exact(((below_drewN oA _).setCell L9 _).setCell L9 _).setCell L9 _⟩
  have o:Hid (skip dU s i=k):=D.out.symm.trans (xL dU s k a);clear D
  go_wp2
  have g:=anx o.out O;exact bN (v:=Vt #[jx (az s i),I J (az s i).zto]) (by rw[g];simp[results,results123,go_sem,jx]) rfl ⟨rfl,by first|exact B9.alloc L9 _|exact below_drewN oA _⟩
structure ak(B:List Nat)(w w':W8):Prop where
 os:w'.os=w.os
 tape:w'.tape=w.tape
 output:w'.output=w.output
 size:F (X w)<=F (X w')
 block:∀k,k<F (X w)->k∉B->w'.heap[k]?=w.heap[k]?
def ak.refl(B w):ak B w w:=⟨rfl,rfl,rfl,bD _,λ_ _ _=>rfl⟩
variable {c:List Nat}{a b h:W8}
def ak.trans(B:ak c a b)(k:ak c b h):ak c a h:=
 ⟨k.os.trans B.os,k.tape.trans B.tape,k.output.trans B.output,bf B.size k.size,λi d e=>(k.block i (iz d B.size) e).trans (B.block i d e)⟩
def ak.bC(w:ak c a h)(k:Below (F (X h)) h b):ak c a b:=
 w.trans ⟨k.os,k.tape,k.output,k.size,λi B _=>k.block i B⟩
def ak.alloc{B}(h:ak B a b)(o):ak B a (Al b o):=
 h.trans ⟨rfl,rfl,rfl,oS,λk w _=>aW _ _ _ w⟩
def ak.drewN(h:ak c a b)(n):ak c a (b.drewN n):=⟨h.os,h.tape,h.output,h.size,h.block⟩
def ak.drew(h:ak c a b):ak c a b.drew:=⟨h.os,h.tape,h.output,h.size,h.block⟩
def ak.setCell(h:ak c a b){p}(w:p.block∈c\/F (X a)<=p.block)(u):ak c a (Sc b p u):=
 ⟨h.os,h.tape,h.output,by have:=h.size;simpa[World.setCell]using this,λk d B=>(cx _ _ _ _ (by rintro rfl;rcases w with w|w;exact B w;omega)).trans (h.block k d B)⟩
def ak.mono{C}(h:ak c a b)(e:∀k,k∈c->k∈C\/F (X a)<=k):ak C a b:=
 ⟨h.os,h.tape,h.output,h.size,λk B d=>h.block k B (λB=>by rcases e k B with w|w;exact d w;omega)⟩
def ak.cell(h:ak c b a){p}(B:p.block<F (X b))(w:p.block∉c):Ce a p=Ce b p:=j8 (w:=b) (h.block p.block B w)
def ak.frozen(h:ak c b a){p}(B:p.block<F (X b))(w:p.block∉c):a.frozen? p=b.frozen? p:=zQ (w:=b) (h.block p.block B w)
structure gF(w:W8)(b:Nat)(s:B8)(pos:Nat)(bad:Int):Prop where
 lt:b<F (X w)
 c0:Ce w (C b 0 G)=P (Y s)
 c1:Ce w (C b 1 G)=P (I .u8 (az s pos).kind)
 c2:Ce w (C b 2 G)=P (Y (az s pos).text)
 c3:Ce w (C b 3 G)=P (I J (az s pos).aC)
 c4:Ce w (C b 4 G)=P (I J (az s pos).zto)
 c5:Ce w (C b 5 G)=P (I J bad)
 fz:∀o,w.frozen? (C b o G)=Bf
variable {e:B8}{f:Int}{g:Nat}
def gF.kept{B}(h:gF a g e d f)(k:ak B a b)(w:g∉B):gF b g e d f:=
 ⟨iz h.lt k.size,(k.cell h.lt w).trans h.c0,(k.cell h.lt w).trans h.c1,(k.cell h.lt w).trans h.c2,(k.cell h.lt w).trans h.c3,(k.cell h.lt w).trans h.c4,(k.cell h.lt w).trans h.c5,λo=>(k.frozen h.lt w).trans (h.fz o)⟩
def kq(s:B8)(pos:Nat)(bad:Int):Int:=if bad<0 then(az s pos).aC else bad
def B7(s c a b w)(h:gF w b s c a):Calls prog 124 #[Vp (P (C b 0 G))] w λe d=>e=Vr (Vt #[])/\ak [b] w d/\gF d b s c (kq s c a):=by
 have d:=h;obtain⟨e,_,_,_,_,_,_,_⟩:=h
 by_cases h:a<0
 .go_in
  go_wp2
  go_end0;refine⟨rfl,(ak.refl _ _).setCell oS _,⟨by simpa[World.setCell]using e,?_,?_,?_,?_,?_,?_,?_⟩⟩
  .go_simp
  .go_simp
  .go_simp
  .go_simp
  .go_simp
  .rw[kq,aD h];go_simp
  go_simp
 go_in
 go_wp2
 go_end0;exact⟨rfl,ak.refl _ _,by rw[kq,aB O];exact d⟩
def iK(s:B8)(pos:Nat)(bad:Int)(wd:B8):Bool:=decide (bad<0)&&((az s pos).kind==115&&(az s pos).text.toList==wd.toList)
def I4(s d a c b w)(h:gF w b s a c):Calls prog 226 #[Vp (P (C b 0 G)),Y d] w λe f=>e=Vr (Vb (iK s a c d))/\f=w:=by
 obtain⟨_,_,_,_,_,_,_,_⟩:=h
 by_cases f:c<0
 .by_cases h:((az s a).kind==115)=Bt
  .go_in
   go_wp2
   go_ret;exact⟨by simp[iK,f,h],rfl⟩
  have e:((az s a).kind==115)=false:=by simpa using h
  clear h;go_in
  go_wp2
  go_ret;exact⟨by simp[iK,e],rfl⟩
 go_in
 go_wp2
 go_ret;exact⟨by rw[iK,decide_eq_false O];rfl,rfl⟩
def eo(s:B8)(pos:Nat)(bad:Int):Int:=if(az s pos).kind=33\/(az s pos).kind=46 then kq s pos bad else bad
def fZ(s:B8)(pos:Nat)(bad:Int):Nat:=if eo s pos bad<0 then(az s pos).zto else pos
def xi(s b a):0<=kq s b a:=by unfold kq;split<;>omega
def ak.bB(W:ak [d] a b):(∀n o,d<n->n<F (X a)->Ce b (C n o G)=Ce a (C n o G))/\(∀n o,d<n->n<F (X a)->b.frozen? (C n o G)=a.frozen? (C n o G)):=
 ⟨λn o e c=>W.cell (p:=(C n o G)) c oT,λn o e c=>W.frozen (p:=(C n o G)) c oT⟩
def zl{w1 n d e f}(g:Ce w1 (C n 0 G)=P d)(h:Ce w1 (C n 1 G)=P e)(i:Ce w1 (C n 2 G)=P f)(a b c):Ce (Sc (Sc (Sc w1 (C n 0 G) a) (C n 1 G) b) (C n 2 G) c) (C n 0 G)=P a /\Ce (Sc (Sc (Sc w1 (C n 0 G) a) (C n 1 G) b) (C n 2 G) c) (C n 1 G)=P b /\Ce (Sc (Sc (Sc w1 (C n 0 G) a) (C n 1 G) b) (C n 2 G) c) (C n 2 G)=P c:=by refine⟨?_,?_,?_⟩<;>go_simp
def B3(w a b c t o j):Ce (Al (Al w (Vc #[a,b,c] t)) o) (C (F (X w)) j G)=#[a,b,c][j]?:=by rw[World.cell?_alloc_past _ _ _ oS,World.cell?_alloc_at _ _ _ _ rfl]
def gF.cells(h:gF a d e g f):d<F (X a)/\Ce a (C d 0 G)=P (Y e)/\Ce a (C d 1 G)=P (I .u8 (az e g).kind)/\Ce a (C d 2 G)=P (Y (az e g).text)/\Ce a (C d 3 G)=P (I J (az e g).aC)/\Ce a (C d 4 G)=P (I J (az e g).zto)/\Ce a (C d 5 G)=P (I J f)/\∀o,a.frozen? (C d o G)=false:=
 ⟨h.lt,h.c0,h.c1,h.c2,h.c3,h.c4,h.c5,h.fz⟩
def amY(s a c b w)(h:gF w b s a c)(d:(az s a).kind=33\/(az s a).kind=46):Calls prog 225 #[Vp (P (C b 0 G))] w λe f=>e=Vr (jx (az s a))/\ak [b] w f/\gF f b s (fZ s a c) (eo s a c):=by
 have u:=xi s a c;have f:eo s a c=kq s a c:=by rw[eo,aD d]
 have j:fZ s a c=a:=by rw[fZ,f,aB O]
 rw[f,j];clear f j;have m:=h;obtain⟨f,n,o,p,q,r,t,_⟩:=h;have j:(((az s a).kind==33)=Bt)\/(((az s a).kind==33)=Bf/\((az s a).kind==46)=Bt):=by rcases d with d|d<;>simp[d]
 clear d;rcases j with d|⟨d,_⟩
 all_goals
  go_in;go_wp2_with fail;refine(B7 s a c b _ (m.kept (((ak.refl [] _).alloc _).alloc _) oS)).mono ?_;rintro e l⟨rfl,h,g⟩;have i:=g;obtain⟨k,_⟩:=h.bB;obtain⟨_,_,_,_,_,_,_,_⟩:=g;have g:F (X w)+1<F (X l):=by have:=h.size;simp at this;omega
  clear n o p q r t m;go_wp2_with fail;obtain⟨m,t,r⟩:=zl (w1:=l) (n:=F (X w)) ((k _ _ f oT).trans (B3 w _ _ _ _ _ 0)) ((k _ _ f oT).trans (B3 w _ _ _ _ _ 1)) ((k _ _ f oT).trans (B3 w _ _ _ _ _ 2)) (I .u8 (az s a).kind) (Y (az s a).text) (I J (az s a).aC);refine bN (v:=jx (az s a)) (by simp[results,results225,go_sem,jx,m,t,r]) rfl ⟨rfl,?_,?_⟩
  .exact((((((ak.refl _ _).alloc _).alloc _).trans h).setCell (.inr L9) _).setCell (.inr L9) _).setCell (.inr L9) _
  exact i.kept ((((ak.refl [F (X w)] l).setCell oS _).setCell oS _).setCell oS _) oT
def amZ(s a c b w)(h:gF w b s a c)(f:¬((az s a).kind=33\/(az s a).kind=46))(g:0<=c):Calls prog 225 #[Vp (P (C b 0 G))] w λe d=>e=Vr (jx (az s a))/\ak [b] w d/\gF d b s (fZ s a c) (eo s a c):=by
 have e:eo s a c=c:=by rw[eo,aB f]
 have d:fZ s a c=a:=by rw[fZ,e,aB O]
 rw[e,d];clear e d;have d:=h;obtain⟨_,_,_,_,_,_,_,_⟩:=h;have h:((az s a).kind==33)=false:=oT
 have e:((az s a).kind==46)=false:=oT
 clear f;go_in;go_wp2_with fail;refine bN (v:=jx (az s a)) (by simp[results,results225,go_sem,jx]) rfl ⟨rfl,?_,?_⟩
 .exact((ak.refl _ _).alloc _).alloc _
 exact d.kept (((ak.refl [] _).alloc _).alloc _) oS
def M6(s:B8)(i)(a:i<=s.size)(b:s.size<=maxLen)(w):Calls prog 123 #[Y s,I J i] w λe c=>e=Vr (Vt #[Va #[I .u8 (az s i).kind,Y (az s i).text,I J (az s i).aC],I J (az s i).zto])/\Below (F (X w)) w c:=aeQ s i a b w
def ab6(s i)(e:i<=s.size):(az s i).zto<=s.size:=by
 have b:=uR dU s i e;have c:=uR bO s (skip dU s i) b;have d:=uR di s (skip dU s i) b;unfold az qO;generalize skip dU s i=k at*
 split
 .simpa using b
 rename_i f
 split
 .split
  .exact c
  split<;>exact c
 split
 .split<;>exact d
 split
 .simp;omega
 split
 .rename_i a;simp only;unfold jw at a
  split at a
  .split at a
   .split at a
    .omega
    simp at a
   split at a<;>simp at a
  simp at a
 simp;omega
def Jy{v}(h:Below (F (X a)) a v):(∀n o,n<F (X a)->v.cell? (C n o G)=Ce a (C n o G))/\(∀n o,n<F (X a)->v.frozen? (C n o G)=a.frozen? (C n o G)):=by
 constructor<;>intro n o W
 .exact j8 (h.block n W)
 exact zQ (h.block n W)
def ajT{b s d pos' e}(h:gF a b s d e):gF (Sc (Sc (Sc (Sc a (C b 1 G) (I .u8 (az s pos').kind)) (C b 2 G) (Y (az s pos').text)) (C b 3 G) (I J (az s pos').aC)) (C b 4 G) (I J (az s pos').zto)) b s pos' e:=by
 obtain⟨c,_,_,_,_,_,_,_⟩:=h;refine⟨by simpa using c,?_,?_,?_,?_,?_,?_,?_⟩
 all_goals go_simp
def OL(a b c d e f):ak [b] a (Sc (Sc (Sc (Sc a (C b 1 G) c) (C b 2 G) d) (C b 3 G) e) (C b 4 G) f):=
 ((((ak.refl [b] a).setCell oS _).setCell oS _).setCell oS _).setCell oS _
def an0(s a c b w)(h:gF w b s a c)(g:a<=s.size)(t:s.size<=maxLen)(d:¬((az s a).kind=33\/(az s a).kind=46))(o:c<0):Calls prog 225 #[Vp (P (C b 0 G))] w λe f=>e=Vr (jx (az s a))/\ak [b] w f/\gF f b s (fZ s a c) (eo s a c):=by
 have f:eo s a c=c:=by rw[eo,aB d]
 have l:fZ s a c=(az s a).zto:=by rw[fZ,f,aD O]
 rw[f,l];clear f l;have l:=ab6 s a g;have p:=h;obtain⟨f,_,_,_,_,_,_,_⟩:=h;have q:((az s a).kind==33)=false:=oT
 have r:((az s a).kind==46)=false:=oT
 clear d;go_in;go_wp2_with fail;have h:∀d nq,Below ((Al (Al w (Vc #[I IntKind.u8 0,Y ⟨#[]⟩,I J 0] 233)) (Vc #[I IntKind.u8 (az s a).kind,Y (az s a).text,I J ↑(az s a).aC] 233)).drewN nq).heap.size ((Al (Al w (Vc #[I IntKind.u8 0,Y ⟨#[]⟩,I J 0] 233)) (Vc #[I IntKind.u8 (az s a).kind,Y (az s a).text,I J ↑(az s a).aC] 233)).drewN nq) d->gF d b s a c:=
  λd nq o=>p.kept (((((ak.refl [] _).alloc _).alloc _).drewN _).bC o) oS
 have j:=H h;clear h
 go_region_with(go_at_call 123;refine(M6 s (az s a).zto l t _).mono ?_;rintro e d⟨rfl,h⟩;obtain⟨_,_,_,_,_,_,_,_⟩:=(j d 1 h).cells)
 all_goals
  obtain⟨m,_⟩:=Jy h;have x:F (X w)+1<F (X d):=by have:=h.size;simp at this;omega
  have i:=ag j d 1 h;have k:=H (ajT (pos':=(az s a).zto) i);have n:=H (OL d b (I .u8 (az s (az s a).zto).kind) (Y (az s (az s a).zto).text) (I J (az s (az s a).zto).aC) (I J (az s (az s a).zto).zto));clear j i;go_wp2_with fail;obtain⟨i,_⟩:=n.bB;obtain⟨j,u,v⟩:=zl (w1:=Sc (Sc (Sc (Sc d (C b 1 G) (I .u8 (az s (az s a).zto).kind)) (C b 2 G) (Y (az s (az s a).zto).text)) (C b 3 G) (I J (az s (az s a).zto).aC)) (C b 4 G) (I J (az s (az s a).zto).zto)) (n:=F (X w)) ((i _ _ f O).trans ((m _ _ oT).trans (B3 w _ _ _ _ _ 0))) ((i _ _ f O).trans ((m _ _ oT).trans (B3 w _ _ _ _ _ 1))) ((i _ _ f O).trans ((m _ _ oT).trans (B3 w _ _ _ _ _ 2))) (I .u8 (az s a).kind) (Y (az s a).text) (I J (az s a).aC);refine bN (v:=jx (az s a)) (by simp[results,results225,go_sem,jx,j,u,v]) rfl ⟨rfl,?_,?_⟩
  .exact((((((((ak.refl [b] w).alloc _).alloc _).drewN 1).bC h).trans n).setCell (.inr L9) _).setCell (.inr L9) _).setCell (.inr L9) _
  exact(k).kept ((((ak.refl [F (X w)] _).setCell oS _).setCell oS _).setCell oS _) oT
def AP(s a c b w)(h:gF w b s a c)(d:a<=s.size)(g:s.size<=maxLen):Calls prog 225 #[Vp (P (C b 0 G))] w λe f=>e=Vr (jx (az s a))/\ak [b] w f/\gF f b s (fZ s a c) (eo s a c):=by
 by_cases e:(az s a).kind=33\/(az s a).kind=46
 .exact amY s a c b w h e
 by_cases f:0<=c
 .exact amZ s a c b w h e f
 exact an0 s a c b w h d g e O
def xP(s b c)(a:b<=s.size):fZ s b c<=s.size:=by
 unfold fZ;split
 .exact ab6 s b a
 exact a
def jD(s:B8)(pos:Nat)(bad:Int)(wd:B8):Nat:=if iK s pos bad wd then fZ s pos bad else pos
def jT(s:B8)(pos:Nat)(bad:Int)(wd:B8):Int:=if iK s pos bad wd then eo s pos bad else bad
def Iy(s d a c b w)(h:gF w b s a c)(g:a<=s.size)(l:s.size<=maxLen):Calls prog 185 #[Vp (P (C b 0 G)),Y d] w λe f=>e=Vr (Vb (iK s a c d))/\ak [b] w f/\gF f b s (jD s a c d) (jT s a c d):=by
 by_cases f:iK s a c d=Bt
 .rw[jD,jT,aD f,aD f];go_in;go_wp2_with fail;refine(I4 s d a c b _ h).mono ?_;rintro e k⟨rfl,rfl⟩;go_wp2_with fail;refine(AP s a c b _ h g l).mono ?_;rintro e k⟨rfl,i,j⟩;go_wp2;go_ret;exact⟨by rw[f];rfl,i,j⟩
 have i:iK s a c d=false:=by simpa using f
 rw[jD,jT,aB f,aB f];clear f;go_in;go_wp2_with fail;refine(I4 s d a c b _ h).mono ?_;rintro e k⟨rfl,rfl⟩;go_wp2;go_ret;exact⟨by rw[i];rfl,ak.refl _ _,h⟩
def kZ(s:B8)(pos:Nat)(bad:Int)(wd:B8):Int:=if iK s pos bad wd then bad else kq s pos bad
def Y6(s i a c b w)(h:gF w b s a c)(d:a<=s.size)(m:s.size<=maxLen):Calls prog 187 #[Vp (P (C b 0 G)),Y i] w λe j=>e=Vr (Vt #[])/\ak [b] w j/\gF j b s (fZ s a (kZ s a c i)) (eo s a (kZ s a c i)):=by
 by_cases j:iK s a c i=Bt
 .rw[kZ,aD j];go_in;go_wp2_with fail;refine(I4 s i a c b _ h).mono ?_;rintro e l⟨rfl,rfl⟩;go_wp2_with fail;refine(AP s a c b _ h d m).mono ?_;rintro e l⟨rfl,f,g⟩;go_wp2;go_end0;exact⟨rfl,f,g⟩
 have n:iK s a c i=false:=by simpa using j
 rw[kZ,aB j];clear j;go_in;go_wp2_with fail;refine(I4 s i a c b _ h).mono ?_;rintro e l⟨rfl,rfl⟩;go_wp2_with fail;refine(B7 s a c b _ h).mono ?_;rintro e l⟨rfl,f,g⟩;go_wp2_with fail;refine(AP s a _ b _ g d m).mono ?_;rintro e o⟨rfl,j,k⟩;go_wp2;go_end0;exact⟨rfl,f.trans j,k⟩
structure ie where
 text:B8
 jv:Bool
 aC:Nat
structure aR where
 ax:B8
 aq:List ie
 no:Bool
 aC:Nat
 aO:Nat
def ie.cells(t:ie):V8:=[Y t.text,Vb t.jv,I J t.aC]
abbrev rG(c:UInt8):B8:=⟨#[c]⟩
def fU(s:B8)(pos:Nat)(bad:Int)(n:Nat):Int:=
 if((az s pos).kind != 110&&(az s pos).kind != 118)||n==4 then kq s pos bad else bad
def nV(s:B8)(pos:Nat):ie:=⟨(az s pos).text,(az s pos).kind==118,(az s pos).aC⟩
def lj(s:B8):Nat->Nat->Int->List ie->List ie×Nat×Int
 | 0,pos,bad,l=>(l,pos,bad)
 |f+1,pos,bad,l=>
  let bad1:=fU s pos bad (Z l)
  let pos2:=fZ s pos bad1
  let bad2:=eo s pos bad1
  let pos3:=jD s pos2 bad2 (rG 44)
  let bad3:=jT s pos2 bad2 (rG 44)
  if iK s pos2 bad2 (rG 44) then lj s f pos3 bad3 (l++[nV s pos])
  else(l++[nV s pos],fZ s pos3 (kZ s pos3 bad3 (rG 41)),eo s pos3 (kZ s pos3 bad3 (rG 41)))
def jt(s:B8)(pos:Nat)(bad:Int):Int:=if(az s pos).kind != 110 then kq s pos bad else bad
def yD(s:B8)(pos:Nat)(bad:Int):Nat:=fZ s pos (jt s pos bad)
def tE(s:B8)(pos:Nat)(bad:Int):Int:=eo s pos (jt s pos bad)
def bA(s:B8)(pos:Nat)(bad:Int):List ie×Nat×Int:=
 if iK s (yD s pos bad) (tE s pos bad) (rG 40) then
  lj s 5 (jD s (yD s pos bad) (tE s pos bad) (rG 40)) (jT s (yD s pos bad) (tE s pos bad) (rG 40)) []
 else([],jD s (yD s pos bad) (tE s pos bad) (rG 40),jT s (yD s pos bad) (tE s pos bad) (rG 40))
variable {c f:B8}{d:Int}{a h:Nat}
def XV(h:iK f a d c=Bt):d<0:=by unfold iK at h;simp at h;exact h.1
def AO{s pos}(h:0<=d):0<=eo s pos d:=by
 unfold eo;split
 .exact xi _ _ _
 exact h
def Ix(h:a<=f.size):jD f a d c<=f.size:=by
 unfold jD;split
 .exact xP f a d h
 exact h
def afS :iK f (fZ f a (fU f a d 4)) (eo f a (fU f a d 4)) c=false:=by
 cases h:iK f (fZ f a (fU f a d 4)) (eo f a (fU f a d 4)) c with
 |false=>rfl
 |true=>
  have e:=XV h;have b:0<=fU f a d 4:=by simp[fU];exact xi _ _ _
  have s:=AO (s:=f) (pos:=a) b;omega
structure tZ(w:W8)(n:Nat)(ax:B8)(v:V9)(no:Bool)(aC aO:Nat):Prop where
 c0:Ce w (C n 0 G)=P (Y ax)
 c1:Ce w (C n 1 G)=P v
 c2:Ce w (C n 2 G)=P (Vb no)
 c3:Ce w (C n 3 G)=P (I J aC)
 c4:Ce w (C n 4 G)=P (I J aO)
 fz:∀o,w.frozen? (C n o G)=Bf
variable {e m:V9}{i k:W8}
def tZ.kept{B f}(n:tZ b a c e f g h)(k:ak B b i)(w:a<F (X b))(d:a∉B):tZ i a c e f g h:=
 ⟨(k.cell w d).trans n.c0,(k.cell w d).trans n.c1,(k.cell w d).trans n.c2,(k.cell w d).trans n.c3,(k.cell w d).trans n.c4,λo=>(k.frozen w d).trans (n.fz o)⟩
def ak.grown{B row}(h:ak B b i)(a:i.grownBy k row)(w:∀g,row=P g->F (X b)<=g\/g∈B):ak B b k:=
 ⟨a.os.trans h.os,a.tape.trans h.tape,a.output.trans h.output,bf h.size a.size,λg d f=>(a.block g (iz d h.size) (λe=>by rcases w g e.symm with c|c;omega;exact f c)).trans (h.block g d f)⟩
def ak.jF{a}(c:i.grownBy b a):ak a.toList i b:=
 (ak.refl _ _).grown c (λk e=>.inr (by simp[e]))
variable {l:V8}
def ni{B v}(n:Ow b a v g e h l)(k:ak B b i)(j:∀x∈B,x<a):Ow i a v g e h l:=by
 refine⟨n.1,?_⟩;rcases n.2 with p|⟨w,d,f,rfl,m,x,c⟩
 .exact .inl p
 refine .inr ⟨w,d,f,rfl,m,?_,c⟩;rw[k.block w (aM.1 x).1 (λo=>by have:=j w o;omega)];exact x
def cellsOf(l:List ie):V8:=l.flatMap ie.cells
def Ub(l t):cellsOf (l++[t])=cellsOf l++t.cells:=by simp[cellsOf]
structure ua(w:W8)(b:Nat)(s text:B8)(aC:Nat)(l:List ie)(p:Nat)(bd:Int)(v:V9)(wr:W8):Prop where
 nk:gF wr b s p bd
 hp:p<=s.size
 kept:ak [b] w wr
 ac:tZ wr (F (X w)+1) text v Bf aC 0
 rc:tZ wr (F (X w)) ⟨#[]⟩ (U G 0 0) Bf 0 0
 sz:F (X w)+2<=F (X wr)
 tM:Ow wr (F (X w)+2) 317 3 v (Z l) (cellsOf l)
 uy:b<F (X w)
variable {j:List ie}
def ua.call{w p}(l:ua b a c f g j h w e i)(wr:ak [a] i k)(m:gF k a c p d)(v:p<=c.size):ua b a c f g j p d e k:=
 have s:=l.uy;have n:=l.sz
 ⟨m,v,l.kept.trans wr,l.ac.kept wr O oT,l.rc.kept wr O oT,bf l.sz wr.size,ni l.tM wr oT,l.uy⟩
def ua.append(l:ua b a f c g j h d e i){o q}(t)(s:Ow k (F (X b)+2) 317 3 m (Z j+1) (cellsOf j++t.cells)) (y:(Al (Al i o) q).grownBy k e.ownBlock):ua b a f c g (j++[t]) h d m (Sc k (C (F (X b)+1) 1 G) m)/\tZ k (F (X b)+1) c e Bf g 0:=by
 have A:=l.uy;have B:=l.sz;have p:∀r,e.ownBlock=P r->F (X b)+2<=r:=λr u=>(l.tM.lt r u).1
 have v:ak e.ownBlock.toList i k:=(((ak.refl _ i).alloc o).alloc q).grown y (λr u=>.inr (by simp[u]));have w:∀r,r<F (X b)+2->r∉e.ownBlock.toList:=by
  intro r D z
  cases n:e.ownBlock with
  |none=>simp[n]at z
  |some x=>simp[n]at z;have:=p x n;omega
 have n:=l.ac.kept v O (w _ O);refine⟨⟨?_,l.hp,?_,?_,?_,?_,?_,l.uy⟩,n⟩
 .exact(l.nk.kept v (w _ O)).kept ((ak.refl [F (X b)+1] _).setCell oS _) oT
 .exact((((l.kept.alloc o).alloc q).grown y (λr u=>.inl (oF (p r u))))).setCell (.inr oS) _
 .obtain⟨_,_,_,_,_,_⟩:=n;exact⟨by go_simp,by go_simp,by go_simp,by go_simp,by go_simp,by go_simp⟩
 .exact(l.rc.kept v O (w _ O)).kept ((ak.refl [F (X b)+1] _).setCell oS _) (oF v.size) oS
 .have:=v.size;simp;omega
 rw[Ub,br];exact fh s oS _
def ane(s p a l)(h:Z l<=4):lj s (5-Z l) p a l =if iK s (fZ s p (fU s p a (Z l))) (eo s p (fU s p a (Z l))) ⟨#[44]⟩ then lj s (5-(l++[nV s p]).length) (jD s (fZ s p (fU s p a (Z l))) (eo s p (fU s p a (Z l))) ⟨#[44]⟩) (jT s (fZ s p (fU s p a (Z l))) (eo s p (fU s p a (Z l))) ⟨#[44]⟩) (l++[nV s p]) else(l++[nV s p],fZ s (jD s (fZ s p (fU s p a (Z l))) (eo s p (fU s p a (Z l))) ⟨#[44]⟩) (kZ s (jD s (fZ s p (fU s p a (Z l))) (eo s p (fU s p a (Z l))) ⟨#[44]⟩) (jT s (fZ s p (fU s p a (Z l))) (eo s p (fU s p a (Z l))) ⟨#[44]⟩) ⟨#[41]⟩),eo s (jD s (fZ s p (fU s p a (Z l))) (eo s p (fU s p a (Z l))) ⟨#[44]⟩) (kZ s (jD s (fZ s p (fU s p a (Z l))) (eo s p (fU s p a (Z l))) ⟨#[44]⟩) (jT s (fZ s p (fU s p a (Z l))) (eo s p (fU s p a (Z l))) ⟨#[44]⟩) ⟨#[41]⟩)):=by
 have b:5-Z l=(4-Z l)+1:=O
 have c:5-(l++[nV s p]).length=4-Z l:=oS
 rw[b,c,lj]
def aF{d}(v:Ow b a d g e h l):∃w c,e=U w h c:=by
 rcases v.2 with⟨rfl,rfl⟩|⟨_,c,_,rfl,_⟩
 .exact⟨G,0,rfl⟩
 exact⟨_,_,rfl⟩
def afW(s p a)(l:List ie):(((az s p).kind != 110)=Bt/\((az s p).kind != 118)=Bt/\fU s p a (Z l)=kq s p a) \/(((az s p).kind != 110)=Bf/\((Z l:Int)==4)=Bt/\fU s p a (Z l)=kq s p a) \/(((az s p).kind != 110)=Bt/\((az s p).kind != 118)=Bf/\((Z l:Int)==4)=Bt/\fU s p a (Z l)=kq s p a) \/(((az s p).kind != 110)=Bf/\((Z l:Int)==4)=Bf/\fU s p a (Z l)=a) \/(((az s p).kind != 110)=Bt/\((az s p).kind != 118)=Bf/\((Z l:Int)==4)=Bf/\fU s p a (Z l)=a):=by
 have e:((Z l:Int)==4)=(Z l==4):=by rw[oX];simp;omega
 rw[e];unfold fU
 cases (az s p).kind != 110<;>cases (az s p).kind != 118<;>cases (Z l)==4<;>simp
def aiS(s:Z j<=4)(h:iK f (fZ f a (fU f a d (Z j))) (eo f a (fU f a d (Z j))) c=Bt):Z j+1<=4:=by
 rcases BE (Z j) 4 with b|b
 .omega
 have e:Z j=4:=O
 rw[e,afS]at h
 cases h
def AL{i j k}(l:Ce b (C a 0 G)=P e)(h:Ce b (C a 1 G)=P m)(o:Ce b (C a 2 G)=P i)(p:Ce b (C a 3 G)=P j)(q:Ce b (C a 4 G)=P k)(n c d g f):Ce (Sc (Sc (Sc (Sc (Sc b (C a 0 G) n) (C a 1 G) c) (C a 2 G) d) (C a 3 G) g) (C a 4 G) f) (C a 0 G)=P n /\Ce (Sc (Sc (Sc (Sc (Sc b (C a 0 G) n) (C a 1 G) c) (C a 2 G) d) (C a 3 G) g) (C a 4 G) f) (C a 1 G)=P c /\Ce (Sc (Sc (Sc (Sc (Sc b (C a 0 G) n) (C a 1 G) c) (C a 2 G) d) (C a 3 G) g) (C a 4 G) f) (C a 2 G)=P d /\Ce (Sc (Sc (Sc (Sc (Sc b (C a 0 G) n) (C a 1 G) c) (C a 2 G) d) (C a 3 G) g) (C a 4 G) f) (C a 3 G)=P g /\Ce (Sc (Sc (Sc (Sc (Sc b (C a 0 G) n) (C a 1 G) c) (C a 2 G) d) (C a 3 G) g) (C a 4 G) f) (C a 4 G)=P f:=by refine⟨?_,?_,?_,?_,?_⟩<;>go_simp
def Ax(a n b c d e f):ak [n] a (Sc (Sc (Sc (Sc (Sc a (C n 0 G) b) (C n 1 G) c) (C n 2 G) d) (C n 3 G) e) (C n 4 G) f):=
 (((((ak.refl [n] a).setCell oS _).setCell oS _).setCell oS _).setCell oS _).setCell oS _
def aX{base' v}(n:Ow b a v g e h l)(k:base'<=a):Ow b base' v g e h l:=by
 refine⟨n.1,?_⟩;rcases n.2 with j|⟨w,d,f,rfl,_,c⟩
 .exact .inl j
 exact .inr ⟨w,d,f,rfl,O,c⟩
def ua.lE(p:ua b a c f g j h d e i)(wr:ak [F (X b)] i k):ak [a] b k/\gF k a c h d/\h<=c.size/\Ow k (F (X b)) 317 3 e (Z j) (cellsOf j):=by have s:=p.uy;refine⟨⟨wr.os.trans p.kept.os,wr.tape.trans p.kept.tape,wr.output.trans p.kept.output,bf p.kept.size wr.size,λv w l=>(wr.block v (iz w p.kept.size) oT).trans (p.kept.block v w l)⟩,p.nk.kept wr oT,p.hp,aX (ni p.tM wr oS) O⟩
def XR:(prog.info? 317).map (λi=>(i.zero,i.size,i.bytes))=P (P (Va #[Y ⟨#[]⟩,Vb Bf,I J 0]),3,32):=oK
def afR(x y z w):Sem.run prog (Instr.field 233 (Va #[x,y,z]) 1) w=.ok y w:=oK
def an8(a o)(t:ie)(j u)(h:t.cells[j]?=P u):Ce (Al (Al a o) (Vc #[Y t.text,Vb t.jv,I J ↑t.aC] 317)) (((C (F (X a)+1) 0 G):Addr).add j)=P u:=by
 have e:((C (F (X a)+1) 0 G):Addr).add j=(C (F (X a)+1) j G):=by unfold Addr.add;split<;>simp_all
 rw[e,World.cell?_alloc_at _ _ _ _ oS];simpa[ie.cells]using h
def anb(t:ie):∀u∈t.cells,u.oneCell'=true:=by intro u a;simp[ie.cells]at a;rcases a with rfl|rfl|rfl<;>rfl
def adV{s a b w e f m n}(h:b<F (X w))(j:m<=s.size)(c:ak [b] (Al (Al w (Vc #[Y ⟨#[]⟩,U G 0 0,Vb Bf,I J 0,I J 0] 243)) (Vc #[Y ⟨#[]⟩,U G 0 0,Vb Bf,I J ↑(az s a).aC,I J 0] 243)) e)(d:ak [b] (Sc e (C (F (X w)+1) 0 G) (Y (az s a).text)) f) (i:gF f b s m n):ua w b s (az s a).text (az s a).aC [] m n (U G 0 0) f:=by
 have k:=c.size;have l:=d.size;simp at k l;have q:ak [b] w f:=(((((ak.refl [b] w).alloc _).alloc _).trans c).setCell (.inr oS) _).trans d;refine⟨i,j,q,?_,?_,O,dm _ _ _ _,h⟩
 .have g:tZ e (F (X w)+1) ⟨#[]⟩ (U G 0 0) Bf (az s a).aC 0:=by
   refine tZ.kept ⟨?_,?_,?_,?_,?_,?_⟩ c oS oT
   all_goals first|(rw[World.cell?_alloc_at _ _ _ _ oS];rfl)|(intro o;rw[World.frozen?_alloc_at _ _ _ _ oS])
  have p:tZ (Sc e (C (F (X w)+1) 0 G) (Y (az s a).text)) (F (X w)+1) (az s a).text (U G 0 0) Bf (az s a).aC 0:=by obtain⟨_,_,_,_,_,_⟩:=g;exact⟨by go_simp,by go_simp,by go_simp,by go_simp,by go_simp,by go_simp⟩
  exact p.kept d oT oT
 have g:tZ e (F (X w)) ⟨#[]⟩ (U G 0 0) Bf 0 0:=by
  refine tZ.kept ⟨?_,?_,?_,?_,?_,?_⟩ c oT oT
  all_goals first|(rw[World.cell?_alloc_past _ _ _ oS,World.cell?_alloc_at _ _ _ _ rfl];rfl)|(intro o;rw[World.frozen?_alloc_past _ _ _ oS,World.frozen?_alloc_at _ _ _ _ rfl])
 exact(g.kept ((ak.refl [F (X w)+1] _).setCell oS _) O oS).kept d oT oT
def H3(s a c b w)(h:gF w b s a c)(k:a<=s.size)(u:s.size<=maxLen):Calls prog 184 #[Vp (P (C b 0 G))] w λe V=>∃v,e=Vr (Va #[Y (az s a).text,v,Vb Bf,I J (az s a).aC,I J 0])/\ak [b] w V/\gF V b s (bA s a c).2.1 (bA s a c).2.2/\(bA s a c).2.1<=s.size/\Ow V (F (X w)) 317 3 v (bA s a c).1.length (cellsOf (bA s a c).1):=by
 obtain⟨i0,hi,V,W,cB⟩:=info_parts XR;have l:=afR;have i:=h;obtain⟨S,B,D,E,K,L,M,N⟩:=h
 cases d:(az s a).kind != 110
 all_goals
  first
  | (have h:jt s a c=c:=(by simp[jt,d]);go_in;have p:=H h;clear h;go_wp2_with fail;have T:gF (Al (Al w (Vc #[Y ⟨#[]⟩,U G 0 0,Vb Bf,I J 0,I J 0] 243)) (Vc #[Y ⟨#[]⟩,U G 0 0,Vb Bf,I J ↑(az s a).aC,I J 0] 243)) b s a (jt s a c):=(by rw[ag p];exact i.kept (((ak.refl [] _).alloc _).alloc _) oS);refine(AP s a (jt s a c) b _ T k u).mono ?_;rintro e x⟨rfl,j,m⟩)
  | (have h:jt s a c=kq s a c:=(by simp[jt,d]);go_in;have p:=H h;clear h;go_wp2_with fail;refine(B7 s a c b _ (i.kept (((ak.refl [] _).alloc _).alloc _) oS)).mono ?_;rintro e w0⟨rfl,n,h⟩;rw[<-ag p]at h;go_wp2_with fail;refine(AP s a (jt s a c) b _ h k u).mono ?_;rintro e x⟨rfl,f,m⟩;have j:=n.trans f;clear f n h)
  unfold jx;obtain⟨z,y⟩:=j.bB;have r:F (X w)+1<F (X x):=by have:=j.size;simp at this;omega
  go_wp2_with fail;clear l;refine(Iy s _ _ _ b _ (m.kept ((ak.refl [F (X w)+1] _).setCell oS _) oT) (xP _ _ _ k) u).mono ?_;rintro e w2⟨rfl,l,o⟩;have f:=adV S (Ix (xP _ _ _ k)) j l o;have g:bA s a c=if iK s (fZ s a (jt s a c)) (eo s a (jt s a c)) ⟨#[40]⟩ then lj s 5 (jD s (fZ s a (jt s a c)) (eo s a (jt s a c)) ⟨#[40]⟩) (jT s (fZ s a (jt s a c)) (eo s a (jt s a c)) ⟨#[40]⟩) [] else([],jD s (fZ s a (jt s a c)) (eo s a (jt s a c)) ⟨#[40]⟩,jT s (fZ s a (jt s a c)) (eo s a (jt s a c)) ⟨#[40]⟩):=rfl;clear j l m o z y B D E K L M N i p d r;generalize jD s (fZ s a (jt s a c)) (eo s a (jt s a c)) ⟨#[40]⟩=p3 at*;generalize jT s (fZ s a (jt s a c)) (eo s a (jt s a c)) ⟨#[40]⟩=b3 at*;generalize iK s (fZ s a (jt s a c)) (eo s a (jt s a c)) ⟨#[40]⟩=o3 at*;have i:=H g;clear g;go_wp2
  go_loopg [4] 7 (λg r wr=>∃(l:List ie)(p:Nat)(d:Int)(o:Bool)(v:V9),r=Vb o/\(o=Bt->Z l<=4)/\(if o then 7-(Z l) else 0)<=g/\ua w b s (az s a).text (az s a).aC l p d v wr/\bA s a c=(if o then lj s (5-Z l) p d l else(l,p,d)))
  exact⟨[],p3,b3,o3,_,rfl,oS,by split<;>simp,f,i⟩
  case round=>
   clear i f;obtain⟨l,p,d,o,v,rfl,r,hg,g,i⟩:=hrel;have z:=H i;clear i;obtain⟨y,i,rfl⟩:=aF g.tM;have A:=g.nk;have q:=g.hp;have hsz:=g.sz
   cases o with
   |false=>obtain⟨x0,x1,x2,x3,x4,xf⟩:=g.ac;obtain⟨y0,y1,y2,y3,y4,_⟩:=g.rc;clear r;go_wp2_with fail;obtain⟨R,q1,q2,q3,q4⟩:=AL y0 y1 y2 y3 y4 (Y (az s a).text) (U y (Z l) i) (Vb Bf) (I J (az s a).aC) (I J 0);have t:=g.lE (Ax wr (F (X w)) (Y (az s a).text) (U y (Z l) i) (Vb Bf) (I J (az s a).aC) (I J 0));have Q:=z;refine bN (v:=Va #[Y (az s a).text,U y (Z l) i,Vb Bf,I J (az s a).aC,I J 0]) (by simp[results,results184,go_sem,R,q1,q2,q3,q4]) rfl ⟨U y (Z l) i,rfl,?_⟩;rw[Q];exact t
   |true=>
    have t:=r rfl;clear r;have f:=ane s p d l t;have r:=H (z.trans f);clear z f;have WB:(Z l:Int)<=4:=O;obtain⟨_,B,D,E,K,L,M,N⟩:=g.nk;obtain⟨x0,x1,x2,x3,x4,xf⟩:=g.ac;have z:(((az s p).kind != 110)=Bt/\((az s p).kind != 118)=Bt/\fU s p d (Z l)=kq s p d) \/
      (((az s p).kind != 110)=Bf/\((Z l:Int)==4)=Bt/\fU s p d (Z l)=kq s p d) \/
      (((az s p).kind != 110)=Bt/\((az s p).kind != 118)=Bf/\((Z l:Int)==4)=Bt/\fU s p d (Z l)=kq s p d) \/
      (((az s p).kind != 110)=Bf/\((Z l:Int)==4)=Bf/\fU s p d (Z l)=d) \/
      (((az s p).kind != 110)=Bt/\((az s p).kind != 118)=Bf/\((Z l:Int)==4)=Bf/\fU s p d (Z l)=d):=afW s p d l
    rcases z with⟨Q,R,f⟩|⟨Q,R,f⟩|⟨Q,R,t3,f⟩|⟨Q,R,f⟩|⟨Q,R,t3,f⟩
    all_goals
     have TB:=H f;clear f;go_wp2_with fail
     first
     | (refine(B7 s p d b _ A).mono ?_;rintro e w0⟨rfl,n,h⟩;rw[<-ag TB]at h;have f:=g.call n h q;clear n h B D E K L M N x0 x1 x2 x3 x4 xf;go_wp2_with fail)
     | (have f:ua w b s (az s a).text (az s a).aC l p (fU s p d (Z l)) (U y (Z l) i) wr:=(by rw[ag TB];exact g);clear B D E K L M N x0 x1 x2 x3 x4 xf)
     refine(AP s p (fU s p d (Z l)) b _ f.nk q u).mono ?_;rintro e x⟨rfl,j,m⟩;unfold jx;have h:=f.call j m (xP _ _ _ q);have qD:F (X w)+1<F (X x):=(oF h.sz);obtain⟨K,E,D,B,d4,N⟩:=h.ac;have n:=h.tM;clear j m f;go_wp2_with(at_builtin;refine ka _ rfl _ _ 241 rfl (F (X w)+2) 317 i0 _ 3 32 underlying241 hi V W cB rfl oD _ _ _ rfl ((n.alloc _).alloc _) (C (F (X x)+1) 0 G) 1 1 (nV s p).cells rfl rfl (an8 x _ (nV s p)) (anb _) oM O oT ?_);intro v5 w5 j m f;clear f;obtain⟨_,_,rfl⟩:=aF j;obtain⟨f,e0,e1,e2,e3,e4,M⟩:=h.append (nV s p) j m;have L:F (X w)+1<F (X w5):=(by have:=f.sz;simp at this;omega);clear j m K E D B d4 N n h;go_wp2_with fail;refine(Iy s _ _ _ b _ f.nk (xP _ _ _ q) u).mono ?_;rintro e N⟨rfl,n,m⟩;have h:=f.call n m (Ix (xP _ _ _ q));clear n m f e0 e1 e2 e3 e4 M L
     cases n:iK s (fZ s p (fU s p d (Z l))) (eo s p (fU s p d (Z l))) ⟨#[44]⟩ with
     |true=>have f:=H (r.trans (aD n));have m:=aiS t n;clear n r;go_wp2;go_roundg(7-(l++[nV s p]).length);exact⟨l++[nV s p],_,_,Bt,_,rfl,λ_=>oT,oS,h,f⟩;simp at hg⊢;omega
     |false=>have f:=H (r.trans (aB (by rw[n];decide)));clear n r;go_wp2_with fail;refine(Y6 s _ _ _ b _ h.nk h.hp u).mono ?_;rintro e L⟨rfl,n,m⟩;have r:=h.call n m (xP _ _ _ h.hp);clear n m h;go_wp2;go_roundg 0;exact⟨l++[nV s p],_,_,Bf,_,rfl,oS,oS,r,f⟩;simp at hg⊢;omega
def tL(s:B8)(pos:Nat)(bad:Int):Bool:=decide (bad<0)&&(az s pos).kind==119
def iM(s:B8)(pos:Nat)(bad:Int):Nat:=if tL s pos bad then fZ s pos bad else pos
def kX(s:B8)(pos:Nat)(bad:Int):Int:=if tL s pos bad then eo s pos bad else bad
def lQ(s:B8)(pos:Nat)(bad:Int):aR:=
 ⟨(az s (iM s pos bad)).text,(bA s (iM s pos bad) (kX s pos bad)).1,tL s pos bad,(az s (iM s pos bad)).aC,(az s pos).aC⟩
def gj(s:B8)(pos:Nat)(bad:Int):Nat×Int:=(bA s (iM s pos bad) (kX s pos bad)).2
def aR.val(A:aR)(tv:V9):V9:=Va #[Y A.ax,tv,Vb A.no,I J A.aC,I J A.aO]
def tG(w a b c d e t j):Ce (Al w (Vc #[a,b,c,d,e] t)) (C (F (X w)) j G)=#[a,b,c,d,e][j]?:=by rw[World.cell?_alloc_at _ _ _ _ rfl]
variable {d:Nat}{f:W8}
def j4(h:Ce f (C a d G)=P e)(o):Ce (Al f o) (C a d G)=P e:=by rw[World.cell?_alloc_past _ _ _ (DU f (C a d G) h)];exact h
variable {b:B8}{c:Int}
def Yo(h:a<=b.size):iM b a c<=b.size:=by
 unfold iM;split
 .exact xP b a c h
 exact h
def Yp{l j o}(x:d<F (X f))(p:ak [d] (Al f o) l)(t:gF l d b (bA b (iM b a c) (kX b a c)).2.1 (bA b (iM b a c) (kX b a c)).2.2)(s:Ow l (F (X f)) 317 3 e (bA b (iM b a c) (kX b a c)).1.length (cellsOf (bA b (iM b a c) (kX b a c)).1)) (q:(bA b (iM b a c) (kX b a c)).2.1<=b.size) (k:ak [F (X f)] l j) (w:∀g,e.ownBlock=P g->F (X f)<g):ak [d] f j/\gF j d b (gj b a c).1 (gj b a c).2/\(gj b a c).1<=b.size/\Ow j (F (X f)) 317 3 e (lQ b a c).aq.length (cellsOf (lQ b a c).aq):=by
 have u:=((ak.refl [d] f).alloc o).trans p;refine⟨⟨k.os.trans u.os,k.tape.trans u.tape,k.output.trans u.output,bf u.size k.size,λi h r=>(k.block i (iz h u.size) oT).trans (u.block i h r)⟩,t.kept k oT,q,?_⟩;refine⟨s.1,?_⟩;rcases s.2 with r|⟨g,m,n,rfl,v,i,h⟩
 .exact .inl r
 refine .inr ⟨g,m,n,rfl,v,?_,h⟩;have:=w g rfl;rw[k.block g (aM.1 i).1 oT];exact i
def ahS(s a c b w)(h:gF w b s a c)(m:a<=s.size)(M:s.size<=maxLen):Calls prog 186 #[Vp (P (C b 0 G))] w λe d=>∃E,e=Vr ((lQ s a c).val E)/\ak [b] w d/\gF d b s (gj s a c).1 (gj s a c).2/\(gj s a c).1<=s.size/\Ow d (F (X w)) 317 3 E (lQ s a c).aq.length (cellsOf (lQ s a c).aq):=by
 have h':=h;obtain⟨d,Q,R,S,T,V,W,fz⟩:=h;have z:(c<0/\((az s a).kind==119)=Bt/\tL s a c=Bt)\/(c<0/\((az s a).kind==119)=Bf/\tL s a c=Bf)\/(0<=c/\tL s a c=Bf):=by
  unfold tL
  by_cases D:c<0
  .cases hk:(az s a).kind==119<;>simp[D]
  exact .inr (.inr ⟨O,oT⟩)
 rcases z with⟨D,hk,j⟩|⟨D,hk,j⟩|⟨D,j⟩
 .have f:iM s a c=fZ s a c:=by simp[iM,j]
  have A:kX s a c=eo s a c:=by simp[kX,j]
  have L:=H j;have o:=H (And.intro f A);clear j f A;go_in;go_wp2_with fail;refine(AP s a c b _ (h'.kept ((ak.refl [] _).alloc _) oS) m M).mono ?_;rintro e w1⟨rfl,f,l⟩;rw[<-(ag o).1,<-(ag o).2]at l;clear Q R S T V W fz;go_wp2_with fail;refine(H3 s (iM s a c) (kX s a c) b _ l (Yo m) M).mono ?_;rintro e B⟨E,rfl,n,r,q,h⟩;have i:=aX h (show(F (X w))<=(F (X w1)) by have:=f.size;simp at this;omega);have K:=H (λg e=>iz (show(F (X w))<(F (X w1)) by have:=f.size;simp at this;omega) (h.lt g e).1);have k:=f.trans n;clear n f l h;obtain⟨p,f,rfl⟩:=aF i;obtain⟨n,r2⟩:=k.bB;have hz:F (X w)<F (X B):=by have:=k.size;simp at this;omega
  go_wp2_with fail;obtain⟨t,u,v,x,y⟩:=AL ((n _ _ d oS).trans (tG w _ _ _ _ _ _ 0)) ((n _ _ d oS).trans (tG w _ _ _ _ _ _ 1)) ((n _ _ d oS).trans (tG w _ _ _ _ _ _ 2)) ((n _ _ d oS).trans (tG w _ _ _ _ _ _ 3)) ((n _ _ d oS).trans (tG w _ _ _ _ _ _ 4)) (Y (az s (iM s a c)).text) (U p (bA s (iM s a c) (kX s a c)).fst.length f) (Vb Bt) (I J (az s (iM s a c)).aC) (I J (az s a).aC);have N:=Ax B (F (X w)) (Y (az s (iM s a c)).text) (U p (bA s (iM s a c) (kX s a c)).fst.length f) (Vb Bt) (I J (az s (iM s a c)).aC) (I J (az s a).aC);have t:=j4 t;have u:=j4 u;have v:=j4 v;have x:=j4 x;have y:=j4 y;refine bN (v:=(lQ s a c).val (U p (bA s (iM s a c) (kX s a c)).fst.length f)) (by simp[results,results186,go_sem,lQ,aR.val,ag L,t,u,v,x,y]) rfl ⟨_,rfl,?_⟩;exact Yp d k r i q (N.alloc _) K
 all_goals
  have o:iM s a c=a:=by simp[iM,j]
  have A:kX s a c=c:=by simp[kX,j]
  have l:gF (Al w (Vc #[Y ⟨#[]⟩,U G 0 0,Vb Bf,I J 0,I J 0] 243)) b s (iM s a c) (kX s a c):=by rw[o,A];exact h'.kept ((ak.refl [] _).alloc _) oS
  have L:=H j;clear j o A;go_in;go_wp2_with fail;clear Q R S T V W fz;refine(H3 s (iM s a c) (kX s a c) b _ l (Yo m) M).mono ?_;rintro e B⟨E,rfl,k,r,q,h⟩;have i:=aX h (show(F (X w))<=_ by simp);have K:=H (λg e=>iz (show(F (X w))<_ by simp) (h.lt g e).1);clear l h;obtain⟨p,f,rfl⟩:=aF i;obtain⟨n,r2⟩:=k.bB;have hz:F (X w)<F (X B):=by have:=k.size;simp at this;omega
  go_wp2_with fail;obtain⟨t,u,v,x,y⟩:=AL ((n _ _ d oS).trans (tG w _ _ _ _ _ _ 0)) ((n _ _ d oS).trans (tG w _ _ _ _ _ _ 1)) ((n _ _ d oS).trans (tG w _ _ _ _ _ _ 2)) ((n _ _ d oS).trans (tG w _ _ _ _ _ _ 3)) ((n _ _ d oS).trans (tG w _ _ _ _ _ _ 4)) (Y (az s (iM s a c)).text) (U p (bA s (iM s a c) (kX s a c)).fst.length f) (Vb Bf) (I J (az s (iM s a c)).aC) (I J (az s a).aC);have N:=Ax B (F (X w)) (Y (az s (iM s a c)).text) (U p (bA s (iM s a c) (kX s a c)).fst.length f) (Vb Bf) (I J (az s (iM s a c)).aC) (I J (az s a).aC);have t:=j4 t;have u:=j4 u;have v:=j4 v;have x:=j4 x;have y:=j4 y;refine bN (v:=(lQ s a c).val (U p (bA s (iM s a c) (kX s a c)).fst.length f)) (by simp[results,results186,go_sem,lQ,aR.val,ag L,t,u,v,x,y]) rfl ⟨_,rfl,?_⟩;exact Yp d k r i q (N.alloc _) K
def aR.cells(A:aR)(tv:V9):V8:=[Y A.ax,tv,Vb A.no,I J A.aC,I J A.aO]
def uK(bs:List (aR×V9)):V8:=bs.flatMap λx=>x.1.cells x.2
def ahR(l A a):uK (l++[(A,a)])=uK l++A.cells a:=by simp[uK]
def dK(s:B8)(p:Nat)(bd:Int)(n:Nat):Int:=if n==3 then kq s p bd else bd
def lO(s:B8):Nat->Nat->Int->List aR->List aR×Nat×Int
 | 0,p,bd,l=>(l,p,bd)
 |f+1,p,bd,l=>
  if iK s (gj s p (dK s p bd (Z l))).1 (gj s p (dK s p bd (Z l))).2 ⟨#[44]⟩ then
   lO s f (jD s (gj s p (dK s p bd (Z l))).1 (gj s p (dK s p bd (Z l))).2 ⟨#[44]⟩) (jT s (gj s p (dK s p bd (Z l))).1 (gj s p (dK s p bd (Z l))).2 ⟨#[44]⟩) (l++[lQ s p (dK s p bd (Z l))])
  else(l++[lQ s p (dK s p bd (Z l))],jD s (gj s p (dK s p bd (Z l))).1 (gj s p (dK s p bd (Z l))).2 ⟨#[44]⟩,jT s (gj s p (dK s p bd (Z l))).1 (gj s p (dK s p bd (Z l))).2 ⟨#[44]⟩)
structure bg where
 ay:aR
 body:List aR
def jZ(s:B8)(pos:Nat)(bad:Int):aR:=⟨(az s pos).text,(bA s pos bad).1,Bf,(az s pos).aC,0⟩
def ko(s:B8)(pos:Nat)(bad:Int):List aR×Nat×Int:=
 if iK s (bA s pos bad).2.1 (bA s pos bad).2.2 ⟨#[58,45]⟩ then
  lO s 4 (jD s (bA s pos bad).2.1 (bA s pos bad).2.2 ⟨#[58,45]⟩) (jT s (bA s pos bad).2.1 (bA s pos bad).2.2 ⟨#[58,45]⟩) []
 else([],jD s (bA s pos bad).2.1 (bA s pos bad).2.2 ⟨#[58,45]⟩,jT s (bA s pos bad).2.1 (bA s pos bad).2.2 ⟨#[58,45]⟩)
def uQ(s:B8)(pos:Nat)(bad:Int):Nat:=fZ s (ko s pos bad).2.1 (kZ s (ko s pos bad).2.1 (ko s pos bad).2.2 ⟨#[46]⟩)
def nT(s:B8)(pos:Nat)(bad:Int):Int:=eo s (ko s pos bad).2.1 (kZ s (ko s pos bad).2.1 (ko s pos bad).2.2 ⟨#[46]⟩)
variable {c k:B8}{b:Int}{i n:Nat}
def yP(h:0<=b):0<=jT c a b k:=by
 unfold jT;split
 .exact AO h
 exact h
def Y8(h:0<=b):0<=kZ c a b k:=by
 unfold kZ;split
 .exact h
 exact xi _ _ _
def an7(h:0<=b):0<=fU c a b n:=by
 unfold fU;split
 .exact xi _ _ _
 exact h
def anj(f):∀{p:Nat} {a:Int} {l:List ie},0<=a->0<=(lj c f p a l).2.2:=by
 induction f with
 |zero=>intro p a l h;exact h
 |succ f s=>
  intro p a l h;have b:0<=eo c p (fU c p a (Z l)):=AO (an7 h);rw[lj]
  split
  .exact s (yP b)
  exact AO (Y8 (yP b))
def TQ{s p}(h:0<=b):0<=(bA s p b).2.2:=by
 have c:0<=jt s p b:=by
  unfold jt;split
  .exact xi _ _ _
  exact h
 have a:0<=tE s p b:=AO c;unfold bA
 split
 .exact anj 5 (yP a)
 exact yP a
def Yq{s p}(h:0<=b):0<=(gj s p b).2:=by
 unfold gj;refine TQ ?_;unfold kX;split
 .exact AO h
 exact h
def ahW(f:n<=3)(h:iK k (gj k a (dK k a b n)).1 (gj k a (dK k a b n)).2 c=Bt):n+1<=3:=by
 rcases BE n 3 with s|s
 .omega
 have e:n=3:=O
 subst e;have d:=XV h;have e:0<=dK k a b 3:=by simp[dK];exact xi _ _ _
 have g:=Yq (s:=k) (p:=a) e;omega
def ae9(s p a l)(h:Z l<=3):lO s (4-Z l) p a l =if iK s (gj s p (dK s p a (Z l))).1 (gj s p (dK s p a (Z l))).2 ⟨#[44]⟩ then lO s (4-(l++[lQ s p (dK s p a (Z l))]).length) (jD s (gj s p (dK s p a (Z l))).1 (gj s p (dK s p a (Z l))).2 ⟨#[44]⟩) (jT s (gj s p (dK s p a (Z l))).1 (gj s p (dK s p a (Z l))).2 ⟨#[44]⟩) (l++[lQ s p (dK s p a (Z l))]) else(l++[lQ s p (dK s p a (Z l))],jD s (gj s p (dK s p a (Z l))).1 (gj s p (dK s p a (Z l))).2 ⟨#[44]⟩,jT s (gj s p (dK s p a (Z l))).1 (gj s p (dK s p a (Z l))).2 ⟨#[44]⟩):=by
 have b:4-Z l=(3-Z l)+1:=O
 have c:4-(l++[lQ s p (dK s p a (Z l))]).length=3-Z l:=oS
 rw[b,c,lO]
structure vm(w:W8)(n:Nat)(A:aR)(hv bv:V9):Prop where
 c0:Ce w (C n 0 G)=P (Y A.ax)
 c1:Ce w (C n 1 G)=P hv
 c2:Ce w (C n 2 G)=P (Vb A.no)
 c3:Ce w (C n 3 G)=P (I J A.aC)
 c4:Ce w (C n 4 G)=P (I J A.aO)
 c5:Ce w (C n 5 G)=P bv
 fz:∀o,w.frozen? (C n o G)=Bf
variable {j:aR}{g o p:V9}{h m:W8}
def vm.kept{B}(w:vm f n j e g)(k:ak B f h)(a:n<F (X f))(b:n∉B):vm h n j e g:=
 ⟨(k.cell a b).trans w.c0,(k.cell a b).trans w.c1,(k.cell a b).trans w.c2,(k.cell a b).trans w.c3,(k.cell a b).trans w.c4,(k.cell a b).trans w.c5,λo=>(k.frozen a b).trans (w.fz o)⟩
def PJ{v k c p q j}(h:Ow f d v i e n q)(m:Ow f a k c g p j)(b:v≠k):e.ownBlock=G\/e.ownBlock≠g.ownBlock:=by
 rcases h.2 with⟨rfl,_⟩|⟨_,_,_,rfl,_,o,_⟩
 .exact .inl rfl
 refine .inr ?_;rcases m.2 with⟨rfl,_⟩|⟨_,_,_,rfl,_,w,_⟩
 .simp[Value.ownBlock]
 simp only[Value.ownBlock];intro l;injection l with l
 subst l;rw[o]at w;injection w with w
 injection w with _ w _
 exact b w
def aom:aR:=⟨⟨#[]⟩,[],Bf,0,0⟩
structure ur(w:W8)(b m:Nat)(s:B8)(a:aR)(hv:V9)(bs:List (aR×V9))(p:Nat)(bd:Int)(bv:V9)(wr:W8):Prop where
 nk:gF wr b s p bd
 hp:p<=s.size
 kept:ak [b] w wr
 rc:vm wr m a hv bv
 zc:vm wr (F (X w)) aom (U G 0 0) (U G 0 0)
 sz:m+1<=F (X wr)
 nm:F (X w)<m
 tM:Ow wr (m+1) 243 5 bv (Z bs) (uK bs)
 hd:Ow wr (F (X w)+1) 317 3 hv (Z a.aq) (cellsOf a.aq)
 hm:∀k,hv.ownBlock=P k->k<m
 bl:∀x∈bs,Ow wr (m+1) 317 3 x.2 x.1.aq.length (cellsOf x.1.aq)
 uy:b<F (X w)
variable {l:List (aR×V9)}
def ur.call{w}(wr:ur f a i c j e l n b g h)(k:ak [a] h m)(q:gF m a c d w)(s:d<=c.size):ur f a i c j e l d w g m:=
 have p:=wr.uy;have o:=wr.nm;have r:=wr.sz
 ⟨q,s,wr.kept.trans k,wr.rc.kept k O oT,wr.zc.kept k O oT,bf wr.sz k.size,wr.nm,ni wr.tM k oT,ni wr.hd k oT,wr.hm,λx t=>ni (wr.bl x t) k oT,wr.uy⟩
def ur.append(r:ur f a d c j e l i b g h){L M A}(ht:Ow h (d+1) 317 3 o (Z A.aq) (cellsOf A.aq))(T:Ow m (d+1) 243 5 p (Z l+1) (uK l++A.cells o)) (R:(Al (Al h L) M).grownBy m g.ownBlock):ur f a d c j e (l++[(A,o)]) i b p (Sc m (C d 5 G) p)/\vm m d j e g:=by
 have mM:=r.uy;have WS:=r.nm;have hsz:=r.sz;have q:∀k,g.ownBlock=P k->d+1<=k:=λk V=>(r.tM.lt k V).1
 have D:ak g.ownBlock.toList h m:=(((ak.refl _ h).alloc L).alloc M).grown R (λk V=>.inr (by simp[V]));have t:∀k,k<d+1->k∉g.ownBlock.toList:=by
  intro k W u
  cases e:g.ownBlock with
  |none=>simp[e]at u
  |some x=>simp[e]at u;have:=q x e;omega
 have r5:=r.rc.kept D O (t _ O);have u:∀{y:Nat} {v:V9} {n:Nat} {z:V8},Ow h y 317 3 v n z->Ow m y 317 3 v n z:=λ{y v n z} w=>
  World.ownsRow.kept ((w.alloc L).alloc M) R (PJ w r.tM oD)
 have s:∀{y:Nat} {V:TypeId} {K:Nat} {v:V9} {n:Nat} {z:V8},Ow m y V K v n z->(∀k,v.ownBlock=P k->k≠d)->Ow (Sc m (C d 5 G) p) y V K v n z:=by
  intro y V K v n z w W;refine⟨w.1,?_⟩;rcases w.2 with hn|⟨B,N,Q,rfl,hb,S,E⟩
  .exact .inl hn
  exact .inr ⟨B,N,Q,rfl,hb,by rw[cx _ _ _ _ (W B rfl)];exact S,E⟩
 refine⟨⟨?_,r.hp,?_,?_,?_,?_,r.nm,?_,?_,r.hm,?_,r.uy⟩,r5⟩
 .exact(r.nk.kept D (t _ O)).kept ((ak.refl [d] _).setCell oS _) oT
 .exact((((r.kept.alloc L).alloc M).grown R (λk V=>.inl (oF (q k V))))).setCell (.inr oT) _
 .obtain⟨_,_,_,_,_,_,_⟩:=r5;exact⟨by go_simp,by go_simp,by go_simp,by go_simp,by go_simp,by go_simp,by go_simp⟩
 .exact(r.zc.kept D O (t _ O)).kept ((ak.refl [d] _).setCell oS _) (oF D.size) oT
 .have:=D.size;simp;omega
 .rw[ahR,br];exact s T (λk V=>by have:=(T.lt k V).1;omega)
 .exact s (u r.hd) (λk V=>by have:=r.hm k V;omega)
 intro x w;rcases aS.1 w with w|w
 .exact s (u (r.bl x w)) (λk V=>by have:=((r.bl x w).lt k V).1;omega)
 simp at w;subst w;exact s (u ht) (λk V=>by have:=(ht.lt k V).1;omega)
structure lN(w:W8)(base:Nat)(R:bg)(hv:V9)(bs:List (aR×V9))(bv:V9):Prop where
 hd:Ow w base 317 3 hv (Z R.ay.aq) (cellsOf R.ay.aq)
 bo:Ow w base 243 5 bv (Z bs) (uK bs)
 bl:∀x∈bs,Ow w base 317 3 x.2 x.1.aq.length (cellsOf x.1.aq)
 eq:R.body=bs.map (·.1)
def ur.lE(wr:ur f a d c j g l i b e h)(k:ak [F (X f)] h m):ak [a] f m/\gF m a c i b/\i<=c.size/\lN m (F (X f)) ⟨j,l.map (·.1)⟩ g l e:=by
 have w:=wr.uy;have n:=wr.nm;refine⟨⟨k.os.trans wr.kept.os,k.tape.trans wr.kept.tape,k.output.trans wr.kept.output,bf wr.kept.size k.size,λp x s=>(k.block p (iz x wr.kept.size) oT).trans (wr.kept.block p x s)⟩,wr.nk.kept k oT,wr.hp,⟨?_,?_,?_,rfl⟩⟩
 .exact aX (ni wr.hd k oS) O
 .exact aX (ni wr.tM k oT) O
 exact λx s=>aX (ni (wr.bl x s) k oT) O
def alF(i:d<F (X f))(w:ak [d] (Al f (Vc #[Y ⟨#[]⟩,U G 0 0,Vb Bf,I J 0,I J 0,U G 0 0] 246)) h)(j:gF h d c (bA c a b).2.1 (bA c a b).2.2) (g:(bA c a b).2.1<=c.size)(s:Ow h (F (X f)+1) 317 3 e (bA c a b).1.length (cellsOf (bA c a b).1)):ur f d (F (X h)) c (jZ c a b) e [] (bA c a b).2.1 (bA c a b).2.2 (U G 0 0) (Al h (Vc #[Y (az c a).text,e,Vb Bf,I J ↑(az c a).aC,I J 0,U G 0 0] 246)):=by
 have m:=w.size;simp at m;refine⟨j.kept ((ak.refl [] _).alloc _) oS,g,(((ak.refl [d] f).alloc _).trans w).alloc _,?_,?_,oS,O,dm _ _ _ _,s.alloc _,λk l=>(s.lt k l).2,oS,i⟩
 .refine⟨?_,?_,?_,?_,?_,?_,?_⟩
  all_goals first|(rw[World.cell?_alloc_at _ _ _ _ rfl];rfl)|(intro o;rw[World.frozen?_alloc_at _ _ _ _ rfl])
 refine vm.kept (vm.kept ⟨?_,?_,?_,?_,?_,?_,?_⟩ w oS oT) ((ak.refl [] _).alloc _) O oS
 all_goals first|(rw[World.cell?_alloc_at _ _ _ _ rfl];rfl)|(intro o;rw[World.frozen?_alloc_at _ _ _ _ rfl])
def am3{l m}(j:Ce f (C n 0 G)=P e)(k:Ce f (C n 1 G)=P g)(q:Ce f (C n 2 G)=P o)(r:Ce f (C n 3 G)=P p)(s:Ce f (C n 4 G)=P l)(t:Ce f (C n 5 G)=P m)(b c d h a i):Ce (Sc (Sc (Sc (Sc (Sc (Sc f (C n 0 G) b) (C n 1 G) c) (C n 2 G) d) (C n 3 G) h) (C n 4 G) a) (C n 5 G) i) (C n 0 G)=P b /\Ce (Sc (Sc (Sc (Sc (Sc (Sc f (C n 0 G) b) (C n 1 G) c) (C n 2 G) d) (C n 3 G) h) (C n 4 G) a) (C n 5 G) i) (C n 1 G)=P c /\Ce (Sc (Sc (Sc (Sc (Sc (Sc f (C n 0 G) b) (C n 1 G) c) (C n 2 G) d) (C n 3 G) h) (C n 4 G) a) (C n 5 G) i) (C n 2 G)=P d /\Ce (Sc (Sc (Sc (Sc (Sc (Sc f (C n 0 G) b) (C n 1 G) c) (C n 2 G) d) (C n 3 G) h) (C n 4 G) a) (C n 5 G) i) (C n 3 G)=P h /\Ce (Sc (Sc (Sc (Sc (Sc (Sc f (C n 0 G) b) (C n 1 G) c) (C n 2 G) d) (C n 3 G) h) (C n 4 G) a) (C n 5 G) i) (C n 4 G)=P a /\Ce (Sc (Sc (Sc (Sc (Sc (Sc f (C n 0 G) b) (C n 1 G) c) (C n 2 G) d) (C n 3 G) h) (C n 4 G) a) (C n 5 G) i) (C n 5 G)=P i:=by refine⟨?_,?_,?_,?_,?_,?_⟩<;>go_simp
def ahx(a n b c d e f g):ak [n] a (Sc (Sc (Sc (Sc (Sc (Sc a (C n 0 G) b) (C n 1 G) c) (C n 2 G) d) (C n 3 G) e) (C n 4 G) f) (C n 5 G) g):=
 ((((((ak.refl [n] a).setCell oS _).setCell oS _).setCell oS _).setCell oS _).setCell oS _).setCell oS _
def aha:(prog.info? 243).map (λi=>(i.zero,i.size,i.bytes))=P (P (Va #[Y ⟨#[]⟩,U G 0 0,Vb Bf,I J 0,I J 0]),5,64):=oK
def ahT(a o)(A:aR)(b j u)(h:(A.cells b)[j]?=P u):Ce (Al (Al a o) (Vc #[Y A.ax,b,Vb A.no,I J ↑A.aC,I J ↑A.aO] 243)) (((C (F (X a)+1) 0 G):Addr).add j)=P u:=by
 have e:((C (F (X a)+1) 0 G):Addr).add j=(C (F (X a)+1) j G):=by unfold Addr.add;split<;>simp_all
 rw[e,World.cell?_alloc_at _ _ _ _ oS];simpa[aR.cells]using h
def ahX(A:aR)(a n c):∀u∈A.cells (U a n c),u.oneCell'=true:=by intro u b;simp[aR.cells]at b;rcases b with rfl|rfl|rfl|rfl|rfl<;>rfl
variable {a:Bool}{b c d:List aR×Nat×Int}
def aef(h:b=if a then c else d)(D:a=Bt):b=c:=by rw[D]at h;simpa using h
def aec(h:b=if a then c else d)(D:a=Bf):b=d:=by rw[D]at h;simpa using h
def oJ(a:aR)(hv bv:V9):V9:=Va #[Y a.ax,hv,Vb a.no,I J a.aC,I J a.aO,bv]
def alC(s a c b w)(h:gF w b s a c)(B:a<=s.size)(D:s.size<=maxLen):Calls prog 125 #[Vp (P (C b 0 G))] w λe V=>∃T d x,e=Vr (oJ (jZ s a c) T x)/\ak [b] w V/\gF V b s (uQ s a c) (nT s a c)/\uQ s a c<=s.size/\lN V (F (X w)) ⟨jZ s a c,(ko s a c).1⟩ T d x:=by
 have k:=h;obtain⟨i0,hi,V,W,cB⟩:=info_parts aha;obtain⟨S,o,p,n,m,L,t,E⟩:=h;go_in;go_wp2_with fail;refine(H3 s a c b _ (k.kept ((ak.refl [] _).alloc _) oS) B D).mono ?_;rintro e K⟨T,rfl,l,i,A,h⟩;have g:=alF S l i A (oU h);obtain⟨v,j,rfl⟩:=aF h;clear o p n m L t E k i l h;have h:ko s a c=_:=ko.eq_1 s a c;have k:=H h;clear h;go_wp2_with fail;refine(Iy s _ _ _ b _ g.nk g.hp D).mono ?_;rintro e w2⟨rfl,h,i⟩;have l:=g.call h i (Ix A);clear h i g;generalize jD s (bA s a c).2.1 (bA s a c).2.2 ⟨#[58,45]⟩=p3 at*;generalize jT s (bA s a c).2.1 (bA s a c).2.2 ⟨#[58,45]⟩=b3 at*;generalize iK s (bA s a c).2.1 (bA s a c).2.2 ⟨#[58,45]⟩=o3 at*;go_wp2
 go_loopg [4] 6 (λg h wr=>∃(d:List (aR×V9))(p:Nat)(i:Int)(o:Bool)(x:V9),h=Vb o/\(o=Bt->Z d<=3)/\(if o then 6-(Z d) else 0)<=g/\ur w b (F (X K)) s (jZ s a c) (U v (bA s a c).fst.length j) d p i x wr/\ko s a c=(if o then lO s (4-(d.map (·.1)).length) p i (d.map (·.1)) else(d.map (·.1),p,i)))
 exact⟨[],p3,b3,o3,_,rfl,oS,by split<;>simp,l,k⟩
 case round=>
  clear k l;obtain⟨d,p,i,o,x,rfl,k,hg,g,n⟩:=hrel;have m:=H n;clear n;obtain⟨L,n,rfl⟩:=aF g.tM;have t:=g.hp;have E:=g.sz
  cases o with
  |false=>clear k;have r:ko s a c=(d.map (·.1),p,i):=m;have u:=H r;clear r m;go_wp2_with fail;refine(Y6 s _ _ _ b _ g.nk t D).mono ?_;rintro e w9⟨rfl,r,y⟩;have h:=g.call r y (xP _ _ _ t);obtain⟨f,N,q,Q,R,x5,xf⟩:=h.rc;obtain⟨y0,y1,y2,y3,y4,y5,_⟩:=h.zc;clear r y g;go_wp2_with fail;obtain⟨q0,q1,q2,q3,q4,q5⟩:=am3 y0 y1 y2 y3 y4 y5 (Y (jZ s a c).ax) (U v (bA s a c).fst.length j) (Vb (jZ s a c).no) (I J (jZ s a c).aC) (I J (jZ s a c).aO) (U L (Z d) n);have r:=h.lE (ahx w9 (F (X w)) (Y (jZ s a c).ax) (U v (bA s a c).fst.length j) (Vb (jZ s a c).no) (I J (jZ s a c).aC) (I J (jZ s a c).aO) (U L (Z d) n));have y:uQ s a c=fZ s p (kZ s p i ⟨#[46]⟩):=(by rw[uQ,ag u]);have z:nT s a c=eo s p (kZ s p i ⟨#[46]⟩):=(by rw[nT,ag u]);have M:(ko s a c).1=d.map (·.1):=(by rw[ag u]);refine bN (v:=oJ (jZ s a c) (U v (bA s a c).fst.length j) (U L (Z d) n)) (by simp[results,results125,go_sem,oJ,q0,q1,q2,q3,q4,q5]) rfl ⟨_,d,_,rfl,?_⟩;rw[y,z,M];exact r
  |true=>
   have u:Z d<=3:=k rfl;clear k;have l:=ae9 s p i (d.map (·.1)) (oU u);have h:=(show ko s a c=lO s (4-(d.map (·.1)).length) p i (d.map (·.1)) from m).trans l;rw[bF]at h;have r:=H h;clear m l h;have WB:(Z d:Int)<=3:=O;obtain⟨f,N,q,Q,R,x5,xf⟩:=g.rc
   by_cases z:Z d=3
   all_goals
    first
    | (have m:dK s p i (Z d)=kq s p i:=(by simp[dK,z]);have t3':((Z d:Int)==3)=true:=oT;have M:=H m;clear m z;go_wp2_with fail;refine(B7 s p i b _ g.nk).mono ?_;rintro e w0⟨rfl,y,l⟩;rw[<-ag M]at l;have h:=g.call y l t;have E:=h.sz;clear y l f N q Q R x5 xf;go_wp2_with fail)
    | (have m:dK s p i (Z d)=i:=(by simp[dK,z]);have t3':((Z d:Int)==3)=false:=oT;have M:=H m;clear m z;go_wp2_with fail;have h:ur w b (F (X K)) s (jZ s a c) (U v (bA s a c).fst.length j) d p (dK s p i (Z d)) (U L (Z d) n) wr:=(by rw[ag M];exact g);clear f N q Q R x5 xf)
    refine(ahS s p (dK s p i (Z d)) b _ h.nk t D).mono ?_;rintro e w3⟨_,rfl,m,z,k,l⟩;obtain⟨a3,y,rfl⟩:=aF l;have f:=h.call m z k;obtain⟨d0,d1,d2,d3,d4,d5,N⟩:=f.rc;have q:=f.tM;have qD:F (X K)<F (X w3):=(oF f.sz);clear m z h;unfold aR.val;go_wp2_with(at_builtin;refine ka _ rfl _ _ 244 rfl (F (X K)+1) 243 i0 _ 5 64 underlying244 hi V W cB rfl oD _ _ _ rfl ((q.alloc _).alloc _) (C (F (X w3)+1) 0 G) 1 1 ((lQ s p (dK s p i (Z d))).cells (U a3 (lQ s p (dK s p i (Z d))).aq.length y)) rfl rfl (ahT w3 _ _ _) (ahX _ _ _ _) oM O oT ?_);intro v5 w5 m z h;clear h;obtain⟨_,_,rfl⟩:=aF m;obtain⟨h,e0,e1,e2,e3,e4,e5,Q⟩:=f.append (aX l E) m z;have R:F (X K)<F (X w5):=(by have:=h.sz;simp at this;omega);clear m z d0 d1 d2 d3 d4 d5 N q f l;go_wp2_with fail;refine(Iy s _ _ _ b _ h.nk k D).mono ?_;rintro e N⟨rfl,f,q⟩;have l:=h.call f q (Ix k);clear f q h e0 e1 e2 e3 e4 e5 Q R
    cases f:iK s (gj s p (dK s p i (Z d))).1 (gj s p (dK s p i (Z d))).2 ⟨#[44]⟩ with
    |true=>have R:=ahW u f;have h:=H (aef r f);clear f r;go_wp2;go_roundg(6-(Z d+1));exact⟨_,_,_,Bt,_,rfl,λ_=>oT,oS,l,by rw[fg];exact h⟩;simp at hg⊢;omega
    |false=>have h:=H (aec r f);clear f r;go_wp2;go_roundg 0;exact⟨_,_,_,Bf,_,rfl,oS,oS,l,by rw[fg];exact h⟩;simp at hg⊢;omega
structure RR where
 R:bg
 hv:V9
 bs:List (aR×V9)
 bv:V9
def RR.cells(r:RR):V8:=[Y r.R.ay.ax,r.hv,Vb r.R.ay.no,I J r.R.ay.aC,I J r.R.ay.aO,r.bv]
def tR(rs:List RR):V8:=rs.flatMap RR.cells
structure kc(w:W8)(o:Nat)(rs:List RR)(ps qs:P9)(rv pv tv sv:V9):Prop where
 lt:o<F (X w)
 c0:Ce w (C o 0 G)=P rv
 c1:Ce w (C o 1 G)=P pv
 c2:Ce w (C o 2 G)=P tv
 c3:Ce w (C o 3 G)=P sv
 fz:∀j,w.frozen? (C o j G)=Bf
 bB:Ow w (o+1) 246 6 rv (Z rs) (tR rs)
 aK:∀r∈rs,lN w (o+1) r.R r.hv r.bs r.bv
 oE:Ow w (o+1) 9 1 pv (Z ps) (ps.map λx=>Y x.1)
 aq:Ow w (o+1) 3 1 tv (Z qs) (qs.map λx=>I J x.2)
abbrev kC(w:W8)(o:Nat)(rs:List RR)(ps:P9)(rv pv tv sv:V9):Prop:=kc w o rs ps ps rv pv tv sv
variable {o:List (aR×V9)}{a h k p:Nat}{q:bg}{b i l r:V9}{c d:W8}
def lN.kept{B}(h:lN c a q e o b)(k:ak B c f)(w:∀x∈B,x<a):lN f a q e o b:=
 ⟨ni h.hd k w,ni h.bo k w,λx g=>ni (h.bl x g) k w,h.eq⟩
variable {j m:P9}{n:List RR}
def kc.kept{B}(h:kc c a n j m i e b l)(k:ak B c d)(w:∀x∈B,x<a):kc d a n j m i e b l:=
 have f:a∉B:=λo=>by have:=w a o;omega
 have o:∀x∈B,x<a+1:=λx g=>by have:=w x g;omega
 ⟨iz h.lt k.size,(k.cell h.lt f).trans h.c0,(k.cell h.lt f).trans h.c1,(k.cell h.lt f).trans h.c2,(k.cell h.lt f).trans h.c3,λg=>(k.frozen h.lt f).trans (h.fz g),ni h.bB k o,λr g=>(h.aK r g).kept k o,ni h.oE k o,ni h.aq k o⟩
variable {g:V8}
def xj{u m n q W}(t:∀o,o<F (X c)->d.heap[o]?=c.heap[o]?)(E:F (X c)<=F (X d))(B:Ow c (h+1) u p e n g)(y:d.grownBy f e.ownBlock)(s:Ow c (h+1) m a r q W)(v:m≠u):Ow (Sc f (C h k G) b) (h+1) m a r q W:=by
 have o:=PJ s B v;refine⟨s.1,?_⟩;rcases s.2 with A|⟨D,i,l,rfl,x,j,w⟩
 .exact .inl A
 have z:=(aM.1 j).1;refine .inr ⟨D,i,l,rfl,x,?_,w⟩;rw[cx _ _ _ _ oT,y.block D O (by rcases o with o|o;cases o;exact o),t D z];exact j
def Io{v}(W:∀n,n<F (X c)->d.heap[n]?=c.heap[n]?)(w:F (X c)<=F (X d))(r:Ow c (a+1) v k e p g)(j:d.grownBy f e.ownBlock)(m:317≠v)(R:243≠v)(u:lN c (a+1) q i o l):lN (Sc f (C a h G) b) (a+1) q i o l:=
 ⟨xj W w r j u.hd m,xj W w r j u.bo R,λx n=>xj W w r j (u.bl x n) m,u.eq⟩
def Ex{e}(w:∀v,v<F (X d)->f.heap[v]?=d.heap[v]?)(i:F (X d)<=F (X f))(n:Ow d (h+1) e a b k g)(W:f.grownBy c b.ownBlock)(o:h<F (X d)):c.heap[h]?=d.heap[h]?:=by rw[W.block h O (λv=>by have:=(n.lt h v.symm).1;omega),w h o]
def MS{j u e}(W:∀n,n<F (X c)->f.heap[n]?=c.heap[n]?)(q:F (X c)<=F (X f))(i:f.os=c.os)(l:f.tape=c.tape)(w:f.output=c.output)(m:Ow c (a+1) e h b k g)(o:f.grownBy d b.ownBlock)(p:a<F (X c)):Below a c (Sc d (C a j G) u):=
 ⟨o.os.trans i,o.tape.trans l,o.output.trans w,by have:=o.size;simp;omega,λn v=>by
  rw[cx _ _ _ _ oT,o.block n O (λv=>by have:=(m.lt n v.symm).1;omega),W n O]⟩
def kc.am5(h:kc d a n j m b l e i)(s:∀k,k<F (X d)->f.heap[k]?=d.heap[k]?)(w:F (X d)<=F (X f))(W:f.grownBy c l.ownBlock){x}(p:Ow c (a+1) 9 1 r (Z j+1) ((j.map λx=>Y x.1)++[Y x.1])):kc (Sc c (C a 1 G) r) a n (j++[x]) m b r e i:=by
 have g:=Ex s w h.oE W h.lt;have k:∀o,Ce c (C a o G)=Ce d (C a o G):=λo=>j8 g
 have q:∀o,c.frozen? (C a o G)=d.frozen? (C a o G):=λo=>zQ g
 have t:=(k 0).trans h.c0;have u:=(k 1).trans h.c1;have v:=(k 2).trans h.c2;have y:=(k 3).trans h.c3;have z:=λo=>(q o).trans (h.fz o)
 clear k q g;have q:=h.lt;have o:=W.size;refine⟨oT,by go_simp,by go_simp,by go_simp,by go_simp,by go_simp,xj s w h.oE W h.bB oD,λg k=>Io s w h.oE W oD oD (h.aK g k),?_,xj s w h.oE W h.aq oD⟩;have:=fh p (a:=(C a 1 G)) oS r;simpa using this
def kc.am7(h:kc d a n j m b e i l)(s:∀k,k<F (X d)->f.heap[k]?=d.heap[k]?)(w:F (X d)<=F (X f))(W:f.grownBy c i.ownBlock){x}(p:Ow c (a+1) 3 1 r (Z m+1) ((m.map λx=>I J x.2)++[I J x.2])):kc (Sc c (C a 2 G) r) a n j (m++[x]) b e r l:=by
 have g:=Ex s w h.aq W h.lt;have k:∀o,Ce c (C a o G)=Ce d (C a o G):=λo=>j8 g
 have q:∀o,c.frozen? (C a o G)=d.frozen? (C a o G):=λo=>zQ g
 have t:=(k 0).trans h.c0;have u:=(k 1).trans h.c1;have v:=(k 2).trans h.c2;have y:=(k 3).trans h.c3;have z:=λo=>(q o).trans (h.fz o)
 clear k q g;have q:=h.lt;have o:=W.size;refine⟨oT,by go_simp,by go_simp,by go_simp,by go_simp,by go_simp,xj s w h.aq W h.bB oD,λg k=>Io s w h.aq W oD oD (h.aK g k),xj s w h.aq W h.oE oD,?_⟩;have:=fh p (a:=(C a 2 G)) oS r;simpa using this
def ij(nm:B8):P9->Nat->Int
 | [],_=>-1
 |x::r,k=>if x.1.toList==nm.toList then k else ij nm r (k+1)
def aL(l:P9)(nm:B8):Int:=ij nm l 0
def ahu{nm}(h:k<Z j):ij nm (j.drop k) k=if j[k].1.toList==nm.toList then(k:Int) else ij nm (j.drop (k+1)) (k+1):=by rw[dM h];rfl
def rZ{e}(n:Ow c a e 1 b h g)(l:0<h):∃f v,b=U (P (C f 0 G)) h v/\a<=f/\h<=v/\v<=maxLen/\∀k,k<h->Ce c (C f k G)=g[k]?:=by
 rcases n.2 with⟨_,_⟩|⟨f,v,_,rfl,i,_,d,w,_,_⟩
 .omega
 refine⟨f,v,rfl,i,d,w,λk j=>?_⟩;exact n.cellAt k O
def sP(w o u a v t y x b)(h:kC w o u a v t y x):Calls prog 135 #[Vp (P (C o 0 G)),Y b] w λe j=>e=Vr (I J (aL a b))/\j=w:=by
 obtain⟨_,_,_,_,_,_,q,p,j,r⟩:=h;obtain⟨_,_,rfl⟩:=aF j;have f:Z a<=maxLen:=by rcases j.2 with⟨_,_⟩|⟨g,d,_,_,_,_,h,n,_⟩<;>omega
 unfold maxLen at f;go_in
 go_wp2
 go_loop [5] (λi=>∃k:Nat,k<=Z a/\i=I J k/\ij b (a.drop k) k=aL a b) (λi=>Z a-(intOf i).toNat)
 exact⟨0,aI _,rfl,rfl⟩
 case round=>
  obtain⟨k,_,rfl,i⟩:=hrel;have c:=H i;clear i
  by_cases i:k<Z a
  .obtain⟨g,d,s,_,_,_,m⟩:=rZ j O;injection s with h n e
   subst h e;have h:=m k i;rw[gP,dr i]at h;simp only[ve]at h;have e:=ahu (nm:=b) i;have l:=H e;clear m e q p r
   cases e:a[k].1.toList==b.toList with
   |true=>
    go_wp2
    go_ret;exact⟨by rw[<-ag c,ag l,aD e];rfl,rfl⟩
   |false=>
    go_wp2
    go_round
    case rel=>exact⟨k+1,O,oN,by rw[<-ag c,ag l,aB (by rw[e];decide)]⟩
    case measure=>simp[intOf];omega
  go_wp2
  go_ret;exact⟨by rw[<-ag c,gE O];rfl,rfl⟩
def apu:(prog.info? 9).map (λi=>(i.zero,i.size,i.bytes))=P (P (Y ⟨#[]⟩),1,16):=oK
def Fi:(prog.info? 3).map (λi=>(i.zero,i.size,i.bytes))=P (P (I J 0),1,8):=oK
def jh(ps:P9)(nm:B8)(n:Nat):P9:=if aL ps nm<0 then ps++[(nm,n)] else ps
def jg(ps:P9)(nm:B8)(n:Nat):Bool:=if aL ps nm<0 then Bt else((ps.getD (aL ps nm).toNat (nm,0)).2:Int)==n
def Fl(a:B8):∀(l:P9)(k:Nat),0<=ij a l k->(k:Int)<=ij a l k/\ij a l k<k+Z l
 | [],k,h=>by simp[ij]at h
 |x::r,k,h=>by
  unfold ij at h⊢
  split
  .simp;omega
  rename_i l;rw[aB l]at h;have:=Fl a r (k+1) h;simp;omega
def mS{ps nm}(h:0<=aL ps nm):(aL ps nm).toNat<Z ps:=by have:=Fl nm ps 0 h;unfold aL at*;omega
def aiF(w o s b B A E D f a n c z)(i g:Nat)(h:kC w o s b B A E D)(l:0<=aL b f):Calls prog 188 #[Vp (P (C o 0 G)),Va #[Y f,U a n c,Vb z,I J i,I J g]] w λe u=>e=Vr (Vb (jg b f n))/\Below (F (X w)) w u:=by
 have u:=h;obtain⟨_,_,_,_,_,_,y,v,x,r⟩:=h;have d:=mS l;obtain⟨_,_,rfl,_,_,j,m⟩:=rZ r O;have h:=m _ d;rw[gP,dr d]at h;simp only[ve]at h;have q:jg b f n=((b[(aL b f).toNat].2:Int)==n):=by unfold jg;rw[aB O];simp[List.getD,dr d]
 have k:=DU w _ h;simp only at k;have t:=H q;have p:aL b f<Z b:=O
 clear q m y v x r;unfold maxLen at j;go_in;go_wp2_with fail;refine(sP _ o s b _ _ _ _ f (u.kept ((ak.refl [] _).alloc _) oS)).mono ?_;rintro e r⟨rfl,rfl⟩;go_wp2;go_quiet(fail)
 go_wp2
 go_ret;exact⟨by rw[ag t];rfl,below_drewN oA _⟩
def CR(W B u t)(a:W.heap[B]?=P (Vc #[u] t)):∀j x,([u]:V8)[j]?=P x->Ce W (((C B 0 G):Addr).add j)=P x:=
 World.news_of_block (cs:=#[u]) a
def aiE(w o N b V pv tv W f a n c z)(p i:Nat)(h:kC w o N b V pv tv W)(An:Z b<=1000)(xq:aL b f<0):Calls prog 188 #[Vp (P (C o 0 G)),Va #[Y f,U a n c,Vb z,I J p,I J i]] w λe S=>e=Vr (Vb Bt)/\∃q M,kC S o N (b++[(f,n)]) V q M W/\Below o w S:=by
 have S:=h;obtain⟨i0,hi,gB,dx,cB⟩:=info_parts apu;obtain⟨i3,hi3,Fg,CA,OB⟩:=info_parts Fi;obtain⟨L,c0,y,c2,c3,A,hr,R,r,Q⟩:=h;obtain⟨B,l,rfl⟩:=aF r;obtain⟨D,m,rfl⟩:=aF Q;go_in;go_wp2_with fail;refine(sP _ o N b _ _ _ _ f (S.kept ((ak.refl [] _).alloc _) oS)).mono ?_;rintro e w1⟨rfl,rfl⟩;have s1:Hid (((Al (Al w (Vc #[Y f,U a n c,Vb z,I J ↑p,I J ↑i] 243)) (Vc #[Y f] 9)).drew).ownsRow (o+1) 9 1 (U B (Z b) l) (Z b) (b.map λx=>Y x.1)):=(r.alloc _).alloc _
 have s2:Hid (∀j u,([Y f]:V8)[j]?=P u->((Al (Al w (Vc #[Y f,U a n c,Vb z,I J ↑p,I J ↑i] 243)) (Vc #[Y f] 9)).drew).cell? (((C (F (X w)+1) 0 G):Addr).add j)=P u):=CR _ _ _ 9 (by
  show((Al (Al w _) _).heap)[F (X w)+1]?=_
  have:=aG (Al w (Vc #[Y f,U a n c,Vb z,I J ↑p,I J ↑i] 243)) (Vc #[Y f] 9)
  simpa using this)
 have s3:Hid (∀u∈([Y f]:V8),u.oneCell'=Bt):=by intro u T;simp at T;subst T;rfl
 have s4:Hid (Z b+1<=maxLen):=by show _<=_;unfold maxLen;omega
 have s5:Hid ((Z b+1)*16<=140737488355328):=by show _<=_;omega
 have s6:Hid (o+1<=((Al (Al w (Vc #[Y f,U a n c,Vb z,I J ↑p,I J ↑i] 243)) (Vc #[Y f] 9)).drew).heap.size):=by show _<=_;simp;omega
 have s7:Hid (∀d:W8,((Al (Al w (Vc #[Y f,U a n c,Vb z,I J ↑p,I J ↑i] 243)) (Vc #[Y f] 9)).drew).grownBy d (U B (Z b) l).ownBlock->Ce d (C o 1 G)=P (U B (Z b) l)/\d.frozen? (C o 1 G)=Bf):=λd s=>by
  have h:=((((ak.refl _ w).alloc _).alloc _).drew).grown s (λk e=>.inr (show k∈(U B (Z b) l).ownBlock.toList by simp[e]));have g:o∉(U B (Z b) l).ownBlock.toList:=λhm=>by
   have:=(r.lt o (oU hm)).1;omega
  exact⟨(h.cell L g).trans y,(h.frozen L g).trans (A 1)⟩
 have s8:Hid (∀(d:W8)(g h:Nat),((Al (Al w (Vc #[Y f,U a n c,Vb z,I J ↑p,I J ↑i] 243)) (Vc #[Y f] 9)).drew).grownBy d (U B (Z b) l).ownBlock->Ow d (o+1) 9 1 (U (P (C g 0 G)) (Z b+1) h) (Z b+1) ((b.map λx=>Y x.1)++[Y f])->∃q,kc (Sc d (C o 1 G) (U (P (C g 0 G)) (Z b+1) h)) o N (b++[(f,n)]) b V q (U D (Z b) m) W/\Below o w (Sc d (C o 1 G) (U (P (C g 0 G)) (Z b+1) h))/\Ce (Sc d (C o 1 G) (U (P (C g 0 G)) (Z b+1) h)) (C (F (X w)) 1 G)=P (U a n c)/\(F (X w))<(Sc d (C o 1 G) (U (P (C g 0 G)) (Z b+1) h)).heap.size):=λd g h s v=>by
  have K:∀k,k<F (X w)->((Al (Al w (Vc #[Y f,U a n c,Vb z,I J ↑p,I J ↑i] 243)) (Vc #[Y f] 9)).drew).heap[k]?=w.heap[k]?:=λk hk=>(((ak.refl [] w).alloc _).alloc _).block k hk oS
  have E:F (X w)<=((Al (Al w (Vc #[Y f,U a n c,Vb z,I J ↑p,I J ↑i] 243)) (Vc #[Y f] 9)).drew).heap.size:=(((ak.refl [] w).alloc _).alloc _).size;have t:=s.size;refine⟨_,S.am5 (x:=(f,n)) K E s v,MS K E rfl rfl rfl r s L,?_,?_⟩
  .rw[j8 (w:=d) (cx d (C o 1 G) _ (F (X w)) oT)];rw[s.cell_far (C (F (X w)) 1 G) oT (λe=>by have:=(r.lt (F (X w)) e.symm).2;omega)]
   show Ce (Al (Al w _) _) _=_
   rw[World.cell?_alloc_past _ _ _ oS,World.cell?_alloc_at _ _ _ _ rfl];rfl
  simp at t⊢;omega
 clear r Q hr R;go_upto_region 3 with fail
 go_cut [] (λwc=>∃q,kc wc o N (b++[(f,n)]) b V q (U D (Z b) m) W/\Below o w wc/\Ce wc (C (F (X w)) 1 G)=P (U a n c)/\(F (X w))<F (X wc))
 case first=>
  go_region_law(refine step_append_lies _ rfl (.tmp 16) (.tmp 19) 33 rfl (o+1) 9 i0 (Y ⟨#[]⟩) 1 16 underlying33 hi gB dx cB rfl oD (U B (Z b) l) (Z b) (b.map λx=>Y x.1) (by simp[Act.eval]) (ag s1) (C (F (X w)+1) 0 G) 1 1 [Y f] (by simp[Act.eval]) rfl (ag s2) (ag s3) oD (ag s4) (ag s5) (ag s6) _ rfl ?_;intro g h d r t Q R;obtain⟨y1,y2⟩:=ag s7 d t)
  all_goals
   go_wp2;go_meet
   case rel=>exact ag s8 d g h t r
 case rest=>
  obtain⟨q,hm,kV,_,_⟩:=hcut;clear s1 s2 s3 s4 s5 s6 s7 s8 c0 y c2 c3 A S;have S:=hm;obtain⟨A,_,_,d2,_,dfz,hr2,he2,Ak,y⟩:=hm;have s1:Hid ((((Al wc (Vc #[I J n] 3)).drew).ownsRow (o+1) 3 1 (U D (Z b) m) (Z b) (b.map λx=>I J x.2))):=y.alloc _;have s2:Hid (∀j u,([I J n]:V8)[j]?=P u->((Al wc (Vc #[I J n] 3)).drew).cell? (((C (F (X wc)) 0 G):Addr).add j)=P u):=CR _ _ _ 3 (aG wc _);have s3:Hid (∀u∈([I J n]:V8),u.oneCell'=Bt):=by intro u T;simp at T;subst T;rfl
  have s4:Hid (Z b+1<=maxLen):=by show _<=_;unfold maxLen;omega
  have s5:Hid ((Z b+1)*8<=140737488355328):=by show _<=_;omega
  have s6:Hid (o+1<=((Al wc (Vc #[I J n] 3)).drew).heap.size):=by show _<=_;simp;omega
  have K:∀k,k<F (X wc)->((Al wc (Vc #[I J n] 3)).drew).heap[k]?=wc.heap[k]?:=λk hk=>((ak.refl [] wc).alloc _).block k hk oS
  have E:F (X wc)<=((Al wc (Vc #[I J n] 3)).drew).heap.size:=((ak.refl [] wc).alloc _).size;have s7:Hid (∀d:W8,((Al wc (Vc #[I J n] 3)).drew).grownBy d (U D (Z b) m).ownBlock->Ce d (C o 2 G)=P (U D (Z b) m)/\d.frozen? (C o 2 G)=Bf):=λd s=>
   have k:=Ex K E y s A
   ⟨(j8 k).trans d2,(zQ k).trans (dfz 2)⟩
  have s8:Hid (∀(d:W8)(g h:Nat),((Al wc (Vc #[I J n] 3)).drew).grownBy d (U D (Z b) m).ownBlock->Ow d (o+1) 3 1 (U (P (C g 0 G)) (Z b+1) h) (Z b+1) ((b.map λx=>I J x.2)++[I J n])->∃q M,kC (Sc d (C o 2 G) (U (P (C g 0 G)) (Z b+1) h)) o N (b++[(f,n)]) V q M W/\Below o w (Sc d (C o 2 G) (U (P (C g 0 G)) (Z b+1) h))):=λd g h s v=>
   ⟨_,_,S.am7 (x:=(f,n)) K E s v,kV.trans (MS K E rfl rfl rfl y s A)⟩
  clear K E Ak y hr2 he2 S;go_wp2
  go_region_law(refine step_append_lies _ rfl (.tmp 27) (.tmp 31) 24 rfl (o+1) 3 i3 (I J 0) 1 8 underlying24 hi3 Fg CA OB rfl oD (U D (Z b) m) (Z b) (b.map λx=>I J x.2) (by simp[Act.eval]) (ag s1) (C (F (X wc)) 0 G) 1 1 [I J n] (by simp[Act.eval]) rfl (ag s2) (ag s3) oD (ag s4) (ag s5) (ag s6) _ rfl ?_;intro g h d r t Q R;obtain⟨y1,y2⟩:=ag s7 d t)
  all_goals
   go_wp2;go_ret;exact⟨rfl,ag s8 d g h t r⟩
structure fX(w:W8)(b:Nat)(s:B8)(pos bn:Nat)(mv:V9):Prop where
 lt:b<F (X w)
 c0:Ce w (C b 0 G)=P (Y s)
 c1:Ce w (C b 1 G)=P (I J (aE s pos).1)
 c2:Ce w (C b 2 G)=P (I J (aE s pos).2.1)
 c3:Ce w (C b 3 G)=P (I J (aE s pos).2.2)
 c4:Ce w (C b 4 G)=P (I J bn)
 c5:Ce w (C b 5 G)=P mv
 fz:∀o,w.frozen? (C b o G)=Bf
variable {b:B8}{c d e:Nat}{f:V9}{a g:W8}
def fX.kept{B}(h:fX a e b d c f)(k:ak B a g)(w:e∉B):fX g e b d c f:=
 ⟨iz h.lt k.size,(k.cell h.lt w).trans h.c0,(k.cell h.lt w).trans h.c1,(k.cell h.lt w).trans h.c2,(k.cell h.lt w).trans h.c3,(k.cell h.lt w).trans h.c4,(k.cell h.lt w).trans h.c5,λo=>(k.frozen h.lt w).trans (h.fz o)⟩
def kv(s i)(b:i<=s.size):(aE s i).2.1<=(aE s i).2.2/\(aE s i).2.2<=s.size:=by have c:=uR dU s i b;have a:=YI (s.extract (skip dU s i) s.size);rw[yI]at a;unfold aE;exact⟨oS,by simp only;omega⟩
def bR(s:B8)(pos:Nat)(k:Int):Nat:=if(aE s pos).1==k then(aE s pos).2.2 else pos
def hU(s:B8)(pos:Nat):B8:=s.extract (aE s pos).2.1 (aE s pos).2.2
def QD(s:B8)(i)(a:i<=s.size)(b:s.size<=maxLen)(w):Calls prog 73 #[Y s,I J i] w λe c=>e=Vr (Va #[I J (aE s i).1,I J (aE s i).2.1,I J (aE s i).2.2])/\Below (F (X w)) w c:=alX s i a b w
def akW{pos'}(h:fX a c b d e f):fX (Sc (Sc (Sc a (C c 1 G) (I J (aE b pos').1)) (C c 2 G) (I J (aE b pos').2.1)) (C c 3 G) (I J (aE b pos').2.2)) c b pos' e f:=by
 obtain⟨s,_,_,_,_,_,_,_⟩:=h;refine⟨by simpa using s,?_,?_,?_,?_,?_,?_,?_⟩
 all_goals go_simp
def Below.B4(h:Below (F (X g.drew)) g.drew a):Below (F (X g)) g a:=⟨h.os,h.tape,h.output,h.size,h.block⟩
def nS(s a f m k b w)(h:fX w b s a f m)(d:a<=s.size)(n:s.size<=maxLen):Calls prog 116 #[Vp (P (C b 0 G)),I J k] w λe l=>e=Vr (Vb ((aE s a).1==k))/\ak [b] w l/\fX l b s (bR s a k) f m:=by
 have l:=h;obtain⟨_,_,_,_,_,_,_,_⟩:=h
 cases h:(aE s a).1==k with
 |false=>
  have g:((aE s a).1 != k)=true:=by simp[bne,h]
  have c:bR s a k=a:=by unfold bR;rw[aB (by rw[h];decide)]
  rw[c];clear h c;go_in;go_wp2;go_ret;exact⟨rfl,ak.refl _ _,l⟩
 |true=>
  have g:((aE s a).1 != k)=false:=by simp[bne,h]
  have c:bR s a k=(aE s a).2.2:=by unfold bR;rw[aD h]
  rw[c];have i:=(kv s a d).2;clear h c;have j:=H (λ(c:W8)(h:Below (F (X w)) w c)=>l.kept ((ak.refl [] w).bC h) oS);go_in;go_wp2
  go_region_with(go_at_call 73;refine(QD s (aE s a).2.2 i n _).mono ?_;rintro e c⟨rfl,h⟩;obtain⟨_,_,_,_,_,_,_,_⟩:=ag j c (Below.B4 h))
  all_goals
   go_wp2;go_ret;exact⟨rfl,((((ak.refl [b] w).bC (Below.B4 h)).setCell oS _).setCell oS _).setCell oS _,akW (pos':=(aE s a).2.2) (j c (Below.B4 h))⟩
def aez(s)(b:s.size<=281474976710656)(w):Calls prog 198 #[Y s] w λe a=>e=Vr (Y s)/\Below (F (X w)) w a:=by go_in;go_wp2_with fail;refine(stringslite_Clone s _ b).mono ?_;rintro e c⟨rfl,a⟩;go_wp2;go_ret;exact⟨rfl,a⟩
def JR(s a):(hU s a).size<=s.size:=by unfold hU;simp[ByteArray.size_extract];omega
def AU(s a d k b w)(h:fX w b s a d k)(c:a<=s.size)(m:s.size<=2000000):Calls prog 143 #[Vp (P (C b 0 G))] w λe i=>e=Vr (Y (hU s a))/\Below (F (X w)) w i:=by
 have l:=h;obtain⟨_,_,_,_,_,_,_,_⟩:=h;obtain⟨_,_⟩:=kv s a c;have i:((aE s a).2.1:Int)<=((aE s a).2.2:Int):=O
 have j:((aE s a).2.2:Int)<=(s.size:Int):=O
 have h:=JR s a;unfold hU at h⊢;have g:=H (λf=>aez (s.extract (aE s a).2.1 (aE s a).2.2) O f);clear h;go_in;go_wp2
 go_region_with(go_at_call 198;refine(g _).mono ?_;rintro e f⟨rfl,h⟩)
 all_goals
  go_wp2;go_ret;exact⟨rfl,Below.B4 h⟩
def nX(jv:Bool)(text:B8):V9:=.iface (if jv then 130 else 193) (Y text)
def an9(s a c i b w)(h:fX w b s a c i)(d:a<=s.size)(o:s.size<=2000000)(f:(aE s a).1=2):Calls prog 199 #[Vp (P (C b 0 G))] w λe k=>e=Vr (Vt #[nX Bf (hU s a),Vb Bt])/\ak [b] w k/\fX k b s (aE s a).2.2 c i:=by
 have k:s.size<=maxLen:=oM
 have j:((aE s a).1==2)=true:=by rw[f];rfl
 have g:bR s a 2=(aE s a).2.2:=by unfold bR;rw[aD j]
 have m:=H g;clear f g;go_in;go_wp2_with fail;refine(AU s a c i b _ h d o).mono ?_;rintro e p⟨rfl,f⟩;have n:=h.kept ((ak.refl [] w).bC f) oS;go_wp2_with fail;refine(nS s a c i 2 b _ n d k).mono ?_;rintro e q⟨rfl,g,l⟩;rw[ag m]at l;go_wp2
 go_ret2
 exact⟨rfl,((ak.refl [b] w).bC f).trans g,l⟩
def anc(s a d k b w)(h:fX w b s a d k)(c:a<=s.size)(t:s.size<=2000000)(g:(aE s a).1=3):Calls prog 199 #[Vp (P (C b 0 G))] w λe j=>e=Vr (Vt #[nX Bt (hU s a),Vb Bt])/\ak [b] w j/\fX j b s (aE s a).2.2 d k:=by
 have j:s.size<=maxLen:=oM
 have m:((aE s a).1==2)=false:=by rw[g];rfl
 have n:((aE s a).1==3)=true:=by rw[g];rfl
 have f:bR s a 2=a:=by unfold bR;rw[aB (by rw[m];decide)]
 have o:bR s a 3=(aE s a).2.2:=by unfold bR;rw[aD n]
 have q:=H o;have l:=H f;clear g o f;go_in;go_wp2_with fail;refine(AU s a d k b _ h c t).mono ?_;rintro e u⟨rfl,f⟩;have r:=h.kept ((ak.refl [] w).bC f) oS;go_wp2_with fail;refine(nS s a d k 2 b _ r c j).mono ?_;rintro e v⟨rfl,g,o⟩;rw[ag l]at o;go_wp2_with fail;refine(nS s a d k 3 b _ o c j).mono ?_;rintro e x⟨rfl,i,p⟩;rw[ag q]at p;go_wp2
 go_ret2
 exact⟨rfl,(((ak.refl [b] w).bC f).trans g).trans i,p⟩
def ana(s a d k b w)(h:fX w b s a d k)(c:a<=s.size)(t:s.size<=2000000)(f:¬(aE s a).1=2)(g:¬(aE s a).1=3):Calls prog 199 #[Vp (P (C b 0 G))] w λe j=>e=Vr (Vt #[.nilIface,Vb Bf])/\ak [b] w j/\fX j b s a d k:=by
 have j:s.size<=maxLen:=oM
 have m:((aE s a).1==2)=false:=by simp[f]
 have n:((aE s a).1==3)=false:=by simp[g]
 have i:bR s a 2=a:=by unfold bR;rw[aB (by rw[m];decide)]
 have o:bR s a 3=a:=by unfold bR;rw[aB (by rw[n];decide)]
 have q:=H o;have l:=H i;clear f g o i;go_in;go_wp2_with fail;refine(AU s a d k b _ h c t).mono ?_;rintro e u⟨rfl,f⟩;have r:=h.kept ((ak.refl [] w).bC f) oS;go_wp2_with fail;refine(nS s a d k 2 b _ r c j).mono ?_;rintro e v⟨rfl,g,o⟩;rw[ag l]at o;go_wp2_with fail;refine(nS s a d k 3 b _ o c j).mono ?_;rintro e x⟨rfl,i,p⟩;rw[ag q]at p;go_wp2
 go_ret2
 exact⟨rfl,(((ak.refl [b] w).bC f).trans g).trans i,p⟩
end Go.Proofs.YtldkpahaocjdpaaGreat
