/-
  Plain, no walk: what a token of a text is, as the document's section Words says it: blanks are passed by; a row of a..z and 0..9, a row of A..Z, the signs ( ) , . :- ; all else is none.
-/
import Derived.Test.YtldkpahaocjdpaaGreatE00
import Derived.Below
import Derived.Test.YtldkpahaocjdpaaGreatProg
import Derived.WalkKit
import Derived.WalkSpells
import Derived.WalkLawsBesides
import Derived.Deep.QuietTactic
import Derived.BigQuiet
import Derived.Lib.Strings
import Derived.Lib.Builder
import Derived.Lib.AppendStr
import Derived.Lib.UnsafeStr
import Derived.Laws.Externs
import Derived.OwnWalk
import Derived.Maps.AppendAt
import Derived.Lib.Hide
set_option maxHeartbeats 16000000
set_option maxRecDepth 1000000
namespace Go.Proofs.YtldkpahaocjdpaaGreat
section
def xL (c:Int):Bool:=(decide (97<=c)&&decide (c<=122))||(decide (48<=c)&&decide (c<=57))
def yF (c:Int):Bool:=decide (65<=c)&&decide (c<=90)
def zO (c:Int):Bool:=decide (c=32)||decide (c=10)
def skip (p:Int->Bool)(s:B8)(i:Nat):Nat:=
 if h:i<s.size then (if p s[i].toNat then skip p s (i+1) else i) else i
termination_by s.size-i
theorem xY (p:Int->Bool)(s:B8)(i:Nat)(h:i<s.size)(hp:p s[i].toNat=true):skip p s i=skip p s (i+1):=by
 rw[skip];simp[h,hp]
theorem xZ (p:Int->Bool)(s:B8)(i:Nat)(h:i<s.size)(hp:p s[i].toNat=false):skip p s i=i:=by
 rw[skip];simp[h,hp]
theorem jJ (p:Int->Bool)(s:B8)(i:Nat)(h:¬ i<s.size):skip p s i=i:=by
 rw[skip];simp[h]
theorem zp5 (p:Int->Bool)(s:B8)(i:Nat):i<=skip p s i:=by
 fun_induction skip p s i <;> omega
theorem zcz (p:Int->Bool)(s:B8)(i:Nat)(h:i<=s.size):skip p s i<=s.size:=by
 fun_induction skip p s i <;> omega
def zq6 (s:B8)(i:Nat):Nat:=if h:i<s.size then s[i].toNat else 256
variable {i:Nat} {s:B8}
theorem zq7 (h:i<s.size):zq6 s i=s[i].toNat:=by simp[zq6,h]
structure Tk where
 kind:Int
 text:B8
 at_:Nat
 to:Nat
def xA (s:B8)(i:Nat):Nat:=
 if h:i<s.size then
  (if (s[i].toNat:Int)=58 then (if h2:i+1<s.size then (if (s[i+1].toNat:Int)=45 then 2 else 0) else 0)
  else if (s[i].toNat:Int)=40\/(s[i].toNat:Int)=41\/(s[i].toNat:Int)=44\/(s[i].toNat:Int)=46 then 1 else 0)
 else 0
def zhq (s:B8)(i:Nat):Tk:=
 if s.size<=i then ⟨46,⟨#[]⟩,s.size,i⟩
 else if i<skip xL s i then
  (if (s.extract i (skip xL s i)).toList=[110,111,116] then ⟨119,s.extract i (skip xL s i),i,skip xL s i⟩
  else if skip xL s i-i<=8 then ⟨110,s.extract i (skip xL s i),i,skip xL s i⟩
  else ⟨33,⟨#[]⟩,i,skip xL s i⟩)
 else if i<skip yF s i then
  (if skip yF s i-i<=8 then ⟨118,s.extract i (skip yF s i),i,skip yF s i⟩
  else ⟨33,⟨#[]⟩,i,skip yF s i⟩)
 else if xA s i=0 then ⟨33,⟨#[]⟩,i,i+1⟩
 else if xA s i=2 then ⟨115,⟨#[58,45]⟩,i,i+2⟩
 else ⟨115,s.extract i (i+1),i,i+1⟩
def tok (s:B8)(i:Nat):Tk:=zhq s (skip zO s i)
variable {k:Nat}
theorem yci (h:skip zO s i=k)(hk:s.size<=k):tok s i=⟨46,⟨#[]⟩,s.size,k⟩:=by
 unfold tok;rw[h];simp[zhq,hk]
variable {m:Nat}
theorem z5j (h:skip zO s i=k)(hk:k<s.size)(hm:skip xL s k=m)(nF:k<m)(ht:((s.extract k m).toList==[110,111,116])=true):
  tok s i=⟨119,s.extract k m,k,m⟩:=by
 have Dm:(s.extract k m).toList=[110,111,116]:=eq_of_beq ht;unfold tok;rw[h,zhq,if_neg (by omega),hm,if_pos nF,if_pos Dm]
theorem zxh (h:skip zO s i=k)(hk:k<s.size)(hm:skip xL s k=m)(nF:k<m)(ht:((s.extract k m).toList==[110,111,116])=false)(h8:((m-k:Nat):Int)<=8):
  tok s i=⟨110,s.extract k m,k,m⟩:=by
 have Dm:¬ (s.extract k m).toList=[110,111,116]:=λ e=>by rw[e] at ht;simp at ht
 unfold tok;rw[h,zhq,if_neg (by omega),hm,if_pos nF,if_neg Dm,if_pos (by omega)]
theorem zxg (h:skip zO s i=k)(hk:k<s.size)(hm:skip xL s k=m)(nF:k<m)(ht:((s.extract k m).toList==[110,111,116])=false)(h8:8<((m-k:Nat):Int)):
  tok s i=⟨33,⟨#[]⟩,k,m⟩:=by
 have Dm:¬ (s.extract k m).toList=[110,111,116]:=λ e=>by rw[e] at ht;simp at ht
 unfold tok;rw[h,zhq,if_neg (by omega),hm,if_pos nF,if_neg Dm,if_neg (by omega)]
theorem z5k (h:skip zO s i=k)(hk:k<s.size)(hl:skip xL s k=k)(hm:skip yF s k=m)(nF:k<m)(h8:(m:Int)-k<=8):
  tok s i=⟨118,s.extract k m,k,m⟩:=by
 unfold tok;rw[h,zhq,if_neg (by omega),if_neg (by omega),hm,if_pos nF,if_pos (by omega)]
theorem zm4 (h:skip zO s i=k)(hk:k<s.size)(hl:skip xL s k=k)(hm:skip yF s k=m)(nF:k<m)(h8:8<(m:Int)-k):
  tok s i=⟨33,⟨#[]⟩,k,m⟩:=by
 unfold tok;rw[h,zhq,if_neg (by omega),if_neg (by omega),hm,if_pos nF,if_neg (by omega)]
theorem z82 (h:skip zO s i=k)(hk:k<s.size)(hl:skip xL s k=k)(hm:skip yF s k=k)(hn:xA s k=2):
  tok s i=⟨115,⟨#[58,45]⟩,k,k+2⟩:=by
 unfold tok;rw[h,zhq,if_neg (by omega),if_neg (by omega),if_neg (by omega),hn,if_neg (by omega),if_pos rfl]
theorem zko (h:skip zO s i=k)(hk:k<s.size)(hl:skip xL s k=k)(hm:skip yF s k=k)(hn:xA s k=1):
  tok s i=⟨115,s.extract k (k+1),k,k+1⟩:=by
 unfold tok;rw[h,zhq,if_neg (by omega),if_neg (by omega),if_neg (by omega),hn,if_neg (by omega),if_neg (by omega)]
theorem zqa (h:skip zO s i=k)(hk:k<s.size)(hl:skip xL s k=k)(hm:skip yF s k=k)(hn:xA s k=0):
  tok s i=⟨33,⟨#[]⟩,k,k+1⟩:=by
 unfold tok;rw[h,zhq,if_neg (by omega),if_neg (by omega),if_neg (by omega),if_pos hn]
theorem zsy (hk:k<s.size)(h1:(s[k].toNat:Int)=58)(h2:k+1<s.size)(h3:(s[k+1].toNat:Int)=45):xA s k=2:=by
 simp[xA,hk,h1,h2,h3]
theorem zij (hk:k<s.size)(h1:(s[k].toNat:Int)=58)(h2:∀ h:k+1<s.size,¬ (s[k+1].toNat:Int)=45):xA s k=0:=by
 by_cases h:k+1<s.size
 ·simp[xA,hk,h1,h,h2 h]
 ·simp[xA,hk,h1,h]
theorem zex (hk:k<s.size)(h1:¬ (s[k].toNat:Int)=58)(h2:(s[k].toNat:Int)=40\/(s[k].toNat:Int)=41\/(s[k].toNat:Int)=44\/(s[k].toNat:Int)=46):xA s k=1:=by
 rw[xA,dif_pos hk,if_neg h1,if_pos h2]
theorem zzp (hk:k<s.size)(h1:¬ (s[k].toNat:Int)=58)(h2:¬ ((s[k].toNat:Int)=40\/(s[k].toNat:Int)=41\/(s[k].toNat:Int)=44\/(s[k].toNat:Int)=46)):xA s k=0:=by
 rw[xA,dif_pos hk,if_neg h1,if_neg h2]
end
section
open Go.RowKit
variable {p:Prop}
theorem zC (h:p):Hid p:=h
theorem zA (h:Hid p):p:=h
theorem za3 (c:Int)(w:W8):
  Calls Tryz.prog 182 #[.int .u8 c] w λ e w'=>e=.returned (.bool (xL c))/\w'=w:=by
 go_enter Tryz.func182,Tryz.ntmps182
 go_wp2
 all_goals go_ret
 all_goals exact⟨by simp[xL, *];try omega,rfl⟩
theorem qU (c:Int)(w:W8):
  Calls Tryz.prog 183 #[.int .u8 c] w λ e w'=>e=.returned (.bool (yF c))/\w'=w:=by
 go_enter Tryz.func183,Tryz.ntmps183
 go_wp2
 all_goals go_ret
 all_goals exact⟨by simp[yF, *];try omega,rfl⟩
theorem more {x:Int}{j:Nat}{l:List Int}{d:Int}(h:∀ c,c∈l.take j->x≠c)(hd:¬ x=d){j':Nat}(hj:j'=j+1)(hl:l[j]?=some d):∀ c,c∈l.take j'->x≠c:=by
 subst hj;intro c hc;rw[List.take_add_one,hl] at hc;simp at hc;rcases hc with hc | hc
 ·exact h c hc
 ·subst hc;exact hd
def vH (t:Tk):Value:=.agg #[.int .u8 t.kind,.string t.text,.int .i64 t.at_]
end
section
open Go.RowKit
theorem zbl (c:Int)(w:W8):
  Calls Tryz.prog 170 #[.int .u8 c] w λ e w'=>e=.returned (.bool (xL c))/\w'=w:=by
 go_enter Tryz.func170,Tryz.ntmps170
 go_wp2
 all_goals go_ret
 all_goals exact⟨by simp[xL, *];try omega,rfl⟩
theorem za2 (c:Int)(w:W8):
  Calls Tryz.prog 172 #[.int .u8 c] w λ e w'=>e=.returned (.bool (yF c))/\w'=w:=by
 go_enter Tryz.func172,Tryz.ntmps172
 go_wp2
 all_goals go_ret
 all_goals exact⟨by simp[yF, *];try omega,rfl⟩
theorem zhc (c:Int)(w:W8):
  Calls Tryz.prog 114 #[.int .u8 c] w λ e w'=>e=.returned (.bool (zO c))/\w'=w:=by
 go_enter Tryz.func114,Tryz.ntmps114
 go_wp2
 all_goals go_ret
 ·exact⟨by simp[zO, *],rfl⟩
 ·exact⟨by rename_i h;show Ending.returned (Value.bool (c==32||c==10))=_;congr 2,rfl⟩
theorem zfq (s:B8)(hs:s.size<=maxLen)(w:W8):
  Calls Tryz.prog 113 #[.string s,.func (.func 170) #[] #[]] w λ e w'=>e=.returned (.int .i64 (skip xL s 0))/\w'=w:=by
 unfold maxLen at hs;go_enter Tryz.func113,Tryz.ntmps113
 go_wp2
 go_loop [5] (λ t=>∃ m:Nat,m<=s.size/\t=.int .i64 m/\skip xL s m=skip xL s 0) (λ t=>s.size-(intOf t).toNat)
 exact⟨0,Nat.zero_le _,rfl,rfl⟩
 case round=>
  obtain⟨m,hm,rfl,bM⟩:=hrel;have HM:Hid (skip xL s m=skip xL s 0):=bM;clear bM
  by_cases bh:m<s.size
  ·cases bc:xL s[m].toNat with
   | true=>
    have ot:Hid (skip xL s (m+1)=skip xL s 0):=(xY xL s m bh bc).symm.trans HM.out;go_wp2_with (go_at_call 170;refine (zbl _ _).mono ?_;rintro e w' ⟨rfl,rfl⟩)
    go_round
    case rel=>exact⟨m+1,by omega,by go_num,ot.out⟩
    case measure=>simp[intOf];omega
   | false=>
    have HN:=zC (HM.out.symm.trans (xZ xL s m bh bc));go_wp2_with (go_at_call 170;refine (zbl _ _).mono ?_;rintro e w' ⟨rfl,rfl⟩);go_ret;exact⟨by rw[zA HN];rfl,rfl⟩
  ·have HN:=zC (HM.out.symm.trans (jJ xL s m bh));go_wp2_with (go_at_call 170;refine (zbl _ _).mono ?_;rintro e w' ⟨rfl,rfl⟩);go_ret;exact⟨by rw[zA HN];rfl,rfl⟩
theorem zgx (s:B8)(hs:s.size<=maxLen)(w:W8):
  Calls Tryz.prog 113 #[.string s,.func (.func 172) #[] #[]] w λ e w'=>e=.returned (.int .i64 (skip yF s 0))/\w'=w:=by
 unfold maxLen at hs;go_enter Tryz.func113,Tryz.ntmps113
 go_wp2
 go_loop [5] (λ t=>∃ m:Nat,m<=s.size/\t=.int .i64 m/\skip yF s m=skip yF s 0) (λ t=>s.size-(intOf t).toNat)
 exact⟨0,Nat.zero_le _,rfl,rfl⟩
 case round=>
  obtain⟨m,hm,rfl,bM⟩:=hrel;have HM:Hid (skip yF s m=skip yF s 0):=bM;clear bM
  by_cases bh:m<s.size
  ·cases bc:yF s[m].toNat with
   | true=>
    have ot:Hid (skip yF s (m+1)=skip yF s 0):=(xY yF s m bh bc).symm.trans HM.out;go_wp2_with (go_at_call 172;refine (za2 _ _).mono ?_;rintro e w' ⟨rfl,rfl⟩)
    go_round
    case rel=>exact⟨m+1,by omega,by go_num,ot.out⟩
    case measure=>simp[intOf];omega
   | false=>
    have HN:=zC (HM.out.symm.trans (xZ yF s m bh bc));go_wp2_with (go_at_call 172;refine (za2 _ _).mono ?_;rintro e w' ⟨rfl,rfl⟩);go_ret;exact⟨by rw[zA HN];rfl,rfl⟩
  ·have HN:=zC (HM.out.symm.trans (jJ yF s m bh));go_wp2_with (go_at_call 172;refine (za2 _ _).mono ?_;rintro e w' ⟨rfl,rfl⟩);go_ret;exact⟨by rw[zA HN];rfl,rfl⟩
theorem zso (s:B8)(hs:s.size<=maxLen)(w:W8):
  Calls Tryz.prog 113 #[.string s,.func (.func 114) #[] #[]] w λ e w'=>e=.returned (.int .i64 (skip zO s 0))/\w'=w:=by
 unfold maxLen at hs;go_enter Tryz.func113,Tryz.ntmps113
 go_wp2
 go_loop [5] (λ t=>∃ m:Nat,m<=s.size/\t=.int .i64 m/\skip zO s m=skip zO s 0) (λ t=>s.size-(intOf t).toNat)
 exact⟨0,Nat.zero_le _,rfl,rfl⟩
 case round=>
  obtain⟨m,hm,rfl,bM⟩:=hrel;have HM:Hid (skip zO s m=skip zO s 0):=bM;clear bM
  by_cases bh:m<s.size
  ·cases bc:zO s[m].toNat with
   | true=>
    have ot:Hid (skip zO s (m+1)=skip zO s 0):=(xY zO s m bh bc).symm.trans HM.out;go_wp2_with (go_at_call 114;refine (zhc _ _).mono ?_;rintro e w' ⟨rfl,rfl⟩)
    go_round
    case rel=>exact⟨m+1,by omega,by go_num,ot.out⟩
    case measure=>simp[intOf];omega
   | false=>
    have HN:=zC (HM.out.symm.trans (xZ zO s m bh bc));go_wp2_with (go_at_call 114;refine (zhc _ _).mono ?_;rintro e w' ⟨rfl,rfl⟩);go_ret;exact⟨by rw[zA HN];rfl,rfl⟩
  ·have HN:=zC (HM.out.symm.trans (jJ zO s m bh));go_wp2_with (go_at_call 114;refine (zhc _ _).mono ?_;rintro e w' ⟨rfl,rfl⟩);go_ret;exact⟨by rw[zA HN];rfl,rfl⟩
end
section
theorem zda (s:B8)(a:Nat):(s.extract a s.size).size=s.size-a:=by
 simp[ByteArray.size_extract]
theorem zt5 (s:B8)(a j:Nat)(h:a+j<s.size)(h':j<(s.extract a s.size).size):(s.extract a s.size)[j]=s[a+j]:=by
 simp[ByteArray.getElem_extract]
theorem z8p (p:Int->Bool)(s:B8)(a:Nat)(ha:a<=s.size):∀ (d j:Nat),s.size-(a+j)=d->a+j<=s.size->a+skip p (s.extract a s.size) j=skip p s (a+j):=by
 intro d
 induction d with
 | zero=>
  intro j hd hj;rw[jJ p s (a+j) (by omega),jJ p _ j (by rw[zda s a];omega)]
 | succ d ih=>
  intro j hd hj;have h1:a+j<s.size:=by omega
  have h2:j<(s.extract a s.size).size:=by rw[zda s a];omega
  cases hp:p s[a+j].toNat with
  | true=>
   rw[xY p s (a+j) h1 hp,xY p _ j h2 (by rw[zt5 s a j h1 h2];exact hp)];have:=ih (j+1) (by omega) (by omega);rw[this,Nat.add_assoc]
  | false=>
   rw[xZ p s (a+j) h1 hp,xZ p _ j h2 (by rw[zt5 s a j h1 h2];exact hp)]
theorem zmu (p:Int->Bool)(s:B8)(a:Nat)(ha:a<=s.size):a+skip p (s.extract a s.size) 0=skip p s a:=
 z8p p s a ha _ 0 rfl (by omega)
def zho (r:B8):Int × Nat:=
 if 1<=r.size/\(r.extract 0 1).toList=[40] then (5,1)
 else if 1<=r.size/\(r.extract 0 1).toList=[41] then (6,1)
 else if 1<=r.size/\(r.extract 0 1).toList=[44] then (7,1)
 else if 1<=r.size/\(r.extract 0 1).toList=[46] then (8,1)
 else if 2<=r.size/\(r.extract 0 2).toList=[58,45] then (9,2)
 else (1,1)
def zj6 (r:B8):Int × Nat:=if 8<skip xL r 0 then (1,skip xL r 0) else if (r.extract 0 (skip xL r 0)).toList=[110,111,116] then (4,skip xL r 0) else (2,skip xL r 0)
def z56 (r:B8):Int × Nat:=if 8<skip yF r 0 then (1,skip yF r 0) else (3,skip yF r 0)
def oi (r:B8):Int × Nat:=
 if h:0<r.size then (if xL r[0].toNat then zj6 r else if yF r[0].toNat then z56 r else zho r) else (0,0)
def zF (s:B8)(i:Nat):Int × Nat × Nat:=((oi (s.extract (skip zO s i) s.size)).1,skip zO s i,skip zO s i+(oi (s.extract (skip zO s i) s.size)).2)
end
section
open Go.RowKit
theorem z40:(Tryz.prog.info? 155).map (·.size)=some 2:=by kernel_rfl
theorem ybd:liesAt Tryz.prog Tryz.prog.depth 155 (2/Tryz.prog.cellsOf 155) 0 155 1=true:=by kernel_rfl
theorem zeo:(Tryz.prog.info? 5).map (λ i=>(i.zero,i.size,i.bytes))=some (some (.int .u8 0),1,1):=by kernel_rfl
theorem z1t (b:Nat)(w:W8)(h0:w.cell? ⟨b,0,none⟩=some (.pointer (some ⟨b,0,none⟩))):
  Calls Tryz.prog 169 #[.pointer (some ⟨b,0,none⟩)] w λ e w'=>e=.returned (.tuple #[])/\w'=w:=by
 obtain⟨j,hj,_⟩:=Option.map_eq_some_iff.1 z40;go_enter Tryz.func169,Tryz.ntmps169
 go_wp2
 rw[Lib.run_neq_ptr_same w _ Tryz.underlying153 hj]
 go_wp2
 go_end0;exact⟨rfl,rfl⟩
theorem zx1 (b:Nat)(w:W8)(h0:w.cell? ⟨b,0,none⟩=some (.pointer none))(Uq:w.shape? b=some (155,2))(Im:w.frozen? ⟨b,0,none⟩=false):
  Calls Tryz.prog 169 #[.pointer (some ⟨b,0,none⟩)] w λ e w'=>e=.returned (.tuple #[])/\w'=w.setCell ⟨b,0,none⟩ (.pointer (some ⟨b,0,none⟩)):=by
 obtain⟨j,hj,Yi⟩:=Option.map_eq_some_iff.1 z40;go_enter Tryz.func169,Tryz.ntmps169
 go_wp2
 rw[Lib.run_to_unsafe w ⟨b,0,none⟩ Tryz.underlying153 Tryz.underlying349 hj (by rw[Yi];decide) Uq (Nat.zero_lt_succ 1)];simp only[Result.andThen];rw[Oper.upon_value]
 go_wp2
 rw[run_callFunc_extern Tryz.func219 (by kernel_rfl) (by kernel_rfl) (by kernel_rfl) (e:=Extern.AbiNoEscape.same) (by kernel_rfl)];rw[Lib.run_noEscape];simp only[Result.andThen];rw[Oper.upon_value]
 go_wp2
 rw[Lib.run_from_unsafe w ⟨b,0,none⟩ Tryz.underlying349 Tryz.underlying153 hj Uq ybd];simp only[Result.andThen];rw[Oper.upon_value]
 go_wp2
 go_end0;exact⟨rfl,rfl⟩
def lI (w w':W8):Prop:=∀ (x:Nat) (c:Array Value) (e:TypeId) (fr:Nat × Nat),w.heap[x]?=some (.cells c e fr)->e≠155->e≠5->w'.heap[x]?=some (.cells c e fr)
theorem lI.refl (w:W8):lI w w:=λ _ _ _ _ h _ _=>h
variable {a:W8}
theorem lI.trans {b c:W8}(h:lI a b)(k:lI b c):lI a c:=λ x cc e fr hx h1 h2=>k x cc e fr (h x cc e fr hx h1 h2) h1 h2
variable {w:W8}
theorem lI.alloc (h:lI a w)(o:Obj):lI a (w.alloc o):=λ x c e fr hx h1 h2=>by
 have h3:=h x c e fr hx h1 h2;rw[Below.heap_alloc _ _ _ (Array.getElem?_eq_some_iff.1 h3).1];exact h3
theorem lI.setCell {b:Nat}{cs:Array Value}{fr:Nat × Nat}(hb:w.heap[b]?=some (.cells cs 155 fr))(o:Nat)(v:Value):lI w (w.setCell ⟨b,o,none⟩ v):=λ x c e fr' hx h1 _=>by
 rw[Below.heap_setCell _ _ _ _ (by
  intro h;simp at h;subst h;rw[hb] at hx;injection hx with hx
  injection hx with _ hx _
  exact h1 hx.symm)]
 exact hx
variable {xs:V8} {v:Value} {n:Nat}
theorem lI.grown {w1:W8}{B:Nat}(ay:w.ownsRow B 5 1 v n xs)(hg:w.grownBy w1 v.ownBlock):lI w w1:=λ x c e fr hx _ h2=>by
 rw[hg.block x (Array.getElem?_eq_some_iff.1 hx).1 (λ h=>?_)]
 ·exact hx
 ·rcases ay.2 with⟨rfl,_⟩ | ⟨g,cap,cur,rfl,_,bS,_⟩
  ·cases h
  ·injection h with h
   simp only at h;subst h;rw[hx] at bS;injection bS with bS
   injection bS with _ bS _
   exact h2 bS
theorem lI.own {w':W8}{base:Nat}{e:TypeId}{size:Nat}(k:lI w w')(h:w.ownsRow base e size v n xs)(h1:e≠155)(h2:e≠5):w'.ownsRow base e size v n xs:=by
 refine⟨h.1,?_⟩;rcases h.2 with hn | ⟨g,cap,cur,rfl,hb,bS,rest⟩
 ·exact .inl hn
 ·exact .inr ⟨g,cap,cur,rfl,hb,k g _ _ _ bS h1 h2,rest⟩
theorem zh2 (B b:Nat)(bs:V8)(w:W8)(h:Lib.IsBuilder 155 5 B b bs w):
  Calls Tryz.prog 169 #[.pointer (some ⟨b,0,none⟩)] w λ e w'=>e=.returned (.tuple #[])/\Lib.BuilderAt 155 5 B b (.pointer (some ⟨b,0,none⟩)) bs w'/\Below B w w'/\lI w w':=by
 rcases h with h | h
 ·refine (zx1 b w h.cell0 h.shape h.frozen0).mono ?_;rintro e w' ⟨rfl,rfl⟩;obtain⟨_,v,hb,_⟩:=id h;exact⟨rfl,h.used _,(Below.refl B w).setCell (p:=⟨b,0,none⟩) h.1 _,lI.setCell hb 0 _⟩
 ·refine (z1t b w h.cell0).mono ?_;rintro e w' ⟨rfl,rfl⟩;exact⟨rfl,h,Below.refl B _,lI.refl _⟩
theorem zo6 (w1:W8)(x:Value)(ty:TypeId)(j:Nat)(u:Value)(h:([x]:V8)[j]?=some u):(w1.alloc (Obj.cells #[x] ty)).cell? ((⟨w1.heap.size,0,none⟩:Addr).add j)=some u:=cell_one_new w1 x ty j u h
theorem z7s (c:Int):∀ u∈([Value.int .u8 c]:V8),u.oneCell'=true:=by
 intro u hu;simp at hu;subst hu;rfl
def j3 (l:List UInt8):V8:=l.map λ b=>Value.int .u8 b.toNat
theorem zq9 (l:List UInt8)(s:B8):j3 l++Lib.strCells s=j3 (l++s.data.toList):=by simp[j3,Lib.strCells]
theorem zq8 (l:List UInt8)(c:UInt8):j3 l++[Value.int .u8 c.toNat]=j3 (l++[c]):=by simp[j3]
theorem zjm (l:List UInt8):(j3 l).length=l.length:=by simp[j3]
def yd (B b:Nat)(l:List UInt8)(w:W8):Prop:=Lib.IsBuilder 155 5 B b (j3 l) w
theorem zqk (B b:Nat)(l:List UInt8)(s:B8)(w:W8)(h:yd B b l w)(hlen:l.length+s.size<=140737488355328)(hBw:B<=w.heap.size):
  Calls Tryz.prog 111 #[.pointer (some ⟨b,0,none⟩),.string s] w λ e w'=>e=.returned (.tuple #[.int .i64 s.size,.nilIface])/\yd B b (l++s.data.toList) w'/\Below B w w'/\lI w w':=by
 obtain⟨i0,hi,bL,aY,bg⟩:=info_parts zeo;have hZ:=zjm l;go_enter Tryz.func111,Tryz.ntmps111;go_wp2_with fail;refine (zh2 B b (j3 l) _ h).mono ?_;rintro e w1 ⟨rfl,h1,aL,aW⟩;obtain⟨hB,v,nj,ay,bF⟩:=h1;have c0:w1.cell? ⟨b,0,none⟩=some (.pointer (some ⟨b,0,none⟩)):=by rw[Lib.cell_of_heap nj];rfl
 have c1:w1.cell? ⟨b,1,none⟩=some v:=by rw[Lib.cell_of_heap nj];rfl
 have hz:=aL.size;go_wp2_with (at_builtin;refine Lib.wpList_append_own_string _ rfl _ _ 47 9 rfl B 5 i0 Tryz.underlying47 Tryz.underlying9 hi bL aY bg _ _ _ rfl ay s rfl (by unfold maxLen;omega) (by omega) (by omega) ?_);intro v' w2 iH hgrow _;have aH:b<w1.heap.size:=(Array.getElem?_eq_some_iff.1 nj).1;have aK:w2.heap[b]?=some (.cells #[.pointer (some ⟨b,0,none⟩),v] 155 (0,0)):=by
  rw[hgrow.block b aH (λ e=>bF e.symm)];exact nj
 have d0:w2.cell? ⟨b,0,none⟩=some (.pointer (some ⟨b,0,none⟩)):=by rw[Lib.cell_of_heap aK];rfl
 have d1:w2.cell? ⟨b,1,none⟩=some v:=by rw[Lib.cell_of_heap aK];rfl
 have f1:w2.frozen? ⟨b,1,none⟩=false:=Lib.frozen_of_heap aK 1;obtain⟨ao,n',cap,rfl⟩:∃ ao n' cap,v'=.slice ao n' cap:=by
  rcases iH.2 with⟨hv,_⟩ | ⟨g,cap,cur,hv,_⟩
  ·exact⟨_,_,_,hv⟩
  ·exact⟨_,_,_,hv⟩
 have jl:=Lib.BuilderAt.put (T:=155) (e:=5) hB aK (v':=.slice ao n' cap) (bs':=j3 l++Lib.strCells s) (by rw[List.length_append,Lib.strCells_length,hZ];exact iH) (by decide);rw[zq9] at jl;have HP:=zC jl;have HK:=zC ((aW.trans (lI.grown ay hgrow)).trans (lI.setCell aK 1 (.slice ao n' cap)));have HB:=zC ((aL.grown hgrow (by omega) (λ k hk=>(ay.lt k hk).1)).setCell (p:=⟨b,1,none⟩) hB (.slice ao n' cap));clear jl iH hgrow aL ay nj aK c0 c1 aW;go_wp2_with fail
 go_ret2
 exact⟨rfl,.inr (zA HP),zA HB,zA HK⟩
theorem zna (B b:Nat)(l:List UInt8)(c:UInt8)(w:W8)(h:yd B b l w)(hlen:l.length+1<=140737488355328)(hBw:B<=w.heap.size):
  Calls Tryz.prog 167 #[.pointer (some ⟨b,0,none⟩),.int .u8 c.toNat] w λ e w'=>e=.returned .nilIface/\yd B b (l++[c]) w'/\Below B w w'/\lI w w':=by
 obtain⟨i0,hi,bL,aY,bg⟩:=info_parts zeo;have hZ:=zjm l;go_enter Tryz.func167,Tryz.ntmps167;go_wp2_with fail;refine (zh2 B b (j3 l) _ h).mono ?_;rintro e w1 ⟨rfl,h1,aL,aW⟩;obtain⟨hB,v,nj,ay,bF⟩:=h1;have c0:w1.cell? ⟨b,0,none⟩=some (.pointer (some ⟨b,0,none⟩)):=by rw[Lib.cell_of_heap nj];rfl
 have c1:w1.cell? ⟨b,1,none⟩=some v:=by rw[Lib.cell_of_heap nj];rfl
 have hz:=aL.size;go_wp2_with (at_builtin;refine wpList_append_own _ rfl _ _ 47 rfl B 5 i0 (.int .u8 0) 1 1 Tryz.underlying47 hi bL aY bg rfl (by decide) _ _ _ rfl (ay.alloc _) ⟨w1.heap.size,0,none⟩ 1 1 [.int .u8 c.toNat] rfl rfl (zo6 w1 _ _) (z7s _) (by unfold maxLen;omega) (by omega) (by simp;omega) ?_);intro v' w2 iH hgrow _;have aH:b<w1.heap.size:=(Array.getElem?_eq_some_iff.1 nj).1;have aK:w2.heap[b]?=some (.cells #[.pointer (some ⟨b,0,none⟩),v] 155 (0,0)):=by
  rw[hgrow.block b (by simp;omega) (λ e=>bF e.symm),Below.heap_alloc _ _ _ aH];exact nj
 have d0:w2.cell? ⟨b,0,none⟩=some (.pointer (some ⟨b,0,none⟩)):=by rw[Lib.cell_of_heap aK];rfl
 have d1:w2.cell? ⟨b,1,none⟩=some v:=by rw[Lib.cell_of_heap aK];rfl
 have f1:w2.frozen? ⟨b,1,none⟩=false:=Lib.frozen_of_heap aK 1;obtain⟨ao,n',cap,rfl⟩:∃ ao n' cap,v'=.slice ao n' cap:=by
  rcases iH.2 with⟨hv,_⟩ | ⟨g,cap,cur,hv,_⟩
  ·exact⟨_,_,_,hv⟩
  ·exact⟨_,_,_,hv⟩
 have jl:=Lib.BuilderAt.put (T:=155) (e:=5) hB aK (v':=.slice ao n' cap) (bs':=j3 l++[.int .u8 c.toNat]) (by rw[List.length_append,hZ];exact iH) (by decide);rw[zq8] at jl;have HP:=zC jl;have HK:=zC (((aW.alloc _).trans (lI.grown (ay.alloc _) hgrow)).trans (lI.setCell aK 1 (.slice ao n' cap)));have HB:=zC (((aL.alloc (by omega) _).grown hgrow (by simp;omega) (λ k hk=>(ay.lt k hk).1)).setCell (p:=⟨b,1,none⟩) hB (.slice ao n' cap));clear jl iH hgrow aL ay nj aK c0 c1 aW;go_wp2_with fail;go_ret;exact⟨rfl,.inr (zA HP),zA HB,zA HK⟩
end
end Go.Proofs.YtldkpahaocjdpaaGreat
