/-
  Plain, no walk: what a token of a text is, as the document's section Words says it: blanks are passed by; a row of a..z and 0..9, a row of A..Z, the signs ( ) , . :- ; all else is none.
-/
import Derived.Test.YtldkpahaocjdpaaGreatR00
import Derived.Below
import Derived.Test.YtldkpahaocjdpaaGreatProg
import Derived.WalkKit
import Derived.WalkSpells
import Derived.WalkLawsBesides
import Derived.Deep.QuietTactic
import Derived.BigQuiet
import Derived.Deep.RegionWith
import Derived.Deep.LoopGhost
import Derived.Lib.Strings
import Derived.Laws.Strings
set_option maxHeartbeats 16000000
set_option maxRecDepth 1000000
namespace Go.Proofs.YtldkpahaocjdpaaGreat
section
def aP (c:Int):Bool:=(decide (97<=c)&&decide (c<=122))||(decide (48<=c)&&decide (c<=57))
def aL (c:Int):Bool:=decide (65<=c)&&decide (c<=90)
def aH (c:Int):Bool:=decide (c=32)||decide (c=10)
def skip (p:Int->Bool)(s:B8)(i:Nat):Nat:=
 if h:i<s.size then (if p s[i].toNat then skip p s (i+1) else i) else i
termination_by s.size-i
theorem skip_step (p:Int->Bool)(s:B8)(i:Nat)(h:i<s.size)(hp:p s[i].toNat=true):skip p s i=skip p s (i+1):=by
 rw[skip];simp[h,hp]
theorem skip_stop (p:Int->Bool)(s:B8)(i:Nat)(h:i<s.size)(hp:p s[i].toNat=false):skip p s i=i:=by
 rw[skip];simp[h,hp]
theorem skip_end (p:Int->Bool)(s:B8)(i:Nat)(h:¬ i<s.size):skip p s i=i:=by
 rw[skip];simp[h]
theorem skip_ge (p:Int->Bool)(s:B8)(i:Nat):i<=skip p s i:=by
 fun_induction skip p s i <;> omega
theorem skip_le (p:Int->Bool)(s:B8)(i:Nat)(h:i<=s.size):skip p s i<=s.size:=by
 fun_induction skip p s i <;> omega
structure Tk where
 kind:Int
 text:B8
 at_:Nat
 to:Nat
def signLen (s:B8)(i:Nat):Nat:=
 if h:i<s.size then
  (if (s[i].toNat:Int)=58 then (if h2:i+1<s.size then (if (s[i+1].toNat:Int)=45 then 2 else 0) else 0)
  else if (s[i].toNat:Int)=40\/(s[i].toNat:Int)=41\/(s[i].toNat:Int)=44\/(s[i].toNat:Int)=46 then 1 else 0)
 else 0
def tokAt (s:B8)(i:Nat):Tk:=
 if s.size<=i then ⟨46,⟨#[]⟩,s.size,i⟩
 else if i<skip aP s i then
  (if (s.extract i (skip aP s i)).toList=[110,111,116] then ⟨119,s.extract i (skip aP s i),i,skip aP s i⟩
  else if skip aP s i-i<=8 then ⟨110,s.extract i (skip aP s i),i,skip aP s i⟩
  else ⟨33,⟨#[]⟩,i,skip aP s i⟩)
 else if i<skip aL s i then
  (if skip aL s i-i<=8 then ⟨118,s.extract i (skip aL s i),i,skip aL s i⟩
  else ⟨33,⟨#[]⟩,i,skip aL s i⟩)
 else if signLen s i=0 then ⟨33,⟨#[]⟩,i,i+1⟩
 else if signLen s i=2 then ⟨115,⟨#[58,45]⟩,i,i+2⟩
 else ⟨115,s.extract i (i+1),i,i+1⟩
def tok (s:B8)(i:Nat):Tk:=tokAt s (skip aH s i)
end
section
open Go.RowKit
variable {p:Prop}
theorem hide (h:p):Hid p:=h
theorem ad (h:Hid p):p:=h
theorem more {x:Int}{j:Nat}{l:List Int}{d:Int}(h:∀ c,c∈l.take j->x≠c)(hd:¬ x=d){j':Nat}(hj:j'=j+1)(hl:l[j]?=some d):∀ c,c∈l.take j'->x≠c:=by
 subst hj;intro c hc;rw[List.take_add_one,hl] at hc;simp at hc;rcases hc with hc | hc
 ·exact h c hc
 ·subst hc;exact hd
end
section
open Go.RowKit
structure Kept (B:List Nat)(w w':W8):Prop where
 os:w'.os=w.os
 tape:w'.tape=w.tape
 output:w'.output=w.output
 size:w.heap.size<=w'.heap.size
 block:∀ k,k<w.heap.size->k∉B->w'.heap[k]?=w.heap[k]?
theorem Kept.refl (B:List Nat)(w:W8):Kept B w w:=⟨rfl,rfl,rfl,Nat.le_refl _,λ _ _ _=>rfl⟩
theorem Kept.trans {B:List Nat}{a b c:W8}(h:Kept B a b)(k:Kept B b c):Kept B a c:=
 ⟨k.os.trans h.os,k.tape.trans h.tape,k.output.trans h.output,Nat.le_trans h.size k.size,λ i hi hn=>(k.block i (Nat.lt_of_lt_of_le hi h.size) hn).trans (h.block i hi hn)⟩
variable {a w w':W8} {B:List Nat}
theorem Kept.aF (h:Kept B a w)(k:Below w.heap.size w w'):Kept B a w':=
 h.trans ⟨k.os,k.tape,k.output,k.size,λ i hi _=>k.block i hi⟩
theorem Kept.alloc (h:Kept B a w)(o:Obj):Kept B a (w.alloc o):=
 h.trans ⟨rfl,rfl,rfl,by simp,λ k hk _=>Below.heap_alloc _ _ _ hk⟩
theorem Kept.drew (h:Kept B a w):Kept B a w.drew:=⟨h.os,h.tape,h.output,h.size,h.block⟩
theorem Kept.setCell {B:List Nat}{a w:W8}(h:Kept B a w){p:Addr}(hp:p.block∈B\/a.heap.size<=p.block)(u:Value):Kept B a (w.setCell p u):=
 ⟨h.os,h.tape,h.output,by have:=h.size;simpa[World.setCell] using this,λ k hk hn=>(Below.heap_setCell _ _ _ _ (by rintro rfl;rcases hp with hp | hp;exact hn hp;omega)).trans (h.block k hk hn)⟩
theorem Kept.mono {C:List Nat}(h:Kept B w w')(hs:∀ k,k∈B->k∈C\/w.heap.size<=k):Kept C w w':=
 ⟨h.os,h.tape,h.output,h.size,λ k hk hn=>h.block k hk (λ hb=>by rcases hs k hb with h1 | h1;exact hn h1;omega)⟩
variable {p:Addr}
theorem Kept.cell (h:Kept B w w')(hp:p.block<w.heap.size)(hn:p.block∉B):w'.cell? p=w.cell? p:=World.cell?_of_block (w:=w) (h.block p.block hp hn)
theorem Kept.frozen (h:Kept B w w')(hp:p.block<w.heap.size)(hn:p.block∉B):w'.frozen? p=w.frozen? p:=World.frozen?_of_block (w:=w) (h.block p.block hp hn)
def failS (s:B8)(pos:Nat)(bad:Int):Int:=if bad<0 then (tok s pos).at_ else bad
def isS (s:B8)(pos:Nat)(bad:Int)(wd:B8):Bool:=decide (bad<0)&&((tok s pos).kind==115&&(tok s pos).text.toList==wd.toList)
def takeBad (s:B8)(pos:Nat)(bad:Int):Int:=if (tok s pos).kind=33\/(tok s pos).kind=46 then failS s pos bad else bad
def cW (s:B8)(pos:Nat)(bad:Int):Nat:=if takeBad s pos bad<0 then (tok s pos).to else pos
theorem set3 {w1:W8}{n:Nat}{u0 u1 u2:Value}(h0:w1.cell? ⟨n,0,none⟩=some u0)(h1:w1.cell? ⟨n,1,none⟩=some u1)(h2:w1.cell? ⟨n,2,none⟩=some u2)(v0 v1 v2:Value):
  (((w1.setCell ⟨n,0,none⟩ v0).setCell ⟨n,1,none⟩ v1).setCell ⟨n,2,none⟩ v2).cell? ⟨n,0,none⟩=some v0 /\
  (((w1.setCell ⟨n,0,none⟩ v0).setCell ⟨n,1,none⟩ v1).setCell ⟨n,2,none⟩ v2).cell? ⟨n,1,none⟩=some v1 /\
  (((w1.setCell ⟨n,0,none⟩ v0).setCell ⟨n,1,none⟩ v1).setCell ⟨n,2,none⟩ v2).cell? ⟨n,2,none⟩=some v2:=by
 refine⟨?_,?_,?_⟩ <;> go_simp
end
section
open Go.RowKit
def hasPos (s:B8)(pos:Nat)(bad:Int)(wd:B8):Nat:=if isS s pos bad wd then cW s pos bad else pos
def hasBad (s:B8)(pos:Nat)(bad:Int)(wd:B8):Int:=if isS s pos bad wd then takeBad s pos bad else bad
def needBad0 (s:B8)(pos:Nat)(bad:Int)(wd:B8):Int:=if isS s pos bad wd then bad else failS s pos bad
end
section
open Go.RowKit
structure RTerm where
 text:B8
 isVar:Bool
 at_:Nat
structure RAtom where
 pred:B8
 aS:List RTerm
 no:Bool
 at_:Nat
 sf:Nat
abbrev chr (c:UInt8):B8:={ data:=#[c] }
def termBad (s:B8)(pos:Nat)(bad:Int)(n:Nat):Int:=
 if ((tok s pos).kind != 110&&(tok s pos).kind != 118)||n==4 then failS s pos bad else bad
def termOf (s:B8)(pos:Nat):RTerm:=⟨(tok s pos).text,(tok s pos).kind==118,(tok s pos).at_⟩
def termsS (s:B8):Nat->Nat->Int->List RTerm->List RTerm × Nat × Int
 | 0,pos,bad,l=>(l,pos,bad)
 | f+1,pos,bad,l=>
  let bad1:=termBad s pos bad l.length
  let pos2:=cW s pos bad1
  let bad2:=takeBad s pos bad1
  let pos3:=hasPos s pos2 bad2 (chr 44)
  let bad3:=hasBad s pos2 bad2 (chr 44)
  if isS s pos2 bad2 (chr 44) then termsS s f pos3 bad3 (l++[termOf s pos])
  else (l++[termOf s pos],cW s pos3 (needBad0 s pos3 bad3 (chr 41)),takeBad s pos3 (needBad0 s pos3 bad3 (chr 41)))
def atomBad1 (s:B8)(pos:Nat)(bad:Int):Int:=if (tok s pos).kind != 110 then failS s pos bad else bad
def atomPos2 (s:B8)(pos:Nat)(bad:Int):Nat:=cW s pos (atomBad1 s pos bad)
def atomBad2 (s:B8)(pos:Nat)(bad:Int):Int:=takeBad s pos (atomBad1 s pos bad)
def atomRest (s:B8)(pos:Nat)(bad:Int):List RTerm × Nat × Int:=
 if isS s (atomPos2 s pos bad) (atomBad2 s pos bad) (chr 40) then
  termsS s 5 (hasPos s (atomPos2 s pos bad) (atomBad2 s pos bad) (chr 40)) (hasBad s (atomPos2 s pos bad) (atomBad2 s pos bad) (chr 40)) []
 else ([],hasPos s (atomPos2 s pos bad) (atomBad2 s pos bad) (chr 40),hasBad s (atomPos2 s pos bad) (atomBad2 s pos bad) (chr 40))
variable {row:Option Nat} {w w':W8} {B:List Nat}
theorem Kept.grown {a:W8}(h:Kept B a w)(hg:w.grownBy w' row)(hr:∀ k,row=some k->a.heap.size<=k\/k∈B):Kept B a w':=
 ⟨hg.os.trans h.os,hg.tape.trans h.tape,hg.output.trans h.output,Nat.le_trans h.size hg.size,λ k hk hn=>(hg.block k (Nat.lt_of_lt_of_le hk h.size) (λ e=>by rcases hr k e.symm with h1 | h1;omega;exact hn h1)).trans (h.block k hk hn)⟩
theorem Kept.eK (hg:w.grownBy w' row):Kept row.toList w w':=
 (Kept.refl _ _).grown hg (λ k e=>.inr (by simp[e]))
variable {xs:V8} {n size base:Nat} {v:Value} {e:TypeId}
theorem ownsRow_kept (h:w.ownsRow base e size v n xs)(k:Kept B w w')(hB:∀ x∈B,x<base):w'.ownsRow base e size v n xs:=by
 refine⟨h.1,?_⟩;rcases h.2 with hn | ⟨g,cap,cur,rfl,hb,dn,rest⟩
 ·exact .inl hn
 ·refine .inr ⟨g,cap,cur,rfl,hb,?_,rest⟩;rw[k.block g (Array.getElem?_eq_some_iff.1 dn).1 (λ hm=>by have:=hB g hm;omega)];exact dn
theorem own_slice (h:w.ownsRow base e size v n xs):∃ a cap,v=.slice a n cap:=by
 rcases h.2 with⟨rfl,rfl⟩ | ⟨g,cap,cur,rfl,_⟩
 ·exact⟨none,0,rfl⟩
 ·exact⟨_,_,rfl⟩
theorem aw {base':Nat}(h:w.ownsRow base e size v n xs)(hb:base'<=base):w.ownsRow base' e size v n xs:=by
 refine⟨h.1,?_⟩;rcases h.2 with hn | ⟨g,cap,cur,rfl,Ap,rest⟩
 ·exact .inl hn
 ·exact .inr ⟨g,cap,cur,rfl,by omega,rest⟩
end
section
open Go.RowKit
theorem isSmall_any (c:Int)(w:W8):
  Calls Tryz.prog 170 #[.int .u8 c] w λ e w'=>e=.returned (.bool (aP c))/\w'=w:=by
 go_enter Tryz.func170,Tryz.ntmps170
 go_wp2
 all_goals go_ret
 all_goals exact⟨by simp[aP, *];try omega,rfl⟩
theorem isCapital_any (c:Int)(w:W8):
  Calls Tryz.prog 172 #[.int .u8 c] w λ e w'=>e=.returned (.bool (aL c))/\w'=w:=by
 go_enter Tryz.func172,Tryz.ntmps172
 go_wp2
 all_goals go_ret
 all_goals exact⟨by simp[aL, *];try omega,rfl⟩
theorem isBlank_any (c:Int)(w:W8):
  Calls Tryz.prog 114 #[.int .u8 c] w λ e w'=>e=.returned (.bool (aH c))/\w'=w:=by
 go_enter Tryz.func114,Tryz.ntmps114
 go_wp2
 all_goals go_ret
 ·exact⟨by simp[aH, *],rfl⟩
 ·exact⟨by rename_i h;show Ending.returned (Value.bool (c==32||c==10))=_;congr 2,rfl⟩
theorem rowSmall_any (s:B8)(hs:s.size<=maxLen)(w:W8):
  Calls Tryz.prog 113 #[.string s,.func (.func 170) #[] #[]] w λ e w'=>e=.returned (.int .i64 (skip aP s 0))/\w'=w:=by
 unfold maxLen at hs;go_enter Tryz.func113,Tryz.ntmps113
 go_wp2
 go_loop [5] (λ t=>∃ m:Nat,m<=s.size/\t=.int .i64 m/\skip aP s m=skip aP s 0) (λ t=>s.size-(intOf t).toNat)
 exact⟨0,Nat.zero_le _,rfl,rfl⟩
 case round=>
  obtain⟨m,hm,rfl,dQ⟩:=hrel;have HM:Hid (skip aP s m=skip aP s 0):=dQ;clear dQ
  by_cases ed:m<s.size
  ·cases aX:aP s[m].toNat with
   | true=>
    have wg:Hid (skip aP s (m+1)=skip aP s 0):=(skip_step aP s m ed aX).symm.trans HM.out;go_wp2_with (go_at_call 170;refine (isSmall_any _ _).mono ?_;rintro e w' ⟨rfl,rfl⟩)
    go_round
    case rel=>exact⟨m+1,by omega,by go_num,wg.out⟩
    case measure=>simp[intOf];omega
   | false=>
    have HN:=hide (HM.out.symm.trans (skip_stop aP s m ed aX));go_wp2_with (go_at_call 170;refine (isSmall_any _ _).mono ?_;rintro e w' ⟨rfl,rfl⟩);go_ret;exact⟨by rw[ad HN];rfl,rfl⟩
  ·have HN:=hide (HM.out.symm.trans (skip_end aP s m ed));go_wp2_with (go_at_call 170;refine (isSmall_any _ _).mono ?_;rintro e w' ⟨rfl,rfl⟩);go_ret;exact⟨by rw[ad HN];rfl,rfl⟩
theorem rowCapital_any (s:B8)(hs:s.size<=maxLen)(w:W8):
  Calls Tryz.prog 113 #[.string s,.func (.func 172) #[] #[]] w λ e w'=>e=.returned (.int .i64 (skip aL s 0))/\w'=w:=by
 unfold maxLen at hs;go_enter Tryz.func113,Tryz.ntmps113
 go_wp2
 go_loop [5] (λ t=>∃ m:Nat,m<=s.size/\t=.int .i64 m/\skip aL s m=skip aL s 0) (λ t=>s.size-(intOf t).toNat)
 exact⟨0,Nat.zero_le _,rfl,rfl⟩
 case round=>
  obtain⟨m,hm,rfl,dQ⟩:=hrel;have HM:Hid (skip aL s m=skip aL s 0):=dQ;clear dQ
  by_cases ed:m<s.size
  ·cases aX:aL s[m].toNat with
   | true=>
    have wg:Hid (skip aL s (m+1)=skip aL s 0):=(skip_step aL s m ed aX).symm.trans HM.out;go_wp2_with (go_at_call 172;refine (isCapital_any _ _).mono ?_;rintro e w' ⟨rfl,rfl⟩)
    go_round
    case rel=>exact⟨m+1,by omega,by go_num,wg.out⟩
    case measure=>simp[intOf];omega
   | false=>
    have HN:=hide (HM.out.symm.trans (skip_stop aL s m ed aX));go_wp2_with (go_at_call 172;refine (isCapital_any _ _).mono ?_;rintro e w' ⟨rfl,rfl⟩);go_ret;exact⟨by rw[ad HN];rfl,rfl⟩
  ·have HN:=hide (HM.out.symm.trans (skip_end aL s m ed));go_wp2_with (go_at_call 172;refine (isCapital_any _ _).mono ?_;rintro e w' ⟨rfl,rfl⟩);go_ret;exact⟨by rw[ad HN];rfl,rfl⟩
theorem rowBlank_any (s:B8)(hs:s.size<=maxLen)(w:W8):
  Calls Tryz.prog 113 #[.string s,.func (.func 114) #[] #[]] w λ e w'=>e=.returned (.int .i64 (skip aH s 0))/\w'=w:=by
 unfold maxLen at hs;go_enter Tryz.func113,Tryz.ntmps113
 go_wp2
 go_loop [5] (λ t=>∃ m:Nat,m<=s.size/\t=.int .i64 m/\skip aH s m=skip aH s 0) (λ t=>s.size-(intOf t).toNat)
 exact⟨0,Nat.zero_le _,rfl,rfl⟩
 case round=>
  obtain⟨m,hm,rfl,dQ⟩:=hrel;have HM:Hid (skip aH s m=skip aH s 0):=dQ;clear dQ
  by_cases ed:m<s.size
  ·cases aX:aH s[m].toNat with
   | true=>
    have wg:Hid (skip aH s (m+1)=skip aH s 0):=(skip_step aH s m ed aX).symm.trans HM.out;go_wp2_with (go_at_call 114;refine (isBlank_any _ _).mono ?_;rintro e w' ⟨rfl,rfl⟩)
    go_round
    case rel=>exact⟨m+1,by omega,by go_num,wg.out⟩
    case measure=>simp[intOf];omega
   | false=>
    have HN:=hide (HM.out.symm.trans (skip_stop aH s m ed aX));go_wp2_with (go_at_call 114;refine (isBlank_any _ _).mono ?_;rintro e w' ⟨rfl,rfl⟩);go_ret;exact⟨by rw[ad HN];rfl,rfl⟩
  ·have HN:=hide (HM.out.symm.trans (skip_end aH s m ed));go_wp2_with (go_at_call 114;refine (isBlank_any _ _).mono ?_;rintro e w' ⟨rfl,rfl⟩);go_ret;exact⟨by rw[ad HN];rfl,rfl⟩
end
section
theorem ext_size (s:B8)(a:Nat):(s.extract a s.size).size=s.size-a:=by
 simp[ByteArray.size_extract]
theorem ext_get (s:B8)(a j:Nat)(h:a+j<s.size)(h':j<(s.extract a s.size).size):(s.extract a s.size)[j]=s[a+j]:=by
 simp[ByteArray.getElem_extract]
theorem skip_ext (p:Int->Bool)(s:B8)(a:Nat)(ha:a<=s.size):∀ (d j:Nat),s.size-(a+j)=d->a+j<=s.size->a+skip p (s.extract a s.size) j=skip p s (a+j):=by
 intro d
 induction d with
 | zero=>
  intro j hd hj;rw[skip_end p s (a+j) (by omega),skip_end p _ j (by rw[ext_size s a];omega)]
 | succ d ih=>
  intro j hd hj;have h1:a+j<s.size:=by omega
  have h2:j<(s.extract a s.size).size:=by rw[ext_size s a];omega
  cases hp:p s[a+j].toNat with
  | true=>
   rw[skip_step p s (a+j) h1 hp,skip_step p _ j h2 (by rw[ext_get s a j h1 h2];exact hp)];have:=ih (j+1) (by omega) (by omega);rw[this,Nat.add_assoc]
  | false=>
   rw[skip_stop p s (a+j) h1 hp,skip_stop p _ j h2 (by rw[ext_get s a j h1 h2];exact hp)]
theorem skip_ext0 (p:Int->Bool)(s:B8)(a:Nat)(ha:a<=s.size):a+skip p (s.extract a s.size) 0=skip p s a:=
 skip_ext p s a ha _ 0 rfl (by omega)
def signK (r:B8):Int × Nat:=
 if 1<=r.size/\(r.extract 0 1).toList=[40] then (5,1)
 else if 1<=r.size/\(r.extract 0 1).toList=[41] then (6,1)
 else if 1<=r.size/\(r.extract 0 1).toList=[44] then (7,1)
 else if 1<=r.size/\(r.extract 0 1).toList=[46] then (8,1)
 else if 2<=r.size/\(r.extract 0 2).toList=[58,45] then (9,2)
 else (1,1)
def nameK (r:B8):Int × Nat:=if 8<skip aP r 0 then (1,skip aP r 0) else if (r.extract 0 (skip aP r 0)).toList=[110,111,116] then (4,skip aP r 0) else (2,skip aP r 0)
def varK (r:B8):Int × Nat:=if 8<skip aL r 0 then (1,skip aL r 0) else (3,skip aL r 0)
def bJ (r:B8):Int × Nat:=
 if h:0<r.size then (if aP r[0].toNat then nameK r else if aL r[0].toNat then varK r else signK r) else (0,0)
def ae (s:B8)(i:Nat):Int × Nat × Nat:=((bJ (s.extract (skip aH s i) s.size)).1,skip aH s i,skip aH s i+(bJ (s.extract (skip aH s i) s.size)).2)
end
section
open Go.RowKit
def dq (r p:B8):Bool:=decide (p.size<=r.size)&&(r.extract 0 p.size).toList==p.toList
theorem slitePrefix_any (r p:B8)(w:W8):
  Calls Tryz.prog 239 #[.string r,.string p] w λ e w'=>e=.returned (.bool (dq r p))/\w'=w:=by
 by_cases h:p.size<=r.size
 ·go_enter Tryz.func239,Tryz.ntmps239
  go_wp2
  go_ret;exact⟨by simp[dq,h],rfl⟩
 ·go_enter Tryz.func239,Tryz.ntmps239
  go_wp2
  go_ret;exact⟨by simp[dq];omega,rfl⟩
theorem prefix_any (r p:B8)(w:W8):
  Calls Tryz.prog 220 #[.string r,.string p] w λ e w'=>e=.returned (.bool (dq r p))/\w'=w:=by
 go_enter Tryz.func220,Tryz.ntmps220;go_wp2_with fail;refine (slitePrefix_any r p _).mono ?_;rintro e w1 ⟨rfl,rfl⟩;go_wp2_with fail;go_ret;exact⟨rfl,rfl⟩
theorem sign_any (r:B8)(w:W8):
  Calls Tryz.prog 174 #[.string r] w λ e w'=>e=.returned (.tuple #[.int .i64 (signK r).1,.int .i64 (signK r).2])/\w'=w:=by
 have e1:∀ c:UInt8,dq r { data:=#[c] }=decide (1<=r.size/\(r.extract 0 1).toList=[c]):=λ c=>by
  have h1:(ByteArray.mk #[c]).size=1:=rfl;have h2:(ByteArray.mk #[c]).toList=[c]:=by rw[ByteArray.toList_eq]
  rw[Bool.eq_iff_iff];simp only[dq,h1,h2,Bool.and_eq_true,decide_eq_true_eq,beq_iff_eq]
 have e2:dq r { data:=#[58,45] }=decide (2<=r.size/\(r.extract 0 2).toList=[58,45]):=by
  have h1:(ByteArray.mk #[58,45]).size=2:=rfl;have h2:(ByteArray.mk #[58,45]).toList=[58,45]:=by rw[ByteArray.toList_eq]
  rw[Bool.eq_iff_iff];simp only[dq,h1,h2,Bool.and_eq_true,decide_eq_true_eq,beq_iff_eq]
 have hK:signK r=if dq r { data:=#[40] } then (5,1) else if dq r { data:=#[41] } then (6,1) else if dq r { data:=#[44] } then (7,1) else if dq r { data:=#[46] } then (8,1) else if dq r { data:=#[58,45] } then (9,2) else (1,1):=by
  rw[e1,e1,e1,e1,e2];unfold signK;simp only[decide_eq_true_eq]
 have HK:=hide hK;clear e1 e2 hK
 cases b1:dq r { data:=#[40] } with
 | true=>
  have HF:=hide (show signK r=(5,1) by rw[ad HK,b1];rfl);clear HK;go_enter Tryz.func174,Tryz.ntmps174;go_wp2_with fail;refine (prefix_any r _ _).mono ?_;rintro e w1 ⟨rfl,rfl⟩;go_wp2_with fail
  go_ret2
  exact⟨by rw[ad HF];rfl,rfl⟩
 | false=>
 cases b2:dq r { data:=#[41] } with
 | true=>
  have HF:=hide (show signK r=(6,1) by rw[ad HK,b1,b2];rfl);clear HK;go_enter Tryz.func174,Tryz.ntmps174;go_wp2_with fail;refine (prefix_any r _ _).mono ?_;rintro e w1 ⟨rfl,rfl⟩;go_wp2_with fail;refine (prefix_any r _ _).mono ?_;rintro e w1 ⟨rfl,rfl⟩;go_wp2_with fail
  go_ret2
  exact⟨by rw[ad HF];rfl,rfl⟩
 | false=>
 cases b3:dq r { data:=#[44] } with
 | true=>
  have HF:=hide (show signK r=(7,1) by rw[ad HK,b1,b2,b3];rfl);clear HK;go_enter Tryz.func174,Tryz.ntmps174;go_wp2_with fail;refine (prefix_any r _ _).mono ?_;rintro e w1 ⟨rfl,rfl⟩;go_wp2_with fail;refine (prefix_any r _ _).mono ?_;rintro e w1 ⟨rfl,rfl⟩;go_wp2_with fail;refine (prefix_any r _ _).mono ?_;rintro e w1 ⟨rfl,rfl⟩;go_wp2_with fail
  go_ret2
  exact⟨by rw[ad HF];rfl,rfl⟩
 | false=>
 cases b4:dq r { data:=#[46] } with
 | true=>
  have HF:=hide (show signK r=(8,1) by rw[ad HK,b1,b2,b3,b4];rfl);clear HK;go_enter Tryz.func174,Tryz.ntmps174;go_wp2_with fail;refine (prefix_any r _ _).mono ?_;rintro e w1 ⟨rfl,rfl⟩;go_wp2_with fail;refine (prefix_any r _ _).mono ?_;rintro e w1 ⟨rfl,rfl⟩;go_wp2_with fail;refine (prefix_any r _ _).mono ?_;rintro e w1 ⟨rfl,rfl⟩;go_wp2_with fail;refine (prefix_any r _ _).mono ?_;rintro e w1 ⟨rfl,rfl⟩;go_wp2_with fail
  go_ret2
  exact⟨by rw[ad HF];rfl,rfl⟩
 | false=>
 cases b5:dq r { data:=#[58,45] } with
 | true=>
  have HF:=hide (show signK r=(9,2) by rw[ad HK,b1,b2,b3,b4,b5];rfl);clear HK;go_enter Tryz.func174,Tryz.ntmps174;go_wp2_with fail;refine (prefix_any r _ _).mono ?_;rintro e w1 ⟨rfl,rfl⟩;go_wp2_with fail;refine (prefix_any r _ _).mono ?_;rintro e w1 ⟨rfl,rfl⟩;go_wp2_with fail;refine (prefix_any r _ _).mono ?_;rintro e w1 ⟨rfl,rfl⟩;go_wp2_with fail;refine (prefix_any r _ _).mono ?_;rintro e w1 ⟨rfl,rfl⟩;go_wp2_with fail;refine (prefix_any r _ _).mono ?_;rintro e w1 ⟨rfl,rfl⟩;go_wp2_with fail
  go_ret2
  exact⟨by rw[ad HF];rfl,rfl⟩
 | false=>
  have HF:=hide (show signK r=(1,1) by rw[ad HK,b1,b2,b3,b4,b5];rfl);clear HK;go_enter Tryz.func174,Tryz.ntmps174;go_wp2_with fail;refine (prefix_any r _ _).mono ?_;rintro e w1 ⟨rfl,rfl⟩;go_wp2_with fail;refine (prefix_any r _ _).mono ?_;rintro e w1 ⟨rfl,rfl⟩;go_wp2_with fail;refine (prefix_any r _ _).mono ?_;rintro e w1 ⟨rfl,rfl⟩;go_wp2_with fail;refine (prefix_any r _ _).mono ?_;rintro e w1 ⟨rfl,rfl⟩;go_wp2_with fail;refine (prefix_any r _ _).mono ?_;rintro e w1 ⟨rfl,rfl⟩;go_wp2_with fail
  go_ret2
  exact⟨by rw[ad HF];rfl,rfl⟩
theorem name_any (r:B8)(hr:r.size<=maxLen)(w:W8):
  Calls Tryz.prog 171 #[.string r] w λ e w'=>e=.returned (.tuple #[.int .i64 (nameK r).1,.int .i64 (nameK r).2])/\w'=w:=by
 have hle:=skip_le aP r 0 (Nat.zero_le _);have dH:=hr;unfold maxLen at dH
 by_cases h8:8<skip aP r 0
 ·have HF:=hide (show nameK r=(1,skip aP r 0) by unfold nameK;rw[if_pos h8]);go_enter Tryz.func171,Tryz.ntmps171;go_wp2_with fail;refine (rowSmall_any r hr _).mono ?_;rintro e w1 ⟨rfl,rfl⟩;go_wp2_with fail
  go_ret2
  exact⟨by rw[ad HF];rfl,rfl⟩
 ·cases hn:(r.extract 0 (skip aP r 0)).toList==[110,111,116] with
  | true=>
   have HF:=hide (show nameK r=(4,skip aP r 0) by unfold nameK;rw[if_neg h8,if_pos (eq_of_beq hn)]);go_enter Tryz.func171,Tryz.ntmps171;go_wp2_with fail;refine (rowSmall_any r hr _).mono ?_;rintro e w1 ⟨rfl,rfl⟩;go_wp2_with fail
   go_ret2
   exact⟨by rw[ad HF];rfl,rfl⟩
  | false=>
   have HF:=hide (show nameK r=(2,skip aP r 0) by unfold nameK;rw[if_neg h8,if_neg (by intro e;rw[e] at hn;simp at hn)]);go_enter Tryz.func171,Tryz.ntmps171;go_wp2_with fail;refine (rowSmall_any r hr _).mono ?_;rintro e w1 ⟨rfl,rfl⟩;go_wp2_with fail
   go_ret2
   exact⟨by rw[ad HF];rfl,rfl⟩
theorem variable_any (r:B8)(hr:r.size<=maxLen)(w:W8):
  Calls Tryz.prog 173 #[.string r] w λ e w'=>e=.returned (.tuple #[.int .i64 (varK r).1,.int .i64 (varK r).2])/\w'=w:=by
 by_cases h8:8<skip aL r 0
 ·have HF:=hide (show varK r=(1,skip aL r 0) by unfold varK;rw[if_pos h8]);go_enter Tryz.func173,Tryz.ntmps173;go_wp2_with fail;refine (rowCapital_any r hr _).mono ?_;rintro e w1 ⟨rfl,rfl⟩;go_wp2_with fail
  go_ret2
  exact⟨by rw[ad HF];rfl,rfl⟩
 ·have HF:=hide (show varK r=(3,skip aL r 0) by unfold varK;rw[if_neg h8]);go_enter Tryz.func173,Tryz.ntmps173;go_wp2_with fail;refine (rowCapital_any r hr _).mono ?_;rintro e w1 ⟨rfl,rfl⟩;go_wp2_with fail
  go_ret2
  exact⟨by rw[ad HF];rfl,rfl⟩
theorem measure_any (r:B8)(hr:r.size<=maxLen)(w:W8):
  Calls Tryz.prog 115 #[.string r] w λ e w'=>e=.returned (.tuple #[.int .i64 (bJ r).1,.int .i64 (bJ r).2])/\w'=w:=by
 by_cases h0:0<r.size
 ·have he:r.toList.isEmpty=false:=by
   rw[ByteArray.toList_eq,List.isEmpty_eq_false_iff];intro e;have:r.data.toList.length=0:=by rw[e];rfl
   rw[Array.length_toList] at this;have h2:r.data.size=r.size:=rfl;omega
  cases hl:aP r[0].toNat with
  | true=>
   have HF:=hide (show bJ r=nameK r by unfold bJ;rw[dif_pos h0,if_pos hl]);go_enter Tryz.func115,Tryz.ntmps115;go_wp2_with fail;refine (isSmall_any _ _).mono ?_;rintro e w1 ⟨rfl,rfl⟩;go_wp2_with fail;refine (name_any r hr _).mono ?_;rintro e w1 ⟨rfl,rfl⟩;go_wp2_with fail
   go_ret2
   exact⟨by rw[ad HF];rfl,rfl⟩
  | false=>
   cases hh:aL r[0].toNat with
   | true=>
    have HF:=hide (show bJ r=varK r by unfold bJ;rw[dif_pos h0,if_neg (by rw[hl];decide),if_pos hh]);go_enter Tryz.func115,Tryz.ntmps115;go_wp2_with fail;refine (isSmall_any _ _).mono ?_;rintro e w1 ⟨rfl,rfl⟩;go_wp2_with fail;refine (isCapital_any _ _).mono ?_;rintro e w1 ⟨rfl,rfl⟩;go_wp2_with fail;refine (variable_any r hr _).mono ?_;rintro e w1 ⟨rfl,rfl⟩;go_wp2_with fail
    go_ret2
    exact⟨by rw[ad HF];rfl,rfl⟩
   | false=>
    have HF:=hide (show bJ r=signK r by unfold bJ;rw[dif_pos h0,if_neg (by rw[hl];decide),if_neg (by rw[hh];decide)]);go_enter Tryz.func115,Tryz.ntmps115;go_wp2_with fail;refine (isSmall_any _ _).mono ?_;rintro e w1 ⟨rfl,rfl⟩;go_wp2_with fail;refine (isCapital_any _ _).mono ?_;rintro e w1 ⟨rfl,rfl⟩;go_wp2_with fail;refine (sign_any r _).mono ?_;rintro e w1 ⟨rfl,rfl⟩;go_wp2_with fail
    go_ret2
    exact⟨by rw[ad HF];rfl,rfl⟩
 ·have he:r.toList.isEmpty=true:=by
   rw[ByteArray.toList_eq,List.isEmpty_iff];apply List.eq_nil_of_length_eq_zero;rw[Array.length_toList];have h2:r.data.size=r.size:=rfl;omega
  have HF:=hide (show bJ r=(0,0) by unfold bJ;rw[dif_neg h0]);go_enter Tryz.func115,Tryz.ntmps115;go_wp2_with fail
  go_ret2
  exact⟨by rw[ad HF];rfl,rfl⟩
def scVal (k:Int × Nat × Nat):Value:=.agg #[.int .i64 k.1,.int .i64 k.2.1,.int .i64 k.2.2]
theorem measK_le (r:B8):(bJ r).2<=r.size:=by
 unfold bJ
 split
 ·rename_i h;have h1:=skip_le aP r 0 (Nat.zero_le _);have h2:=skip_le aL r 0 (Nat.zero_le _)
  split
  ·unfold nameK;split;exact h1;split <;> exact h1
  ·split
   ·unfold varK;split <;> exact h2
   ·unfold signK
    split;exact h
    split;exact h
    split;exact h
    split;exact h
    split
    ·rename_i h5;exact h5.1
    ·exact h
 ·simp
theorem scan_any (s:B8)(i:Nat)(hi:i<=s.size)(hs:s.size<=maxLen)(w:W8):
  Calls Tryz.prog 73 #[.string s,.int .i64 i] w λ e w'=>e=.returned (scVal (ae s i))/\Below w.heap.size w w':=by
 have hb:=skip_ext0 aH s i hi;have ja:=skip_le aH s i hi;have im:=hs;unfold maxLen at im;have mg:(s.extract i s.size).size<=maxLen:=by rw[ext_size s i];omega
 have qb:=hide mg;have aE:=rowBlank_any (s.extract i s.size) mg;generalize skip aH (s.extract i s.size) 0=n0 at *;have F8:ae s i=((bJ (s.extract (i+n0) s.size)).1,i+n0,i+n0+(bJ (s.extract (i+n0) s.size)).2):=by unfold ae;rw[<-hb]
 have ed:=measK_le (s.extract (i+n0) s.size);rw[ext_size s _] at ed;have hle:i+n0<=s.size:=by omega
 have JF:(i:Int)+n0<=s.size:=by omega
 have mh:(s.extract (i+n0) s.size).size<=maxLen:=by rw[ext_size s _];omega
 have eX:=measure_any (s.extract (i+n0) s.size) mh;have Ig:=hide F8;have HR:=hide aE;have Eg:=hide eX;clear hb mg mh qb aE F8 eX ja;go_enter Tryz.func73,Tryz.ntmps73;go_wp2_with fail;refine (ad HR _).mono ?_;rintro e w1 ⟨rfl,rfl⟩;clear HR;go_wp2_with fail;have et:((i:Int)+n0).toNat=i+n0:=by omega
 try rw[et]
 refine (ad Eg _).mono ?_;rintro e w1 ⟨rfl,rfl⟩;clear Eg;generalize bJ (s.extract (i+n0) s.size)=K at *;go_wp2_with fail;refine bodyPost_ret (v:=scVal (ae s i)) (by rw[ad Ig];simp[results,Tryz.results73,go_sem,scVal]) rfl ⟨rfl,B9.alloc L9 _⟩
end
section
def tokK (t:Tk):Int:=
 if t.kind=46 then 0 else if t.kind=33 then 1 else if t.kind=110 then 2 else if t.kind=118 then 3 else if t.kind=119 then 4
 else if t.text.toList=[40] then 5 else if t.text.toList=[41] then 6 else if t.text.toList=[44] then 7 else if t.text.toList=[46] then 8 else 9
theorem ext_ext (s:B8)(k n:Nat)(h:k+n<=s.size):(s.extract k s.size).extract 0 n=s.extract k (k+n):=by
 apply ByteArray.ext;simp[ByteArray.data_extract,Array.extract_extract]
 congr 1
 have:s.data.size=s.size:=rfl;omega
theorem ext_one (s:B8)(k:Nat)(h:k<s.size):(s.extract k (k+1)).toList=[s[k]]:=by
 rw[ByteArray.toList_eq,ByteArray.data_extract,Array.toList_extract];have h1:s.data.toList.length=s.size:=by rw[Array.length_toList];rfl
 rw[List.extract_eq_take_drop];have e:k+1-k=1:=by omega
 rw[e,List.drop_eq_getElem_cons (by omega)];simp[List.take];rfl
theorem ext_two (s:B8)(k:Nat)(h:k+1<s.size):(s.extract k (k+2)).toList=[s[k],s[k+1]]:=by
 rw[ByteArray.toList_eq,ByteArray.data_extract,Array.toList_extract];have h1:s.data.toList.length=s.size:=by rw[Array.length_toList];rfl
 rw[List.extract_eq_take_drop];have e:k+2-k=2:=by omega
 rw[e,List.drop_eq_getElem_cons (by omega),List.drop_eq_getElem_cons (by omega)];simp[List.take];exact⟨rfl,rfl⟩
theorem u8_eq (a c:UInt8):a=c↔(a.toNat:Int)=(c.toNat:Int):=by
 constructor
 ·intro h;rw[h]
 ·intro h;exact UInt8.toNat_inj.1 (by omega)
theorem signK_eq (s:B8)(k:Nat)(hk:k<s.size):signK (s.extract k s.size) =
  if signLen s k=0 then (1,1) else if signLen s k=2 then (9,2) else (tokK ⟨115,s.extract k (k+1),k,k+1⟩,1):=by
 have hsz:(s.extract k s.size).size=s.size-k:=ext_size s k;have e1:((s.extract k s.size).extract 0 1).toList=[s[k]]:=by rw[ext_ext s k 1 (by omega),ext_one s k hk]
 have g1:1<=(s.extract k s.size).size:=by omega
 have t1:=ext_one s k hk;unfold signK tokK;simp only[e1,g1,true_and,t1,List.cons.injEq,and_true];simp only[u8_eq];unfold signLen;rw[dif_pos hk]
 by_cases rU:(s[k].toNat:Int)=58
 ·rw[if_pos rU];have n1:¬ (s[k].toNat:Int)=((40:UInt8).toNat:Int):=by rw[rU];decide
  have n2:¬ (s[k].toNat:Int)=((41:UInt8).toNat:Int):=by rw[rU];decide
  have n3:¬ (s[k].toNat:Int)=((44:UInt8).toNat:Int):=by rw[rU];decide
  have n4:¬ (s[k].toNat:Int)=((46:UInt8).toNat:Int):=by rw[rU];decide
  rw[if_neg n1,if_neg n2,if_neg n3,if_neg n4]
  by_cases h2:k+1<s.size
  ·have e2:((s.extract k s.size).extract 0 2).toList=[s[k],s[k+1]]:=(by rw[ext_ext s k 2 (by omega),ext_two s k h2]);rw[dif_pos h2,e2];have g2:2<=(s.extract k s.size).size:=(by omega);simp only[g2,true_and,List.cons.injEq,and_true,u8_eq]
   by_cases Aj:(s[k+1].toNat:Int)=45
   ·rw[if_pos ⟨by rw[rU];rfl,by rw[Aj];rfl⟩,if_pos Aj];simp
   ·rw[if_neg (λ h=>Aj (by rw[h.2];rfl)),if_neg Aj];simp
  ·rw[dif_neg h2,if_neg (by omega)];simp
 ·rw[if_neg rU];have n5:¬ (2<=(s.extract k s.size).size/\((s.extract k s.size).extract 0 2).toList=[58,45]):=by
   rintro⟨g2,h⟩;rw[ext_ext s k 2 (by omega),ext_two s k (by omega)] at h;injection h with h _
   exact rU (by rw[h];rfl)
  rw[if_neg n5]
  by_cases d1:(s[k].toNat:Int)=40
  ·simp[d1]
  ·by_cases d2:(s[k].toNat:Int)=41
   ·simp[d2]
   ·by_cases d3:(s[k].toNat:Int)=44
    ·simp[d3]
    ·by_cases d4:(s[k].toNat:Int)=46
     ·simp[d4]
     ·have m1:¬ (s[k].toNat:Int)=((40:UInt8).toNat:Int):=d1;have m2:¬ (s[k].toNat:Int)=((41:UInt8).toNat:Int):=d2;have m3:¬ (s[k].toNat:Int)=((44:UInt8).toNat:Int):=d3;have m4:¬ (s[k].toNat:Int)=((46:UInt8).toNat:Int):=d4;rw[if_neg m1,if_neg m2,if_neg m3,if_neg m4];simp[d1,d2,d3,d4]
theorem signLen_two_or (s:B8)(k:Nat):signLen s k=0\/signLen s k=1\/signLen s k=2:=by
 unfold signLen
 split
 ·split
  ·split
   ·split <;> simp
   ·simp
  ·split <;> simp
 ·simp
theorem scan_tok (s:B8)(i:Nat)(hi:i<=s.size):ae s i=(tokK (tok s i),(tok s i).at_,(tok s i).to):=by
 have hk:=skip_le aH s i hi;unfold ae tok;generalize skip aH s i=k at *;have hsz:(s.extract k s.size).size=s.size-k:=ext_size s k
 by_cases h0:s.size<=k
 ·have e:k=s.size:=by omega
  rw[tokAt,if_pos h0];unfold bJ;rw[dif_neg (by omega)];simp[tokK,e]
 ·have bP:k<s.size:=by omega
  have hl:=skip_ext0 aP s k hk;have hh:=skip_ext0 aL s k hk;have oa:0<(s.extract k s.size).size:=by omega
  have hg:(s.extract k s.size)[0]=s[k]:=by have:=ext_get s k 0 (by omega) oa;simpa using this
  rw[tokAt,if_neg h0];unfold bJ;rw[dif_pos oa]
  by_cases aX:k<skip aP s k
  ·have oo:aP s[k].toNat=true:=by
    cases hb:aP s[k].toNat with
    | true=>rfl
    | false=>rw[skip_stop aP s k bP hb] at aX;omega
   have nJ:skip aP (s.extract k s.size) 0=skip aP s k-k:=(by omega);have hle:=skip_le aP s k hk;have hex:(s.extract k s.size).extract 0 (skip aP s k-k)=s.extract k (skip aP s k):=by
    rw[ext_ext s k _ (by omega)];congr 1;omega
   rw[if_pos (by rw[hg];exact oo),if_pos aX];unfold nameK;rw[nJ,hex]
   by_cases h8:8<skip aP s k-k
   ·have nF:¬ (s.extract k (skip aP s k)).toList=[110,111,116]:=by
     intro e;have:(s.extract k (skip aP s k)).toList.length=3:=by rw[e];rfl
     rw[ByteArray.toList_eq,Array.length_toList] at this;have h2:(s.extract k (skip aP s k)).data.size=(s.extract k (skip aP s k)).size:=rfl;rw[h2,ByteArray.size_extract] at this;omega
    rw[if_pos h8,if_neg nF,if_neg (by omega)];simp[tokK];omega
   ·by_cases hn:(s.extract k (skip aP s k)).toList=[110,111,116]
    ·rw[if_neg h8,if_pos hn,if_pos hn];simp[tokK];omega
    ·rw[if_neg h8,if_neg hn,if_neg hn,if_pos (by omega)];simp[tokK];omega
  ·have oo:aP s[k].toNat=false:=by
    cases hb:aP s[k].toNat with
    | false=>rfl
    | true=>
     have h1:=skip_step aP s k bP hb;have h2:=skip_ge aP s (k+1);omega
   rw[if_neg (by rw[hg,oo];decide),if_neg aX]
   by_cases hhigh:k<skip aL s k
   ·have CC:aL s[k].toNat=true:=by
     cases hb:aL s[k].toNat with
     | true=>rfl
     | false=>rw[skip_stop aL s k bP hb] at hhigh;omega
    have nJ:skip aL (s.extract k s.size) 0=skip aL s k-k:=(by omega);rw[if_pos (by rw[hg];exact CC),if_pos hhigh];unfold varK;rw[nJ]
    by_cases h8:8<skip aL s k-k
    ·rw[if_pos h8,if_neg (by omega)];simp[tokK];omega
    ·rw[if_neg h8,if_pos (by omega)];simp[tokK];omega
   ·have CC:aL s[k].toNat=false:=by
     cases hb:aL s[k].toNat with
     | false=>rfl
     | true=>
      have h1:=skip_step aL s k bP hb;have h2:=skip_ge aL s (k+1);omega
    rw[if_neg (by rw[hg,CC];decide),if_neg hhigh,signK_eq s k bP];rcases signLen_two_or s k with h | h | h
    ·rw[if_pos h,if_pos h];simp[tokK]
    ·rw[if_neg (by omega),if_neg (by omega),if_neg (by omega),if_neg (by omega)]
    ·rw[if_neg (by omega),if_pos h,if_neg (by omega),if_pos h];have e:({ data:=#[58,45] }:B8).toList=[58,45]:=(by rw[ByteArray.toList_eq]);simp[tokK,e]
end
section
open Go.RowKit
theorem aW {a b:B8}:(a.toList==b.toList)=true↔a=b:=by
 rw[beq_iff_eq,ByteArray.toList_eq,ByteArray.toList_eq];exact⟨λ h=>ByteArray.ext (Array.toList_inj.1 h),λ h=>by rw[h]⟩
theorem less_irrefl:∀ x:List UInt8,Op.bytesLess x x=false
 | []=>rfl
 | a::r=>by simp[Op.bytesLess,less_irrefl r]
theorem jk:∀ x y z:List UInt8,Op.bytesLess x y=true->Op.bytesLess y z=true->Op.bytesLess x z=true
 | _,[],_,h,_=>by simp[Op.bytesLess] at h
 | _,_::_,[],_,h=>by simp[Op.bytesLess] at h
 | [],_::_,_::_,_,_=>rfl
 | a::x,b::y,c::z,h1,h2=>by
  simp only[Op.bytesLess,Bool.or_eq_true,Bool.and_eq_true,decide_eq_true_eq,beq_iff_eq] at h1 h2 ⊢;rcases h1 with h1 | ⟨rfl,h1⟩
  ·rcases h2 with h2 | ⟨rfl,_⟩
   ·exact .inl (UInt8.lt_trans h1 h2)
   ·exact .inl h1
  ·rcases h2 with h2 | ⟨rfl,h2⟩
   ·exact .inl h2
   ·exact .inr ⟨rfl,jk x y z h1 h2⟩
theorem less_tri:∀ x y:List UInt8,Op.bytesLess x y=false->Op.bytesLess y x=false->x=y
 | [],[],_,_=>rfl
 | [],_::_,h,_=>by simp[Op.bytesLess] at h
 | _::_,[],_,h=>by simp[Op.bytesLess] at h
 | a::x,b::y,h1,h2=>by
  simp only[Op.bytesLess,Bool.or_eq_false_iff,Bool.and_eq_false_iff,decide_eq_false_iff_not,beq_eq_false_iff_ne,ne_eq] at h1 h2;have Ao:a=b:=UInt8.le_antisymm (UInt8.not_lt.1 h2.1) (UInt8.not_lt.1 h1.1);subst Ao;rw[less_tri x y (h1.2.resolve_left (λ h=>h rfl)) (h2.2.resolve_left (λ h=>h rfl))]
def lessB (x y:B8):Bool:=Op.bytesLess x.toList y.toList
theorem lessB_irrefl (x:B8):lessB x x=false:=less_irrefl _
variable {x y:B8}
theorem ln {z:B8}(h1:lessB x y=true)(h2:lessB y z=true):lessB x z=true:=jk _ _ _ h1 h2
theorem nP (h1:lessB x y=false)(h2:lessB y x=false):x=y:=aW.1 (by rw[beq_iff_eq];exact less_tri _ _ h1 h2)
def cmpB (x y:B8):Int:=if lessB x y then -1 else if x.toList==y.toList then 0 else 1
end
end Go.Proofs.YtldkpahaocjdpaaGreat
