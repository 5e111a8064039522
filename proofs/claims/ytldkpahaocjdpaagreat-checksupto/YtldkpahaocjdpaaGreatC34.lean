/-
  Plain: what is known of a text that is taken.
-/
import Derived.Test.YtldkpahaocjdpaaGreatC33
import Derived.Shelf.Sort.Plain
import Derived.Shelf.Slices.In.SortNone
import Derived.Sort.OwnSorted
set_option maxHeartbeats 16000000
set_option maxRecDepth 1000000
namespace Go.Proofs.YtldkpahaocjdpaaGreat
section
open Go.RowKit Go.Maps
theorem zlq:∀ (l:List zL) (ps:P9),(yV l ps).1<0->zay (l.map λ A=>(A.pred,A.ae.length)) ps/\(yV l ps).2=qQ (l.map λ A=>(A.pred,A.ae.length)) ps
 | [],_,_=>⟨trivial,rfl⟩
 | A::r,ps,h=>by
  rw[yV] at h ⊢
  split at h
  ·rename_i hb;rw[if_pos hb];obtain⟨h1,h2⟩:=zlq r _ h;exact⟨⟨hb,h1⟩,h2⟩
  ·exfalso;simp only at h;omega
theorem z0q (R:zP):jJ (yT R)=R.atoms.map λ A=>(A.pred,A.ae.length):=by
 simp[jJ,yT,zP.atoms,nI]
theorem zwa (rs:List zP):(rs.map yT).flatMap jJ=(rs.flatMap zP.atoms).map λ A=>(A.pred,A.ae.length):=by
 induction rs with
 | nil=>rfl
 | cons R r ih=>rw[List.map_cons,List.flatMap_cons,List.flatMap_cons,List.map_append,ih,z0q]
theorem zz7 (ps:P9)(nm:B8)(n:Nat):(qG ps nm n).length<=ps.length+1:=by
 unfold qG;split <;> simp
theorem zps:∀ (l ps:P9),(qQ l ps).length<=ps.length+l.length
 | [],_=>Nat.le_refl _
 | x::r,ps=>by
  have h1:=zps r (qG ps x.1 x.2);have h2:=zz7 ps x.1 x.2;rw[qQ,List.length_cons];omega
theorem zwh (s:B8)(f:Nat):∀ {p:Nat} {rs:List vX} {ms:List xU},rs.length<=30->(jO s f p rs ms).2.2.1.length<=30:=by
 induction f with
 | zero=>intro p rs ms h;exact h
 | succ f ih=>
  intro p rs ms h;rw[jO]
  split
  ·exact h
  ·split
   ·exact h
   ·split
    ·refine ih ?_;rw[List.length_append,List.length_singleton];omega
    ·exact h
theorem ztl {α β:Type}(f:α->List β)(c:Nat):∀ (l:List α),(∀ x∈l,(f x).length<=c)->(l.flatMap f).length<=c*l.length
 | [],_=>Nat.zero_le _
 | x::r,h=>by
  have h1:=h x List.mem_cons_self;have h2:=ztl f c r λ y hy=>h y (List.mem_cons_of_mem _ hy)
  rw[List.flatMap_cons,List.length_append,List.length_cons,Nat.mul_add,Nat.mul_one];omega
structure R3 (s:B8)(rs:List vX)(ps:P9):Prop where
 rules:rs=(yO s).1.map yT
 fC:ps=(yA s).2
 len:rs.length<=30
 body:∀ R∈rs,R.body.length<=3
 pd:∀ R∈rs,R.pd.size<=800
 U1:∀ R∈rs,∀ l∈R.body,l.pd.size<=800
 agree:zay (rs.flatMap jJ) []
 met:qQ (rs.flatMap jJ) []=ps
 gH:ps.length<=120
 all:zd2 ps ((yO s).1.flatMap zP.atoms)
 once:zxs ps
 some_:∃ f,zd7 rs f/\∀ k,f k<=1000
variable {s:B8}
theorem zfy (h:(yH s).1=true):R3 s (yS s).2.2.1 (yA s).2:=by
 unfold yH at h
 by_cases c0:800<s.size
 ·rw[if_pos c0] at h;cases h
 rw[if_neg c0] at h
 by_cases c1:0<=(yO s).2.2
 ·rw[if_pos c1] at h;cases h
 rw[if_neg c1] at h
 by_cases c2:0<=(yA s).1
 ·rw[if_pos c2] at h;cases h
 rw[if_neg c2] at h
 by_cases c3:0<=xB (yO s).1
 ·rw[if_pos c3] at h;cases h
 rw[if_neg c3] at h
 by_cases c4:0<=vL (yA s).2 (vF (yA s).2 (yO s).1) (yO s).1
 ·rw[if_pos c4] at h;cases h
 obtain⟨e1,e2⟩:=zg7 s;have hp:(yS s).1=true:=by
  cases hq:(yS s).1 with
  | true=>rfl
  | false=>exfalso;have:=e2 hq;omega
 obtain⟨_,er,_⟩:=e1 hp;obtain⟨o1,_⟩:=zlx s (by omega) hp;have hlen:(yS s).2.2.1.length<=30:=zwh s 31 (by simp);have aL:zd2 (yA s).2 ((yO s).1.flatMap zP.atoms):=zdh _ c2;obtain⟨m1,m2⟩:=zlq ((yO s).1.flatMap zP.atoms) [] (by unfold yA at c2;omega);have LU:(yS s).2.2.1.flatMap jJ=((yO s).1.flatMap zP.atoms).map λ A=>(A.pred,A.ae.length):=by rw[er,zwa]
 have G4:qQ ((yS s).2.2.1.flatMap jJ) []=(yA s).2:=by rw[LU];exact m2.symm
 have lG:=ztl jJ 4 (yS s).2.2.1 (λ R hR=>by have:=(o1 R hR).2.1;simp[jJ];omega);have bh:=zps ((yS s).2.2.1.flatMap jJ) [];rw[G4] at bh;have kU:(yA s).2.length<=120:=by rw[List.length_nil] at bh;omega
 obtain⟨f,hf,nO⟩:=zfm _ _ aL c4;exact⟨er,rfl,hlen,λ R hR=>(o1 R hR).2.1,λ R hR=>(o1 R hR).1,λ R hR=>(o1 R hR).2.2,by rw[LU];exact m1,G4,kU,aL,by rw[<-G4];exact zlu _ [] List.nodup_nil,⟨λ k=>f (vZ (yA s).2 k),by rw[er];exact zq3 hf,λ k=>Nat.le_trans (nO (vZ (yA s).2 k)) (by omega)⟩⟩
theorem R3.named {rs:List vX}{ps:P9}(h:R3 s rs ps):∀ R∈rs,(∃ n,xH ps R.pd=some n)/\∀ l∈R.body,∃ n,xH ps l.pd=some n:=by
 intro R hR;rw[h.rules] at hR;obtain⟨Q,hQ,rfl⟩:=List.mem_map.1 hR;refine⟨⟨_,(zlt _ ps 0).2 (h.all _ (List.mem_flatMap.2 ⟨Q,hQ,List.mem_cons_self⟩))⟩,λ l hl=>?_⟩;obtain⟨A,hA,rfl⟩:=List.mem_map.1 hl;exact⟨_,(zlt _ ps 0).2 (h.all _ (List.mem_flatMap.2 ⟨Q,hQ,List.mem_cons_of_mem _ hA⟩))⟩
end
section
theorem z44 (p:Int->Bool)(s:B8)(i:Nat):∀ j,i<=j->j<skip p s i->∃ h:j<s.size,p s[j].toNat=true:=by
 fun_induction skip p s i with
 | case1 i h hp ih=>
  intro j hj aG;rcases Nat.eq_or_lt_of_le hj with rfl | hj
  ·exact⟨h,hp⟩
  ·exact ih j hj aG
 | case2 i h hp=>intro j hj aG;omega
 | case3 i h=>intro j hj aG;omega
structure nV (x:B8):Prop where
 ne:0<x.size
 le:x.size<=8
 no:∀ c∈x.data.toList,c≠40/\c≠41/\c≠44
variable {s:B8}
theorem zna {a b:Nat}(hb:b<=s.size){c:UInt8}(h:c∈(s.extract a b).data.toList):∃ (j:Nat) (hj:j<s.size),a<=j/\j<b/\s[j]=c:=by
 rw[Array.mem_toList_iff,Array.mem_iff_getElem] at h;obtain⟨i,hi,rfl⟩:=h;have aT:(s.extract a b).size=b-a:=by rw[ByteArray.size_extract];omega
 have AG:i<(s.extract a b).size:=hi;refine⟨a+i,by omega,by omega,by omega,?_⟩;have:=ByteArray.getElem_extract AG;rw[<-this];rfl
theorem z2e {p:Int->Bool}{k:Nat}(hp:∀ c:UInt8,p c.toNat=true->c≠40/\c≠41/\c≠44)(hk:k<=s.size)(h:k<skip p s k)(h8:skip p s k-k<=8):nV (s.extract k (skip p s k)):=by
 have hle:=zb8 p s k hk;refine⟨?_,?_,λ c hc=>?_⟩
 ·rw[ByteArray.size_extract];omega
 ·rw[ByteArray.size_extract];omega
 ·obtain⟨j,hj,h1,h2,rfl⟩:=zna hle hc;obtain⟨_,h3⟩:=z44 p s k j h1 h2;exact hp _ h3
theorem z9g (c:UInt8)(h:xP c.toNat=true):c≠40/\c≠41/\c≠44:=by
 refine⟨?_,?_,?_⟩ <;> (rintro rfl;revert h;decide)
theorem z7e (c:UInt8)(h:yJ c.toNat=true):c≠40/\c≠41/\c≠44:=by
 refine⟨?_,?_,?_⟩ <;> (rintro rfl;revert h;decide)
variable {p:Nat}
theorem z5m (h:(tok s p).kind=110\/(tok s p).kind=118):nV (tok s p).text:=by
 revert h
 unfold tok;generalize skip zO s p=k;unfold zgh;intro h
 by_cases c0:s.size<=k
 ·rw[if_pos c0] at h;rcases h with h | h <;> cases h
 rw[if_neg c0] at h ⊢
 by_cases c1:k<skip xP s k
 ·rw[if_pos c1] at h ⊢
  by_cases c2:(s.extract k (skip xP s k)).toList=[110,111,116]
  ·rw[if_pos c2] at h;rcases h with h | h <;> cases h
  rw[if_neg c2] at h ⊢
  by_cases c3:skip xP s k-k<=8
  ·rw[if_pos c3];exact z2e z9g (by omega) c1 c3
  ·rw[if_neg c3] at h;rcases h with h | h <;> cases h
 rw[if_neg c1] at h ⊢
 by_cases c4:k<skip yJ s k
 ·rw[if_pos c4] at h ⊢
  by_cases c3:skip yJ s k-k<=8
  ·rw[if_pos c3];exact z2e z7e (by omega) c4 c3
  ·rw[if_neg c3] at h;rcases h with h | h <;> cases h
 rw[if_neg c4] at h ⊢
 by_cases c5:xG s k=0
 ·rw[if_pos c5] at h;rcases h with h | h <;> cases h
 rw[if_neg c5] at h
 by_cases c6:xG s k=2
 ·rw[if_pos c6] at h;rcases h with h | h <;> cases h
 ·rw[if_neg c6] at h;rcases h with h | h <;> cases h
theorem zh9 (h:(zG s p).1=2\/(zG s p).1=3):nV (xR s p):=by
 by_cases hp:p<=s.size
 ·have K:=zee s p hp;rw[K.k2,K.k3] at h;rw[K.word h];exact z5m h
 ·exfalso
  have e:skip zO s p=p:=jF _ _ _ (by omega);have z:(s.extract p s.size).size=0:=by rw[ByteArray.size_extract];omega
  have:(zG s p).1=0:=by unfold zG;rw[e];simp only;unfold rP;rw[dif_neg (by omega)]
  omega
structure zit (pd:B8)(ts:List (Bool × B8)):Prop where
 pd:nV pd
 gH:ts.length<=4
 ts:∀ t∈ts,nV t.2
theorem zsd (s:B8)(f:Nat):∀ {p:Nat} {l:List (Bool × B8)} {pl:Nat->Nat},(∀ t∈l,nV t.2)->∀ t∈(yE s f p l pl).2.2.1,nV t.2:=by
 induction f with
 | zero=>intro p l pl h;exact h
 | succ f ih=>
  intro p l pl h;rw[yE]
  split
  ·rename_i hk;have h':∀ t∈l++[((zG s p).1==3,xR s p)],nV t.2:=λ t ht=>by
    rcases List.mem_append.1 ht with ht | ht
    ·exact h t ht
    ·rw[List.mem_singleton.1 ht];exact zh9 hk
   split
   ·exact ih h'
   ·exact h'
  ·exact h
theorem MG {q:Nat}{pd:B8}{ts:List (Bool × B8)}{pl:Nat->Nat}(h:x9 s p=.yes q pd ts pl):zit pd ts:=by
 have h4:=(zjd h).2;unfold x9 at h
 by_cases c1:(zG s p).1=2
 ·rw[if_pos c1] at h
  by_cases c2:(zG s (zG s p).2.2).1=5
  ·rw[if_pos c2] at h
   by_cases c3:(yE s 4 (zG s (zG s p).2.2).2.2 [] (λ _=>0)).1=true
   ·rw[if_pos c3] at h;injection h with h1 h2 h3 h4
    subst h2 h3;exact⟨zh9 (.inl c1),h4,zsd s 4 (by simp)⟩
   ·rw[if_neg c3] at h;cases h
  ·rw[if_neg c2] at h;injection h with h1 h2 h3 h4
   subst h2 h3;exact⟨zh9 (.inl c1),h4,by simp⟩
 ·rw[if_neg c1] at h;cases h
def z2y (R:vX):Prop:=zit R.pd R.ts/\∀ l∈R.body,zit l.pd l.ts
theorem zwc (s:B8)(num f:Nat):∀ {p:Nat} {l:List vJ} {ms:List xU},(∀ x∈l,zit x.pd x.ts)->∀ x∈(jE s num f p l ms).2.2.1,zit x.pd x.ts:=by
 induction f with
 | zero=>intro p l ms hl;exact hl
 | succ f ih=>
  intro p l ms hl;rw[jE]
  cases hr:x9 s (yU s p 4) with
  | no q=>exact hl
  | yes q pd ts pl=>
   have rG:∀ x∈l++[yv s p pd ts],zit x.pd x.ts:=λ x hx=>by
    rcases List.mem_append.1 hx with hx | hx
    ·exact hl x hx
    ·simp at hx;subst hx;exact MG hr
   simp only
   split
   ·exact ih (p:=(zG s q).2.2) rG
   ·exact rG
theorem zwf (s:B8)(num p:Nat)(ms:List xU)(h:(vB s num p ms).1=true):z2y (vB s num p ms).2.2.1:=by
 unfold vB at h ⊢
 cases hr:x9 s p with
 | no q=>rw[hr] at h;cases h
 | yes q pd ts pl=>
  rw[hr] at h;simp only at h ⊢
  split
  ·exact⟨MG hr,by simp⟩
  ·split
   ·exact⟨MG hr,zwc s num 3 (p:=(zG s q).2.2) (l:=[]) (by simp)⟩
   ·exact⟨MG hr,by simp⟩
theorem zsc (s:B8)(f:Nat):∀ {p:Nat} {rs:List vX} {ms:List xU},(∀ R∈rs,z2y R)->∀ R∈(jO s f p rs ms).2.2.1,z2y R:=by
 induction f with
 | zero=>intro p rs ms hr;exact hr
 | succ f ih=>
  intro p rs ms hr;rw[jO]
  split
  ·exact hr
  ·split
   ·exact hr
   ·split
    ·rename_i hy;refine ih (λ R hR=>?_);rcases List.mem_append.1 hR with hR | hR
     ·exact hr R hR
     ·simp at hR;subst hR;exact zwf s _ _ _ hy
    ·exact hr
theorem zei (s:B8):∀ R∈(yS s).2.2.1,z2y R:=zsc s 31 (by simp)
end
section
open Go.RowKit Go.Maps
structure z8u (w:W8)(tb n:Nat)(ps:P9)(S:B8->Nat)(Lf:B8->Prop)(m kC:Nat)(wr:W8):Prop where
 rg:Ir Tryz.prog 9 wr tb w.heap.size n (stV ps S) Lf kC
 lo:∀ k,(stV ps S k).isSome=true->¬ Lf k->S k+1<=m
 hi:m=0\/∃ k,(stV ps S k).isSome=true/\m=S k+1
 k:Below w.heap.size w wr
def za1 (ps:P9)(S:B8->Nat)(m:Nat):Prop:=(∀ k,(xH ps k).isSome=true->S k+1<=m)/\(m=0\/∃ k,(xH ps k).isSome=true/\m=S k+1)
theorem N9 (ps:P9)(S:B8->Nat)(k:B8):(stV ps S k).isSome=(xH ps k).isSome:=by unfold stV;cases xH ps k <;> rfl
theorem zys (w:W8)(tb n:Nat)(ps:P9)(S:B8->Nat)(h:fD Tryz.prog 9 w tb n (stV ps S))(hS:∀ k,(xH ps k).isSome=true->S k<=1000000):
  Calls Tryz.prog 59 #[.map (some tb)] w λ en w'=>∃ m:Nat,en=.returned (.int .i64 (m:Nat))/\za1 ps S m/\Below w.heap.size w w':=by
 have HS:=zC hS;have vu:=h.lt;clear hS;go_enter Tryz.func59,Tryz.ntmps59;go_wp2_with (first | (at_range;refine z5p _ rfl _ 73 rfl 9 185 Tryz.underlying9 Tryz.underlying73 tb n (stV ps S) rfl h ?_;intro w0 cnt0 hrg0 Nr AE Ck) | go_in)
 try go_frame
 have h0:z8u w tb n ps S (λ k=>(stV ps S k).isSome=true) 0 cnt0 w0:=⟨hrg0,λ k h1 h2=>absurd h1 h2,.inl rfl,⟨AE.os,AE.tape,AE.output,by omega,λ j hj=>AE.block j hj (by simp)⟩⟩;have H0:=zC h0;clear hrg0 Nr AE Ck h h0
 go_loopg [3] cnt0 (λ gg c wr=>∃ (m:Nat) (Lf:B8->Prop),c=.int .i64 (m:Nat)/\z8u w tb n ps S Lf m gg wr)
 exact⟨0,_,rfl,zA H0⟩
 case round=>
  clear H0;obtain⟨m,Lf,rfl,ay⟩:=hrel;have Cg:=ay.rg;have gJ:=zC ay;clear ay;go_wp2_with (first | (at_next;refine z8n _ rfl _ rfl 9 Tryz.underlying9 tb w.heap.size n (stV ps S) _ gk (λ k=>.agg #[.string k,.int .i64 (S k),.int .i64 ((xH ps k).getD 0:Nat)]) (z46 ps S) rfl Cg ?_ ?_) | go_in)
  ·intro kv;have HD:=zC kv;clear kv Cg;go_wp2_with fail;go_ret;have ay:=zA gJ;exact⟨m,rfl,⟨λ k hk=>ay.lo k (by rw[N9];exact hk) (zA HD k),ay.hi.imp id λ ⟨k,h1,h2⟩=>⟨k,by rw[<-N9 ps S];exact h1,h2⟩⟩,ay.k⟩
  ·intro k w1 cnt1 lB hVk hrg1 aG AF L5 GF;have od:(stV ps S k).isSome=true:=(by rw[hVk];rfl);have Ea:=zA HS k (by rw[<-N9 ps S];exact od);have Av:=zC hrg1;have Vx:=zC AF;have Wg:=zC od;have HV1:=zC lB;have ay:=zA gJ;have nj:=ay.k.size;clear L5 Cg hrg1 AF hVk od ay lB;have kX:m<=1000001:=by
    rcases (zA gJ).hi with h | ⟨j,hj,h⟩
    ·omega
    ·have:=zA HS j (by rw[<-N9 ps S];exact hj);omega
   go_wp2_with fail;go_roundg cnt1
   case measure=>omega
   case rel=>
    have ay:=zA gJ;have g1:=zA Vx;have b1:Below w.heap.size w w1:=⟨g1.os.trans ay.k.os,g1.tape.trans ay.k.tape,g1.output.trans ay.k.output,Nat.le_trans ay.k.size g1.size,λ i hi=>(g1.block i (by omega) (by simp;omega)).trans (ay.k.block i hi)⟩;refine⟨max m (S k+1),_,by congr 1;omega,(zA Av).alloc _,λ x hx hn=>?_,?_,b1.alloc b1.size _⟩
    ·by_cases e:x=k
     ·subst e;omega
     ·have:=ay.lo x hx (λ h=>hn ⟨h,e⟩);omega
    ·rcases Nat.le_total m (S k+1) with h | h
     ·right;exact⟨k,zA Wg,by omega⟩
     ·rw[Nat.max_eq_left h];exact ay.hi
end
section
def pa (A:zL):j6:=⟨A.pred,A.ae.map gZ⟩
def thA (A:zL):Th:=(A.pred,A.ae.map (·.text))
theorem zhv (n:B8):∀ e:Env,ziw e n=uH e n
 | []=>rfl
 | x::r=>by
  have:=zhv n r;unfold uH at this ⊢;rw[ziw,pAt]
  split
  ·rfl
  ·exact this
theorem zrm (e:Env)(t:xK):qY e t=zhw e (gZ t):=by
 unfold qY zhw gZ;simp only
 split
 ·exact zhv _ _
 ·rfl
theorem zkv (e:Env)(A:zL):thA (bf e A)=xZ e (pa A):=by
 unfold thA bf xZ pa;simp only[List.map_map];refine Prod.ext rfl ?_;refine List.map_congr_left λ t _=>?_
 exact zrm e t
theorem zma:∀ (ts us:List (Bool × B8)) (i:Nat),ts.map (·.2)=us.map (·.2)->vG ts i=vG us i
 | [],[],_,_=>rfl
 | [],_::_,_,h=>by cases h
 | _::_,[],_,h=>by cases h
 | t::ts,u::us,i,h=>by
  rw[List.map_cons,List.map_cons] at h;injection h with h1 h2
  rw[vG,vG,h1,zma ts us (i+1) h2]
theorem zyc {pd:B8}{ts us:List (Bool × B8)}(h:ts.map (·.2)=us.map (·.2)):zhu pd ts=zhu pd us:=by
 have hl:ts.length=us.length:=by have:=congrArg List.length h;simpa using this
 unfold zhu;rw[zma ts us 0 h,hl]
theorem zgg (A:zL):zU A=zhg (thA A):=by
 unfold zU zhg xS thA j4;rw[zyc (us:=List.map (λ x=>(false,x)) (List.map (·.text) A.ae)) (by simp[List.map_map,gZ,Function.comp_def])]
def z5x (c:UInt8):Prop:=c=40\/c=41\/c=44
theorem zia:∀ {a b x y:List UInt8},(∀ c∈a,¬ z5x c)->(∀ c∈b,¬ z5x c)->(∀ c,x.head?=some c->z5x c)->(∀ c,y.head?=some c->z5x c)->a++x=b++y->a=b/\x=y
 | [],[],_,_,_,_,_,_,h=>⟨rfl,h⟩
 | [],c::b,x,y,_,hb,hx,_,h=>by
  rw[List.nil_append,List.cons_append] at h;exact absurd (hx c (by rw[h];rfl)) (hb c List.mem_cons_self)
 | c::a,[],x,y,ha,_,_,hy,h=>by
  rw[List.nil_append,List.cons_append] at h;exact absurd (hy c (by rw[<-h];rfl)) (ha c List.mem_cons_self)
 | c::a,d::b,x,y,ha,hb,hx,hy,h=>by
  rw[List.cons_append,List.cons_append] at h;injection h with h1 h2
  obtain⟨e1,e2⟩:=zia (λ c hc=>ha c (List.mem_cons_of_mem _ hc)) (λ c hc=>hb c (List.mem_cons_of_mem _ hc)) hx hy h2;exact⟨by rw[h1,e1],e2⟩
theorem nV.sep {x:B8}(h:nV x):∀ c∈x.data.toList,¬ z5x c:=λ c hc=>by
 have:=h.no c hc;unfold z5x;simp[this]
theorem ztg {x y:B8}(h:x.data.toList=y.data.toList):x=y:=by
 cases x;cases y
 simp only at h;rw[Array.toList_inj.1 h]
theorem zku (ts:List (Bool × B8))(i:Nat):∀ c,(vG ts i++[41]).head?=some c->z5x c:=by
 intro c h
 cases ts with
 | nil=>simp[vG] at h;exact .inr (.inl h.symm)
 | cons t r=>
  rw[vG] at h;simp only[List.cons_append,List.head?_cons,Option.some.injEq] at h;rw[<-h]
  split
  ·exact .inl rfl
  ·exact .inr (.inr rfl)
theorem zqy:∀ (ts us:List (Bool × B8)) (i:Nat),(∀ t∈ts,nV t.2)->(∀ t∈us,nV t.2)->vG ts i++[41]=vG us i++[41]->ts.map (·.2)=us.map (·.2)
 | [],[],_,_,_,_=>rfl
 | [],u::us,i,_,_,h=>by
  rw[vG,vG,List.cons_append] at h;simp only[List.nil_append] at h;injection h with h1 _
  split at h1 <;> exact absurd h1 (by decide)
 | t::ts,[],i,_,_,h=>by
  rw[vG,vG,List.cons_append] at h;simp only[List.nil_append] at h;injection h with h1 _
  split at h1 <;> exact absurd h1 (by decide)
 | t::ts,u::us,i,ht,hu,h=>by
  rw[vG,vG,List.cons_append,List.cons_append] at h;injection h with _ h2
  rw[List.append_assoc,List.append_assoc] at h2;obtain⟨e1,e2⟩:=zia (ht t List.mem_cons_self).sep (hu u List.mem_cons_self).sep (zku _ _) (zku _ _) h2;rw[List.map_cons,List.map_cons,ztg e1,zqy ts us (i+1) (λ x hx=>ht x (List.mem_cons_of_mem _ hx)) (λ x hx=>hu x (List.mem_cons_of_mem _ hx)) e2]
structure DP (t:Th):Prop where
 pd:nV t.1
 ts:∀ x∈t.2,nV x
theorem zkw (t:Th):(j4 t).map (·.2)=t.2:=by unfold j4;simp[List.map_map,Function.comp_def]
theorem DP.ae {t:Th}(h:DP t):∀ x∈j4 t,nV x.2:=by
 intro x hx;obtain⟨y,hy,rfl⟩:=List.mem_map.1 hx;exact h.ts y hy
theorem zuj (ts:List (Bool × B8)):∀ c,(vG ts 0++if ts.length=0 then [] else [41]).head?=some c->z5x c:=by
 intro c h
 cases ts with
 | nil=>simp[vG] at h
 | cons t r=>
  rw[if_neg (by simp)] at h;exact zku _ _ c h
theorem ze4 {t u:Th}(ht:DP t)(hu:DP u)(h:zhg t=zhg u):t=u:=by
 have h':zhu t.1 (j4 t)=zhu u.1 (j4 u):=by
  have:=congrArg (λ x:B8=>x.data.toList) h;simpa[zhg] using this
 unfold zhu at h';obtain⟨e1,e2⟩:=zia ht.pd.sep hu.pd.sep (zuj _) (zuj _) h';have e3:(j4 t).map (·.2)=(j4 u).map (·.2):=by
  cases hT:j4 t with
  | nil=>
   cases hU:j4 u with
   | nil=>rfl
   | cons x r=>rw[hT,hU] at e2;simp[vG] at e2
  | cons y q=>
   cases hU:j4 u with
   | nil=>rw[hT,hU] at e2;simp[vG] at e2
   | cons x r=>
    rw[hT,hU,if_neg (by simp),if_neg (by simp)] at e2;have h1:=ht.ae;have h2:=hu.ae;rw[hT] at h1;rw[hU] at h2;exact zqy _ _ 0 h1 h2 e2
 rw[zkw,zkw] at e3;exact Prod.ext (ztg e1) e3
def tj (e:xF):Prop:=∀ p∈e,nV p.2
variable {v:B8} {e:xF}
theorem zt5 (h:tj e){x:B8}(hx:pAt e v=some x):nV x:=by
 induction e with
 | nil=>cases hx
 | cons p r ih=>
  rw[pAt] at hx
  split at hx
  ·cases hx;exact h p List.mem_cons_self
  ·exact ih (λ q hq=>h q (List.mem_cons_of_mem _ hq)) hx
theorem tj.snoc (h:tj e){x:B8}(hx:nV x):tj (e++[(v,x)]):=by
 intro p hp;rcases List.mem_append.1 hp with hp | hp
 ·exact h p hp
 ·rw[List.mem_singleton.1 hp];exact hx
theorem nV.list {x:B8}(h:nV x):(x.toList==[])=false:=by
 have:=h.ne;have e:x.toList≠[]:=by
  rw[ByteArray.toList_eq];intro e;have:=congrArg List.length e;rw[qR,List.length_nil] at this;omega
 simp[e]
theorem zex:∀ (ts us:List xK) (e:Env),ts.length=us.length->tj e->(∀ t∈ts,nV t.text)->(∀ u∈us,nV u.text)->jB e ts us=zlv e (ts.map gZ) (us.map (·.text))
 | [],[],e,_,_,_,_=>by rw[jB];rfl;simp
 | [],_::_,_,h,_,_,_=>by cases h
 | _::_,[],_,h,_,_,_=>by cases h
 | t::ts,u::us,e,h,he,ht,hu=>by
  have hl:ts.length=us.length:=by simpa using h
  have El:∀ x∈ts,nV x.text:=λ x hx=>ht x (List.mem_cons_of_mem _ hx)
  have nH:∀ x∈us,nV x.text:=λ x hx=>hu x (List.mem_cons_of_mem _ hx)
  have YI:=hu u List.mem_cons_self;rw[jB,List.map_cons,List.map_cons,zlv];simp only[List.headD_cons,List.tail_cons];unfold pmT
  cases hv:t.isVar with
  | true=>
   have e1:qY e t=uH e t.text:=(by unfold qY;rw[hv,if_pos rfl];exact zhv _ _);simp only[gZ,hv,if_true];rw[e1];unfold pmB uH
   cases hp:pAt e t.text with
   | none=>
    have:((Option.none:Option B8).getD { data:=#[] }).toList==[]:=by rw[ByteArray.toList_eq];rfl
    rw[if_pos this];exact zex ts us _ hl (he.snoc YI) El nH
   | some x=>
    have hx:=(zt5 he hp).list;simp only[Option.getD_some];rw[if_neg (by rw[hx];decide)]
    by_cases c:(x.toList==u.text.toList)=true
    ·rw[if_pos c,if_pos c];exact zex ts us _ hl he El nH
    ·rw[if_neg c,if_neg c]
  | false=>
   have e1:qY e t=t.text:=(by unfold qY;rw[hv,if_neg (by decide)]);simp only[gZ,hv];rw[e1,if_neg (by rw[(ht t List.mem_cons_self).list];decide)]
   by_cases c:(t.text.toList==u.text.toList)=true
   ·rw[if_pos c,if_neg (by decide),if_pos c];exact zex ts us _ hl he El nH
   ·rw[if_neg c,if_neg (by decide),if_neg c]
structure zjk (ps:P9)(a:j6):Prop where
 w:zit a.p a.ts
 num:xH ps a.p=some a.ts.length
structure sO (ps:P9)(t:Th):Prop where
 w:DP t
 num:xH ps t.1=some t.2.length
 gH:t.2.length<=4
theorem zpp {e:Env}{a th:zL}(he:tj e)(ha:zit (pa a).p (pa a).ts)(ht:DP (thA th))(hn:a.pred=th.pred->a.ae.length=th.ae.length):vN e a th=jA e (pa a) (thA th):=by
 unfold vN jA;have hb:(a.pred.toList==th.pred.toList)=true↔a.pred=th.pred:=vO
 by_cases c:(a.pred.toList==th.pred.toList)=true
 ·have hl:=hn (hb.1 c);rw[if_pos (by rw[c,hl];simp),show (pa a).p=a.pred from rfl,show Th.p (thA th)=th.pred from rfl,if_pos c];refine zex _ _ _ hl he (λ t h=>?_) (λ t h=>ht.ts _ (List.mem_map.2 ⟨t,h,rfl⟩));exact ha.ts (gZ t) (List.mem_map.2 ⟨t,h,rfl⟩)
 ·rw[if_neg (by simp only[Bool.and_eq_true];exact λ h=>c h.1),show (pa a).p=a.pred from rfl,show Th.p (thA th)=th.pred from rfl,if_neg c]
end
section
theorem Sd (v n u:B8):∀ e:xF,pAt (e++[(v,n)]) u=match pAt e u with | some x=>some x | none=>if v.toList==u.toList then some n else none
 | []=>by rw[List.nil_append,pAt,pAt];simp[pAt]
 | x::r=>by
  rw[List.cons_append,pAt,pAt]
  by_cases c:(x.1.toList==u.toList)=true
  ·rw[if_pos c,if_pos c]
  ·rw[if_neg c,if_neg c];exact Sd v n u r
structure FW (e e':xF)(k:Nat):Prop where
 w:tj e'
 len:e'.length<=e.length+k
 ext:∀ v x,pAt e v=some x->pAt e' v=some x
variable {e:xF}
theorem FW.refl (h:tj e):FW e e 0:=⟨h,by omega,λ _ _ h=>h⟩
variable {e':xF}
theorem z72 {t:zgr}{n:B8}(hn:nV n)(he:tj e)(h:pmT e t n=some e'):FW e e' 1/\(t.1=true->∃ x,pAt e' t.2=some x):=by
 unfold pmT at h
 by_cases hv:t.1=true
 ·rw[if_pos hv] at h;unfold pmB at h
  cases hp:pAt e t.2 with
  | none=>
   rw[hp] at h
   cases h
   refine⟨⟨he.snoc hn,by simp,λ v x hx=>by rw[Sd,hx]⟩,λ _=>⟨n,?_⟩⟩;rw[Sd,hp];simp
  | some x=>
   rw[hp] at h;simp only at h
   split at h
   ·cases h;exact⟨⟨he,by omega,λ _ _ h=>h⟩,λ _=>⟨x,hp⟩⟩
   ·cases h
 ·rw[if_neg hv] at h
  split at h
  ·cases h;exact⟨⟨he,by omega,λ _ _ h=>h⟩,λ c=>absurd c hv⟩
  ·cases h
theorem zt8:∀ (ts:List zgr) (ns:List B8) (e e':xF),ts.length=ns.length->(∀ x∈ns,nV x)->tj e->zlv e ts ns=some e'->FW e e' ts.length/\∀ t∈ts,t.1=true->∃ x,pAt e' t.2=some x
 | [],_,e,e',_,_,he,h=>by
  rw[zlv] at h
  cases h
  exact⟨FW.refl he,by simp⟩
 | t::ts,[],_,_,hl,_,_,_=>by cases hl
 | t::ts,n::ns,e,e',hl,hn,he,h=>by
  rw[zlv] at h;simp only[List.headD_cons,List.tail_cons] at h
  cases h1:pmT e t n with
  | none=>rw[h1] at h;cases h
  | some e1=>
   rw[h1] at h;simp only at h;obtain⟨g1,b1⟩:=z72 (hn n List.mem_cons_self) he h1;obtain⟨g2,b2⟩:=zt8 ts ns e1 e' (by simpa using hl) (λ x hx=>hn x (List.mem_cons_of_mem _ hx)) g1.w h;refine⟨⟨g2.w,by have:=g1.len;have:=g2.len;simp;omega,λ v x hx=>g2.ext v x (g1.ext v x hx)⟩,λ u hu hv=>?_⟩;rcases List.mem_cons.1 hu with rfl | hu
   ·obtain⟨x,hx⟩:=b1 hv;exact⟨x,g2.ext _ _ hx⟩
   ·exact b2 u hu hv
variable {ps:P9}
theorem zh5 {a:j6}{t:Th}(ha:zjk ps a)(ht:sO ps t)(he:tj e)(h:jA e a t=some e'):FW e e' 4/\∀ t∈a.ts,t.1=true->∃ x,pAt e' t.2=some x:=by
 unfold jA at h
 split at h
 ·rename_i c;have hp:a.p=t.1:=vO.1 c;have hl:a.ts.length=t.2.length:=by
   have h1:=ha.num;rw[hp,ht.num] at h1;exact (Option.some.inj h1).symm
  obtain⟨g,b⟩:=zt8 a.ts t.2 e e' hl ht.w.ts he h;exact⟨⟨g.w,by have:=g.len;have:=ha.w.gH;omega,g.ext⟩,b⟩
 ·cases h
theorem ziq {ps:P9}{K:List (Th × Nat)}(hK:∀ p∈K,sO ps p.1):∀ (pos:List j6) (e0 e:xF),(∀ a∈pos,zjk ps a)->tj e0->e∈yY K pos e0->FW e0 e (4*pos.length)/\∀ a∈pos,∀ t∈a.ts,t.1=true->∃ x,pAt e t.2=some x
 | [],e0,e,_,he,h=>by
  rw[yY] at h;rw[List.mem_singleton.1 h];exact⟨FW.refl he,by simp⟩
 | a::r,e0,e,ha,he,h=>by
  rw[yY] at h;obtain⟨p,hp,h⟩:=List.mem_flatMap.1 h
  cases hm:jA e0 a p.1 with
  | none=>rw[hm] at h;simp at h
  | some e1=>
   rw[hm] at h;simp only at h;obtain⟨g1,b1⟩:=zh5 (ha a List.mem_cons_self) (hK p hp) he hm;obtain⟨g2,b2⟩:=ziq hK r e1 e (λ x hx=>ha x (List.mem_cons_of_mem _ hx)) g1.w h;refine⟨⟨g2.w,by have:=g1.len;have:=g2.len;simp;omega,λ v x hx=>g2.ext v x (g1.ext v x hx)⟩,λ x hx t ht hv=>?_⟩;rcases List.mem_cons.1 hx with rfl | hx
   ·obtain⟨y,hy⟩:=b1 t ht hv;exact⟨y,g2.ext _ _ hy⟩
   ·exact b2 x hx t ht hv
theorem zpe {A:j6}(hA:zjk ps A)(he:tj e)(hb:∀ t∈A.ts,t.1=true->∃ x,pAt e t.2=some x):sO ps (xZ e A):=by
 refine⟨⟨hA.w.pd,λ x hx=>?_⟩,?_,?_⟩
 ·obtain⟨t,ht,rfl⟩:=List.mem_map.1 hx;unfold zhw
  split
  ·rename_i hv;obtain⟨x,h1⟩:=hb t ht hv;unfold uH;rw[h1];exact zt5 he h1
  ·exact hA.w.ts t ht
 ·show xH ps A.p=some (A.ts.map (zhw e)).length
  rw[List.length_map];exact hA.num
 ·show (A.ts.map (zhw e)).length<=4
  rw[List.length_map];exact hA.w.gH
theorem sO.ok {t:Th}(h:sO ps t):zhm t:=
 ⟨by have:=h.w.pd.le;show t.1.size<=_;omega,h.gH,λ x hx=>by have:=(h.w.ts x hx).le;omega,λ x hx=>(h.w.ts x hx).ne⟩
theorem z7o {ls:List (vJ × Value)}{a:j6}:a∈yZ ls↔∃ x∈ls,x.1.neg=false/\a=⟨x.1.pd,x.1.ts⟩:=by
 unfold yZ yQ;simp only[List.map_map,List.mem_map,List.mem_filter,Function.comp_def,zg3,vD]
 constructor
 ·rintro⟨x,⟨h1,h2⟩,rfl⟩;exact⟨x,h1,by simpa using h2,rfl⟩
 ·rintro⟨x,h1,h2,rfl⟩;exact⟨x,⟨h1,by simp[h2]⟩,rfl⟩
theorem z7n {ls:List (vJ × Value)}{a:j6}:a∈zbh ls↔∃ x∈ls,x.1.neg=true/\a=⟨x.1.pd,x.1.ts⟩:=by
 unfold zbh yQ;simp only[List.map_map,List.mem_map,List.mem_filter,Function.comp_def,zg3,vD]
 constructor
 ·rintro⟨x,⟨h1,h2⟩,rfl⟩;exact⟨x,h1,by simpa using h2,rfl⟩
 ·rintro⟨x,h1,h2,rfl⟩;exact⟨x,⟨h1,by simp[h2]⟩,rfl⟩
structure xh (ps:P9)(r:PR):Prop where
 l3:r.bs.length<=3
 hd:zjk ps (kz r)
 ls:∀ x∈r.bs,zjk ps ⟨x.1.pd,x.1.ts⟩
 Mz:∀ t∈(kz r).ts,t.1=true->∃ a∈yZ r.bs,t∈a.ts
 MA:∀ x∈zbh r.bs,∀ t∈x.ts,t.1=true->∃ a∈yZ r.bs,t∈a.ts
variable {r:PR}
theorem xh.pos (h:xh ps r):∀ a∈yZ r.bs,zjk ps a:=λ a ha=>by
 obtain⟨x,hx,_,rfl⟩:=z7o.1 ha;exact h.ls x hx
theorem xh.neg (h:xh ps r):∀ a∈zbh r.bs,zjk ps a:=λ a ha=>by
 obtain⟨x,hx,_,rfl⟩:=z7n.1 ha;exact h.ls x hx
theorem z73 (ls:List (vJ × Value)):(yZ ls).length<=ls.length:=by
 unfold yZ yQ;rw[List.length_map,List.length_map];exact List.length_filter_le _ _
theorem zm8:tj []:=λ p hp=>by cases hp
structure yad (ps:P9)(r:PR)(e:xF):Prop where
 w:tj e
 len:e.length<=12
 hd:sO ps (xZ e (kz r))
 neg:∀ x∈zbh r.bs,sO ps (xZ e x)
theorem xh.xe (h:xh ps r){K:List (Th × Nat)}(hK:∀ p∈K,sO ps p.1)(he:e∈yY K (yZ r.bs) []):yad ps r e:=by
 obtain⟨g,b⟩:=ziq hK (yZ r.bs) [] e h.pos zm8 he;refine⟨g.w,?_,zpe h.hd g.w λ t ht hv=>?_,λ x hx=>zpe (h.neg x hx) g.w λ t ht hv=>?_⟩
 ·have h1:=g.len;have h2:=z73 r.bs;have h3:=h.l3;rw[List.length_nil] at h1;omega
 ·obtain⟨a,ha,Hm⟩:=h.Mz t ht hv;exact b a ha t Hm hv
 ·obtain⟨a,ha,Hm⟩:=h.MA x hx t ht hv;exact b a ha t Hm hv
theorem zyq {rs:List PR}(h:∀ r∈rs,xh ps r):z8t rs (sO ps):=λ _ hK r hr=>
 have g:=h r hr
 ⟨⟨g.l3,λ x hx=>(g.ls x hx).w.gH,g.hd.w.gH,λ _ he x hx=>((g.xe hK he).neg x hx).ok,λ _ he=>(g.xe hK he).hd.ok,λ _ he=>(g.xe hK he).len⟩,λ _ he=>(g.xe hK he).hd⟩
end
section
structure ED (ps:P9)(K:List (Th × Nat))(l:List zQ):Prop where
 mem:∀ t n,(t,n)∈K↔∃ f∈l,thA f.ao=t/\f.h=n
 Y4:(K.map (·.1)).Nodup
 ndL:(l.map λ f=>thA f.ao).Nodup
 de:∀ f∈l,sO ps (thA f.ao)
 text:∀ f∈l,f.text=zhg (thA f.ao)
variable {l:List zQ} {K:List (Th × Nat)} {ps:P9}
theorem ED.ti (h:ED ps K l):∀ p∈K,sO ps p.1:=λ p hp=>by
 obtain⟨f,hf,e,_⟩:=(h.mem p.1 p.2).1 hp;rw[<-e];exact h.de f hf
theorem ED.look (h:ED ps K l)(t:Th):(j2 K t).isSome=true↔∃ f∈l,thA f.ao=t:=by
 constructor
 ·intro hs;obtain⟨n,hn⟩:=Option.isSome_iff_exists.1 hs;obtain⟨f,hf,e,_⟩:=(h.mem t n).1 (Jn hn);exact⟨f,hf,e⟩
 ·rintro⟨f,hf,rfl⟩;rw[z3x h.Y4 ((h.mem _ _).2 ⟨f,hf,rfl,rfl⟩)];rfl
theorem zpf (t:B8):∀ (l:List zQ) (k:Nat),(zaj t l k<0↔∀ f∈l,f.text≠t)
 | [],k=>by simp[zaj]
 | x::r,k=>by
  rw[zaj]
  by_cases c:(x.text.toList==t.toList)=true
  ·rw[if_pos c];have:x.text=t:=vO.1 c
   constructor
   ·intro h;omega
   ·intro h;exact absurd this (h x List.mem_cons_self)
  ·rw[if_neg c,zpf t r (k+1)];have hx:x.text≠t:=λ e=>c (vO.2 e)
   constructor
   ·intro h f hf;rcases List.mem_cons.1 hf with rfl | hf
    ·exact hx
    ·exact h f hf
   ·exact λ h f hf=>h f (List.mem_cons_of_mem _ hf)
theorem zhx (l:List zQ)(t:B8):yL l t<0↔∀ f∈l,f.text≠t:=zpf t l 0
theorem ED.find (h:ED ps K l){t:Th}(ht:sO ps t):yL l (zhg t)<0↔(j2 K t).isSome=false:=by
 rw[zhx,<-Bool.not_eq_true,h.look]
 constructor
 ·rintro h1 ⟨f,hf,e⟩;exact h1 f hf (by rw[h.text f hf,e])
 ·intro h1 f hf e;refine h1 ⟨f,hf,ze4 (h.de f hf).w ht.w ?_⟩;rw[<-h.text f hf,e]
def zok (b:List zL):List j6:=(b.filter λ A=>!A.no).map pa
def z39 (b:List zL):List j6:=(b.filter λ A=>A.no).map pa
theorem zjj {a:zL}{x:Way}{e:Env}:∀ (l:List zQ) (i:Nat),(∃ y∈zgn a x l i,y.1=e)↔∃ f∈l,vN x.1 a f.ao=some e
 | [],_=>by simp[zgn]
 | f::r,i=>by
  have ih:=zjj (a:=a) (x:=x) (e:=e) r (i+1);rw[zgn]
  constructor
  ·rintro⟨y,hy,rfl⟩;rcases List.mem_append.1 hy with hy | hy
   ·cases hm:vN x.1 a f.ao with
    | none=>rw[hm] at hy;simp at hy
    | some e'=>
     rw[hm] at hy;rw[List.mem_singleton.1 hy];exact⟨f,List.mem_cons_self,hm⟩
   ·obtain⟨g,hg,e⟩:=ih.1 ⟨y,hy,rfl⟩;exact⟨g,List.mem_cons_of_mem _ hg,e⟩
  ·rintro⟨g,hg,hm⟩;rcases List.mem_cons.1 hg with rfl | hg
   ·refine⟨(e,x.2++[i]),List.mem_append.2 (.inl ?_),rfl⟩;rw[hm];exact List.mem_singleton.2 rfl
   ·obtain⟨y,hy,e⟩:=ih.2 ⟨g,hg,hm⟩;exact⟨y,List.mem_append.2 (.inr hy),e⟩
theorem zoh {ps:P9}{K:List (Th × Nat)}{l:List zQ}(hS:ED ps K l):∀ (b:List zL) (now:List Way) (e:xF),(∀ a∈b,zjk ps (pa a))->(∀ x∈now,tj x.1)->((∃ y∈zis l b now,y.1=e)↔∃ x∈now,e∈yY K (zok b) x.1)
 | [],now,e,_,_=>by
  rw[zis]
  constructor
  ·rintro⟨y,hy,rfl⟩;exact⟨y,hy,List.mem_singleton.2 rfl⟩
  ·rintro⟨y,hy,h⟩;exact⟨y,hy,(List.mem_singleton.1 h).symm⟩
 | a::r,now,e,ha,hn=>by
  have TL:∀ x∈r,zjk ps (pa x):=λ x hx=>ha x (List.mem_cons_of_mem _ hx)
  have Fh:=ha a List.mem_cons_self;rw[zis]
  cases aR:a.no with
  | true=>
   have e1:zok (a::r)=zok r:=(by unfold zok;rw[List.filter_cons,aR];simp);rw[if_pos rfl,e1];exact zoh hS r now e TL hn
  | false=>
   have e1:zok (a::r)=pa a::zok r:=(by unfold zok;rw[List.filter_cons,aR];simp);have key:∀ x∈now,∀ f∈l,vN x.1 a f.ao=jA x.1 (pa a) (thA f.ao):=λ x hx f hf=>by
    refine zpp (hn x hx) Fh.w (hS.de f hf).w λ e=>?_
    have h1:xH ps a.pred=some (pa a).ts.length:=Fh.num;have h2:xH ps f.ao.pred=some (thA f.ao).2.length:=(hS.de f hf).num;rw[e,h2] at h1;have:=Option.some.inj h1;simp only[thA,pa,List.length_map] at this;exact this.symm
   have hw:∀ y∈zgi a l now,tj y.1:=λ y hy=>by
    obtain⟨x,hx,hy⟩:=List.mem_flatMap.1 hy;obtain⟨f,hf,hm⟩:=(zjj l 0).1 ⟨y,hy,rfl⟩;rw[key x hx f hf] at hm;exact (zh5 Fh (hS.de f hf) (hn x hx) hm).1.w
   rw[if_neg (by decide),e1,zoh hS r (zgi a l now) e TL hw]
   constructor
   ·rintro⟨y,hy,he⟩;obtain⟨x,hx,hy⟩:=List.mem_flatMap.1 hy;obtain⟨f,hf,hm⟩:=(zjj l 0).1 ⟨y,hy,rfl⟩;rw[key x hx f hf] at hm;refine⟨x,hx,?_⟩;rw[yY];refine List.mem_flatMap.2 ⟨(thA f.ao,f.h),(hS.mem _ _).2 ⟨f,hf,rfl,rfl⟩,?_⟩;rw[hm];exact he
   ·rintro⟨x,hx,he⟩;rw[yY] at he;obtain⟨p,hp,he⟩:=List.mem_flatMap.1 he;obtain⟨f,hf,cF,_⟩:=(hS.mem p.1 p.2).1 hp
    cases hm:jA x.1 (pa a) p.1 with
    | none=>rw[hm] at he;simp at he
    | some e1=>
     rw[hm] at he;have qp:vN x.1 a f.ao=some e1:=(by rw[key x hx f hf,cF];exact hm);obtain⟨y,hy,e2⟩:=(zjj (x:=x) l 0).2 ⟨f,hf,qp⟩;exact⟨y,List.mem_flatMap.2 ⟨x,hx,hy⟩,by rw[e2];exact he⟩
structure qA (R:zP)(r:PR):Prop where
 eq:r.R=yT R
 bd:r.bs.map (·.1)=r.R.body
variable {r:PR} {R:zP}
theorem qA.pos (h:qA R r):yZ r.bs=zok R.body:=by
 have e:r.bs.map (·.1)=R.body.map nI:=by rw[h.bd,h.eq];rfl
 unfold yZ yQ zok;have:∀ (ls:List (vJ × Value)) (b:List zL),ls.map (·.1)=b.map nI->((ls.filter (vD false)).map zg3).map (·.1)=(b.filter λ A=>!A.no).map pa:=by
  intro ls
  induction ls with
  | nil=>intro b hb;cases b with
   | nil=>rfl
   | cons x r=>cases hb
  | cons x q ih=>
   intro b hb
   cases b with
   | nil=>cases hb
   | cons A b=>
    rw[List.map_cons,List.map_cons] at hb;injection hb with h1 h2
    have:=ih b h2;rw[List.filter_cons,List.filter_cons];have hn:x.1.neg=A.no:=(by rw[h1];rfl);unfold vD at this ⊢;rw[hn]
    cases A.no with
    | true=>simpa using this
    | false=>
     simp only[Bool.not_false,if_true,beq_self_eq_true,List.map_cons];rw[this]
     congr 1
     show (⟨x.1.pd,x.1.ts⟩:j6)=pa A
     rw[h1];rfl
 exact this _ _ e
theorem qA.neg {R:zP}{r:PR}(h:qA R r):zbh r.bs=z39 R.body:=by
 have e:r.bs.map (·.1)=R.body.map nI:=by rw[h.bd,h.eq];rfl
 unfold zbh yQ z39;have:∀ (ls:List (vJ × Value)) (b:List zL),ls.map (·.1)=b.map nI->((ls.filter (vD true)).map zg3).map (·.1)=(b.filter λ A=>A.no).map pa:=by
  intro ls
  induction ls with
  | nil=>intro b hb;cases b with
   | nil=>rfl
   | cons x r=>cases hb
  | cons x q ih=>
   intro b hb
   cases b with
   | nil=>cases hb
   | cons A b=>
    rw[List.map_cons,List.map_cons] at hb;injection hb with h1 h2
    have:=ih b h2;rw[List.filter_cons,List.filter_cons];have hn:x.1.neg=A.no:=(by rw[h1];rfl);unfold vD at this ⊢;rw[hn]
    cases A.no with
    | false=>simpa using this
    | true=>
     simp only[if_true,beq_self_eq_true,List.map_cons];rw[this]
     congr 1
     show (⟨x.1.pd,x.1.ts⟩:j6)=pa A
     rw[h1];rfl
 exact this _ _ e
theorem qA.hd (h:qA R r):kz r=pa R.head:=by unfold kz;rw[h.eq];rfl
theorem qA.body (h:qA R r)(hg:xh ps r):∀ a∈R.body,zjk ps (pa a):=λ a ha=>by
 have e:nI a∈r.bs.map (·.1):=by rw[h.bd,h.eq];exact List.mem_map.2 ⟨a,ha,rfl⟩
 obtain⟨x,hx,NS⟩:=List.mem_map.1 e;have:=hg.ls x hx;rw[NS] at this;exact this
theorem z1a (hS:ED ps K l)(hr:qA R r)(hg:xh ps r)(e:xF):(∃ y∈zdt R l,y.1=e)↔e∈zbq K (zbh r.bs) (yZ r.bs) []:=by
 have h0:(∃ y∈zis l R.body [([],[])],y.1=e)↔e∈yY K (yZ r.bs) []:=by
  rw[zoh hS R.body [([],[])] e (hr.body hg) (λ x hx=>by rw[List.mem_singleton.1 hx];exact zm8),hr.pos]
  constructor
  ·rintro⟨x,hx,h⟩;rw[List.mem_singleton.1 hx] at h;exact h
  ·exact λ h=>⟨_,List.mem_singleton.2 rfl,h⟩
 have h1:e∈yY K (yZ r.bs) []->(R.body.all (zra l e)=true↔zag K (zbh r.bs) e=false):=λ he=>by
  have w:=hg.xe hS.ti he;have wn:=w.neg;rw[hr.neg] at wn ⊢;unfold zag;rw[List.all_eq_true,List.any_eq_false]
  constructor
  ·intro h x hx;obtain⟨A,hA,rfl⟩:=List.mem_map.1 hx;obtain⟨hA,aR⟩:=List.mem_filter.1 hA;have:=h A hA;unfold zra at this;simp only[aR,Bool.not_true,Bool.false_or,decide_eq_true_eq] at this;rw[zgg,zkv] at this;rw[(hS.find (wn _ hx)).1 this]
   decide
  ·intro h A hA;unfold zra
   cases aR:A.no with
   | false=>rfl
   | true=>
    have hx:pa A∈z39 R.body:=List.mem_map.2 ⟨A,List.mem_filter.2 ⟨hA,aR⟩,rfl⟩;have:=h _ hx;simp only[Bool.not_true,Bool.false_or,decide_eq_true_eq];rw[zgg,zkv];exact (hS.find (wn _ hx)).2 (by simpa using this)
 unfold zdt zbq
 constructor
 ·rintro⟨y,hy,rfl⟩;obtain⟨hy,hn⟩:=List.mem_filter.1 hy;have he:=h0.1 ⟨y,hy,rfl⟩;exact List.mem_filter.2 ⟨he,by rw[(h1 he).1 hn];rfl⟩
 ·intro he;obtain⟨he,hn⟩:=List.mem_filter.1 he;obtain⟨y,hy,rfl⟩:=h0.2 he;exact⟨y,List.mem_filter.2 ⟨hy,(h1 he).2 (by simpa using hn)⟩,rfl⟩
end
section
open Go.RowKit Go.Maps
def zhe (ps:P9)(A:j6):Bool:=match xH ps A.p with
 | some n=>decide (n=A.ts.length)
 | none=>true
theorem z1q (w:W8)(tb n:Nat)(ps:P9)(S:B8->Nat)(A:j6)(a:O8)(c:Nat)(h:fD Tryz.prog 9 w tb n (stV ps S))(hp:A.p.size<=maxLen):
  Calls Tryz.prog 58 #[.map (some tb),.agg #[.string A.p,.slice a A.ts.length c]] w λ en w'=>en=.returned (.bool (zhe ps A))/\Below w.heap.size w w':=by
 have k0:Below w.heap.size w (w.alloc (.cells #[.string A.p,.slice a A.ts.length c] 79)):=B9.alloc L9 _;have hm:=h.block (k0.block tb h.lt);have HK:=zC k0;clear h
 cases hn:xH ps A.p with
 | none=>
  have HS:=zC (show zhe ps A=true by unfold zhe;rw[hn]);have hu:(stV ps S A.p).getD (.agg #[.string { data:=#[] },.int .i64 0,.int .i64 0])=.agg #[.string { data:=#[] },.int .i64 0,.int .i64 0]:=by unfold stV;rw[hn];rfl
  have hc:(stV ps S A.p).isSome=false:=by unfold stV;rw[hn];rfl
  clear k0;go_enter Tryz.func58,Tryz.ntmps58;go_wp2_with (at_lookup;refine jX _ rfl _ _ 73 rfl 9 185 Tryz.underlying9 Tryz.underlying73 (Tryz.zeroValue185 _) tb n (stV ps S) rfl hm A.p rfl hp _ hu _ hc ?_);go_ret;exact⟨by rw[zA HS];rfl,(zA HK).alloc (zA HK).size _⟩
 | some m=>
  have hu:(stV ps S A.p).getD (.agg #[.string { data:=#[] },.int .i64 0,.int .i64 0])=.agg #[.string A.p,.int .i64 (S A.p),.int .i64 m]:=by unfold stV;rw[hn];rfl
  have hc:(stV ps S A.p).isSome=true:=by unfold stV;rw[hn];rfl
  have HS:=zC (show zhe ps A=((m:Int)==(A.ts.length:Int)) by
   unfold zhe;rw[hn]
   by_cases e:m=A.ts.length
   ·subst e;simp
   ·have:¬ ((m:Int)=A.ts.length):=by omega
    simp[e,this])
  clear k0;go_enter Tryz.func58,Tryz.ntmps58;go_wp2_with (at_lookup;refine jX _ rfl _ _ 73 rfl 9 185 Tryz.underlying9 Tryz.underlying73 (Tryz.zeroValue185 _) tb n (stV ps S) rfl hm A.p rfl hp _ hu _ hc ?_);go_ret;exact⟨by rw[zA HS];rfl,(zA HK).alloc (zA HK).size _⟩
end
end Go.Proofs.YtldkpahaocjdpaaGreat
