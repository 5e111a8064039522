/-
  The program's order of names: cmp.isNaN[string], cmp.Compare[string], the closure of List.
-/
import Derived.Test.YtldkpahaocjdpaaGreatE19
import Derived.Shelf.SlSortCmp.NoneTotal
import Derived.Test.YtldkpahaocjdpaaGreatE14
import Derived.Maps.RangeWalk
set_option maxHeartbeats 16000000
set_option maxRecDepth 1000000
namespace Go.Proofs.YtldkpahaocjdpaaGreat
section
open Go.RowKit Go.Maps Go.Sort
theorem zli:∀ x:List UInt8,Op.bytesLess x x=false
 | []=>rfl
 | a::r=>by simp[Op.bytesLess,zli r]
theorem Us:∀ x y z:List UInt8,Op.bytesLess x y=true->Op.bytesLess y z=true->Op.bytesLess x z=true
 | _,[],_,h,_=>by simp[Op.bytesLess] at h
 | _,_::_,[],_,h=>by simp[Op.bytesLess] at h
 | [],_::_,_::_,_,_=>rfl
 | a::x,b::y,c::z,h1,h2=>by
  simp only[Op.bytesLess,Bool.or_eq_true,Bool.and_eq_true,decide_eq_true_eq,beq_iff_eq] at h1 h2 ⊢;rcases h1 with h1 | ⟨rfl,h1⟩
  ·rcases h2 with h2 | ⟨rfl,_⟩
   ·exact .inl (UInt8.lt_trans h1 h2)
   ·exact .inl h1
  ·rcases h2 with h2 | ⟨rfl,h2⟩
   ·exact .inl h2
   ·exact .inr ⟨rfl,Us x y z h1 h2⟩
theorem zw0:∀ x y:List UInt8,Op.bytesLess x y=false->Op.bytesLess y x=false->x=y
 | [],[],_,_=>rfl
 | [],_::_,h,_=>by simp[Op.bytesLess] at h
 | _::_,[],_,h=>by simp[Op.bytesLess] at h
 | a::x,b::y,h1,h2=>by
  simp only[Op.bytesLess,Bool.or_eq_false_iff,Bool.and_eq_false_iff,decide_eq_false_iff_not,beq_eq_false_iff_ne,ne_eq] at h1 h2;have Df:a=b:=UInt8.le_antisymm (UInt8.not_lt.1 h2.1) (UInt8.not_lt.1 h1.1);subst Df;rw[zw0 x y (h1.2.resolve_left (λ h=>h rfl)) (h2.2.resolve_left (λ h=>h rfl))]
def zag (x y:B8):Bool:=Op.bytesLess x.toList y.toList
theorem zfb (x:B8):zag x x=false:=zli _
variable {x y:B8}
theorem NI {z:B8}(h1:zag x y=true)(h2:zag y z=true):zag x z=true:=Us _ _ _ h1 h2
theorem SJ (h1:zag x y=false)(h2:zag y x=false):x=y:=xO.1 (by rw[beq_iff_eq];exact zw0 _ _ h1 h2)
def zt6 (x y:B8):Int:=if zag x y then -1 else if x.toList==y.toList then 0 else 1
theorem zc0 (x y:B8):ltOf zt6 x y=zag x y:=by
 unfold ltOf zt6
 cases zag x y <;> cases x.toList==y.toList <;> simp
theorem yeu:SWO (ltOf zt6) where
 irrefl x:=by rw[zc0];exact zfb x
 trans x y z h1 h2:=by rw[zc0] at *;exact NI h1 h2
 ntrans x y z h1 h2:=by
  rw[zc0] at *
  cases h:zag x z with
  | false=>rfl
  | true=>
   cases h3:zag z y with
   | true=>rw[NI h h3] at h1;cases h1
   | false=>rw[SJ h2 h3] at h1;rw[h1] at h;cases h
theorem z5k (x:B8)(w:W8):Calls Tryz.prog 207 #[.string x] w λ e w'=>e=.returned (.bool false)/\w'=w:=by
 go_enter Tryz.func207,Tryz.ntmps207;go_wp2_with fail;go_ret;exact⟨by simp,rfl⟩
theorem zun (x y:B8)(w:W8):Calls Tryz.prog 162 #[.string x,.string y] w λ e w'=>e=.returned (.int .i64 (zt6 x y))/\w'=w:=by
 have hn:=z5k;have hc:zt6 x y=if Op.bytesLess x.toList y.toList then -1 else if x.toList==y.toList then 0 else 1:=rfl;go_enter Tryz.func162,Tryz.ntmps162;go_wp2_with (go_at_call 207;refine (hn _ _).mono ?_;rintro e w' ⟨rfl,rfl⟩)
 ·rename_i h1;go_ret;refine⟨?_,rfl⟩;rw[show zt6 x y=-1 by rw[zt6,zag,h1];rfl];rfl
 ·rename_i h1 _ _ h2;go_ret;refine⟨?_,rfl⟩;rw[show zt6 x y=1 by rw[zt6,zag,h1];simp at h2 ⊢;exact h2];rfl
 ·rename_i h1 h2;go_ret;refine⟨?_,rfl⟩;rw[show zt6 x y=0 by rw[zt6,zag,h1];simp at h2 ⊢;exact h2];rfl
end
section
open Go.RowKit
def zj3 (mk:Nat):V8:=[.string { data:=#[] },.int .i64 (-1000-(mk:Int)),.int .i64 0]
variable {xs:V8} {size n g cap base:Nat} {e:TypeId} {w:W8}
theorem vT (h:w.ownsRow base e size (.slice (some ⟨g,0,none⟩) n cap) n xs)(j:Nat)(u:Value):(w.setCell ⟨g,j,none⟩ u).ownsRow base e size (.slice (some ⟨g,0,none⟩) n cap) n (xs.set j u):=by
 obtain⟨h0,h1⟩:=h;refine⟨by simpa using h0,?_⟩;rcases h1 with⟨h1,_⟩ | ⟨g',dp,cur,hv,hb,hg,hn,hc,hs,ht⟩
 ·cases h1
 ·injection hv with h1 h2 h3
  injection h1 with h1
  injection h1 with h1
  subst h1 h3;refine .inr ⟨g,cap,_,rfl,hb,heap_setCell_same _ _ _ _ _ _ hg,hn,hc,by simpa using hs,?_⟩;rw[Array.toList_setIfInBounds,List.take_set,ht]
theorem zh5 {m:Nat}(h:w.ownsRow base e size (.slice (some ⟨g,0,none⟩) n cap) m xs):∀ j,w.frozen? ⟨g,j,none⟩=false:=by
 intro j;rcases h.2 with⟨h1,_⟩ | ⟨g',dp,cur,hv,hb,hg,_⟩
 ·cases h1
 ·injection hv with h1 h2 h3
  injection h1 with h1
  injection h1 with h1
  subst h1;simp[World.frozen?,hg]
theorem z66 (h:w.ownsRow base e size (.slice (some ⟨g,0,none⟩) n cap) n xs):n<=cap/\cap<=maxLen:=by
 rcases h.2 with⟨h1,_⟩ | ⟨g',dp,cur,hv,hb,hg,hn,hc,_⟩
 ·cases h1
 ·injection hv with h1 h2 h3
  subst h3;exact⟨hn,hc⟩
theorem zyh (h:w.ownsRow base e size (.slice (some ⟨g,0,none⟩) n cap) n xs):∀ j,j<n*size->∃ u,w.cell? ⟨g,j,none⟩=some u:=by
 intro j hj;rcases h.2 with⟨h1,_⟩ | ⟨g',dp,cur,hv,hb,hg,hn,_,hs,_⟩
 ·cases h1
 ·injection hv with h1 h2 h3
  injection h1 with h1
  injection h1 with h1
  subst h1 h3;have:j<cur.size:=by rw[hs];exact Nat.lt_of_lt_of_le hj (Nat.mul_le_mul_right _ hn)
  exact⟨cur[j],by rw[cell_of_row w g j cur e (0,0) hg];simp[this]⟩
end
section
open Go.RowKit Go.Maps
variable {x y:B8}
theorem zqq {z:B8}(h1:zag x y=false)(h2:zag y z=false):zag x z=false:=by
 have:=yeu.ntrans x y z (by rw[zc0];exact h1) (by rw[zc0];exact h2)
 rwa [zc0] at this
theorem zzt (h:zag x y=true):zag y x=false:=by
 cases h2:zag y x with
 | false=>rfl
 | true=>have:=NI h h2;rw[zfb] at this;cases this
end
section
open Go.RowKit Go.Maps Go.ChangeMaps Go.WideMaps
def Gf (P:Program)(K:TypeId)(w:W8)(b r n:Nat)(V:B8->Option Value)(L:B8->Prop)(eD:Nat):Prop:=
 ∃ (D:DataW Value) (left:Lit->Bool),w.ranges P K jP b r n D left eD/\(∀ k:B8,Maps.has D (z4x k)=(V k).isSome/\∀ z,D.atKey (z4x k) (.held z)=.held ((V k).getD z))/\∀ k,left (z4x k)=true↔L k
theorem Gf.alloc {P:Program}{K:TypeId}{w:W8}{b r n:Nat}{V:B8->Option Value}{L:B8->Prop}{eD:Nat}(h:Gf P K w b r n V L eD)(o:Obj):Gf P K (w.alloc o) b r n V L eD:=by
 obtain⟨D,left,h1,h2⟩:=h;exact⟨D,left,h1.alloc o,h2⟩
variable {kl:Lit} {k:TypeId} {P:Program}
theorem z4v (hk:P.underlying k=some .string){s:B8}(h:keyOf P k (.string s)=some kl):kl=z4x s:=by
 simp[keyOf,hk,mapKey] at h;exact h.2.symm
theorem zo1 (hk:P.underlying k=some .string){key:Value}(h:keyOf P k key=some kl):∃ s,key=.string s:=by
 cases key <;> simp[keyOf,hk,mapKey] at h
 exact⟨_,rfl⟩
section
variable {P:Program} (w:W8) {ops:Array Oper} {rest:List Oper} {o:Oper} {a:Act} {Q:Exit->Act->W8->Prop}
theorem z8t (hg:o.guard=none)(m:Operand)(t:TypeId)(pI:o.op=Op.range t m)(K e:TypeId)(hK:P.underlying K=some .string)(ht:P.underlying t=some (.map K e))(b n:Nat)(V:B8->Option Value)
  (hm:a.eval m=.map (some b)) (ay:dE P K w b n V)
  (hQ:∀ w' eD,Gf P K w' b w.heap.size n V (λ k=>(V k).isSome=true) eD->eD<=n->w.grownBy w' none->w'.heap.size=w.heap.size+1->wpList P ops Q rest (a.put o.dst (.pointer (some ⟨w.heap.size,0,none⟩))) w'):
  wpList P ops Q (o::rest) a w:=by
 obtain⟨D,hD,h3⟩:=ay;refine wpList_range_own w hg m t pI K e (string_keyed hK) ht jP b n D hm hD λ w' h1 h2 hs=>hQ w' (Maps.size D) ⟨D,_,h1,h3,λ k=>by rw[(h3 k).1]⟩ ?_ h2 hs
 obtain⟨es,clock,_,_,hn,rfl⟩:=hD;rw[Maps.size_eq,(WideShapes.sorted_perm _).length_eq];simpa using hn
theorem yak (hg:o.guard=none)(it:Operand)(pI:o.op=Op.next it false)(K:TypeId)(hK:P.underlying K=some .string)(b r n:Nat)(V:B8->Option Value)(L:B8->Prop)(eD:Nat)(mk:B8->Value)(iM:∀ k u,V k=some u->u=mk k)
  (QS:a.eval it=.pointer (some ⟨r,0,none⟩)) (h:Gf P K w b r n V L eD)
  (Bu:(∀ k,¬ L k)->wpList P ops Q rest (a.put o.dst (.tuple #[.bool false])) w)
  (Ac:∀ (k:B8) (w':W8) (oR:Nat),L k->V k=some (mk k)->Gf P K w' b r n V (λ x=>L x/\x≠k) oR->oR<eD->w.grownBy w' (some r)->w'.heap.size=w.heap.size ->
   (Instr.entry (.pointer (some ⟨r,0,none⟩))).run P w'=.ok (.tuple #[.string k,mk k]) w'->wpList P ops Q rest (a.put o.dst (.tuple #[.bool true,.string k,mk k])) w'):
  wpList P ops Q (o::rest) a w:=by
 obtain⟨D,left,h1,h2,h3⟩:=h;refine wpList_next_ranges w hg it pI K (string_keyed hK) jP Value.string (id:Value->Value) (λ key kl hkey=>zo1 hK hkey) (λ v y _=>⟨v,rfl⟩) b r n D left eD QS h1 (λ _ hl=>Bu λ k hk=>by rw[<-h3,hl] at hk;cases hk) ?_;intro x c kl y w' oR hkey aF hv dv ph aH mG bj wS;have dF:=z4v hK hkey;subst dF;have hy:=zga (v:=c) (d:=y.1) (ps:=y.2) hv;have hV:V x=some c:=by
  have e1:=(h2 x).2 undef;have e2:=(h2 x).2 (.bool true);rw[dv,hy] at e1 e2;injection e1 with e1
  injection e2 with e2
  cases hVx:V x with
  | none=>rw[hVx] at e1 e2;rw[e1] at e2;cases e2
  | some u=>rw[hVx] at e1;rw[e1];rfl
 have hc:=iM x c hV;subst hc;refine Ac x w' oR ((h3 x).1 aF) hV ⟨D,_,ph,h2,λ k=>?_⟩ aH mG bj wS;rw[Bool.and_eq_true,h3,Bool.not_eq_true'];refine and_congr_right λ _=>⟨λ hs e=>?_,λ bF=>Maps.sameKey_ne (ztq bF)⟩
 subst e;rw[WideAt.sameKey_self (by trivial)] at hs
 cases hs
end
end
section
open Go.RowKit Go.Maps
theorem z8k (ps:P9)(S:B8->Nat)(k:B8)(u:Value)(h:stV ps S k=some u):u=.agg #[.string k,.int .i64 (S k),.int .i64 ((yY ps k).getD 0:Nat)]:=by
 unfold stV at h
 cases hn:yY ps k with
 | none=>rw[hn] at h;cases h
 | some m=>rw[hn] at h;injection h with h;exact h.symm
end
section
open Go.RowKit Go.Maps
def zy9 (mk n:Nat):V8:=(List.replicate n ()).flatMap λ _=>zj3 mk
theorem yag {w:W8}{base mk:Nat}{v:Value}{n:Nat}(h:w.ownsRow base 185 3 v n (zy9 mk n))(k:Nat)(hk:k<n):∃ g cap,v=.slice (some ⟨g,0,none⟩) n cap/\g<w.heap.size/\n<=cap/\cap<=maxLen/\w.cell? ⟨g,k*3,none⟩=some (.string { data:=#[] })/\w.cell? ⟨g,k*3+1,none⟩=some (.int .i64 (-1000-(mk:Int)))/\w.cell? ⟨g,k*3+2,none⟩=some (.int .i64 0):=by
 have h':w.ownsRow base 185 3 v (List.replicate n ()).length ((List.replicate n ()).flatMap λ _=>zj3 mk):=by rw[List.length_replicate];exact h
 obtain⟨g,cap,hv,-,aZ,bO,bP,hc⟩:=vU (f:=λ _:Unit=>zj3 mk) (λ _=>rfl) h' k (by simpa using hk);rw[List.length_replicate] at hv bO;refine⟨g,cap,hv,aZ,bO,bP,?_,?_,?_⟩
 ·have:=hc 0 (by simp[zj3]);simpa[zj3] using this
 ·have:=hc 1 (by simp[zj3]);simpa[zj3] using this
 ·have:=hc 2 (by simp[zj3]);simpa[zj3] using this
theorem zb8 (w:W8)(base mk:Nat)(a:O8)(n c:Nat)(h:w.ownsRow base 185 3 (.slice a n c) n (zy9 mk n))(hn:n<=100000)(iM:mk<=1000000000000):
  Calls Tryz.prog 96 #[.slice a n c,.int .i64 mk] w λ e w'=>e=.returned (.bool true)/\w'=w:=by
 have HA:=zC h;clear h;go_enter Tryz.func96,Tryz.ntmps96;go_wp2_with fail
 go_loopg [5] n (λ gg i wr=>∃ k:Nat,k<=n/\gg=n-k/\i=.int .i64 k/\wr=w)
 exact⟨0,Nat.zero_le _,rfl,rfl,rfl⟩
 case round=>
  obtain⟨k,hk,eA,rfl,rfl⟩:=hrel
  by_cases aF:k<n
  ·obtain⟨g,cap,hv,aZ,bO,bP,p0,p1,p2⟩:=yag (zA HA) k aF;injection hv with h1 h2 h3
   subst h1 h3;go_wp2_with fail;go_roundg (n-(k+1));exact⟨k+1,by omega,rfl,by go_num,rfl⟩;omega
  ·go_wp2_with fail;go_ret;exact⟨rfl,rfl⟩
end
section
variable {ms:List xU} {rs:List zS} {n:Nat}
theorem z4b (h:qE n rs ms):∃ Q:List (zL × xU),Q.map (·.1)=rs.flatMap zS.atoms/\Q.map (·.2)=ms/\∀ x∈Q,∃ i,zjn i x.1 x.2:=by
 induction h with
 | nil n=>exact⟨[],rfl,rfl,by simp⟩
 | cons h t ih=>
  obtain⟨q,q1,q2,q3⟩:=h;obtain⟨Q,Q1,Q2,Q3⟩:=ih;refine⟨q++Q,by simp[q1,Q1],by simp[q2,Q2],λ x hx=>?_⟩;rcases List.mem_append.1 hx with hx | hx
  ·exact⟨_,q3 x hx⟩
  ·exact Q3 x hx
theorem zs2:∀ (Q:List (zL × xU)) (ps:P9),(∀ x∈Q,∃ i,zjn i x.1 x.2)->zck (Q.map (·.2)) ps=(yO (Q.map (·.1)) ps).1
 | [],ps,_=>rfl
 | x::r,ps,h=>by
  obtain⟨i,hx⟩:=h x List.mem_cons_self;have ih:=λ ps'=>zs2 r ps' (λ y hy=>h y (List.mem_cons_of_mem _ hy))
  have e1:x.2.ts.length=x.1.ae.length:=by rw[hx.ts];simp
  simp only[List.map_cons,zck,yO];rw[hx.pd,e1,ih,hx.place]
  split <;> rfl
def jF {α:Type}(F:α->Int):List α->Int
 | []=>-1
 | x::r=>if 0<=F x then F x else jF F r
theorem zjj {α:Type}(F:α->Int)(b:List α):∀ (a:List α),jF F (a++b)=if 0<=jF F a then jF F a else jF F b
 | []=>by simp[jF]
 | x::r=>by
  rw[List.cons_append,jF,jF,zjj F b r]
  by_cases h:0<=F x
  ·simp[h]
  ·simp[h]
theorem zn6 (h:qE n rs ms)(F:xU->Int)(G:zS->Int):(∀ i R ms',rs[i]?=some R->pe (n+i) R.atoms ms'->jF F ms'=G R)->jF F ms=jF G rs:=by
 induction h with
 | nil n=>intro _;rfl
 | @cons n R rs ms ms' h t ih=>
  intro hG;have h1:=hG 0 R ms rfl h
  have h2:=ih (λ i R' ms'' hi hm=>hG (i+1) R' ms'' (by simpa using hi) (by
   have e:n+(i+1)=n+1+i:=by omega
   rw[e];exact hm))
  rw[zjj,h1,h2,jF]
theorem zsp {i:Nat}{l:List zL}(h:pe i l ms)(F:xU->Int)(G:zL->Int)(hG:∀ A∈l,∀ M,zjn i A M->F M=G A):jF F ms=jF G l:=by
 obtain⟨q,rfl,rfl,q3⟩:=h
 induction q with
 | nil=>rfl
 | cons x r ih=>
  have h1:=hG x.1 (by simp) x.2 (q3 x List.mem_cons_self);have h2:=ih (λ A hA M hM=>hG A (List.mem_cons_of_mem _ hA) M hM) (λ y hy=>q3 y (List.mem_cons_of_mem _ hy));simp only[List.map_cons,jF,h1,h2]
theorem yds (v:B8)(l:List xE):znc v (l.map ed)=l.any (B5 v):=by
 unfold znc;rw[List.any_map];rfl
theorem z85 (v:B8)(body:List zL):zjl v (body.map lK)=zbe v body:=by
 unfold zjl zbe
 induction body with
 | nil=>rfl
 | cons A r ih=>
  rw[List.map_cons,List.filter_cons,List.any_cons,<-ih]
  cases hn:A.no with
  | true=>simp[lK,hn,zzb]
  | false=>simp[lK,hn,zzb,yds]
theorem zvt (body:List zL)(pl:Nat->Nat):∀ (l:List xE) (k:Nat),(∀ i (h:i<l.length),pl (k+i)=(l[i]).at_)->(match vL (body.map lK) (l.map ed) k with | some i=>(pl i:Int) | none=>-1)=xC body l
 | [],k,_=>rfl
 | t::r,k,h=>by
  have ih:=zvt body pl r (k+1) (λ i hi=>by
   have:=h (i+1) (by simpa using hi)
   rw[show k+1+i=k+(i+1) by omega,this];simp)
  simp only[List.map_cons,vL,xC];rw[show (ed t).1=t.isVar from rfl,show (ed t).2=t.text from rfl,z85]
  by_cases hc:(t.isVar&&!zbe t.text body)=true
  ·rw[if_pos hc,if_pos hc];have:=h 0 (by simp);simp only[Nat.add_zero,List.getElem_cons_zero] at this;simp only[this]
  ·rw[if_neg hc,if_neg hc];exact ih
theorem z2d {body:List zL}{A:zL}(hA:A∈body)(hn:A.no=false):xC body A.ae=-1:=by
 have key:∀ l:List xE,(∀ t∈l,t∈A.ae)->xC body l=-1:=by
  intro l
  induction l with
  | nil=>intro _;rfl
  | cons t r ih=>
   intro h;rw[xC,if_neg,ih (λ u hu=>h u (List.mem_cons_of_mem _ hu))]
   cases hv:t.isVar with
   | false=>simp
   | true=>
    have hs:zbe t.text body=true:=by
     unfold zbe;rw[List.any_eq_true];refine⟨A,hA,?_⟩;unfold zzb;rw[hn];simp only[Bool.not_false,Bool.true_and];rw[List.any_eq_true];exact⟨t,h t List.mem_cons_self,by simp[B5,hv]⟩
    simp[hs]
 exact key A.ae (λ t h=>h)
theorem zfm (body:List zL):∀ l:List zL,(∀ A∈l,A∈body)->xJ body l=jF (λ A=>xC body A.ae) l
 | [],_=>rfl
 | A::r,h=>by
  rw[xJ,jF,<-zfm body r (λ B hB=>h B (List.mem_cons_of_mem _ hB))]
  cases hn:A.no with
  | true=>simp
  | false=>
   rw[z2d (h A List.mem_cons_self) hn];simp
theorem zj1:∀ rs:List zS,yT rs=jF qL rs
 | []=>rfl
 | R::r=>by rw[yT,jF,zj1 r]
def yd3 (rs:List vY)(M:xU):Int:=match vL (zj0 rs M.num) M.ts 0 with | some i=>(M.pl i:Int) | none=>-1
theorem zil (rs:List vY):∀ ms:List xU,jQ rs ms=jF (yd3 rs) ms
 | []=>rfl
 | M::r=>by
  rw[jQ,jF,<-zil rs r];unfold yd3
  cases vL (zj0 rs M.num) M.ts 0 with
  | none=>simp
  | some i=>simp
theorem zzu (h:qE 0 rs ms):jQ (rs.map yN) ms=yT rs:=by
 rw[zil,zj1];refine zn6 h _ _ (λ i R ms' hi hm=>?_);rw[Nat.zero_add] at hm;have hb:zj0 (rs.map yN) i=R.body.map lK:=by
  unfold zj0;rw[List.getElem?_map,hi];rfl
 rw[zsp hm (yd3 (rs.map yN)) (λ A=>xC R.body A.ae) (λ A _ M hM=>?_)]
 ·unfold zS.atoms qL;rw[jF,zfm R.body R.body (λ A hA=>hA)]
 ·unfold yd3;rw[hM.num,hb,hM.ts];exact zvt R.body M.pl A.ae 0 (λ i hi=>by rw[Nat.zero_add];exact hM.pl i hi)
theorem z27 (nm:B8):∀ (l:P9) (k:Nat),0<=xR nm l k->(l.getD (xR nm l k-k).toNat (nm,0)).1=nm
 | [],k,h=>by simp[xR] at h
 | x::r,k,h=>by
  unfold xR at h ⊢
  by_cases hx:(x.1.toList==nm.toList)=true
  ·rw[if_pos hx];simp;exact xO.1 hx
  ·rw[if_neg hx] at h ⊢;have ih:=z27 nm r (k+1) h;have:=(z4a nm r (k+1) h).1;have e:(xR nm r (k+1)-(k:Int)).toNat=(xR nm r (k+1)-((k+1:Nat):Int)).toNat+1:=(by omega);rw[e];simpa using ih
def yct (ps:P9)(i:Nat):B8:=(ps.getD i ({ data:=#[] },0)).1
variable {x:B8} {ps:P9}
theorem zpb (h:0<=zM ps x):yct ps (qJ ps x)=x:=by
 have h1:=z27 x ps 0 h;have aH:=vM h;unfold yct qJ;rw[show xR x ps 0=zM ps x from rfl] at h1;simp only[Int.natCast_zero,Int.sub_zero] at h1;rw[List.getD_eq_getElem?_getD,List.getElem?_eq_getElem aH] at h1 ⊢;simpa using h1
variable {a b:B8}
theorem ybj (ha:0<=zM ps a)(hb:0<=zM ps b):(zM ps a==zM ps b)=(a.toList==b.toList):=by
 rw[Bool.eq_iff_iff]
 constructor
 ·intro h;have h1:zM ps a=zM ps b:=by simpa using h
  have h2:=zpb ha;rw[show qJ ps a=qJ ps b by unfold qJ;rw[h1],zpb hb] at h2;rw[h2];simp
 ·intro h;rw[xO.1 h];simp
theorem zmc {y:B8}:(x,y)∈jA (rs.map yN)↔∃ R∈rs,∃ A∈R.body,x=R.head.pred/\y=A.pred:=by
 unfold jA zgs
 constructor
 ·intro h;obtain⟨P,hP,h⟩:=List.mem_flatMap.1 h;obtain⟨R,hR,rfl⟩:=List.mem_map.1 hP;obtain⟨L,hL,h⟩:=List.mem_map.1 h;obtain⟨A,hA,rfl⟩:=List.mem_map.1 hL;injection h with h1 h2
  exact⟨R,hR,A,hA,h1.symm,h2.symm⟩
 ·rintro⟨R,hR,A,hA,rfl,rfl⟩;exact List.mem_flatMap.2 ⟨yN R,List.mem_map_of_mem hR,List.mem_map.2 ⟨lK A,List.mem_map_of_mem hA,rfl⟩⟩
theorem zjv {ps:P9}{h:Nat}:∀ (l:List zL) {M:Nat->Nat->Bool} {a b:Nat},zgx ps h l M a b=true->M a b=true\/(a=h/\∃ A∈l,b=qJ ps A.pred)
 | [],M,a,b,hm=>.inl hm
 | A::r,M,a,b,hm=>by
  rcases zjv r hm with h1 | ⟨h1,B,hB,h2⟩
  ·unfold upd at h1;simp at h1;rcases h1 with⟨h1,h2⟩ | h1
   ·exact .inr ⟨h1,A,List.mem_cons_self,h2⟩
   ·exact .inl h1
  ·exact .inr ⟨h1,B,List.mem_cons_of_mem _ hB,h2⟩
theorem zmv {ps:P9}:∀ (l:List zS) {M:Nat->Nat->Bool} {a b:Nat},zh8 ps l M a b=true->M a b=true\/∃ R∈l,a=qJ ps R.head.pred/\∃ A∈R.body,b=qJ ps A.pred
 | [],M,a,b,hm=>.inl hm
 | R::r,M,a,b,hm=>by
  rcases zmv r hm with h1 | ⟨R',hR,h1⟩
  ·rcases zjv R.body h1 with h2 | ⟨h2,A,hA,h3⟩
   ·exact .inl h2
   ·exact .inr ⟨R,List.mem_cons_self,h2,A,hA,h3⟩
  ·exact .inr ⟨R',List.mem_cons_of_mem _ hR,h1⟩
theorem z3y (P:Nat->Nat->Prop)(hP:∀ a b c,P a b->P b c->P a c)(n:Nat):∀ (d m:Nat) (M:Nat->Nat->Bool),n-m=d->(∀ a b,M a b=true->P a b)->∀ a b,fwM n M m a b=true->P a b:=by
 intro d
 induction d with
 | zero=>
  intro m M hd hM a b h;rw[zve (by omega)] at h;exact hM a b h
 | succ d ih=>
  intro m M hd hM a b h;rw[z0g (by omega)] at h;refine ih (m+1) _ (by omega) (λ x y D7=>?_) a b h;rw[z90 n m (n-0) 0 M rfl] at D7;simp at D7;rcases D7 with h1 | h1
  ·exact hM x y h1
  ·exact hP x m y (hM x m h1.1.2) (hM m y h1.2)
theorem zu7 {E:List zh6}{c:B8}(h:zfn E a b)(t:zfn E b c):zfn E a c:=by
 induction t with
 | one h1=>exact .next h h1
 | next _ h1 ih=>exact .next ih h1
theorem z7t (aS:zgl ps (rs.flatMap zS.atoms))(ha:0<=zM ps a)(hb:0<=zM ps b):zgn (jA (rs.map yN)) a b=vI ps rs (qJ ps a) (qJ ps b):=by
 have Lb:∀ R∈rs,0<=zM ps R.head.pred:=λ R hR=>aS _ (List.mem_flatMap.2 ⟨R,hR,List.mem_cons_self⟩)
 have iJ:∀ R∈rs,∀ A∈R.body,0<=zM ps A.pred:=λ R hR A hA=>aS _ (List.mem_flatMap.2 ⟨R,hR,List.mem_cons_of_mem _ hA⟩)
 rw[Bool.eq_iff_iff];unfold zgn;simp only[decide_eq_true_eq]
 constructor
 ·intro h;have key:∀ y,zfn (jA (rs.map yN)) a y->vI ps rs (qJ ps a) (qJ ps y)=true/\0<=zM ps y:=by
   intro y hy
   induction hy with
   | one h1=>
    obtain⟨R,hR,A,hA,rfl,rfl⟩:=zmc.1 h1;exact⟨RJ hR hA,iJ R hR A hA⟩
   | next t h1 ih=>
    obtain⟨R,hR,A,hA,rfl,rfl⟩:=zmc.1 h1;exact⟨zhr (vM ha) (vM ih.2) (vM (iJ R hR A hA)) ih.1 (RJ hR hA),iJ R hR A hA⟩
  exact (key b h).1
 ·intro h;have:=z3y (λ i j=>zfn (jA (rs.map yN)) (yct ps i) (yct ps j)) (λ _ _ _=>zu7) ps.length ps.length 0 (zh8 ps rs (λ _ _=>false)) rfl (λ i j hij=>?_) _ _ h
  ·rw[zpb ha,zpb hb] at this;exact this
  ·rcases zmv rs hij with h1 | ⟨R,hR,rfl,A,hA,rfl⟩
   ·cases h1
   ·simp only[zpb (Lb R hR),zpb (iJ R hR A hA)];exact .one (zmc.2 ⟨R,hR,A,hA,rfl,rfl⟩)
theorem zh1 (ps:P9)(H:Nat->Nat->Bool)(hd:B8):∀ l:List zL,j4 ps H hd l=jF (λ A=>if zp9 ps H hd A then (A.az:Int) else -1) l
 | []=>rfl
 | A::r=>by
  rw[j4,jF,<-zh1 ps H hd r]
  by_cases h:zp9 ps H hd A=true
  ·simp[h]
  ·simp[h]
theorem zjk (ps:P9)(H:Nat->Nat->Bool):∀ rs:List zS,vO ps H rs=jF (λ R=>j4 ps H R.head.pred R.body) rs
 | []=>rfl
 | R::r=>by rw[vO,jF,zjk ps H r]
theorem zjw (rs:List vY):∀ ms:List xU,zah rs ms=jF (λ M=>if z92 rs M then (M.start:Int) else -1) ms
 | []=>rfl
 | M::r=>by
  rw[zah,jF,<-zjw rs r]
  by_cases h:z92 rs M=true
  ·simp[h]
  ·simp[h]
theorem z6e (h:qE 0 rs ms)(aS:zgl ps (rs.flatMap zS.atoms))(aW:∀ R∈rs,R.head.no=false):zah (rs.map yN) ms=vO ps (vI ps rs) rs:=by
 rw[zjw,zjk];refine zn6 h _ _ (λ i R ms' hi hm=>?_);rw[Nat.zero_add] at hm;have hR:R∈rs:=List.mem_of_getElem? hi;have hh:zoi (rs.map yN) i=R.head.pred:=by
  unfold zoi;rw[List.getElem?_map,hi];rfl
 have hp:=aS R.head (List.mem_flatMap.2 ⟨R,hR,List.mem_cons_self⟩);rw[zsp hm _ (λ A=>if zp9 ps (vI ps rs) R.head.pred A then (A.az:Int) else -1) (λ A hA M hM=>?_)]
 ·unfold zS.atoms;rw[jF,zh1];have:zp9 ps (vI ps rs) R.head.pred R.head=false:=by unfold zp9;rw[aW R hR];rfl
  simp[this]
 ·have Kz:=aS A (List.mem_flatMap.2 ⟨R,hR,hA⟩);have e:z92 (rs.map yN) M=zp9 ps (vI ps rs) R.head.pred A:=by
   unfold z92 zp9;rw[hM.num,hh,hM.neg,hM.pd,z7t aS Kz hp,ybj Kz hp]
  simp only[e]
  by_cases hc:zp9 ps (vI ps rs) R.head.pred A=true
  ·rw[if_pos hc,if_pos hc];have:A.no=true:=by unfold zp9 at hc;simp at hc;exact hc.1
   rw[hM.start this]
  ·rw[if_neg hc,if_neg hc]
theorem zzg {s:B8}(f:Nat):∀ {p:Nat} {bd:Int} {l:List zS},(∀ R∈l,R.head.no=false)->∀ R∈(zbr s f p bd l).1,R.head.no=false:=by
 induction f with
 | zero=>intro p bd l h;exact h
 | succ f ih=>
  intro p bd l h;rw[zbr]
  split
  ·refine ih (λ R hR=>?_);rcases List.mem_append.1 hR with hR | hR
   ·exact h R hR
   ·simp at hR;subst hR;rfl
  ·exact h
theorem ybz (s:B8):z1f s=yW s:=by
 unfold z1f yW
 by_cases c0:800<s.size
 ·rw[if_pos c0,if_pos c0]
 ·rw[if_neg c0,if_neg c0]
  cases c1:(yM s).1 with
  | false=>
   have h:=(zik s).2 c1;rw[if_pos rfl,h,if_pos (by omega)]
  | true=>
   obtain⟨h1,h2,h3⟩:=(zik s).1 c1;rw[if_neg (show ¬ (true=false) by decide),h1,if_neg (show ¬ ((0:Int)<=-1) by decide),h2];obtain⟨Q,Q1,Q2,Q3⟩:=z4b h3;have ea:zck (yM s).2.2.2 []=(zT s).1:=by
    unfold zT;rw[<-Q1,<-Q2];exact zs2 Q [] Q3
   have eu:=zzu h3;unfold zfj;rw[ea,eu]
   by_cases c2:0<=(zT s).1
   ·simp[c2]
   ·have aS:zgl (zT s).2 ((yG s).1.flatMap zS.atoms):=zel _ c2;have ec:=z6e h3 aS (zzg 31 (by simp));rw[ec];rw[if_neg c2,if_neg c2]
    by_cases c3:0<=yT (yG s).1
    ·simp[c3]
    ·rw[if_neg c3,if_neg c3]
     by_cases c4:0<=vO (zT s).2 (vI (zT s).2 (yG s).1) (yG s).1
     ·simp[c4]
     ·simp[c4]
end
end Go.Proofs.YtldkpahaocjdpaaGreat
