/-
  The program's order of names: cmp.isNaN[string], cmp.Compare[string], the closure of List.
-/
import Derived.Test.YtldkpahaocjdpaaGreatE19
import Derived.Shelf.SlSortCmp.NoneTotal
import Derived.Test.YtldkpahaocjdpaaGreatE14
import Derived.Maps.RangeWalk
set_option maxHeartbeats 16000000
set_option maxRecDepth 1000000
namespace Go.Proofs.YtldkpahaocjdpaaGreat
section
open Go.RowKit Go.Maps Go.Sort
theorem zl1:∀ x:List UInt8,Op.bytesLess x x=false
 | []=>rfl
 | a::r=>by simp[Op.bytesLess,zl1 r]
theorem Vt:∀ x y z:List UInt8,Op.bytesLess x y=true->Op.bytesLess y z=true->Op.bytesLess x z=true
 | _,[],_,h,_=>by simp[Op.bytesLess] at h
 | _,_::_,[],_,h=>by simp[Op.bytesLess] at h
 | [],_::_,_::_,_,_=>rfl
 | a::x,b::y,c::z,h1,h2=>by
  simp only[Op.bytesLess,Bool.or_eq_true,Bool.and_eq_true,decide_eq_true_eq,beq_iff_eq] at h1 h2 ⊢;rcases h1 with h1 | ⟨rfl,h1⟩
  ·rcases h2 with h2 | ⟨rfl,_⟩
   ·exact .inl (UInt8.lt_trans h1 h2)
   ·exact .inl h1
  ·rcases h2 with h2 | ⟨rfl,h2⟩
   ·exact .inl h2
   ·exact .inr ⟨rfl,Vt x y z h1 h2⟩
theorem zwc:∀ x y:List UInt8,Op.bytesLess x y=false->Op.bytesLess y x=false->x=y
 | [],[],_,_=>rfl
 | [],_::_,h,_=>by simp[Op.bytesLess] at h
 | _::_,[],_,h=>by simp[Op.bytesLess] at h
 | a::x,b::y,h1,h2=>by
  simp only[Op.bytesLess,Bool.or_eq_false_iff,Bool.and_eq_false_iff,decide_eq_false_iff_not,beq_eq_false_iff_ne,ne_eq] at h1 h2;have CP:a=b:=UInt8.le_antisymm (UInt8.not_lt.1 h2.1) (UInt8.not_lt.1 h1.1);subst CP;rw[zwc x y (h1.2.resolve_left (λ h=>h rfl)) (h2.2.resolve_left (λ h=>h rfl))]
def zaf (x y:B8):Bool:=Op.bytesLess x.toList y.toList
theorem zfi (x:B8):zaf x x=false:=zl1 _
variable {x y:B8}
theorem NS {z:B8}(h1:zaf x y=true)(h2:zaf y z=true):zaf x z=true:=Vt _ _ _ h1 h2
theorem Vw (h1:zaf x y=false)(h2:zaf y x=false):x=y:=xO.1 (by rw[beq_iff_eq];exact zwc _ _ h1 h2)
def ztx (x y:B8):Int:=if zaf x y then -1 else if x.toList==y.toList then 0 else 1
theorem zcs (x y:B8):ltOf ztx x y=zaf x y:=by
 unfold ltOf ztx
 cases zaf x y <;> cases x.toList==y.toList <;> simp
theorem yev:SWO (ltOf ztx) where
 irrefl x:=by rw[zcs];exact zfi x
 trans x y z h1 h2:=by rw[zcs] at *;exact NS h1 h2
 ntrans x y z h1 h2:=by
  rw[zcs] at *
  cases h:zaf x z with
  | false=>rfl
  | true=>
   cases h3:zaf z y with
   | true=>rw[NS h h3] at h1;cases h1
   | false=>rw[Vw h2 h3] at h1;rw[h1] at h;cases h
theorem z2r (x:B8)(w:W8):Calls Tryz.prog 207 #[.string x] w λ e w'=>e=.returned (.bool false)/\w'=w:=by
 go_enter Tryz.func207,Tryz.ntmps207;go_wp2_with fail;go_ret;exact⟨by simp,rfl⟩
theorem zty (x y:B8)(w:W8):Calls Tryz.prog 162 #[.string x,.string y] w λ e w'=>e=.returned (.int .i64 (ztx x y))/\w'=w:=by
 have hn:=z2r;have hc:ztx x y=if Op.bytesLess x.toList y.toList then -1 else if x.toList==y.toList then 0 else 1:=rfl;go_enter Tryz.func162,Tryz.ntmps162;go_wp2_with (go_at_call 207;refine (hn _ _).mono ?_;rintro e w' ⟨rfl,rfl⟩)
 ·rename_i h1;go_ret;refine⟨?_,rfl⟩;rw[show ztx x y=-1 by rw[ztx,zaf,h1];rfl];rfl
 ·rename_i h1 _ _ h2;go_ret;refine⟨?_,rfl⟩;rw[show ztx x y=1 by rw[ztx,zaf,h1];simp at h2 ⊢;exact h2];rfl
 ·rename_i h1 h2;go_ret;refine⟨?_,rfl⟩;rw[show ztx x y=0 by rw[ztx,zaf,h1];simp at h2 ⊢;exact h2];rfl
end
section
open Go.RowKit
def zj5 (mk:Nat):V8:=[.string { data:=#[] },.int .i64 (-1000-(mk:Int)),.int .i64 0]
variable {xs:V8} {size n g cap base:Nat} {e:TypeId} {w:W8}
theorem vW (h:w.ownsRow base e size (.slice (some ⟨g,0,none⟩) n cap) n xs)(j:Nat)(u:Value):(w.setCell ⟨g,j,none⟩ u).ownsRow base e size (.slice (some ⟨g,0,none⟩) n cap) n (xs.set j u):=by
 obtain⟨h0,h1⟩:=h;refine⟨by simpa using h0,?_⟩;rcases h1 with⟨h1,_⟩ | ⟨g',dn,cur,hv,hb,hg,hn,hc,hs,ht⟩
 ·cases h1
 ·injection hv with h1 h2 h3
  injection h1 with h1
  injection h1 with h1
  subst h1 h3;refine .inr ⟨g,cap,_,rfl,hb,heap_setCell_same _ _ _ _ _ _ hg,hn,hc,by simpa using hs,?_⟩;rw[Array.toList_setIfInBounds,List.take_set,ht]
theorem zif {m:Nat}(h:w.ownsRow base e size (.slice (some ⟨g,0,none⟩) n cap) m xs):∀ j,w.frozen? ⟨g,j,none⟩=false:=by
 intro j;rcases h.2 with⟨h1,_⟩ | ⟨g',dn,cur,hv,hb,hg,_⟩
 ·cases h1
 ·injection hv with h1 h2 h3
  injection h1 with h1
  injection h1 with h1
  subst h1;simp[World.frozen?,hg]
theorem z8f (h:w.ownsRow base e size (.slice (some ⟨g,0,none⟩) n cap) n xs):n<=cap/\cap<=maxLen:=by
 rcases h.2 with⟨h1,_⟩ | ⟨g',dn,cur,hv,hb,hg,hn,hc,_⟩
 ·cases h1
 ·injection hv with h1 h2 h3
  subst h3;exact⟨hn,hc⟩
theorem zy0 (h:w.ownsRow base e size (.slice (some ⟨g,0,none⟩) n cap) n xs):∀ j,j<n*size->∃ u,w.cell? ⟨g,j,none⟩=some u:=by
 intro j hj;rcases h.2 with⟨h1,_⟩ | ⟨g',dn,cur,hv,hb,hg,hn,_,hs,_⟩
 ·cases h1
 ·injection hv with h1 h2 h3
  injection h1 with h1
  injection h1 with h1
  subst h1 h3;have:j<cur.size:=by rw[hs];exact Nat.lt_of_lt_of_le hj (Nat.mul_le_mul_right _ hn)
  exact⟨cur[j],by rw[cell_of_row w g j cur e (0,0) hg];simp[this]⟩
end
section
open Go.RowKit Go.Maps
variable {x y:B8}
theorem zrp {z:B8}(h1:zaf x y=false)(h2:zaf y z=false):zaf x z=false:=by
 have:=yev.ntrans x y z (by rw[zcs];exact h1) (by rw[zcs];exact h2)
 rwa [zcs] at this
theorem zyq (h:zaf x y=true):zaf y x=false:=by
 cases h2:zaf y x with
 | false=>rfl
 | true=>have:=NS h h2;rw[zfi] at this;cases this
end
section
open Go.RowKit Go.Maps Go.ChangeMaps Go.WideMaps
def Hm (P:Program)(K:TypeId)(w:W8)(b r n:Nat)(V:B8->Option Value)(L:B8->Prop)(eC:Nat):Prop:=
 ∃ (D:DataW Value) (left:Lit->Bool),w.ranges P K jP b r n D left eC/\(∀ k:B8,Maps.has D (z2y k)=(V k).isSome/\∀ z,D.atKey (z2y k) (.held z)=.held ((V k).getD z))/\∀ k,left (z2y k)=true↔L k
theorem Hm.alloc {P:Program}{K:TypeId}{w:W8}{b r n:Nat}{V:B8->Option Value}{L:B8->Prop}{eC:Nat}(h:Hm P K w b r n V L eC)(o:Obj):Hm P K (w.alloc o) b r n V L eC:=by
 obtain⟨D,left,h1,h2⟩:=h;exact⟨D,left,h1.alloc o,h2⟩
variable {kl:Lit} {k:TypeId} {P:Program}
theorem z2x (hk:P.underlying k=some .string){s:B8}(h:keyOf P k (.string s)=some kl):kl=z2y s:=by
 simp[keyOf,hk,mapKey] at h;exact h.2.symm
theorem zpj (hk:P.underlying k=some .string){key:Value}(h:keyOf P k key=some kl):∃ s,key=.string s:=by
 cases key <;> simp[keyOf,hk,mapKey] at h
 exact⟨_,rfl⟩
section
variable {P:Program} (w:W8) {ops:Array Oper} {rest:List Oper} {o:Oper} {a:Act} {Q:Exit->Act->W8->Prop}
theorem z87 (hg:o.guard=none)(m:Operand)(t:TypeId)(pE:o.op=Op.range t m)(K e:TypeId)(hK:P.underlying K=some .string)(ht:P.underlying t=some (.map K e))(b n:Nat)(V:B8->Option Value)
  (hm:a.eval m=.map (some b)) (ay:dE P K w b n V)
  (hQ:∀ w' eC,Hm P K w' b w.heap.size n V (λ k=>(V k).isSome=true) eC->eC<=n->w.grownBy w' none->w'.heap.size=w.heap.size+1->wpList P ops Q rest (a.put o.dst (.pointer (some ⟨w.heap.size,0,none⟩))) w'):
  wpList P ops Q (o::rest) a w:=by
 obtain⟨D,hD,h3⟩:=ay;refine wpList_range_own w hg m t pE K e (string_keyed hK) ht jP b n D hm hD λ w' h1 h2 hs=>hQ w' (Maps.size D) ⟨D,_,h1,h3,λ k=>by rw[(h3 k).1]⟩ ?_ h2 hs
 obtain⟨es,clock,_,_,hn,rfl⟩:=hD;rw[Maps.size_eq,(WideShapes.sorted_perm _).length_eq];simpa using hn
theorem yco (hg:o.guard=none)(it:Operand)(pE:o.op=Op.next it false)(K:TypeId)(hK:P.underlying K=some .string)(b r n:Nat)(V:B8->Option Value)(L:B8->Prop)(eC:Nat)(mk:B8->Value)(ji:∀ k u,V k=some u->u=mk k)
  (P1:a.eval it=.pointer (some ⟨r,0,none⟩)) (h:Hm P K w b r n V L eC)
  (ze:(∀ k,¬ L k)->wpList P ops Q rest (a.put o.dst (.tuple #[.bool false])) w)
  (zg:∀ (k:B8) (w':W8) (oA:Nat),L k->V k=some (mk k)->Hm P K w' b r n V (λ x=>L x/\x≠k) oA->oA<eC->w.grownBy w' (some r)->w'.heap.size=w.heap.size ->
   (Instr.entry (.pointer (some ⟨r,0,none⟩))).run P w'=.ok (.tuple #[.string k,mk k]) w'->wpList P ops Q rest (a.put o.dst (.tuple #[.bool true,.string k,mk k])) w'):
  wpList P ops Q (o::rest) a w:=by
 obtain⟨D,left,h1,h2,h3⟩:=h;refine wpList_next_ranges w hg it pE K (string_keyed hK) jP Value.string (id:Value->Value) (λ key kl hkey=>zpj hK hkey) (λ v y _=>⟨v,rfl⟩) b r n D left eC P1 h1 (λ _ hl=>ze λ k hk=>by rw[<-h3,hl] at hk;cases hk) ?_;intro x c kl y w' oA hkey aF hv du oL aH mP bj xh;have dF:=z2x hK hkey;subst dF;have hy:=zf8 (v:=c) (d:=y.1) (ps:=y.2) hv;have hV:V x=some c:=by
  have e1:=(h2 x).2 undef;have e2:=(h2 x).2 (.bool true);rw[du,hy] at e1 e2;injection e1 with e1
  injection e2 with e2
  cases hVx:V x with
  | none=>rw[hVx] at e1 e2;rw[e1] at e2;cases e2
  | some u=>rw[hVx] at e1;rw[e1];rfl
 have hc:=ji x c hV;subst hc;refine zg x w' oA ((h3 x).1 aF) hV ⟨D,_,oL,h2,λ k=>?_⟩ aH mP bj xh;rw[Bool.and_eq_true,h3,Bool.not_eq_true'];refine and_congr_right λ _=>⟨λ hs e=>?_,λ bF=>Maps.sameKey_ne (zuc bF)⟩
 subst e;rw[WideAt.sameKey_self (by trivial)] at hs
 cases hs
end
end
section
open Go.RowKit Go.Maps
theorem z8q (ps:P9)(S:B8->Nat)(k:B8)(u:Value)(h:stV ps S k=some u):u=.agg #[.string k,.int .i64 (S k),.int .i64 ((yX ps k).getD 0:Nat)]:=by
 unfold stV at h
 cases hn:yX ps k with
 | none=>rw[hn] at h;cases h
 | some m=>rw[hn] at h;injection h with h;exact h.symm
end
section
open Go.RowKit Go.Maps
def zyv (mk n:Nat):V8:=(List.replicate n ()).flatMap λ _=>zj5 mk
theorem ybh {w:W8}{base mk:Nat}{v:Value}{n:Nat}(h:w.ownsRow base 185 3 v n (zyv mk n))(k:Nat)(hk:k<n):∃ g cap,v=.slice (some ⟨g,0,none⟩) n cap/\g<w.heap.size/\n<=cap/\cap<=maxLen/\w.cell? ⟨g,k*3,none⟩=some (.string { data:=#[] })/\w.cell? ⟨g,k*3+1,none⟩=some (.int .i64 (-1000-(mk:Int)))/\w.cell? ⟨g,k*3+2,none⟩=some (.int .i64 0):=by
 have h':w.ownsRow base 185 3 v (List.replicate n ()).length ((List.replicate n ()).flatMap λ _=>zj5 mk):=by rw[List.length_replicate];exact h
 obtain⟨g,cap,hv,-,aZ,bO,bQ,hc⟩:=vX (f:=λ _:Unit=>zj5 mk) (λ _=>rfl) h' k (by simpa using hk);rw[List.length_replicate] at hv bO;refine⟨g,cap,hv,aZ,bO,bQ,?_,?_,?_⟩
 ·have:=hc 0 (by simp[zj5]);simpa[zj5] using this
 ·have:=hc 1 (by simp[zj5]);simpa[zj5] using this
 ·have:=hc 2 (by simp[zj5]);simpa[zj5] using this
theorem zb9 (w:W8)(base mk:Nat)(a:O8)(n c:Nat)(h:w.ownsRow base 185 3 (.slice a n c) n (zyv mk n))(hn:n<=100000)(ji:mk<=1000000000000):
  Calls Tryz.prog 96 #[.slice a n c,.int .i64 mk] w λ e w'=>e=.returned (.bool true)/\w'=w:=by
 have HA:=zC h;clear h;go_enter Tryz.func96,Tryz.ntmps96;go_wp2_with fail
 go_loopg [5] n (λ gg i wr=>∃ k:Nat,k<=n/\gg=n-k/\i=.int .i64 k/\wr=w)
 exact⟨0,Nat.zero_le _,rfl,rfl,rfl⟩
 case round=>
  obtain⟨k,hk,eD,rfl,rfl⟩:=hrel
  by_cases aF:k<n
  ·obtain⟨g,cap,hv,aZ,bO,bQ,p0,p1,p2⟩:=ybh (zA HA) k aF;injection hv with h1 h2 h3
   subst h1 h3;go_wp2_with fail;go_roundg (n-(k+1));exact⟨k+1,by omega,rfl,by go_num,rfl⟩;omega
  ·go_wp2_with fail;go_ret;exact⟨rfl,rfl⟩
end
section
variable {ms:List xU} {rs:List zS} {n:Nat}
theorem z5e (h:qD n rs ms):∃ Q:List (zL × xU),Q.map (·.1)=rs.flatMap zS.atoms/\Q.map (·.2)=ms/\∀ x∈Q,∃ i,zji i x.1 x.2:=by
 induction h with
 | nil n=>exact⟨[],rfl,rfl,by simp⟩
 | cons h t ih=>
  obtain⟨q,q1,q2,q3⟩:=h;obtain⟨Q,Q1,Q2,Q3⟩:=ih;refine⟨q++Q,by simp[q1,Q1],by simp[q2,Q2],λ x hx=>?_⟩;rcases List.mem_append.1 hx with hx | hx
  ·exact⟨_,q3 x hx⟩
  ·exact Q3 x hx
theorem zse:∀ (Q:List (zL × xU)) (ps:P9),(∀ x∈Q,∃ i,zji i x.1 x.2)->zcw (Q.map (·.2)) ps=(yN (Q.map (·.1)) ps).1
 | [],ps,_=>rfl
 | x::r,ps,h=>by
  obtain⟨i,hx⟩:=h x List.mem_cons_self;have ih:=λ ps'=>zse r ps' (λ y hy=>h y (List.mem_cons_of_mem _ hy))
  have e1:x.2.ts.length=x.1.ae.length:=by rw[hx.ts];simp
  simp only[List.map_cons,zcw,yN];rw[hx.pd,e1,ih,hx.place]
  split <;> rfl
def jF {α:Type}(F:α->Int):List α->Int
 | []=>-1
 | x::r=>if 0<=F x then F x else jF F r
theorem zjt {α:Type}(F:α->Int)(b:List α):∀ (a:List α),jF F (a++b)=if 0<=jF F a then jF F a else jF F b
 | []=>by simp[jF]
 | x::r=>by
  rw[List.cons_append,jF,jF,zjt F b r]
  by_cases h:0<=F x
  ·simp[h]
  ·simp[h]
theorem zou (h:qD n rs ms)(F:xU->Int)(G:zS->Int):(∀ i R ms',rs[i]?=some R->oz (n+i) R.atoms ms'->jF F ms'=G R)->jF F ms=jF G rs:=by
 induction h with
 | nil n=>intro _;rfl
 | @cons n R rs ms ms' h t ih=>
  intro hG;have h1:=hG 0 R ms rfl h
  have h2:=ih (λ i R' ms'' hi hm=>hG (i+1) R' ms'' (by simpa using hi) (by
   have e:n+(i+1)=n+1+i:=by omega
   rw[e];exact hm))
  rw[zjt,h1,h2,jF]
theorem zr3 {i:Nat}{l:List zL}(h:oz i l ms)(F:xU->Int)(G:zL->Int)(hG:∀ A∈l,∀ M,zji i A M->F M=G A):jF F ms=jF G l:=by
 obtain⟨q,rfl,rfl,q3⟩:=h
 induction q with
 | nil=>rfl
 | cons x r ih=>
  have h1:=hG x.1 (by simp) x.2 (q3 x List.mem_cons_self);have h2:=ih (λ A hA M hM=>hG A (List.mem_cons_of_mem _ hA) M hM) (λ y hy=>q3 y (List.mem_cons_of_mem _ hy));simp only[List.map_cons,jF,h1,h2]
theorem yde (v:B8)(l:List xD):znc v (l.map ed)=l.any (Co v):=by
 unfold znc;rw[List.any_map];rfl
theorem z6q (v:B8)(body:List zL):zjk v (body.map lP)=zbf v body:=by
 unfold zjk zbf
 induction body with
 | nil=>rfl
 | cons A r ih=>
  rw[List.map_cons,List.filter_cons,List.any_cons,<-ih]
  cases hn:A.no with
  | true=>simp[lP,hn,zzm]
  | false=>simp[lP,hn,zzm,yde]
theorem zwh (body:List zL)(pl:Nat->Nat):∀ (l:List xD) (k:Nat),(∀ i (h:i<l.length),pl (k+i)=(l[i]).at_)->(match vL (body.map lP) (l.map ed) k with | some i=>(pl i:Int) | none=>-1)=xC body l
 | [],k,_=>rfl
 | t::r,k,h=>by
  have ih:=zwh body pl r (k+1) (λ i hi=>by
   have:=h (i+1) (by simpa using hi)
   rw[show k+1+i=k+(i+1) by omega,this];simp)
  simp only[List.map_cons,vL,xC];rw[show (ed t).1=t.isVar from rfl,show (ed t).2=t.text from rfl,z6q]
  by_cases hc:(t.isVar&&!zbf t.text body)=true
  ·rw[if_pos hc,if_pos hc];have:=h 0 (by simp);simp only[Nat.add_zero,List.getElem_cons_zero] at this;simp only[this]
  ·rw[if_neg hc,if_neg hc];exact ih
theorem z3d {body:List zL}{A:zL}(hA:A∈body)(hn:A.no=false):xC body A.ae=-1:=by
 have key:∀ l:List xD,(∀ t∈l,t∈A.ae)->xC body l=-1:=by
  intro l
  induction l with
  | nil=>intro _;rfl
  | cons t r ih=>
   intro h;rw[xC,if_neg,ih (λ u hu=>h u (List.mem_cons_of_mem _ hu))]
   cases hv:t.isVar with
   | false=>simp
   | true=>
    have hs:zbf t.text body=true:=by
     unfold zbf;rw[List.any_eq_true];refine⟨A,hA,?_⟩;unfold zzm;rw[hn];simp only[Bool.not_false,Bool.true_and];rw[List.any_eq_true];exact⟨t,h t List.mem_cons_self,by simp[Co,hv]⟩
    simp[hs]
 exact key A.ae (λ t h=>h)
theorem zfj (body:List zL):∀ l:List zL,(∀ A∈l,A∈body)->xE body l=jF (λ A=>xC body A.ae) l
 | [],_=>rfl
 | A::r,h=>by
  rw[xE,jF,<-zfj body r (λ B hB=>h B (List.mem_cons_of_mem _ hB))]
  cases hn:A.no with
  | true=>simp
  | false=>
   rw[z3d (h A List.mem_cons_self) hn];simp
theorem zj0:∀ rs:List zS,yT rs=jF qN rs
 | []=>rfl
 | R::r=>by rw[yT,jF,zj0 r]
def yd7 (rs:List vY)(M:xU):Int:=match vL (zjl rs M.num) M.ts 0 with | some i=>(M.pl i:Int) | none=>-1
theorem zin (rs:List vY):∀ ms:List xU,jR rs ms=jF (yd7 rs) ms
 | []=>rfl
 | M::r=>by
  rw[jR,jF,<-zin rs r];unfold yd7
  cases vL (zjl rs M.num) M.ts 0 with
  | none=>simp
  | some i=>simp
theorem zzz (h:qD 0 rs ms):jR (rs.map yO) ms=yT rs:=by
 rw[zin,zj0];refine zou h _ _ (λ i R ms' hi hm=>?_);rw[Nat.zero_add] at hm;have hb:zjl (rs.map yO) i=R.body.map lP:=by
  unfold zjl;rw[List.getElem?_map,hi];rfl
 rw[zr3 hm (yd7 (rs.map yO)) (λ A=>xC R.body A.ae) (λ A _ M hM=>?_)]
 ·unfold zS.atoms qN;rw[jF,zfj R.body R.body (λ A hA=>hA)]
 ·unfold yd7;rw[hM.num,hb,hM.ts];exact zwh R.body M.pl A.ae 0 (λ i hi=>by rw[Nat.zero_add];exact hM.pl i hi)
theorem z2v (nm:B8):∀ (l:P9) (k:Nat),0<=xR nm l k->(l.getD (xR nm l k-k).toNat (nm,0)).1=nm
 | [],k,h=>by simp[xR] at h
 | x::r,k,h=>by
  unfold xR at h ⊢
  by_cases hx:(x.1.toList==nm.toList)=true
  ·rw[if_pos hx];simp;exact xO.1 hx
  ·rw[if_neg hx] at h ⊢;have ih:=z2v nm r (k+1) h;have:=(z2u nm r (k+1) h).1;have e:(xR nm r (k+1)-(k:Int)).toNat=(xR nm r (k+1)-((k+1:Nat):Int)).toNat+1:=(by omega);rw[e];simpa using ih
def ycu (ps:P9)(i:Nat):B8:=(ps.getD i ({ data:=#[] },0)).1
variable {ps:P9}
theorem zps {x:B8}(h:0<=zM ps x):ycu ps (qJ ps x)=x:=by
 have h1:=z2v x ps 0 h;have aH:=vP h;unfold ycu qJ;rw[show xR x ps 0=zM ps x from rfl] at h1;simp only[Int.natCast_zero,Int.sub_zero] at h1;rw[List.getD_eq_getElem?_getD,List.getElem?_eq_getElem aH] at h1 ⊢;simpa using h1
variable {a b:B8}
theorem ybb (ha:0<=zM ps a)(hb:0<=zM ps b):(zM ps a==zM ps b)=(a.toList==b.toList):=by
 rw[Bool.eq_iff_iff]
 constructor
 ·intro h;have h1:zM ps a=zM ps b:=by simpa using h
  have h2:=zps ha;rw[show qJ ps a=qJ ps b by unfold qJ;rw[h1],zps hb] at h2;rw[h2];simp
 ·intro h;rw[xO.1 h];simp
theorem zl6 {x y:B8}:(x,y)∈jA (rs.map yO)↔∃ R∈rs,∃ A∈R.body,x=R.head.pred/\y=A.pred:=by
 unfold jA zgq
 constructor
 ·intro h;obtain⟨P,hP,h⟩:=List.mem_flatMap.1 h;obtain⟨R,hR,rfl⟩:=List.mem_map.1 hP;obtain⟨L,hL,h⟩:=List.mem_map.1 h;obtain⟨A,hA,rfl⟩:=List.mem_map.1 hL;injection h with h1 h2
  exact⟨R,hR,A,hA,h1.symm,h2.symm⟩
 ·rintro⟨R,hR,A,hA,rfl,rfl⟩;exact List.mem_flatMap.2 ⟨yO R,List.mem_map_of_mem hR,List.mem_map.2 ⟨lP A,List.mem_map_of_mem hA,rfl⟩⟩
theorem zjr {ps:P9}{h:Nat}:∀ (l:List zL) {M:Nat->Nat->Bool} {a b:Nat},zgr ps h l M a b=true->M a b=true\/(a=h/\∃ A∈l,b=qJ ps A.pred)
 | [],M,a,b,hm=>.inl hm
 | A::r,M,a,b,hm=>by
  rcases zjr r hm with h1 | ⟨h1,B,hB,h2⟩
  ·unfold upd at h1;simp at h1;rcases h1 with⟨h1,h2⟩ | h1
   ·exact .inr ⟨h1,A,List.mem_cons_self,h2⟩
   ·exact .inl h1
  ·exact .inr ⟨h1,B,List.mem_cons_of_mem _ hB,h2⟩
theorem zk8 {ps:P9}:∀ (l:List zS) {M:Nat->Nat->Bool} {a b:Nat},zh4 ps l M a b=true->M a b=true\/∃ R∈l,a=qJ ps R.head.pred/\∃ A∈R.body,b=qJ ps A.pred
 | [],M,a,b,hm=>.inl hm
 | R::r,M,a,b,hm=>by
  rcases zk8 r hm with h1 | ⟨R',hR,h1⟩
  ·rcases zjr R.body h1 with h2 | ⟨h2,A,hA,h3⟩
   ·exact .inl h2
   ·exact .inr ⟨R,List.mem_cons_self,h2,A,hA,h3⟩
  ·exact .inr ⟨R',List.mem_cons_of_mem _ hR,h1⟩
theorem z2h (P:Nat->Nat->Prop)(hP:∀ a b c,P a b->P b c->P a c)(n:Nat):∀ (d m:Nat) (M:Nat->Nat->Bool),n-m=d->(∀ a b,M a b=true->P a b)->∀ a b,fwM n M m a b=true->P a b:=by
 intro d
 induction d with
 | zero=>
  intro m M hd hM a b h;rw[zt8 (by omega)] at h;exact hM a b h
 | succ d ih=>
  intro m M hd hM a b h;rw[z2g (by omega)] at h;refine ih (m+1) _ (by omega) (λ x y EL=>?_) a b h;rw[z9r n m (n-0) 0 M rfl] at EL;simp at EL;rcases EL with h1 | h1
  ·exact hM x y h1
  ·exact hP x m y (hM x m h1.1.2) (hM m y h1.2)
theorem zu0 {E:List zhv}{c:B8}(h:ze8 E a b)(t:ze8 E b c):ze8 E a c:=by
 induction t with
 | one h1=>exact .next h h1
 | next _ h1 ih=>exact .next ih h1
theorem z66 (aS:zgi ps (rs.flatMap zS.atoms))(ha:0<=zM ps a)(hb:0<=zM ps b):zgt (jA (rs.map yO)) a b=vI ps rs (qJ ps a) (qJ ps b):=by
 have KK:∀ R∈rs,0<=zM ps R.head.pred:=λ R hR=>aS _ (List.mem_flatMap.2 ⟨R,hR,List.mem_cons_self⟩)
 have iG:∀ R∈rs,∀ A∈R.body,0<=zM ps A.pred:=λ R hR A hA=>aS _ (List.mem_flatMap.2 ⟨R,hR,List.mem_cons_of_mem _ hA⟩)
 rw[Bool.eq_iff_iff];unfold zgt;simp only[decide_eq_true_eq]
 constructor
 ·intro h;have key:∀ y,ze8 (jA (rs.map yO)) a y->vI ps rs (qJ ps a) (qJ ps y)=true/\0<=zM ps y:=by
   intro y hy
   induction hy with
   | one h1=>
    obtain⟨R,hR,A,hA,rfl,rfl⟩:=zl6.1 h1;exact⟨RP hR hA,iG R hR A hA⟩
   | next t h1 ih=>
    obtain⟨R,hR,A,hA,rfl,rfl⟩:=zl6.1 h1;exact⟨zhb (vP ha) (vP ih.2) (vP (iG R hR A hA)) ih.1 (RP hR hA),iG R hR A hA⟩
  exact (key b h).1
 ·intro h;have:=z2h (λ i j=>ze8 (jA (rs.map yO)) (ycu ps i) (ycu ps j)) (λ _ _ _=>zu0) ps.length ps.length 0 (zh4 ps rs (λ _ _=>false)) rfl (λ i j hij=>?_) _ _ h
  ·rw[zps ha,zps hb] at this;exact this
  ·rcases zk8 rs hij with h1 | ⟨R,hR,rfl,A,hA,rfl⟩
   ·cases h1
   ·simp only[zps (KK R hR),zps (iG R hR A hA)];exact .one (zl6.2 ⟨R,hR,A,hA,rfl,rfl⟩)
theorem zh3 (ps:P9)(H:Nat->Nat->Bool)(hd:B8):∀ l:List zL,j5 ps H hd l=jF (λ A=>if zo9 ps H hd A then (A.az:Int) else -1) l
 | []=>rfl
 | A::r=>by
  rw[j5,jF,<-zh3 ps H hd r]
  by_cases h:zo9 ps H hd A=true
  ·simp[h]
  ·simp[h]
theorem zjp (ps:P9)(H:Nat->Nat->Bool):∀ rs:List zS,vN ps H rs=jF (λ R=>j5 ps H R.head.pred R.body) rs
 | []=>rfl
 | R::r=>by rw[vN,jF,zjp ps H r]
theorem zjq (rs:List vY):∀ ms:List xU,zae rs ms=jF (λ M=>if z9m rs M then (M.start:Int) else -1) ms
 | []=>rfl
 | M::r=>by
  rw[zae,jF,<-zjq rs r]
  by_cases h:z9m rs M=true
  ·simp[h]
  ·simp[h]
theorem z6x (h:qD 0 rs ms)(aS:zgi ps (rs.flatMap zS.atoms))(aX:∀ R∈rs,R.head.no=false):zae (rs.map yO) ms=vN ps (vI ps rs) rs:=by
 rw[zjq,zjp];refine zou h _ _ (λ i R ms' hi hm=>?_);rw[Nat.zero_add] at hm;have hR:R∈rs:=List.mem_of_getElem? hi;have hh:zn3 (rs.map yO) i=R.head.pred:=by
  unfold zn3;rw[List.getElem?_map,hi];rfl
 have hp:=aS R.head (List.mem_flatMap.2 ⟨R,hR,List.mem_cons_self⟩);rw[zr3 hm _ (λ A=>if zo9 ps (vI ps rs) R.head.pred A then (A.az:Int) else -1) (λ A hA M hM=>?_)]
 ·unfold zS.atoms;rw[jF,zh3];have:zo9 ps (vI ps rs) R.head.pred R.head=false:=by unfold zo9;rw[aX R hR];rfl
  simp[this]
 ·have Lj:=aS A (List.mem_flatMap.2 ⟨R,hR,hA⟩);have e:z9m (rs.map yO) M=zo9 ps (vI ps rs) R.head.pred A:=by
   unfold z9m zo9;rw[hM.num,hh,hM.neg,hM.pd,z66 aS Lj hp,ybb Lj hp]
  simp only[e]
  by_cases hc:zo9 ps (vI ps rs) R.head.pred A=true
  ·rw[if_pos hc,if_pos hc];have:A.no=true:=by unfold zo9 at hc;simp at hc;exact hc.1
   rw[hM.start this]
  ·rw[if_neg hc,if_neg hc]
theorem zzi {s:B8}(f:Nat):∀ {p:Nat} {bd:Int} {l:List zS},(∀ R∈l,R.head.no=false)->∀ R∈(zbz s f p bd l).1,R.head.no=false:=by
 induction f with
 | zero=>intro p bd l h;exact h
 | succ f ih=>
  intro p bd l h;rw[zbz]
  split
  ·refine ih (λ R hR=>?_);rcases List.mem_append.1 hR with hR | hR
   ·exact h R hR
   ·simp at hR;subst hR;rfl
  ·exact h
theorem ybf (s:B8):z4e s=yY s:=by
 unfold z4e yY
 by_cases c0:800<s.size
 ·rw[if_pos c0,if_pos c0]
 ·rw[if_neg c0,if_neg c0]
  cases c1:(yL s).1 with
  | false=>
   have h:=(zig s).2 c1;rw[if_pos rfl,h,if_pos (by omega)]
  | true=>
   obtain⟨h1,h2,h3⟩:=(zig s).1 c1;rw[if_neg (show ¬ (true=false) by decide),h1,if_neg (show ¬ ((0:Int)<=-1) by decide),h2];obtain⟨Q,Q1,Q2,Q3⟩:=z5e h3;have ea:zcw (yL s).2.2.2 []=(zT s).1:=by
    unfold zT;rw[<-Q1,<-Q2];exact zse Q [] Q3
   have eu:=zzz h3;unfold zfd;rw[ea,eu]
   by_cases c2:0<=(zT s).1
   ·simp[c2]
   ·have aS:zgi (zT s).2 ((yG s).1.flatMap zS.atoms):=zeh _ c2;have ec:=z6x h3 aS (zzi 31 (by simp));rw[ec];rw[if_neg c2,if_neg c2]
    by_cases c3:0<=yT (yG s).1
    ·simp[c3]
    ·rw[if_neg c3,if_neg c3]
     by_cases c4:0<=vN (zT s).2 (vI (zT s).2 (yG s).1) (yG s).1
     ·simp[c4]
     ·simp[c4]
end
end Go.Proofs.YtldkpahaocjdpaaGreat
