/-
  Plain: the words of a text that was read: none is empty or long, none has a bracket or a comma in it.
-/
import Derived.Test.YtldkpahaocjdpaaGreatR25
import Derived.Test.YtldkpahaocjdpaaGreatR26
import Derived.Sort.OwnSorted
set_option maxHeartbeats 16000000
set_option maxRecDepth 1000000
namespace Go.Proofs.YtldkpahaocjdpaaGreat
section
theorem zyb (p:Int->Bool)(s:B8)(i:Nat):∀ j,i<=j->j<skip p s i->∃ h:j<s.size,p s[j].toNat=true:=by
 fun_induction skip p s i with
 | case1 i h hp ih=>
  intro j hj bP;rcases Nat.eq_or_lt_of_le hj with rfl | hj
  ·exact⟨h,hp⟩
  ·exact ih j hj bP
 | case2 i h hp=>intro j hj bP;omega
 | case3 i h=>intro j hj bP;omega
structure cJ (x:B8):Prop where
 ne:0<x.size
 le:x.size<=8
 no:∀ c∈x.data.toList,c≠40/\c≠41/\c≠44
variable {s:B8}
theorem zhr {a b:Nat}(hb:b<=s.size){c:UInt8}(h:c∈(s.extract a b).data.toList):∃ (j:Nat) (hj:j<s.size),a<=j/\j<b/\s[j]=c:=by
 rw[Array.mem_toList_iff,Array.mem_iff_getElem] at h;obtain⟨i,hi,rfl⟩:=h;have hsz:(s.extract a b).size=b-a:=by rw[ByteArray.size_extract];omega
 have Jr:i<(s.extract a b).size:=hi;refine⟨a+i,by omega,by omega,by omega,?_⟩;have:=ByteArray.getElem_extract Jr;rw[<-this];rfl
theorem z6f {p:Int->Bool}{k:Nat}(hp:∀ c:UInt8,p c.toNat=true->c≠40/\c≠41/\c≠44)(hk:k<=s.size)(h:k<skip p s k)(h8:skip p s k-k<=8):cJ (s.extract k (skip p s k)):=by
 have hle:=zed p s k hk;refine⟨?_,?_,λ c hc=>?_⟩
 ·rw[ByteArray.size_extract];omega
 ·rw[ByteArray.size_extract];omega
 ·obtain⟨j,hj,h1,h2,rfl⟩:=zhr hle hc;obtain⟨_,h3⟩:=zyb p s k j h1 h2;exact hp _ h3
theorem yeh (c:UInt8)(h:jD c.toNat=true):c≠40/\c≠41/\c≠44:=by
 refine⟨?_,?_,?_⟩ <;> (rintro rfl;revert h;decide)
theorem yby (c:UInt8)(h:yZ c.toNat=true):c≠40/\c≠41/\c≠44:=by
 refine⟨?_,?_,?_⟩ <;> (rintro rfl;revert h;decide)
variable {p:Nat}
theorem z9n (h:(tok s p).kind=110\/(tok s p).kind=118):cJ (tok s p).text:=by
 revert h
 unfold tok;generalize skip yG s p=k;unfold z05;intro h
 by_cases c0:s.size<=k
 ·rw[if_pos c0] at h;rcases h with h | h <;> cases h
 rw[if_neg c0] at h ⊢
 by_cases c1:k<skip jD s k
 ·rw[if_pos c1] at h ⊢
  by_cases c2:(s.extract k (skip jD s k)).toList=[110,111,116]
  ·rw[if_pos c2] at h;rcases h with h | h <;> cases h
  rw[if_neg c2] at h ⊢
  by_cases c3:skip jD s k-k<=8
  ·rw[if_pos c3];exact z6f yeh (by omega) c1 c3
  ·rw[if_neg c3] at h;rcases h with h | h <;> cases h
 rw[if_neg c1] at h ⊢
 by_cases c4:k<skip yZ s k
 ·rw[if_pos c4] at h ⊢
  by_cases c3:skip yZ s k-k<=8
  ·rw[if_pos c3];exact z6f yby (by omega) c4 c3
  ·rw[if_neg c3] at h;rcases h with h | h <;> cases h
 rw[if_neg c4] at h ⊢
 by_cases c5:qG s k=0
 ·rw[if_pos c5] at h;rcases h with h | h <;> cases h
 rw[if_neg c5] at h
 by_cases c6:qG s k=2
 ·rw[if_pos c6] at h;rcases h with h | h <;> cases h
 ·rw[if_neg c6] at h;rcases h with h | h <;> cases h
theorem zjj (h:(zD s p).1=2\/(zD s p).1=3):cJ (yP s p):=by
 by_cases hp:p<=s.size
 ·have K:=zeo s p hp;rw[K.k2,K.k3] at h;rw[K.word h];exact z9n h
 ·exfalso
  have e:skip yG s p=p:=zcn _ _ _ (by omega);have z:(s.extract p s.size).size=0:=by rw[ByteArray.size_extract];omega
  have:(zD s p).1=0:=by unfold zD;rw[e];simp only;unfold qF;rw[dif_neg (by omega)]
  omega
structure zpw (pd:B8)(ts:List (Bool × B8)):Prop where
 pd:cJ pd
 ft:ts.length<=4
 ts:∀ t∈ts,cJ t.2
theorem zv0 (s:B8)(f:Nat):∀ {p:Nat} {l:List (Bool × B8)} {pl:Nat->Nat},(∀ t∈l,cJ t.2)->∀ t∈(zN s f p l pl).2.2.1,cJ t.2:=by
 induction f with
 | zero=>intro p l pl h;exact h
 | succ f ih=>
  intro p l pl h;rw[zN]
  split
  ·rename_i hk;have h':∀ t∈l++[((zD s p).1==3,yP s p)],cJ t.2:=λ t ht=>by
    rcases List.mem_append.1 ht with ht | ht
    ·exact h t ht
    ·rw[List.mem_singleton.1 ht];exact zjj hk
   split
   ·exact ih h'
   ·exact h'
  ·exact h
theorem ML {q:Nat}{pd:B8}{ts:List (Bool × B8)}{pl:Nat->Nat}(h:yK s p=.yes q pd ts pl):zpw pd ts:=by
 have h4:=(zh7 h).2;unfold yK at h
 by_cases c1:(zD s p).1=2
 ·rw[if_pos c1] at h
  by_cases c2:(zD s (zD s p).2.2).1=5
  ·rw[if_pos c2] at h
   by_cases c3:(zN s 4 (zD s (zD s p).2.2).2.2 [] (λ _=>0)).1=true
   ·rw[if_pos c3] at h;injection h with h1 h2 h3 h4
    subst h2 h3;exact⟨zjj (.inl c1),h4,zv0 s 4 (by simp)⟩
   ·rw[if_neg c3] at h;cases h
  ·rw[if_neg c2] at h;injection h with h1 h2 h3 h4
   subst h2 h3;exact⟨zjj (.inl c1),h4,by simp⟩
 ·rw[if_neg c1] at h;cases h
def z6w (R:yH):Prop:=zpw R.pd R.ts/\∀ l∈R.body,zpw l.pd l.ts
theorem zz7 (s:B8)(num f:Nat):∀ {p:Nat} {l:List yR} {ms:List yS},(∀ x∈l,zpw x.pd x.ts)->∀ x∈(xK s num f p l ms).2.2.1,zpw x.pd x.ts:=by
 induction f with
 | zero=>intro p l ms hl;exact hl
 | succ f ih=>
  intro p l ms hl;rw[xK]
  cases hr:yK s (z6 s p 4) with
  | no q=>exact hl
  | yes q pd ts pl=>
   have mE:∀ x∈l++[cY s p pd ts],zpw x.pd x.ts:=λ x hx=>by
    rcases List.mem_append.1 hx with hx | hx
    ·exact hl x hx
    ·simp at hx;subst hx;exact ML hr
   simp only
   split
   ·exact ih (p:=(zD s q).2.2) mE
   ·exact mE
theorem z0f (s:B8)(num p:Nat)(ms:List yS)(h:(yQ s num p ms).1=true):z6w (yQ s num p ms).2.2.1:=by
 unfold yQ at h ⊢
 cases hr:yK s p with
 | no q=>rw[hr] at h;cases h
 | yes q pd ts pl=>
  rw[hr] at h;simp only at h ⊢
  split
  ·exact⟨ML hr,by simp⟩
  ·split
   ·exact⟨ML hr,zz7 s num 3 (p:=(zD s q).2.2) (l:=[]) (by simp)⟩
   ·exact⟨ML hr,by simp⟩
theorem zvy (s:B8)(f:Nat):∀ {p:Nat} {rs:List yH} {ms:List yS},(∀ R∈rs,z6w R)->∀ R∈(xJ s f p rs ms).2.2.1,z6w R:=by
 induction f with
 | zero=>intro p rs ms hr;exact hr
 | succ f ih=>
  intro p rs ms hr;rw[xJ]
  split
  ·exact hr
  ·split
   ·exact hr
   ·split
    ·rename_i hy;refine ih (λ R hR=>?_);rcases List.mem_append.1 hR with hR | hR
     ·exact hr R hR
     ·simp at hR;subst hR;exact z0f s _ _ _ hy
    ·exact hr
theorem ztk (s:B8):∀ R∈(zJ s).2.2.1,z6w R:=zvy s 31 (by simp)
end
section
open Go.RowKit Go.Maps
attribute [local go_sem ↓] vS vA xZ xY
attribute [local go_sem] vH vG
theorem z14 (w:W8)(base:Nat)(pd:B8)(a:O8)(c:Nat)(ts:List (Bool × B8))(h:w.ownsRow base 191 1 (.slice a ts.length c) ts.length (yN ts))(hlen:(j2 pd ts).length<=1000000000):
  Calls Tryz.prog 102 #[.agg #[.string pd,.slice a ts.length c]] w λ e w'=>e=.returned (.string ⟨(j2 pd ts).toArray⟩)/\Below w.heap.size w w':=by
 have b1:=(Below.refl w.heap.size w).alloc L9 (.cells #[.string pd,.slice a ts.length c] 79);have h0:Holds (w.heap.size+1) (w.heap.size+1) [] ((w.alloc (.cells #[.string pd,.slice a ts.length c] 79)).alloc (.cells #[.pointer none,.slice none 0 0] 155)):=by
  have:=Lib.fresh_isBuilder 155 5 (w.alloc (.cells #[.string pd,.slice a ts.length c] 79));rw[World.size_alloc] at this;exact this
 have b0:=b1.alloc (by simp) (.cells #[.pointer none,.slice none 0 0] 155);have hr:=zG h b0 (λ g e=>(h.lt g e).2);have HW:=zC (zin (w.heap.size+1) (w.heap.size+1) [] pd a c base ts _ h0 hr (by simpa using hlen) (by simp));have gd:=zC b0;clear h h0 b0 b1 hr;go_enter Tryz.func102,Tryz.ntmps102;go_wp2_with (go_at_call 110;refine (zA HW).mono ?_;rintro e w1 ⟨rfl,h1,aT,-,aj⟩);refine (Tryz.Builder_String_any (w.heap.size+1) (w.heap.size+1) _ _ h1 aj).mono ?_;rintro e w2 ⟨rfl,aU⟩;have HB:=zC ((zA gd).trans ((aT.trans aU).mono (by omega)));clear h1 aT aj aU;go_wp2_with fail;go_ret;exact⟨rfl,zA HB⟩
def xE (t:Th):List (Bool × B8):=t.2.map λ x=>(false,x)
def yF (t:Th):B8:=⟨(j2 t.1 (xE t)).toArray⟩
structure ye5 (w:W8)(t:Th)(l:List B8)(tv:Value)(wr:W8):Prop where
 th:TV wr w.heap.size t
 at_:wr.heap[w.heap.size+1]?=some (.cells #[.string t.1,tv] 79 (0,0))
 row:wr.ownsRow (w.heap.size+1+1) 191 1 tv l.length (yN (l.map λ x=>(false,x)))
 k:Below w.heap.size w wr
theorem zmu (s:B8):s.toList.length=s.size:=by rw[ByteArray.toList_eq];exact zfn s
theorem yc6 {w:W8}{t:Th}{l:List B8}{a1 a5:O8}{c1 c5:Nat}{wr w5:W8}{o:Obj}{x:B8}(sU:w.heap.size+1<wr.heap.size)(aI:w5.ownsRow (w.heap.size+1+1) 191 1 (.slice a5 (l.length+1) c5) (l.length+1) (yN (l.map λ x=>(false,x))++[zdn false x]))(hg:(wr.alloc o).grownBy w5 (Value.slice a1 l.length c1).ownBlock)(h:ye5 w t l (.slice a1 l.length c1) wr):
  ye5 w t (l++[x]) (.slice a5 (l++[x]).length c5) (w5.setCell ⟨w.heap.size+1,1,none⟩ (.slice a5 (l.length+1) c5))/\w5.heap[w.heap.size+1]?=some (.cells #[.string t.1,.slice a1 l.length c1] 79 (0,0)):=by
 have hb:∀ i,i<=w.heap.size+1->w5.heap[i]?=wr.heap[i]?:=λ i hi=>by
  rw[hg.block i (by simp;omega) (λ e=>by have:=(h.row.lt i e.symm).1;omega),Below.heap_alloc _ _ _ (by omega)]
 have gT:=(hb _ L9).trans h.at_;refine⟨⟨?_,?_,?_,?_⟩,gT⟩
 ·show _=_
  rw[Below.heap_setCell _ _ _ _ (by simp)];exact (hb _ (by omega)).trans h.th
 ·rw[setCell_eq_setRow w5 _ _ _ _ (0,0) _ gT,setRow_heap _ _ _ _ _ _ gT];simp
 ·have e1:(l++[x]).length=l.length+1:=by simp
  have e2:yN ((l++[x]).map λ x=>(false,x))=yN (l.map λ x=>(false,x))++[zdn false x]:=by simp[yN]
  rw[e1,e2];exact zQ aI (λ g jo=>Below.heap_setCell _ _ _ _ (by have:=(aI.lt g jo).1;simp;omega))
 ·have h5:Below w.heap.size w w5:=⟨hg.os.trans h.k.os,hg.tape.trans h.k.tape,hg.output.trans h.k.output,Nat.le_trans h.k.size (Nat.le_trans (by simp) hg.size),λ i hi=>(hb i (by omega)).trans (h.k.block i hi)⟩;exact h5.setCell (p:=⟨w.heap.size+1,1,none⟩) (by simp) _
theorem zps (w:W8)(t:Th)(ht:zbk t)(hlen:(j2 t.1 (xE t)).length<=1000000000):
  Calls Tryz.prog 63 #[thV t] w λ e w'=>e=.returned (.string (yF t))/\Below w.heap.size w w':=by
 obtain⟨i0,hi,dK,aj,bZ⟩:=info_parts zsm;obtain⟨ct,eM⟩:∃ ct,ct=(zK t).toArray:=⟨_,rfl⟩;have fw:=zC eM;unfold thV;rw[<-eM];clear eM;have HT:=zC ht;clear ht;have c0:(w.alloc (.cells ct 88)).cell? ⟨w.heap.size,0,none⟩=some (.string t.1):=by
  rw[(zB (heap_alloc_new w (.cells ct 88)) 0).1,zA fw];rfl
 go_enter Tryz.func63,Tryz.ntmps63;go_upto_region 2 with fail;generalize hw0:World.alloc (World.alloc w _) _=w0;have h0:ye5 w t [] (.slice none 0 0) w0:=by
  have k0:Below w.heap.size w ((w.alloc (.cells ct 88)).alloc (.cells #[.string t.1,.slice none 0 0] 79)):=(B9.alloc L9 _).alloc (by simp) _;rw[<-hw0];refine⟨?_,?_,World.ownsRow_nil _ _ _ _,k0⟩
  ·show _=_
   rw[Below.heap_alloc _ _ _ (by simp),<-zA fw];exact heap_alloc_new w _
  ·have:=heap_alloc_new (w.alloc (.cells ct 88)) (.cells #[.string t.1,.slice none 0 0] 79);rw[World.size_alloc] at this;exact this
 have H0:=zC h0;have Dw:w.heap.size+1<w0.heap.size:=(Array.getElem?_eq_some_iff.1 h0.at_).1;clear hw0 c0 h0;go_wp2_with fail
 go_loopg [11] 4 (λ gg i wr=>∃ (k:Nat) (l:List B8) (tv:Value),k<=4/\gg=4-k/\i=.int .i64 (k:Nat)/\l=t.2.take k/\ye5 w t l tv wr)
 exact⟨0,[],_,by omega,rfl,rfl,rfl,zA H0⟩
 case round=>
  clear H0;obtain⟨k,l,tv,hk,fM,rfl,hl,ak⟩:=hrel;obtain⟨a1,kN,rfl⟩:=zE ak.row;have sU:w.heap.size+1<wr.heap.size:=(Array.getElem?_eq_some_iff.1 ak.at_).1;have bt:=zC ak;have ik:l.length<=4:=by rw[hl];simp;omega
  have HL:=zC hl;obtain⟨q0,z0⟩:=zB ak.at_ 0;obtain⟨q1,z1⟩:=zB ak.at_ 1;simp only[List.getElem?_toArray,List.getElem?_cons_zero,List.getElem?_cons_succ] at q0 q1
  by_cases aN:k<4
  ·have dV:wr.cell? ⟨w.heap.size,1+k,none⟩=some (.string (xF t.2 k)):=by
    rw[(zB ak.th (1+k)).1,List.getElem?_toArray];exact zco t aN
   have gW:(k:Int)<4:=(by omega);clear ak hl
   by_cases bP:k<t.2.length
   ·have bG:((xF t.2 k).toList==[])=false:=by
     have gj:0<(xF t.2 k).size:=zqy (zA HT) bP
     cases hq:(xF t.2 k).toList==[] with
     | false=>rfl
     | true=>rw[beq_iff_eq] at hq;have h2:=zmu (xF t.2 k);rw[hq] at h2;simp at h2;omega
    have aE:=(zA bt).row;have Hl:=zC (show t.2.take (k+1)=l++[xF t.2 k] by rw[List.take_succ_eq_append_getElem bP,zA HL];congr 2;unfold xF;rw[List.getElem?_eq_getElem bP];rfl);go_wp2_with (at_builtin;refine wpList_append_own _ rfl _ _ 77 rfl (w.heap.size+1+1) 191 i0 _ 1 16 Tryz.underlying77 hi dK aj bZ rfl (by decide) _ _ _ rfl (aE.alloc _) ⟨wr.heap.size,0,none⟩ 1 1 [zdn false (xF t.2 k)] rfl rfl (zvz wr _) (z4q _ _) (by unfold maxLen;omega) (by omega) (by simp;omega) ?_;intro v5 w5 ad dz aw;clear aw;obtain⟨a5,gz,rfl⟩:=zE ad;obtain⟨r1,r2⟩:=yc6 sU ad dz (zA bt);obtain⟨y1,x1⟩:=zB r2 1;simp only[List.getElem?_toArray,List.getElem?_cons_zero,List.getElem?_cons_succ] at y1;have H5:=zC r1;have H6:=zC r2;clear ad dz r1 r2);go_roundg (4-(k+1));exact⟨k+1,l++[xF t.2 k],_,by omega,rfl,by go_num,(zA Hl).symm,(zA H5)⟩;omega
   ·have bG:((xF t.2 k).toList==[])=true:=by
     have h2:=zmu (xF t.2 k);rw[zlz (l:=t.2) (i:=k) (by omega)] at h2;rw[beq_iff_eq];exact List.length_eq_zero_iff.1 h2
    go_wp2_with fail;go_roundg (4-(k+1));exact⟨k+1,l,_,by omega,rfl,by go_num,by rw[zA HL,List.take_of_length_le (by omega),List.take_of_length_le (by omega)],zA bt⟩;omega
  ·have bP:l=t.2:=(by rw[hl,List.take_of_length_le];have hfw:t.2.length<=4:=(zA HT).ft;omega);have aE:=ak.row;have HC:=zC (z14 wr (w.heap.size+1+1) t.1 a1 kN (xE t) (by unfold xE;rw[List.length_map,<-bP];exact aE) hlen);have mT:(xE t).length=l.length:=(by unfold xE;rw[List.length_map,bP]);rw[mT] at HC;have HK:=zC ak.k;clear ak hl aE bP mT;go_wp2_with (go_at_call 102;refine (zA HC).mono ?_;rintro e w2 ⟨rfl,aU⟩;have ep:=zC aU;clear aU);go_ret;exact⟨rfl,(zA HK).trans ((zA ep).mono (zA HK).size)⟩
end
section
open Go.RowKit Go.Sort
theorem ycz (zs:List B8):(zs.map Value.string)=(zs.map λ s=>s.data.toList).map encStr:=by
 rw[List.map_map];refine List.map_congr_left λ s _=>?_
 simp[encStr]
def zbe (zs:List B8):List (List UInt8):=(zs.map λ s=>s.data.toList).mergeSort λ x y=>decide (x<=y)
def zyu (w:W8)(base:Nat)(zs:List B8)(v:Value)(e:Ending)(w':W8):Prop:=
 e=.returned (.tuple #[])/\w'.ownsRow base 9 1 v zs.length ((zbe zs).map encStr)/\w.grownBy w' v.ownBlock
theorem z5k (w:W8)(base:Nat)(a:O8)(c:Nat)(zs:List B8)(h:w.ownsRow base 9 1 (.slice a zs.length c) zs.length (zs.map Value.string))(hl:zs.length<=1000000):
  Calls Tryz.prog 64 #[.slice a zs.length c] w (zyu w base zs (.slice a zs.length c)):=by
 rcases h.2 with⟨pt,h0⟩ | ⟨g,cap,cur,hv,bM,hb,h1,h2,h3,h4⟩
 ·have hz:zs=[]:=List.length_eq_zero_iff.1 h0;subst hz;refine (Tryz.slices_Sort_string_none a c w).mono ?_;rintro e w' ⟨rfl,rfl⟩;refine⟨rfl,by rw[show zbe []=[] from by simp[zbe]];exact h,⟨rfl,rfl,rfl,Nat.le_refl _,λ _ _ _=>rfl⟩⟩
 ·injection hv with e1 e2 e3
  subst e1 e3;have hlen:(zs.map λ s=>s.data.toList).length=zs.length:=by simp
  rw[ycz] at h4;have hH:Go.Sort.Holds encStr w g 0 (zs.map λ s=>s.data.toList).toArray:=holds_of_block hb (by rw[hlen];simpa using h4);have:=Tryz.slices_Sort_string g 0 c (zs.map λ s=>s.data.toList) w hH (Array.getElem?_eq_some_iff.1 hb).1 (by rw[hlen];omega);rw[hlen] at this;refine this.mono ?_;rintro e w' ⟨rfl,n,os,rfl⟩;refine⟨rfl,?_,?_⟩
  ·have:=ownsRow_sorted (w:=w) (n:=n) (os:=os) (ss:=zs.map λ s=>s.data.toList) (ts:=zbe zs) (by simp[zbe]) bM hb (by rw[hlen];exact h1) h2 h3;rw[hlen] at this;exact this
  ·exact grownBy_sorted _
end
section
open Go.RowKit Go.Maps
attribute [local go_sem ↓] qP jN qN xU vS vA xZ xY
attribute [local go_sem] vZ qE vH vG
def zg3 (A:xG)(p:Th × Nat):Bool:=(yC [] A p.1).isSome
theorem zh4 {L:List (Th × Nat)}(h:(L.map (·.1)).Nodup):L.Nodup:=by
 induction L with
 | nil=>simp
 | cons x r ih=>
  rw[List.map_cons,List.nodup_cons] at h;exact List.nodup_cons.2 ⟨λ hm=>h.1 (List.mem_map_of_mem hm),ih h.2⟩
theorem yb6 {K ts:List (Th × Nat)}{A:xG}{Lf:Th->Prop}(hm:∀ p,p∈ts↔p∈K/\¬ Lf p.1/\zg3 A p=true){t:Th}{n:Nat}(ht:(t,n)∈K)(hK:(K.map (·.1)).Nodup):(zg3 A (t,n)=true->∀ p,p∈ts++[(t,n)]↔p∈K/\¬ (Lf p.1/\¬ p.1=t)/\zg3 A p=true)/\(zg3 A (t,n)=false->∀ p,p∈ts↔p∈K/\¬ (Lf p.1/\¬ p.1=t)/\zg3 A p=true):=by
 have key:∀ p∈K,p.1=t->p=(t,n):=λ p hp e=>by
  have h1:=qO hK hp;have h2:=qO hK ht;rw[e,h2] at h1;have h3:=Option.some.inj h1;exact Prod.ext e h3.symm
 constructor
 ·intro hh p;rw[List.mem_append,hm]
  constructor
  ·rintro (⟨h1,h2,h3⟩ | h1)
   ·exact⟨h1,λ h=>h2 h.1,h3⟩
   ·rw[List.mem_singleton.1 h1];exact⟨ht,λ h=>h.2 rfl,hh⟩
  ·rintro⟨h1,h2,h3⟩
   by_cases e:p.1=t
   ·right;rw[key p h1 e];exact List.mem_singleton.2 rfl
   ·left;exact⟨h1,λ h=>h2 ⟨h,e⟩,h3⟩
 ·intro hh p;rw[hm]
  constructor
  ·rintro⟨h1,h2,h3⟩;exact⟨h1,λ h=>h2 h.1,h3⟩
  ·rintro⟨h1,h2,h3⟩;refine⟨h1,λ h=>h2 ⟨h,λ e=>?_⟩,h3⟩;rw[key p h1 e,hh] at h3;cases h3
structure yfu (w:W8)(kb rb:Nat)(A:xG)(aa:O8)(ac:Nat)(K:List (Th × Nat))(Lf:Th->Prop)(ts:List (Th × Nat))(v:Value)(dF:Nat)(wr:W8):Prop where
 rg:dr wr kb rb K Lf dF
 at_:wr.heap[w.heap.size]?=some (.cells #[.string A.p,.slice aa A.ts.length ac] 79 (0,0))
 mem:∀ p,p∈ts↔p∈K/\¬ Lf p.1/\zg3 A p=true
 nd:ts.Nodup
 len:ts.length+dF<=K.length
 row:wr.ownsRow (w.heap.size+1+1) 9 1 v ts.length ((ts.map λ p=>yF p.1).map Value.string)
 k:Below w.heap.size w wr
def zrx (w:W8)(A:xG)(K:List (Th × Nat))(e:Ending)(w':W8):Prop:=
 ∃ (zs:List B8) (a:O8) (c:Nat),e=.returned (.slice a zs.length c)/\zs.Perm ((K.filter (zg3 A)).map λ p=>yF p.1)/\w'.ownsRow w.heap.size 9 1 (.slice a zs.length c) zs.length ((zbe zs).map encStr)/\Below w.heap.size w w'
theorem zsy (w:W8)(kb base:Nat)(A:xG)(aa:O8)(ac:Nat)(K:List (Th × Nat))(hm:vW w kb K)(hr:w.ownsRow base 191 1 (.slice aa A.ts.length ac) A.ts.length (A.ts.map zaz))(h4:A.ts.length<=4)(hK:K.length<=1000)(zx:∀ p∈K,(j2 p.1.1 (xE p.1)).length<=1000000000):
  Calls Tryz.prog 39 #[.map (some kb),.agg #[.string A.p,.slice aa A.ts.length ac]] w (zrx w A K):=by
 obtain⟨i0,hi,dK,aj,bZ⟩:=info_parts zbt;have HR:=zC hr;have Lq:=zC zx;have du:=hm.lt;have HM:=zC hm;clear hr zx hm;go_enter Tryz.func39,Tryz.ntmps39;go_upto_region 2 with fail;generalize hw0:World.alloc w _=w0;have k0:Below w.heap.size w w0:=by rw[<-hw0];exact (Below.refl w.heap.size w).alloc L9 _
 have x0:w0.heap[w.heap.size]?=some (.cells #[.string A.p,.slice aa A.ts.length ac] 79 (0,0)):=by rw[<-hw0];exact heap_alloc_new w _
 have s0:w0.heap.size=w.heap.size+1:=by rw[<-hw0];simp
 have nE:vW w0 kb K:=(zA HM).block (k0.block _ du);have gM:=zC k0;have qb:=zC x0;have fH:=zC s0;clear hw0 k0 x0 s0;go_wp2_with (first | (at_range;refine zip _ rfl _ 83 rfl Tryz.underlying83 kb K rfl nE ?_;intro w1 hrg1 eP js) | go_in)
 try go_frame
 have h0:yfu w kb w0.heap.size A aa ac K (λ _=>True) [] (.slice none 0 0) K.length w1:=by
  have s0:=zA fH;refine⟨hrg1,(eP.block _ (by omega) (by simp)).trans (zA qb),λ p=>⟨λ h=>absurd h List.not_mem_nil,λ h=>absurd trivial h.2.1⟩,by simp,by simp,World.ownsRow_nil _ _ _ _,⟨eP.os.trans (zA gM).os,eP.tape.trans (zA gM).tape,eP.output.trans (zA gM).output,Nat.le_trans (zA gM).size eP.size,λ j hj=>(eP.block j (by omega) (by simp)).trans ((zA gM).block j hj)⟩⟩
 have H0:=zC h0;clear hrg1 eP js nE h0
 go_loopg [5] K.length (λ gg v wr=>∃ (Lf:Th->Prop) (ts:List (Th × Nat)),yfu w kb w0.heap.size A aa ac K Lf ts v gg wr)
 exact⟨_,_,zA H0⟩
 case round=>
  clear H0;obtain⟨Lf,ts,ak⟩:=hrel;obtain⟨a1,c1,rfl⟩:=zE ak.row;have jf:=ak.rg;have Dv:=ak.rg.lt;have sU:w.heap.size+1<wr.heap.size:=by have:=zA fH;omega
  clear Dv;have hlen:=ak.len;have bt:=zC ak;clear ak;go_wp2_with (first | (at_next;refine zkv _ rfl _ rfl kb w0.heap.size K Lf gk rfl jf ?_ ?_) | go_in)
  ·intro cF;have HD:=zC cF;have ak:=zA bt;have jz:((ts.map λ p=>yF p.1)).length=ts.length:=(by simp);have aE:=ak.row;rw[<-jz] at aE;have HS:=zC (z5k wr (w.heap.size+1+1) a1 c1 (ts.map λ p=>yF p.1) aE (by rw[jz];omega));rw[jz] at HS;clear cF jf ak aE;go_wp2_with (go_at_call 64;refine (zA HS).mono ?_;rintro e w2 ⟨rfl,sF,dd⟩;have Bk:=zC sF;have A6:=zC dd;clear sF dd);go_ret;have ak:=zA bt;have g2:=zA A6;refine⟨ts.map λ p=>yF p.1,a1,c1,by rw[jz];rfl,List.Perm.map _ ((List.perm_ext_iff_of_nodup ak.nd ((zh4 ak.rg.map.nodup).filter _)).2 λ p=>?_),?_,?_⟩
   ·rw[ak.mem,List.mem_filter];exact⟨λ ⟨h1,_,h3⟩=>⟨h1,h3⟩,λ ⟨h1,h3⟩=>⟨h1,zA HD p.1.1 p.1.2 p.2 h1,h3⟩⟩
   ·rw[jz];have:=zA Bk;rw[jz] at this;exact zI this (by omega)
   ·exact⟨g2.os.trans ak.k.os,g2.tape.trans ak.k.tape,g2.output.trans ak.k.output,Nat.le_trans ak.k.size g2.size,λ i hi=>(g2.block i (by omega) (λ e=>by have:=(ak.row.lt i e.symm).1;omega)).trans (ak.k.block i hi)⟩
  ·intro tp tts n w2 cnt2 gZ kV hrg2 gX dd lj hen2;generalize ((tp,tts):Th)=t at *;have ak:=zA bt;have s0:=zA fH;have k2:Below w.heap.size w w2:=⟨dd.os.trans ak.k.os,dd.tape.trans ak.k.tape,dd.output.trans ak.k.output,Nat.le_trans ak.k.size dd.size,λ i hi=>(dd.block i (by omega) (by simp;omega)).trans (ak.k.block i hi)⟩;have a2:w2.heap[w.heap.size]?=some (.cells #[.string A.p,.slice aa A.ts.length ac] 79 (0,0)):=(dd.block _ (by omega) (by simp;omega)).trans ak.at_;have r2:w2.ownsRow (w.heap.size+1+1) 9 1 (.slice a1 ts.length c1) ts.length ((ts.map λ p=>yF p.1).map Value.string):=zQ ak.row (λ g e=>dd.block g (ak.row.lt g e).2 (λ e2=>by have:=(ak.row.lt g e).1;injection e2 with e2;omega));have hT:zbk t:=ak.rg.map.ok _ gZ;have kj:wr.heap.size<=w2.heap.size:=dd.size;have k3:Below w2.heap.size w2 (w2.alloc (.cells (zK t).toArray 88)):=B9.alloc L9 _;have Gu:Below w.heap.size w (w2.alloc (.cells (zK t).toArray 88)):=k2.trans (k3.mono k2.size);have HM:=zC (zfy (w2.alloc (.cells (zK t).toArray 88)) base [] A aa ac t (zQ (zA HR) (λ g e=>Gu.block g ((zA HR).lt g e).2)) h4 (A.ts.map (·.2)) (by simp;omega) (xR.nil _) (λ t ht _=>List.mem_map_of_mem ht));have t3:=(TV.new w2 t).load;obtain⟨q0,-⟩:=zB ((k3.block _ (by omega)).trans a2) 0;obtain⟨q1,-⟩:=zB ((k3.block _ (by omega)).trans a2) 1;simp only[List.getElem?_toArray,List.getElem?_cons_zero,List.getElem?_cons_succ] at q0 q1;have HT:=zC hT;have iU:=zC hrg2;have ky:=zC k2;have vg:=zC a2;have rO:=zC r2;have fU:=zC gZ;have Ee:=zC kV;have fZ:=zA Lq _ gZ;have bV:(t,n)∉ts:=λ hm=>((ak.mem _).1 hm).2.1 kV
   have tF:=zC bV;have fT:=zC (yb6 ak.mem gZ ak.rg.map.nodup);have ju:=zC ak.nd;clear lj dd jf hrg2 k2 a2 r2 hT gZ kV ak k3 Gu bV s0;obtain⟨R,hR⟩:∃ R,R=yC [] A t:=⟨_,rfl⟩;rw[<-hR] at HM;have L3:zg3 A (t,n)=R.isSome:=(by unfold zg3;rw[hR]);have wK:=zC L3;clear hR L3;go_upto_region 6 with (go_at_call 62;refine (zA HM).mono ?_;rintro en w4 ⟨bQ,rfl⟩;have eC:=zC bQ;clear bQ);generalize pI:World.alloc w4 _=w5;have b5:Below w2.heap.size w2 w5:=by
    rw[<-pI];have b4:=zA eC;exact ((B9.alloc L9 _).trans (b4.mono (by simp))).alloc (by have:=b4.size;simp at this;omega) _
   have t5:TV w5 w2.heap.size t:=by
    rw[<-pI];exact ((TV.new w2 t).below (zA eC)).alloc _
   have l5:=t5.load;have jn:=zC b5;have Kf:=b5.size;have Gw:Below w.heap.size w w5:=(zA ky).trans (b5.mono (zA ky).size);have r5:=zG (zA rO) b5 (λ g e=>((zA rO).lt g e).2);have a5:w5.heap[w.heap.size]?=some (.cells #[.string A.p,.slice aa A.ts.length ac] 79 (0,0)):=(b5.block _ (by omega)).trans (zA vg);have g5:dr w5 kb w0.heap.size K (λ x=>Lf x/\¬ x=t) cnt2:=(zA iU).blocks (b5.block _ (zA iU).map.lt) (b5.block _ (zA iU).lt);have D9:=zC Gw;have tJ:=zC r5;have D0:=zC a5;have bp:=zC g5;have Ik:=zC (zps w5 t (zA HT) fZ);clear pI b5 t5 Gw r5 a5 g5 t3 q0 q1 hen2
   cases hr:R with
   | none=>
    have hh:zg3 A (t,n)=false:=(by rw[zA wK,hr];rfl);have HS:=zC ((zA fT).2 hh);clear hh hr;go_wp2_with fail;go_roundg cnt2;exact⟨_,ts,zA bp,zA D0,zA HS,zA ju,by omega,zA tJ,zA D9⟩;omega
   | some e2=>
    have hh:zg3 A (t,n)=true:=(by rw[zA wK,hr];rfl);have HS:=zC ((zA fT).1 hh);clear hh hr;go_wp2_with fail;refine (zA Ik).mono ?_;rintro en w6 ⟨rfl,iA⟩;have Du:=iA.size;have r6:=zG (zA tJ) iA (λ g e=>((zA tJ).lt g e).2);have bP:ts.length<=1000:=(by omega);have mU:=zC iA;clear iA;go_wp2_with (at_builtin;refine wpList_append_own _ rfl _ _ 33 rfl (w.heap.size+1+1) 9 i0 _ 1 16 Tryz.underlying33 hi dK aj bZ rfl (by decide) _ _ _ rfl (r6.alloc _) ⟨w6.heap.size,0,none⟩ 1 1 [.string (yF t)] rfl rfl (zt7 w6 _) (zwc _) (by unfold maxLen;omega) (by omega) (by simp;omega) ?_;intro v7 w7 hown7 kL hne7;clear hne7;obtain⟨a7,BS,rfl⟩:=zE hown7;have Bl:=zC hown7;have A7:=zC kL;clear hown7 kL);go_roundg cnt2
    case measure=>omega
    case rel=>
     have g7:=zA A7;have b6:=zA mU;have s0:=zA fH;have hb:∀ i,i<w5.heap.size->i<w.heap.size+1+1->w7.heap[i]?=w5.heap[i]?:=λ i hi h2=>by
      rw[g7.block i (by simp;omega) (λ e=>by have:=(r6.lt i e.symm).1;omega),Below.heap_alloc _ _ _ (by omega),b6.block i hi]
     have KQ:kb<w.heap.size+1+1:=(by omega);refine⟨_,ts++[(t,n)],(zA bp).blocks (hb _ (zA bp).map.lt KQ) (hb _ (zA bp).lt (by omega)),(hb _ (by omega) (by omega)).trans (zA D0),zA HS,List.nodup_append.2 ⟨zA ju,by simp,λ x hx y hy e=>by rw[List.mem_singleton.1 hy] at e;rw[e] at hx;exact zA tF hx⟩,by rw[List.length_append];simp;omega,?_,?_⟩
     ·have h7:=zA Bl;have e1:(ts++[(t,n)]).length=ts.length+1:=(by simp);rw[e1,List.map_append,List.map_append];exact h7
     ·have k5:=zA D9;exact⟨g7.os.trans (b6.os.trans k5.os),g7.tape.trans (b6.tape.trans k5.tape),g7.output.trans (b6.output.trans k5.output),by have h1:=g7.size;have h2:=k5.size;simp at h1;omega,λ i hi=>(hb i (by omega) (by omega)).trans (k5.block i hi)⟩
end
section
open Go.RowKit Go.Maps
inductive jL (rs:List PR)(S:B8->Nat)(limit count:Nat):Nat->List (Th × Nat)->Option (List (Th × Nat))->Prop
 | ends {s:Nat} {K:List (Th × Nat)}:count<=s->jL rs S limit count s K (some K)
 | fK {s:Nat} {K:List (Th × Nat)}:s<count->qT (rs.filter (qJ S s)) limit 1 K none->jL rs S limit count s K none
 | next {s:Nat} {K K':List (Th × Nat)} {r:Option (List (Th × Nat))}:s<count->qT (rs.filter (qJ S s)) limit 1 K (some K')->jL rs S limit count (s+1) K' r->jL rs S limit count s K r
theorem fI.filter {rs:List PR}{TI:Th->Prop}(h:fI rs TI)(f:PR->Bool):fI (rs.filter f) TI:=λ K hK r hr=>h K hK r (List.mem_filter.1 hr).1
structure z9y (w:W8)(kb:Nat)(rs:List PR)(S:B8->Nat)(limit count:Nat)(TI:Th->Prop)(s:Nat)(K:List (Th × Nat))(wr:W8):Prop where
 m:vW wr kb K
 ti:∀ p∈K,TI p.1
 len:K.length<=limit
 k:Below w.heap.size w wr
 rel:∀ r,jL rs S limit count s K r->jL rs S limit count 0 [] r
def z6n (w:W8)(rs:List PR)(ps:P9)(S:B8->Nat)(limit:Nat)(TI:Th->Prop)(en:Ending)(w':W8):Prop:=
 ∃ m r,vY ps S m/\jL rs S limit m 0 [] r/\Below w.heap.size w w'/\(r=none->en=.returned (.tuple #[.map none,.bool false])) /\
  ∀ K,r=some K->∃ kb,en=.returned (.tuple #[.map (some kb),.bool true])/\w.heap.size<=kb/\vW w' kb K/\K.length<=limit/\∀ p∈K,TI p.1
theorem zxk (w:W8)(base:Nat)(ar:O8)(cr:Nat)(rs:List PR)(tb n:Nat)(ps:P9)(S:B8->Nat)(limit:Nat)(TI:Th->Prop)(h:aD w base (.slice ar rs.length cr) rs)(hb:base<=w.heap.size)(ht:qQ Tryz.prog 9 w tb n (stV ps S))(hS:∀ k,(zV ps k).isSome=true->S k<=1000000)(iG:rs.length<=1000)(eN:∀ r∈rs,r.R.pd.size<=800/\(zV ps r.R.pd).isSome=true)(oX:fI rs TI)(hl:limit<=50):
  Calls Tryz.prog 38 #[.slice ar rs.length cr,.map (some tb),.int .i64 (limit:Nat)] w (z6n w rs ps S limit TI):=by
 have H:=zC h;have HT:=zC ht;have fR:=zC eN;have pZ:=zC oX;have fZ:=ht.lt;have k0:Below w.heap.size w (w.alloc (.map #[] 0)):=B9.alloc L9 _;have HC:=zC (zse (w.alloc (.map #[] 0)) tb n ps S (ht.block (k0.block tb fZ)) hS);have cq:=zC k0;have bz:=@run_makeMap Tryz.prog;have vx:=zC hS;clear h ht eN oX hS k0;go_enter Tryz.func38,Tryz.ntmps38;go_wp2_with (go_at_call 59;refine (zA HC).mono ?_;rintro en w1 ⟨m,rfl,eM,aT⟩;have fw:=zC eM;have cR:=zC aT;clear eM aT);have ym:Below w.heap.size w w1:=(zA cq).trans ((zA cR).mono (by simp));have fa:vW w1 w.heap.size []:=(vW.made w).block ((zA cR).block _ (by simp));have H0:=zC (show z9y w w.heap.size rs S limit m TI 0 [] w1 from ⟨fa,by simp,by simp,ym,λ _ h=>h⟩);have mG:m<=1000001:=by
  rcases (zA fw).2 with h | ⟨j,hj,h⟩
  ·omega
  ·have:=zA vx j hj;omega
 clear ym fa bz
 go_loopg [13] m (λ gg i wr=>∃ (s:Nat) (K:List (Th × Nat)),s<=m/\gg=m-s/\i=.int .i64 (s:Nat)/\z9y w w.heap.size rs S limit m TI s K wr)
 exact⟨0,[],Nat.zero_le _,rfl,rfl,zA H0⟩
 case round=>
  clear H0;obtain⟨s,K,hs,fM,rfl,ak⟩:=hrel;have bt:=zC ak;clear ak
  by_cases aN:s<m
  ·have ak:=zA bt;have hsi:(s:Int)<m:=(by omega);have aE:aD wr base (.slice ar rs.length cr) rs:=⟨zG (zA H).row ak.k (λ g e=>((zA H).row.lt g e).2),λ r hr=>⟨zG ((zA H).each r hr).hd ak.k (λ g e=>(((zA H).each r hr).hd.lt g e).2),((zA H).each r hr).bo.below ak.k,((zA H).each r hr).eq⟩⟩;have HO:=zC (z30 wr base ar cr rs tb n ps S s aE (Nat.le_trans hb ak.k.size) ((zA HT).block (ak.k.block tb fZ)) iG (zA fR));have HM:=zC ak.m;have wz:=zC (λ (w2:W8) (a:O8) (c:Nat) (aU:Below wr.heap.size wr w2) (fc:aD w2 base (.slice a (rs.filter (qJ S s)).length c) (rs.filter (qJ S s)))=>z2a w2 w.heap.size base a c (rs.filter (qJ S s)) limit TI K ((zA bt).m.block (aU.block _ (zA bt).m.lt)) fc ((zA pZ).filter _) (zA bt).ti (zA bt).len hl);clear ak aE;go_wp2_with fail;refine (zA HO).mono ?_;rintro en w2 ⟨a2,c2,rfl,aU,fc⟩;have ks:=zC (zA wz w2 a2 c2 aU fc);have ep:=zC aU;clear aU fc wz;go_wp2_with fail;refine (zA ks).mono ?_;rintro en w3 ⟨r,FV,rfl,fB,ET⟩;have qy:=zC fB;have MW:=zC FV;have Hd:=zC ET;have cE:Below w.heap.size w w3:=by
    have ak:=zA bt;have aU:=zA ep;have h2:Below w.heap.size w w2:=ak.k.trans (aU.mono ak.k.size);exact⟨fB.os.trans h2.os,fB.tape.trans h2.tape,fB.output.trans h2.output,Nat.le_trans h2.size fB.size,λ i hi=>(fB.block i (by have:=h2.size;omega) (by simp;omega)).trans (h2.block i hi)⟩
   have gh:=zC cE;clear fB FV ET cE
   cases hr:r with
   | none=>
    rw[hr] at MW;go_wp2_with fail
    go_ret2
    exact⟨m,none,zA fw,(zA bt).rel _ (.fK aN (zA MW)),zA gh,λ _=>rfl,λ K e=>by cases e⟩
   | some K'=>
    obtain⟨ey,ki,sr⟩:=zA Hd K' hr;rw[hr] at MW;have mW:=zC ey;have tO:=zC ki;clear ey ki;go_wp2_with fail;go_roundg (m-(s+1));exact⟨s+1,K',by omega,rfl,by go_num,zA mW,zA tO,sr,zA gh,λ r h=>(zA bt).rel r (.next aN (zA MW) h)⟩;omega
  ·go_wp2_with fail
   go_ret2
   have ak:=zA bt;exact⟨m,some K,zA fw,ak.rel _ (.ends (by omega)),ak.k,(λ e=>by cases e),λ K2 e=>by cases e;exact⟨_,rfl,Nat.le_refl _,ak.m,ak.len,ak.ti⟩⟩
end
section
def pa (A:yX):xG:=⟨A.pred,A.aS.map a8⟩
def thA (A:yX):Th:=(A.pred,A.aS.map (·.text))
def z94 (c:UInt8):Prop:=c=40\/c=41\/c=44
theorem zjl:∀ {a b x y:List UInt8},(∀ c∈a,¬ z94 c)->(∀ c∈b,¬ z94 c)->(∀ c,x.head?=some c->z94 c)->(∀ c,y.head?=some c->z94 c)->a++x=b++y->a=b/\x=y
 | [],[],_,_,_,_,_,_,h=>⟨rfl,h⟩
 | [],c::b,x,y,_,hb,hx,_,h=>by
  rw[List.nil_append,List.cons_append] at h;exact absurd (hx c (by rw[h];rfl)) (hb c List.mem_cons_self)
 | c::a,[],x,y,ha,_,_,hy,h=>by
  rw[List.nil_append,List.cons_append] at h;exact absurd (hy c (by rw[<-h];rfl)) (ha c List.mem_cons_self)
 | c::a,d::b,x,y,ha,hb,hx,hy,h=>by
  rw[List.cons_append,List.cons_append] at h;injection h with h1 h2
  obtain⟨e1,e2⟩:=zjl (λ c hc=>ha c (List.mem_cons_of_mem _ hc)) (λ c hc=>hb c (List.mem_cons_of_mem _ hc)) hx hy h2;exact⟨by rw[h1,e1],e2⟩
variable {x:B8}
theorem cJ.sep (h:cJ x):∀ c∈x.data.toList,¬ z94 c:=λ c hc=>by
 have:=h.no c hc;unfold z94;simp[this]
theorem zxb {y:B8}(h:x.data.toList=y.data.toList):x=y:=by
 cases x;cases y
 simp only at h;rw[Array.toList_inj.1 h]
theorem zms (ts:List (Bool × B8))(i:Nat):∀ c,(xP ts i++[41]).head?=some c->z94 c:=by
 intro c h
 cases ts with
 | nil=>simp[xP] at h;exact .inr (.inl h.symm)
 | cons t r=>
  rw[xP] at h;simp only[List.cons_append,List.head?_cons,Option.some.injEq] at h;rw[<-h]
  split
  ·exact .inl rfl
  ·exact .inr (.inr rfl)
theorem zuf:∀ (ts us:List (Bool × B8)) (i:Nat),(∀ t∈ts,cJ t.2)->(∀ t∈us,cJ t.2)->xP ts i++[41]=xP us i++[41]->ts.map (·.2)=us.map (·.2)
 | [],[],_,_,_,_=>rfl
 | [],u::us,i,_,_,h=>by
  rw[xP,xP,List.cons_append] at h;simp only[List.nil_append] at h;injection h with h1 _
  split at h1 <;> exact absurd h1 (by decide)
 | t::ts,[],i,_,_,h=>by
  rw[xP,xP,List.cons_append] at h;simp only[List.nil_append] at h;injection h with h1 _
  split at h1 <;> exact absurd h1 (by decide)
 | t::ts,u::us,i,ht,hu,h=>by
  rw[xP,xP,List.cons_append,List.cons_append] at h;injection h with _ h2
  rw[List.append_assoc,List.append_assoc] at h2;obtain⟨e1,e2⟩:=zjl (ht t List.mem_cons_self).sep (hu u List.mem_cons_self).sep (zms _ _) (zms _ _) h2;rw[List.map_cons,List.map_cons,zxb e1,zuf ts us (i+1) (λ x hx=>ht x (List.mem_cons_of_mem _ hx)) (λ x hx=>hu x (List.mem_cons_of_mem _ hx)) e2]
structure tQ (t:Th):Prop where
 pd:cJ t.1
 ts:∀ x∈t.2,cJ x
theorem zmt (t:Th):(xE t).map (·.2)=t.2:=by unfold xE;simp[List.map_map,Function.comp_def]
theorem tQ.aS {t:Th}(h:tQ t):∀ x∈xE t,cJ x.2:=by
 intro x hx;obtain⟨y,hy,rfl⟩:=List.mem_map.1 hx;exact h.ts y hy
theorem zyg (ts:List (Bool × B8)):∀ c,(xP ts 0++if ts.length=0 then [] else [41]).head?=some c->z94 c:=by
 intro c h
 cases ts with
 | nil=>simp[xP] at h
 | cons t r=>
  rw[if_neg (by simp)] at h;exact zms _ _ c h
theorem zjp {t u:Th}(ht:tQ t)(hu:tQ u)(h:yF t=yF u):t=u:=by
 have h':j2 t.1 (xE t)=j2 u.1 (xE u):=by
  have:=congrArg (λ x:B8=>x.data.toList) h;simpa[yF] using this
 unfold j2 at h';obtain⟨e1,e2⟩:=zjl ht.pd.sep hu.pd.sep (zyg _) (zyg _) h';have e3:(xE t).map (·.2)=(xE u).map (·.2):=by
  cases hT:xE t with
  | nil=>
   cases hU:xE u with
   | nil=>rfl
   | cons x r=>rw[hT,hU] at e2;simp[xP] at e2
  | cons y q=>
   cases hU:xE u with
   | nil=>rw[hT,hU] at e2;simp[xP] at e2
   | cons x r=>
    rw[hT,hU,if_neg (by simp),if_neg (by simp)] at e2;have h1:=ht.aS;have h2:=hu.aS;rw[hT] at h1;rw[hU] at h2;exact zuf _ _ 0 h1 h2 e2
 rw[zmt,zmt] at e3;exact Prod.ext (zxb e1) e3
def eV (e:zY):Prop:=∀ p∈e,cJ p.2
variable {v:B8} {e:zY}
theorem z8g (h:eV e)(hx:pAt e v=some x):cJ x:=by
 induction e with
 | nil=>cases hx
 | cons p r ih=>
  rw[pAt] at hx
  split at hx
  ·cases hx;exact h p List.mem_cons_self
  ·exact ih (λ q hq=>h q (List.mem_cons_of_mem _ hq)) hx
theorem eV.snoc (h:eV e)(hx:cJ x):eV (e++[(v,x)]):=by
 intro p hp;rcases List.mem_append.1 hp with hp | hp
 ·exact h p hp
 ·rw[List.mem_singleton.1 hp];exact hx
structure zpv (ps:P9)(a:xG):Prop where
 w:zpw a.p a.ts
 num:zV ps a.p=some a.ts.length
structure eE (ps:P9)(t:Th):Prop where
 w:tQ t
 num:zV ps t.1=some t.2.length
 ft:t.2.length<=4
end
section
open Go.RowKit Go.Maps
def zb7 (ps:P9)(A:xG):Bool:=match zV ps A.p with
 | some n=>decide (n=A.ts.length)
 | none=>true
theorem z5p (w:W8)(tb n:Nat)(ps:P9)(S:B8->Nat)(A:xG)(a:O8)(c:Nat)(h:qQ Tryz.prog 9 w tb n (stV ps S))(hp:A.p.size<=maxLen):
  Calls Tryz.prog 58 #[.map (some tb),.agg #[.string A.p,.slice a A.ts.length c]] w λ en w'=>en=.returned (.bool (zb7 ps A))/\Below w.heap.size w w':=by
 have k0:Below w.heap.size w (w.alloc (.cells #[.string A.p,.slice a A.ts.length c] 79)):=B9.alloc L9 _;have hm:=h.block (k0.block tb h.lt);have HK:=zC k0;clear h
 cases hn:zV ps A.p with
 | none=>
  have HS:=zC (show zb7 ps A=true by unfold zb7;rw[hn]);have hu:(stV ps S A.p).getD (.agg #[.string { data:=#[] },.int .i64 0,.int .i64 0])=.agg #[.string { data:=#[] },.int .i64 0,.int .i64 0]:=by unfold stV;rw[hn];rfl
  have hc:(stV ps S A.p).isSome=false:=by unfold stV;rw[hn];rfl
  clear k0;go_enter Tryz.func58,Tryz.ntmps58;go_wp2_with (at_lookup;refine vI _ rfl _ _ 73 rfl 9 185 Tryz.underlying9 Tryz.underlying73 (Tryz.zeroValue185 _) tb n (stV ps S) rfl hm A.p rfl hp _ hu _ hc ?_);go_ret;exact⟨by rw[zA HS];rfl,(zA HK).alloc (zA HK).size _⟩
 | some m=>
  have hu:(stV ps S A.p).getD (.agg #[.string { data:=#[] },.int .i64 0,.int .i64 0])=.agg #[.string A.p,.int .i64 (S A.p),.int .i64 m]:=by unfold stV;rw[hn];rfl
  have hc:(stV ps S A.p).isSome=true:=by unfold stV;rw[hn];rfl
  have HS:=zC (show zb7 ps A=((m:Int)==(A.ts.length:Int)) by
   unfold zb7;rw[hn]
   by_cases e:m=A.ts.length
   ·subst e;simp
   ·have:¬ ((m:Int)=A.ts.length):=by omega
    simp[e,this])
  clear k0;go_enter Tryz.func58,Tryz.ntmps58;go_wp2_with (at_lookup;refine vI _ rfl _ _ 73 rfl 9 185 Tryz.underlying9 Tryz.underlying73 (Tryz.zeroValue185 _) tb n (stV ps S) rfl hm A.p rfl hp _ hu _ hc ?_);go_ret;exact⟨by rw[zA HS];rfl,(zA HK).alloc (zA HK).size _⟩
def qY (l:Int):Bool:=decide (1<=l)&&decide (l<=50)
theorem zsz (w:W8)(l:Int):Calls Tryz.prog 34 #[.int .i64 l] w λ en w'=>en=.returned (.bool (qY l))/\w'=w:=by
 by_cases h1:1<=l
 ·go_enter Tryz.func34,Tryz.ntmps34;go_wp2_with fail;go_ret;exact⟨by unfold qY;simp[h1],rfl⟩
 ·go_enter Tryz.func34,Tryz.ntmps34;go_wp2_with fail;go_ret;exact⟨by (unfold qY;simp;omega),rfl⟩
end
end Go.Proofs.YtldkpahaocjdpaaGreat
