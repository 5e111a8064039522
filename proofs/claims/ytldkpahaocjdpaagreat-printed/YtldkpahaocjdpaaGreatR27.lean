/-
  Plain: the words of a text that was read: none is empty or long, none has a bracket or a comma in it.
-/
import Derived.Test.YtldkpahaocjdpaaGreatR26
set_option maxHeartbeats 16000000
set_option maxRecDepth 1000000
namespace Go.Proofs.YtldkpahaocjdpaaGreat
section
theorem skip_all (p:Int->Bool)(s:B8)(i:Nat):∀ j,i<=j->j<skip p s i->∃ h:j<s.size,p s[j].toNat=true:=by
 fun_induction skip p s i with
 | case1 i h hp ih=>
  intro j hj bP;rcases Nat.eq_or_lt_of_le hj with rfl | hj
  ·exact⟨h,hp⟩
  ·exact ih j hj bP
 | case2 i h hp=>intro j hj bP;omega
 | case3 i h=>intro j hj bP;omega
structure cY (x:B8):Prop where
 ne:0<x.size
 le:x.size<=8
 no:∀ c∈x.data.toList,c≠40/\c≠41/\c≠44
variable {s:B8}
theorem extract_bytes {a b:Nat}(hb:b<=s.size){c:UInt8}(h:c∈(s.extract a b).data.toList):∃ (j:Nat) (hj:j<s.size),a<=j/\j<b/\s[j]=c:=by
 rw[Array.mem_toList_iff,Array.mem_iff_getElem] at h;obtain⟨i,hi,rfl⟩:=h;have hsz:(s.extract a b).size=b-a:=by rw[ByteArray.size_extract];omega
 have Jr:i<(s.extract a b).size:=hi;refine⟨a+i,by omega,by omega,by omega,?_⟩;have:=ByteArray.getElem_extract Jr;rw[<-this];rfl
theorem word_of {p:Int->Bool}{k:Nat}(hp:∀ c:UInt8,p c.toNat=true->c≠40/\c≠41/\c≠44)(hk:k<=s.size)(h:k<skip p s k)(h8:skip p s k-k<=8):cY (s.extract k (skip p s k)):=by
 have hle:=skip_le p s k hk;refine⟨?_,?_,λ c hc=>?_⟩
 ·rw[ByteArray.size_extract];omega
 ·rw[ByteArray.size_extract];omega
 ·obtain⟨j,hj,h1,h2,rfl⟩:=extract_bytes hle hc;obtain⟨_,h3⟩:=skip_all p s k j h1 h2;exact hp _ h3
theorem low_ok (c:UInt8)(h:aP c.toNat=true):c≠40/\c≠41/\c≠44:=by
 refine⟨?_,?_,?_⟩ <;> (rintro rfl;revert h;decide)
theorem high_ok (c:UInt8)(h:aL c.toNat=true):c≠40/\c≠41/\c≠44:=by
 refine⟨?_,?_,?_⟩ <;> (rintro rfl;revert h;decide)
variable {p:Nat}
theorem tok_word (h:(tok s p).kind=110\/(tok s p).kind=118):cY (tok s p).text:=by
 revert h
 unfold tok;generalize skip aH s p=k;unfold tokAt;intro h
 by_cases c0:s.size<=k
 ·rw[if_pos c0] at h;rcases h with h | h <;> cases h
 rw[if_neg c0] at h ⊢
 by_cases c1:k<skip aP s k
 ·rw[if_pos c1] at h ⊢
  by_cases c2:(s.extract k (skip aP s k)).toList=[110,111,116]
  ·rw[if_pos c2] at h;rcases h with h | h <;> cases h
  rw[if_neg c2] at h ⊢
  by_cases c3:skip aP s k-k<=8
  ·rw[if_pos c3];exact word_of low_ok (by omega) c1 c3
  ·rw[if_neg c3] at h;rcases h with h | h <;> cases h
 rw[if_neg c1] at h ⊢
 by_cases c4:k<skip aL s k
 ·rw[if_pos c4] at h ⊢
  by_cases c3:skip aL s k-k<=8
  ·rw[if_pos c3];exact word_of high_ok (by omega) c4 c3
  ·rw[if_neg c3] at h;rcases h with h | h <;> cases h
 rw[if_neg c4] at h ⊢
 by_cases c5:signLen s k=0
 ·rw[if_pos c5] at h;rcases h with h | h <;> cases h
 rw[if_neg c5] at h
 by_cases c6:signLen s k=2
 ·rw[if_pos c6] at h;rcases h with h | h <;> cases h
 ·rw[if_neg c6] at h;rcases h with h | h <;> cases h
theorem rword_word (h:(ae s p).1=2\/(ae s p).1=3):cY (rword s p):=by
 by_cases hp:p<=s.size
 ·have K:=kinds s p hp;rw[K.k2,K.k3] at h;rw[K.word h];exact tok_word h
 ·exfalso
  have e:skip aH s p=p:=skip_end _ _ _ (by omega);have z:(s.extract p s.size).size=0:=by rw[ByteArray.size_extract];omega
  have:(ae s p).1=0:=by unfold ae;rw[e];simp only;unfold bJ;rw[dif_neg (by omega)]
  omega
structure AtomW (pd:B8)(ts:List (Bool × B8)):Prop where
 pd:cY pd
 ft:ts.length<=4
 ts:∀ t∈ts,cY t.2
theorem pterms_word (s:B8)(f:Nat):∀ {p:Nat} {l:List (Bool × B8)} {pl:Nat->Nat},(∀ t∈l,cY t.2)->∀ t∈(ptermsS s f p l pl).2.2.1,cY t.2:=by
 induction f with
 | zero=>intro p l pl h;exact h
 | succ f ih=>
  intro p l pl h;rw[ptermsS]
  split
  ·rename_i hk;have h':∀ t∈l++[((ae s p).1==3,rword s p)],cY t.2:=λ t ht=>by
    rcases List.mem_append.1 ht with ht | ht
    ·exact h t ht
    ·rw[List.mem_singleton.1 ht];exact rword_word hk
   split
   ·exact ih h'
   ·exact h'
  ·exact h
theorem dY {q:Nat}{pd:B8}{ts:List (Bool × B8)}{pl:Nat->Nat}(h:patomS s p=.yes q pd ts pl):AtomW pd ts:=by
 have h4:=(patom_ok h).2;unfold patomS at h
 by_cases c1:(ae s p).1=2
 ·rw[if_pos c1] at h
  by_cases c2:(ae s (ae s p).2.2).1=5
  ·rw[if_pos c2] at h
   by_cases c3:(ptermsS s 4 (ae s (ae s p).2.2).2.2 [] (λ _=>0)).1=true
   ·rw[if_pos c3] at h;injection h with h1 h2 h3 h4
    subst h2 h3;exact⟨rword_word (.inl c1),h4,pterms_word s 4 (by simp)⟩
   ·rw[if_neg c3] at h;cases h
  ·rw[if_neg c2] at h;injection h with h1 h2 h3 h4
   subst h2 h3;exact⟨rword_word (.inl c1),h4,by simp⟩
 ·rw[if_neg c1] at h;cases h
def RuleW (R:PRule):Prop:=AtomW R.pd R.ts/\∀ l∈R.body,AtomW l.pd l.ts
theorem pbody_word (s:B8)(num f:Nat):∀ {p:Nat} {l:List PLit} {ms:List PMen},(∀ x∈l,AtomW x.pd x.ts)->∀ x∈(pbodyS s num f p l ms).2.2.1,AtomW x.pd x.ts:=by
 induction f with
 | zero=>intro p l ms hl;exact hl
 | succ f ih=>
  intro p l ms hl;rw[pbodyS]
  cases hr:patomS s (rtake s p 4) with
  | no q=>exact hl
  | yes q pd ts pl=>
   have mE:∀ x∈l++[cJ s p pd ts],AtomW x.pd x.ts:=λ x hx=>by
    rcases List.mem_append.1 hx with hx | hx
    ·exact hl x hx
    ·simp at hx;subst hx;exact dY hr
   simp only
   split
   ·exact ih (p:=(ae s q).2.2) mE
   ·exact mE
theorem prule_word (s:B8)(num p:Nat)(ms:List PMen)(h:(pruleS s num p ms).1=true):RuleW (pruleS s num p ms).2.2.1:=by
 unfold pruleS at h ⊢
 cases hr:patomS s p with
 | no q=>rw[hr] at h;cases h
 | yes q pd ts pl=>
  rw[hr] at h;simp only at h ⊢
  split
  ·exact⟨dY hr,by simp⟩
  ·split
   ·exact⟨dY hr,pbody_word s num 3 (p:=(ae s q).2.2) (l:=[]) (by simp)⟩
   ·exact⟨dY hr,by simp⟩
theorem prules_word (s:B8)(f:Nat):∀ {p:Nat} {rs:List PRule} {ms:List PMen},(∀ R∈rs,RuleW R)->∀ R∈(prulesS s f p rs ms).2.2.1,RuleW R:=by
 induction f with
 | zero=>intro p rs ms hr;exact hr
 | succ f ih=>
  intro p rs ms hr;rw[prulesS]
  split
  ·exact hr
  ·split
   ·exact hr
   ·split
    ·rename_i hy;refine ih (λ R hR=>?_);rcases List.mem_append.1 hR with hR | hR
     ·exact hr R hR
     ·simp at hR;subst hR;exact prule_word s _ _ _ hy
    ·exact hr
theorem pparsed_word (s:B8):∀ R∈(pparsed s).2.2.1,RuleW R:=prules_word s 31 (by simp)
end
section
open Go.RowKit Go.Maps
attribute [local go_sem ↓] to_bLoad to_bStore to_bAlloc bindV_cells to_tLoad to_tStore to_tAlloc thV_cells
attribute [local go_sem] bStore_new run_bAlloc tStore_new run_tAlloc
def hitB (A:PAtm)(p:Th × Nat):Bool:=(aG [] A p.1).isSome
theorem nodup_of_keys {L:List (Th × Nat)}(h:(L.map (·.1)).Nodup):L.Nodup:=by
 induction L with
 | nil=>simp
 | cons x r ih=>
  rw[List.map_cons,List.nodup_cons] at h;exact List.nodup_cons.2 ⟨λ hm=>h.1 (List.mem_map_of_mem hm),ih h.2⟩
theorem mg_step {K ts:List (Th × Nat)}{A:PAtm}{Lf:Th->Prop}(hm:∀ p,p∈ts↔p∈K/\¬ Lf p.1/\hitB A p=true){t:Th}{n:Nat}(ht:(t,n)∈K)(hK:(K.map (·.1)).Nodup):(hitB A (t,n)=true->∀ p,p∈ts++[(t,n)]↔p∈K/\¬ (Lf p.1/\¬ p.1=t)/\hitB A p=true)/\(hitB A (t,n)=false->∀ p,p∈ts↔p∈K/\¬ (Lf p.1/\¬ p.1=t)/\hitB A p=true):=by
 have key:∀ p∈K,p.1=t->p=(t,n):=λ p hp e=>by
  have h1:=lookN_of hK hp;have h2:=lookN_of hK ht;rw[e,h2] at h1;have h3:=Option.some.inj h1;exact Prod.ext e h3.symm
 constructor
 ·intro hh p;rw[List.mem_append,hm]
  constructor
  ·rintro (⟨h1,h2,h3⟩ | h1)
   ·exact⟨h1,λ h=>h2 h.1,h3⟩
   ·rw[List.mem_singleton.1 h1];exact⟨ht,λ h=>h.2 rfl,hh⟩
  ·rintro⟨h1,h2,h3⟩
   by_cases e:p.1=t
   ·right;rw[key p h1 e];exact List.mem_singleton.2 rfl
   ·left;exact⟨h1,λ h=>h2 ⟨h,e⟩,h3⟩
 ·intro hh p;rw[hm]
  constructor
  ·rintro⟨h1,h2,h3⟩;exact⟨h1,λ h=>h2 h.1,h3⟩
  ·rintro⟨h1,h2,h3⟩;refine⟨h1,λ h=>h2 ⟨h,λ e=>?_⟩,h3⟩;rw[key p h1 e,hh] at h3;cases h3
structure MgIn (w:W8)(kb rb:Nat)(A:PAtm)(aa:O8)(ac:Nat)(K:List (Th × Nat))(Lf:Th->Prop)(ts:List (Th × Nat))(v:Value)(dF:Nat)(wr:W8):Prop where
 rg:cx wr kb rb K Lf dF
 at_:wr.heap[w.heap.size]?=some (.cells #[.string A.p,.slice aa A.ts.length ac] 79 (0,0))
 mem:∀ p,p∈ts↔p∈K/\¬ Lf p.1/\hitB A p=true
 nd:ts.Nodup
 len:ts.length+dF<=K.length
 row:wr.ownsRow (w.heap.size+1+1) 9 1 v ts.length ((ts.map λ p=>thText p.1).map Value.string)
 k:Below w.heap.size w wr
def MatchingPost (w:W8)(A:PAtm)(K:List (Th × Nat))(e:Ending)(w':W8):Prop:=
 ∃ (zs:List B8) (a:O8) (c:Nat),e=.returned (.slice a zs.length c)/\zs.Perm ((K.filter (hitB A)).map λ p=>thText p.1)/\w'.ownsRow w.heap.size 9 1 (.slice a zs.length c) zs.length ((sortT zs).map encStr)/\Below w.heap.size w w'
theorem matching_any (w:W8)(kb base:Nat)(A:PAtm)(aa:O8)(ac:Nat)(K:List (Th × Nat))(hm:aM w kb K)(hr:w.ownsRow base 191 1 (.slice aa A.ts.length ac) A.ts.length (A.ts.map termV))(h4:A.ts.length<=4)(hK:K.length<=1000)(zx:∀ p∈K,(atomT p.1.1 (thTerms p.1)).length<=1000000000):
  Calls Tryz.prog 39 #[.map (some kb),.agg #[.string A.p,.slice aa A.ts.length ac]] w (MatchingPost w A K):=by
 obtain⟨i0,hi,dK,ir,bZ⟩:=info_parts infoString;have HR:=hide hr;have vA:=hide zx;have du:=hm.lt;have HM:=hide hm;clear hr zx hm;go_enter Tryz.func39,Tryz.ntmps39;go_upto_region 2 with fail;generalize hw0:World.alloc w _=w0;have k0:Below w.heap.size w w0:=by rw[<-hw0];exact (Below.refl w.heap.size w).alloc L9 _
 have x0:w0.heap[w.heap.size]?=some (.cells #[.string A.p,.slice aa A.ts.length ac] 79 (0,0)):=by rw[<-hw0];exact heap_alloc_new w _
 have s0:w0.heap.size=w.heap.size+1:=by rw[<-hw0];simp
 have nE:aM w0 kb K:=(ad HM).block (k0.block _ du);have gM:=hide k0;have qb:=hide x0;have fH:=hide s0;clear hw0 k0 x0 s0;go_wp2_with (first | (at_range;refine wp_hrange _ rfl _ 83 rfl Tryz.underlying83 kb K rfl nE ?_;intro w1 hrg1 eP js) | go_in)
 try go_frame
 have h0:MgIn w kb w0.heap.size A aa ac K (λ _=>True) [] (.slice none 0 0) K.length w1:=by
  have s0:=ad fH;refine⟨hrg1,(eP.block _ (by omega) (by simp)).trans (ad qb),λ p=>⟨λ h=>absurd h List.not_mem_nil,λ h=>absurd trivial h.2.1⟩,by simp,by simp,World.ownsRow_nil _ _ _ _,⟨eP.os.trans (ad gM).os,eP.tape.trans (ad gM).tape,eP.output.trans (ad gM).output,Nat.le_trans (ad gM).size eP.size,λ j hj=>(eP.block j (by omega) (by simp)).trans ((ad gM).block j hj)⟩⟩
 have H0:=hide h0;clear hrg1 eP js nE h0
 go_loopg [5] K.length (λ gg v wr=>∃ (Lf:Th->Prop) (ts:List (Th × Nat)),MgIn w kb w0.heap.size A aa ac K Lf ts v gg wr)
 exact⟨_,_,ad H0⟩
 case round=>
  clear H0;obtain⟨Lf,ts,ak⟩:=hrel;obtain⟨a1,c1,rfl⟩:=own_slice ak.row;have jf:=ak.rg;have Dv:=ak.rg.lt;have sU:w.heap.size+1<wr.heap.size:=by have:=ad fH;omega
  clear Dv;have hlen:=ak.len;have bt:=hide ak;clear ak;go_wp2_with (first | (at_next;refine wp_hnext _ rfl _ rfl kb w0.heap.size K Lf gk rfl jf ?_ ?_) | go_in)
  ·intro cF;have HD:=hide cF;have ak:=ad bt;have jz:((ts.map λ p=>thText p.1)).length=ts.length:=(by simp);have aE:=ak.row;rw[<-jz] at aE;have HS:=hide (sortT_any wr (w.heap.size+1+1) a1 c1 (ts.map λ p=>thText p.1) aE (by rw[jz];omega));rw[jz] at HS;clear cF jf ak aE;go_wp2_with (go_at_call 64;refine (ad HS).mono ?_;rintro e w2 ⟨rfl,sF,dd⟩;have Bk:=hide sF;have A6:=hide dd;clear sF dd);go_ret;have ak:=ad bt;have g2:=ad A6;refine⟨ts.map λ p=>thText p.1,a1,c1,by rw[jz];rfl,List.Perm.map _ ((List.perm_ext_iff_of_nodup ak.nd ((nodup_of_keys ak.rg.map.nodup).filter _)).2 λ p=>?_),?_,?_⟩
   ·rw[ak.mem,List.mem_filter];exact⟨λ ⟨h1,_,h3⟩=>⟨h1,h3⟩,λ ⟨h1,h3⟩=>⟨h1,ad HD p.1.1 p.1.2 p.2 h1,h3⟩⟩
   ·rw[jz];have:=ad Bk;rw[jz] at this;exact aw this (by omega)
   ·exact⟨g2.os.trans ak.k.os,g2.tape.trans ak.k.tape,g2.output.trans ak.k.output,Nat.le_trans ak.k.size g2.size,λ i hi=>(g2.block i (by omega) (λ e=>by have:=(ak.row.lt i e.symm).1;omega)).trans (ak.k.block i hi)⟩
  ·intro tp tts n w2 cnt2 gZ kV hrg2 gX dd lj hen2;generalize ((tp,tts):Th)=t at *;have ak:=ad bt;have s0:=ad fH;have k2:Below w.heap.size w w2:=⟨dd.os.trans ak.k.os,dd.tape.trans ak.k.tape,dd.output.trans ak.k.output,Nat.le_trans ak.k.size dd.size,λ i hi=>(dd.block i (by omega) (by simp;omega)).trans (ak.k.block i hi)⟩;have a2:w2.heap[w.heap.size]?=some (.cells #[.string A.p,.slice aa A.ts.length ac] 79 (0,0)):=(dd.block _ (by omega) (by simp;omega)).trans ak.at_;have r2:w2.ownsRow (w.heap.size+1+1) 9 1 (.slice a1 ts.length c1) ts.length ((ts.map λ p=>thText p.1).map Value.string):=own_block ak.row (λ g e=>dd.block g (ak.row.lt g e).2 (λ e2=>by have:=(ak.row.lt g e).1;injection e2 with e2;omega));have hT:ThOk t:=ak.rg.map.ok _ gZ;have kj:wr.heap.size<=w2.heap.size:=dd.size;have k3:Below w2.heap.size w2 (w2.alloc (.cells (aq t).toArray 88)):=B9.alloc L9 _;have Gu:Below w.heap.size w (w2.alloc (.cells (aq t).toArray 88)):=k2.trans (k3.mono k2.size);have HM:=hide (pmatch_any (w2.alloc (.cells (aq t).toArray 88)) base [] A aa ac t (own_block (ad HR) (λ g e=>Gu.block g ((ad HR).lt g e).2)) h4 (A.ts.map (·.2)) (by simp;omega) (aY.nil _) (λ t ht _=>List.mem_map_of_mem ht));have t3:=(TV.new w2 t).load;obtain⟨q0,-⟩:=block_cells ((k3.block _ (by omega)).trans a2) 0;obtain⟨q1,-⟩:=block_cells ((k3.block _ (by omega)).trans a2) 1;simp only[List.getElem?_toArray,List.getElem?_cons_zero,List.getElem?_cons_succ] at q0 q1;have HT:=hide hT;have iU:=hide hrg2;have ky:=hide k2;have vg:=hide a2;have rO:=hide r2;have fU:=hide gZ;have Ee:=hide kV;have fZ:=ad vA _ gZ;have jP:(t,n)∉ts:=λ hm=>((ak.mem _).1 hm).2.1 kV
   have tF:=hide jP;have fT:=hide (mg_step ak.mem gZ ak.rg.map.nodup);have ju:=hide ak.nd;clear lj dd jf hrg2 k2 a2 r2 hT gZ kV ak k3 Gu jP s0;obtain⟨R,hR⟩:∃ R,R=aG [] A t:=⟨_,rfl⟩;rw[<-hR] at HM;have yF:hitB A (t,n)=R.isSome:=(by unfold hitB;rw[hR]);have wK:=hide yF;clear hR yF;go_upto_region 6 with (go_at_call 62;refine (ad HM).mono ?_;rintro en w4 ⟨bQ,rfl⟩;have eC:=hide bQ;clear bQ);generalize pI:World.alloc w4 _=w5;have b5:Below w2.heap.size w2 w5:=by
    rw[<-pI];have b4:=ad eC;exact ((B9.alloc L9 _).trans (b4.mono (by simp))).alloc (by have:=b4.size;simp at this;omega) _
   have t5:TV w5 w2.heap.size t:=by
    rw[<-pI];exact ((TV.new w2 t).below (ad eC)).alloc _
   have l5:=t5.load;have jn:=hide b5;have Kf:=b5.size;have Gw:Below w.heap.size w w5:=(ad ky).trans (b5.mono (ad ky).size);have r5:=own_below (ad rO) b5 (λ g e=>((ad rO).lt g e).2);have a5:w5.heap[w.heap.size]?=some (.cells #[.string A.p,.slice aa A.ts.length ac] 79 (0,0)):=(b5.block _ (by omega)).trans (ad vg);have g5:cx w5 kb w0.heap.size K (λ x=>Lf x/\¬ x=t) cnt2:=(ad iU).blocks (b5.block _ (ad iU).map.lt) (b5.block _ (ad iU).lt);have D9:=hide Gw;have tJ:=hide r5;have D0:=hide a5;have jG:=hide g5;have Ik:=hide (thtext_any w5 t (ad HT) fZ);clear pI b5 t5 Gw r5 a5 g5 t3 q0 q1 hen2
   cases hr:R with
   | none=>
    have hh:hitB A (t,n)=false:=(by rw[ad wK,hr];rfl);have HS:=hide ((ad fT).2 hh);clear hh hr;go_wp2_with fail;go_roundg cnt2;exact⟨_,ts,ad jG,ad D0,ad HS,ad ju,by omega,ad tJ,ad D9⟩;omega
   | some e2=>
    have hh:hitB A (t,n)=true:=(by rw[ad wK,hr];rfl);have HS:=hide ((ad fT).1 hh);clear hh hr;go_wp2_with fail;refine (ad Ik).mono ?_;rintro en w6 ⟨rfl,iA⟩;have Du:=iA.size;have r6:=own_below (ad tJ) iA (λ g e=>((ad tJ).lt g e).2);have bP:ts.length<=1000:=(by omega);have mU:=hide iA;clear iA;go_wp2_with (at_builtin;refine wpList_append_own _ rfl _ _ 33 rfl (w.heap.size+1+1) 9 i0 _ 1 16 Tryz.underlying33 hi dK ir bZ rfl (by decide) _ _ _ rfl (r6.alloc _) ⟨w6.heap.size,0,none⟩ 1 1 [.string (thText t)] rfl rfl (str_cell1 w6 _) (str_one _) (by unfold maxLen;omega) (by omega) (by simp;omega) ?_;intro v7 w7 hown7 qs hne7;clear hne7;obtain⟨a7,BS,rfl⟩:=own_slice hown7;have Bl:=hide hown7;have A7:=hide qs;clear hown7 qs);go_roundg cnt2
    case measure=>omega
    case rel=>
     have g7:=ad A7;have b6:=ad mU;have s0:=ad fH;have hb:∀ i,i<w5.heap.size->i<w.heap.size+1+1->w7.heap[i]?=w5.heap[i]?:=λ i hi h2=>by
      rw[g7.block i (by simp;omega) (λ e=>by have:=(r6.lt i e.symm).1;omega),Below.heap_alloc _ _ _ (by omega),b6.block i hi]
     have vK:kb<w.heap.size+1+1:=(by omega);refine⟨_,ts++[(t,n)],(ad jG).blocks (hb _ (ad jG).map.lt vK) (hb _ (ad jG).lt (by omega)),(hb _ (by omega) (by omega)).trans (ad D0),ad HS,List.nodup_append.2 ⟨ad ju,by simp,λ x hx y hy e=>by rw[List.mem_singleton.1 hy] at e;rw[e] at hx;exact ad tF hx⟩,by rw[List.length_append];simp;omega,?_,?_⟩
     ·have h7:=ad Bl;have e1:(ts++[(t,n)]).length=ts.length+1:=(by simp);rw[e1,List.map_append,List.map_append];exact h7
     ·have k5:=ad D9;exact⟨g7.os.trans (b6.os.trans k5.os),g7.tape.trans (b6.tape.trans k5.tape),g7.output.trans (b6.output.trans k5.output),by have h1:=g7.size;have h2:=k5.size;simp at h1;omega,λ i hi=>(hb i (by omega) (by omega)).trans (k5.block i hi)⟩
end
section
open Go.RowKit Go.Maps
inductive PStrat (rs:List PR)(S:B8->Nat)(limit count:Nat):Nat->List (Th × Nat)->Option (List (Th × Nat))->Prop
 | ends {s:Nat} {K:List (Th × Nat)}:count<=s->PStrat rs S limit count s K (some K)
 | fK {s:Nat} {K:List (Th × Nat)}:s<count->PClimb (rs.filter (bI S s)) limit 1 K none->PStrat rs S limit count s K none
 | next {s:Nat} {K K':List (Th × Nat)} {r:Option (List (Th × Nat))}:s<count->PClimb (rs.filter (bI S s)) limit 1 K (some K')->PStrat rs S limit count (s+1) K' r->PStrat rs S limit count s K r
theorem dr.filter {rs:List PR}{TI:Th->Prop}(h:dr rs TI)(f:PR->Bool):dr (rs.filter f) TI:=λ K hK r hr=>h K hK r (List.mem_filter.1 hr).1
structure FollIn (w:W8)(kb:Nat)(rs:List PR)(S:B8->Nat)(limit count:Nat)(TI:Th->Prop)(s:Nat)(K:List (Th × Nat))(wr:W8):Prop where
 m:aM wr kb K
 ti:∀ p∈K,TI p.1
 len:K.length<=limit
 k:Below w.heap.size w wr
 rel:∀ r,PStrat rs S limit count s K r->PStrat rs S limit count 0 [] r
def FollPost (w:W8)(rs:List PR)(ps:P9)(S:B8->Nat)(limit:Nat)(TI:Th->Prop)(en:Ending)(w':W8):Prop:=
 ∃ m r,IsCount ps S m/\PStrat rs S limit m 0 [] r/\Below w.heap.size w w'/\(r=none->en=.returned (.tuple #[.map none,.bool false])) /\
  ∀ K,r=some K->∃ kb,en=.returned (.tuple #[.map (some kb),.bool true])/\w.heap.size<=kb/\aM w' kb K/\K.length<=limit/\∀ p∈K,TI p.1
theorem foll_any (w:W8)(base:Nat)(ar:O8)(cr:Nat)(rs:List PR)(tb n:Nat)(ps:P9)(S:B8->Nat)(limit:Nat)(TI:Th->Prop)(h:bR w base (.slice ar rs.length cr) rs)(hb:base<=w.heap.size)(ht:SMap Tryz.prog 9 w tb n (stV ps S))(hS:∀ k,(numOf ps k).isSome=true->S k<=1000000)(iG:rs.length<=1000)(eN:∀ r∈rs,r.R.pd.size<=800/\(numOf ps r.R.pd).isSome=true)(oX:dr rs TI)(hl:limit<=50):
  Calls Tryz.prog 38 #[.slice ar rs.length cr,.map (some tb),.int .i64 (limit:Nat)] w (FollPost w rs ps S limit TI):=by
 have H:=hide h;have HT:=hide ht;have qC:=hide eN;have pZ:=hide oX;have fZ:=ht.lt;have k0:Below w.heap.size w (w.alloc (.map #[] 0)):=B9.alloc L9 _;have HC:=hide (count_any (w.alloc (.map #[] 0)) tb n ps S (ht.block (k0.block tb fZ)) hS);have cq:=hide k0;have jA:=@run_makeMap Tryz.prog;have vx:=hide hS;clear h ht eN oX hS k0;go_enter Tryz.func38,Tryz.ntmps38;go_wp2_with (go_at_call 59;refine (ad HC).mono ?_;rintro en w1 ⟨m,rfl,eM,aT⟩;have fw:=hide eM;have cR:=hide aT;clear eM aT);have ym:Below w.heap.size w w1:=(ad cq).trans ((ad cR).mono (by simp));have fa:aM w1 w.heap.size []:=(aM.made w).block ((ad cR).block _ (by simp));have H0:=hide (show FollIn w w.heap.size rs S limit m TI 0 [] w1 from ⟨fa,by simp,by simp,ym,λ _ h=>h⟩);have mG:m<=1000001:=by
  rcases (ad fw).2 with h | ⟨j,hj,h⟩
  ·omega
  ·have:=ad vx j hj;omega
 clear ym fa jA
 go_loopg [13] m (λ gg i wr=>∃ (s:Nat) (K:List (Th × Nat)),s<=m/\gg=m-s/\i=.int .i64 (s:Nat)/\FollIn w w.heap.size rs S limit m TI s K wr)
 exact⟨0,[],Nat.zero_le _,rfl,rfl,ad H0⟩
 case round=>
  clear H0;obtain⟨s,K,hs,fM,rfl,ak⟩:=hrel;have bt:=hide ak;clear ak
  by_cases aN:s<m
  ·have ak:=ad bt;have hsi:(s:Int)<m:=(by omega);have aE:bR wr base (.slice ar rs.length cr) rs:=⟨own_below (ad H).row ak.k (λ g e=>((ad H).row.lt g e).2),λ r hr=>⟨own_below ((ad H).each r hr).hd ak.k (λ g e=>(((ad H).each r hr).hd.lt g e).2),((ad H).each r hr).bo.below ak.k,((ad H).each r hr).eq⟩⟩;have HO:=hide (ofstr_any wr base ar cr rs tb n ps S s aE (Nat.le_trans hb ak.k.size) ((ad HT).block (ak.k.block tb fZ)) iG (ad qC));have HM:=hide ak.m;have wz:=hide (λ (w2:W8) (a:O8) (c:Nat) (aU:Below wr.heap.size wr w2) (fc:bR w2 base (.slice a (rs.filter (bI S s)).length c) (rs.filter (bI S s)))=>climb_any w2 w.heap.size base a c (rs.filter (bI S s)) limit TI K ((ad bt).m.block (aU.block _ (ad bt).m.lt)) fc ((ad pZ).filter _) (ad bt).ti (ad bt).len hl);clear ak aE;go_wp2_with fail;refine (ad HO).mono ?_;rintro en w2 ⟨a2,c2,rfl,aU,fc⟩;have ks:=hide (ad wz w2 a2 c2 aU fc);have ep:=hide aU;clear aU fc wz;go_wp2_with fail;refine (ad ks).mono ?_;rintro en w3 ⟨r,FV,rfl,fB,ET⟩;have qy:=hide fB;have zZ:=hide FV;have Hd:=hide ET;have cE:Below w.heap.size w w3:=by
    have ak:=ad bt;have aU:=ad ep;have h2:Below w.heap.size w w2:=ak.k.trans (aU.mono ak.k.size);exact⟨fB.os.trans h2.os,fB.tape.trans h2.tape,fB.output.trans h2.output,Nat.le_trans h2.size fB.size,λ i hi=>(fB.block i (by have:=h2.size;omega) (by simp;omega)).trans (h2.block i hi)⟩
   have gh:=hide cE;clear fB FV ET cE
   cases hr:r with
   | none=>
    rw[hr] at zZ;go_wp2_with fail
    go_ret2
    exact⟨m,none,ad fw,(ad bt).rel _ (.fK aN (ad zZ)),ad gh,λ _=>rfl,λ K e=>by cases e⟩
   | some K'=>
    obtain⟨ey,ki,sr⟩:=ad Hd K' hr;rw[hr] at zZ;have mW:=hide ey;have tO:=hide ki;clear ey ki;go_wp2_with fail;go_roundg (m-(s+1));exact⟨s+1,K',by omega,rfl,by go_num,ad mW,ad tO,sr,ad gh,λ r h=>(ad bt).rel r (.next aN (ad zZ) h)⟩;omega
  ·go_wp2_with fail
   go_ret2
   have ak:=ad bt;exact⟨m,some K,ad fw,ak.rel _ (.ends (by omega)),ak.k,(λ e=>by cases e),λ K2 e=>by cases e;exact⟨_,rfl,Nat.le_refl _,ak.m,ak.len,ak.ti⟩⟩
end
section
def pa (A:RAtom):PAtm:=⟨A.pred,A.aS.map dI⟩
def thA (A:RAtom):Th:=(A.pred,A.aS.map (·.text))
def SepB (c:UInt8):Prop:=c=40\/c=41\/c=44
theorem split_word:∀ {a b x y:List UInt8},(∀ c∈a,¬ SepB c)->(∀ c∈b,¬ SepB c)->(∀ c,x.head?=some c->SepB c)->(∀ c,y.head?=some c->SepB c)->a++x=b++y->a=b/\x=y
 | [],[],_,_,_,_,_,_,h=>⟨rfl,h⟩
 | [],c::b,x,y,_,hb,hx,_,h=>by
  rw[List.nil_append,List.cons_append] at h;exact absurd (hx c (by rw[h];rfl)) (hb c List.mem_cons_self)
 | c::a,[],x,y,ha,_,_,hy,h=>by
  rw[List.nil_append,List.cons_append] at h;exact absurd (hy c (by rw[<-h];rfl)) (ha c List.mem_cons_self)
 | c::a,d::b,x,y,ha,hb,hx,hy,h=>by
  rw[List.cons_append,List.cons_append] at h;injection h with h1 h2
  obtain⟨e1,e2⟩:=split_word (λ c hc=>ha c (List.mem_cons_of_mem _ hc)) (λ c hc=>hb c (List.mem_cons_of_mem _ hc)) hx hy h2;exact⟨by rw[h1,e1],e2⟩
variable {x:B8}
theorem cY.sep (h:cY x):∀ c∈x.data.toList,¬ SepB c:=λ c hc=>by
 have:=h.no c hc;unfold SepB;simp[this]
theorem data_inj {y:B8}(h:x.data.toList=y.data.toList):x=y:=by
 cases x;cases y
 simp only at h;rw[Array.toList_inj.1 h]
theorem terms_sep (ts:List (Bool × B8))(i:Nat):∀ c,(termsT ts i++[41]).head?=some c->SepB c:=by
 intro c h
 cases ts with
 | nil=>simp[termsT] at h;exact .inr (.inl h.symm)
 | cons t r=>
  rw[termsT] at h;simp only[List.cons_append,List.head?_cons,Option.some.injEq] at h;rw[<-h]
  split
  ·exact .inl rfl
  ·exact .inr (.inr rfl)
theorem terms_inj:∀ (ts us:List (Bool × B8)) (i:Nat),(∀ t∈ts,cY t.2)->(∀ t∈us,cY t.2)->termsT ts i++[41]=termsT us i++[41]->ts.map (·.2)=us.map (·.2)
 | [],[],_,_,_,_=>rfl
 | [],u::us,i,_,_,h=>by
  rw[termsT,termsT,List.cons_append] at h;simp only[List.nil_append] at h;injection h with h1 _
  split at h1 <;> exact absurd h1 (by decide)
 | t::ts,[],i,_,_,h=>by
  rw[termsT,termsT,List.cons_append] at h;simp only[List.nil_append] at h;injection h with h1 _
  split at h1 <;> exact absurd h1 (by decide)
 | t::ts,u::us,i,ht,hu,h=>by
  rw[termsT,termsT,List.cons_append,List.cons_append] at h;injection h with _ h2
  rw[List.append_assoc,List.append_assoc] at h2;obtain⟨e1,e2⟩:=split_word (ht t List.mem_cons_self).sep (hu u List.mem_cons_self).sep (terms_sep _ _) (terms_sep _ _) h2;rw[List.map_cons,List.map_cons,data_inj e1,terms_inj ts us (i+1) (λ x hx=>ht x (List.mem_cons_of_mem _ hx)) (λ x hx=>hu x (List.mem_cons_of_mem _ hx)) e2]
structure tQ (t:Th):Prop where
 pd:cY t.1
 ts:∀ x∈t.2,cY x
theorem thTerms_snd (t:Th):(thTerms t).map (·.2)=t.2:=by unfold thTerms;simp[List.map_map,Function.comp_def]
theorem tQ.aS {t:Th}(h:tQ t):∀ x∈thTerms t,cY x.2:=by
 intro x hx;obtain⟨y,hy,rfl⟩:=List.mem_map.1 hx;exact h.ts y hy
theorem tail_sep (ts:List (Bool × B8)):∀ c,(termsT ts 0++if ts.length=0 then [] else [41]).head?=some c->SepB c:=by
 intro c h
 cases ts with
 | nil=>simp[termsT] at h
 | cons t r=>
  rw[if_neg (by simp)] at h;exact terms_sep _ _ c h
theorem thText_inj {t u:Th}(ht:tQ t)(hu:tQ u)(h:thText t=thText u):t=u:=by
 have h':atomT t.1 (thTerms t)=atomT u.1 (thTerms u):=by
  have:=congrArg (λ x:B8=>x.data.toList) h;simpa[thText] using this
 unfold atomT at h';obtain⟨e1,e2⟩:=split_word ht.pd.sep hu.pd.sep (tail_sep _) (tail_sep _) h';have e3:(thTerms t).map (·.2)=(thTerms u).map (·.2):=by
  cases hT:thTerms t with
  | nil=>
   cases hU:thTerms u with
   | nil=>rfl
   | cons x r=>rw[hT,hU] at e2;simp[termsT] at e2
  | cons y q=>
   cases hU:thTerms u with
   | nil=>rw[hT,hU] at e2;simp[termsT] at e2
   | cons x r=>
    rw[hT,hU,if_neg (by simp),if_neg (by simp)] at e2;have h1:=ht.aS;have h2:=hu.aS;rw[hT] at h1;rw[hU] at h2;exact terms_inj _ _ 0 h1 h2 e2
 rw[thTerms_snd,thTerms_snd] at e3;exact Prod.ext (data_inj e1) e3
def gq (e:ax):Prop:=∀ p∈e,cY p.2
variable {v:B8} {e:ax}
theorem pAt_word (h:gq e)(hx:pAt e v=some x):cY x:=by
 induction e with
 | nil=>cases hx
 | cons p r ih=>
  rw[pAt] at hx
  split at hx
  ·cases hx;exact h p List.mem_cons_self
  ·exact ih (λ q hq=>h q (List.mem_cons_of_mem _ hq)) hx
theorem gq.snoc (h:gq e)(hx:cY x):gq (e++[(v,x)]):=by
 intro p hp;rcases List.mem_append.1 hp with hp | hp
 ·exact h p hp
 ·rw[List.mem_singleton.1 hp];exact hx
structure AtomG (ps:P9)(a:PAtm):Prop where
 w:AtomW a.p a.ts
 num:numOf ps a.p=some a.ts.length
structure eE (ps:P9)(t:Th):Prop where
 w:tQ t
 num:numOf ps t.1=some t.2.length
 ft:t.2.length<=4
end
section
open Go.RowKit Go.Maps
def suitsB (ps:P9)(A:PAtm):Bool:=match numOf ps A.p with
 | some n=>decide (n=A.ts.length)
 | none=>true
theorem suits_any (w:W8)(tb n:Nat)(ps:P9)(S:B8->Nat)(A:PAtm)(a:O8)(c:Nat)(h:SMap Tryz.prog 9 w tb n (stV ps S))(hp:A.p.size<=maxLen):
  Calls Tryz.prog 58 #[.map (some tb),.agg #[.string A.p,.slice a A.ts.length c]] w λ en w'=>en=.returned (.bool (suitsB ps A))/\Below w.heap.size w w':=by
 have k0:Below w.heap.size w (w.alloc (.cells #[.string A.p,.slice a A.ts.length c] 79)):=B9.alloc L9 _;have hm:=h.block (k0.block tb h.lt);have HK:=hide k0;clear h
 cases hn:numOf ps A.p with
 | none=>
  have HS:=hide (show suitsB ps A=true by unfold suitsB;rw[hn]);have hu:(stV ps S A.p).getD (.agg #[.string { data:=#[] },.int .i64 0,.int .i64 0])=.agg #[.string { data:=#[] },.int .i64 0,.int .i64 0]:=by unfold stV;rw[hn];rfl
  have hc:(stV ps S A.p).isSome=false:=by unfold stV;rw[hn];rfl
  clear k0;go_enter Tryz.func58,Tryz.ntmps58;go_wp2_with (at_lookup;refine wp_look_ok _ rfl _ _ 73 rfl 9 185 Tryz.underlying9 Tryz.underlying73 (Tryz.zeroValue185 _) tb n (stV ps S) rfl hm A.p rfl hp _ hu _ hc ?_);go_ret;exact⟨by rw[ad HS];rfl,(ad HK).alloc (ad HK).size _⟩
 | some m=>
  have hu:(stV ps S A.p).getD (.agg #[.string { data:=#[] },.int .i64 0,.int .i64 0])=.agg #[.string A.p,.int .i64 (S A.p),.int .i64 m]:=by unfold stV;rw[hn];rfl
  have hc:(stV ps S A.p).isSome=true:=by unfold stV;rw[hn];rfl
  have HS:=hide (show suitsB ps A=((m:Int)==(A.ts.length:Int)) by
   unfold suitsB;rw[hn]
   by_cases e:m=A.ts.length
   ·subst e;simp
   ·have:¬ ((m:Int)=A.ts.length):=by omega
    simp[e,this])
  clear k0;go_enter Tryz.func58,Tryz.ntmps58;go_wp2_with (at_lookup;refine wp_look_ok _ rfl _ _ 73 rfl 9 185 Tryz.underlying9 Tryz.underlying73 (Tryz.zeroValue185 _) tb n (stV ps S) rfl hm A.p rfl hp _ hu _ hc ?_);go_ret;exact⟨by rw[ad HS];rfl,(ad HK).alloc (ad HK).size _⟩
def cC (l:Int):Bool:=decide (1<=l)&&decide (l<=50)
theorem maybe_any (w:W8)(l:Int):Calls Tryz.prog 34 #[.int .i64 l] w λ en w'=>en=.returned (.bool (cC l))/\w'=w:=by
 by_cases h1:1<=l
 ·go_enter Tryz.func34,Tryz.ntmps34;go_wp2_with fail;go_ret;exact⟨by unfold cC;simp[h1],rfl⟩
 ·go_enter Tryz.func34,Tryz.ntmps34;go_wp2_with fail;go_ret;exact⟨by (unfold cC;simp;omega),rfl⟩
end
end Go.Proofs.YtldkpahaocjdpaaGreat
