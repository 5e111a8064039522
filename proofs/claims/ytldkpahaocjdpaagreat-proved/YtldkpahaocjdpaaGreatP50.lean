/-
  affidavitkeep: things.
-/
import Derived.Test.YtldkpahaocjdpaaGreatP49
import Derived.Laws.BytesArg
set_option maxHeartbeats 16000000
set_option maxRecDepth 1000000
namespace Go.Proofs.YtldkpahaocjdpaaGreat
section
open Go.RowKit Go.Maps
def fB (p i:Nat):B8:=cY [pdU p,40,nmU (i/4),44,nmU (i%4),41]
def thUpto (p i:Nat):List B8:=(List.range p).flatMap (λ q=>(List.range 16).map λ j=>fB q j)++(List.range i).map λ j=>fB p j
def jo:List B8:=thUpto 4 0
theorem thUpto_step (p i:Nat):thUpto p (i+1)=thUpto p i++[fB p i]:=by
 unfold thUpto;rw[List.range_succ (n:=i),List.map_append,<-List.append_assoc];rfl
theorem thUpto_next (p:Nat):thUpto p 16=thUpto (p+1) 0:=by
 unfold thUpto;rw[List.range_succ (n:=p),List.flatMap_append];simp
theorem thUpto_len (p i:Nat):(thUpto p i).length=16*p+i:=by
 unfold thUpto;rw[List.length_append,List.length_map,List.length_range]
 congr 1
 induction p with
 | zero=>rfl
 | succ p ih=>rw[List.range_succ (n:=p),List.flatMap_append,List.length_append,ih];simp;omega
theorem pickN_nat (i n:Nat):ag (i:Int) n=i%n:=by
 unfold ag;rw[if_neg (by omega)];omega
structure nq (w:W8)(p i:Nat)(v:Value)(wr:W8):Prop where
 below:Below w.heap.size w wr
 row:wr.ownsRow w.heap.size 9 1 v (16*p+i) ((thUpto p i).map Value.string)
theorem nq.add {w wr W w5:W8}{p i:Nat}{v v':Value}(h:nq w p i v wr)(hW:Below wr.heap.size wr W)(hg:W.grownBy w5 v.ownBlock)(aI:w5.ownsRow w.heap.size 9 1 v' (16*p+i+1) ((thUpto p i).map Value.string++[.string (fB p i)])):nq w p (i+1) v' w5:=by
 have hs:=h.below.size;have hz:=hW.size;refine⟨⟨hg.os.trans (hW.os.trans h.below.os),hg.tape.trans (hW.tape.trans h.below.tape),hg.output.trans (hW.output.trans h.below.output),Nat.le_trans hs (Nat.le_trans hz hg.size),λ j hj=>?_⟩,?_⟩
 ·rw[hg.block j (by omega) (λ e=>by have:=(h.row.lt j e.symm).1;omega),hW.block j (by omega)];exact h.below.block j hj
 ·rw[thUpto_step,List.map_append];exact aI
attribute [local go_sem] one8_size
theorem kthings (w:W8):Calls Tryz.prog 29 #[] w λ e w'=>∃ (a:O8) (c:Nat),e=.returned (.slice a 64 c)/\w'.ownsRow w.heap.size 9 1 (.slice a 64 c) 64 (jo.map Value.string)/\Below w.heap.size w w':=by
 obtain⟨i0,hi,dD,cD,cd⟩:=info_parts infoString;have H0:=hide (show nq w 0 0 (.slice none 0 0) w from ⟨Below.refl _ _,World.ownsRow_nil _ _ _ _⟩);go_enter Tryz.func29,Tryz.ntmps29;go_wp2_with fail
 go_loopg [1,2] 4 (λ gg v pv wr=>∃ p:Nat,p<=4/\gg=4-p/\pv=.int .i64 (p:Nat)/\nq w p 0 v wr)
 exact⟨0,by omega,rfl,rfl,ad H0⟩
 case round=>
  clear H0;obtain⟨p,hp,hgp,rfl,ak⟩:=hrel;have HI:=hide ak
  by_cases j9:p<4
  ·have pG:(p:Int)<4:=(by omega);generalize hgk1:gk=gk1 at *;clear ak;go_wp2_with fail
   go_loopg [1,3] 16 (λ gg v iv wr=>∃ i:Nat,i<=16/\gg=16-i/\iv=.int .i64 (i:Nat)/\nq w p i v wr)
   exact⟨0,by omega,rfl,rfl,ad HI⟩
   case round=>
    clear HI;obtain⟨i,Jf,Cv,rfl,ak⟩:=hrel;obtain⟨a1,c1,rfl⟩:=own_slice ak.row
    by_cases pz:i<16
    ·have vG:(i:Int)<16:=(by omega);have HP:=hide (λ w=>kpred w p j9);have hq:(i:Int)/4=((i/4:Nat):Int):=by omega
     have qz:Hid (∀ w:W8,Calls Tryz.prog 21 #[.int .i64 ((i:Int)/4)] w λ e w'=>e=.returned (.string (one8 (nmU (i/4))))/\w'=w.alloc nmObj):=hide (λ w=>by
      have:=kname w ((i/4:Nat):Int) (by omega) (by omega);rw[pickN_nat,Nat.mod_eq_of_lt (show i/4<4 by omega)] at this
      rw[hq];exact this)
     have zO:Hid (∀ w:W8,Calls Tryz.prog 21 #[.int .i64 (i:Int)] w λ e w'=>e=.returned (.string (one8 (nmU (i%4))))/\w'=w.alloc nmObj):=hide (λ w=>by
      have:=kname w (i:Int) (by omega) (by omega);rw[pickN_nat] at this
      exact this)
     have bp:=hide ak;obtain⟨T,hT⟩:∃ T,T=fB p i:=⟨_,rfl⟩;have vT:one8 (pdU p)++{ data:=#[40] }++one8 (nmU (i/4))++{ data:=#[44] }++one8 (nmU (i%4))++{ data:=#[41] }=T:=hT.symm;have xl:=hide hT;clear hT;have bz:=(((ak.row.alloc bX).alloc nmObj).alloc nmObj).alloc (.cells #[.string T] 9);have Aq:=heap_alloc_new (((wr.alloc bX).alloc nmObj).alloc nmObj) (.cells #[.string T] 9);simp only[World.size_alloc] at Aq;have fu:=hide (World.news_of_block Aq);clear Aq;have IB:=hide (((((Below.refl wr.heap.size wr).alloc L9 bX).alloc (by simp) nmObj).alloc (by simp only[World.size_alloc];omega) nmObj).alloc (by simp only[World.size_alloc];omega) (.cells #[.string T] 9));have rA:w.heap.size<=wr.heap.size:=ak.below.size;clear ak hq;go_wp2_with fail;refine (ad HP _).mono ?_;rintro e w1 ⟨rfl,rfl⟩;go_wp2_with fail;refine (ad qz _).mono ?_;rintro e w1 ⟨rfl,rfl⟩;go_wp2_with fail;refine (ad zO _).mono ?_;rintro e w1 ⟨rfl,rfl⟩;clear HP qz zO;go_wp2_with (at_builtin;go_must (refine wpList_append_own _ rfl _ _ 33 rfl w.heap.size 9 i0 _ 1 16 Tryz.underlying33 hi dD cD cd rfl (by decide) _ _ _ rfl bz ⟨wr.heap.size+1+1+1,0,none⟩ 1 1 [.string T] rfl rfl (ad fu) (by intro u hu;rw[List.mem_singleton.1 hu];rfl) (by unfold maxLen;omega) (by omega) (by simp only[World.size_alloc];omega) ?_);intro v5 w5 aL dh dr;clear dr;obtain⟨a5,c5,rfl⟩:=own_slice aL;have lX:=hide aL;have jq:=hide dh;clear aL dh);go_roundg (16-(i+1))
     case measure=>omega
     case rel=>
      have EV:=ad lX;rw[ad xl] at EV;exact⟨i+1,by omega,rfl,by go_num,(ad bp).add (ad IB) (ad jq) EV⟩
    ·have Jg:i=16:=(by omega);subst Jg;have bp:=hide ak;clear ak;go_wp2_with fail;go_roundg (4-(p+1))
     case measure=>omega
     case rel=>
      refine⟨p+1,by omega,rfl,by go_num,(ad bp).below,?_⟩;have:=(ad bp).row;rw[thUpto_next] at this;rw[show 16*(p+1)+0=16*p+16 by omega];exact this
  ·have oy:p=4:=(by omega);subst oy;obtain⟨a1,c1,rfl⟩:=own_slice ak.row;clear ak;go_wp2_with fail;go_ret;exact⟨a1,c1,rfl,(ad HI).row,(ad HI).below⟩
end
section
variable {q:List (Bool × B8)} {t:Bool × B8} {pd:B8}
theorem atomIt_ok1 (hp:IsTok 2 (bytesL pd))(ht:∀ x∈t::q,IsTok (tmTk x).1 (tmTk x).2):OkIt (atomIt [] pd (t::q)):=by
 obtain⟨h1,_,_⟩:=termsIt_ok (t::q) (by simp) ht;have ha:Apart2 5 (termsIt (t::q)):=by
  cases q with
  | nil=>exact .inr ⟨by simp,by simp⟩
  | cons v q=>exact .inr ⟨by simp,by simp⟩
 exact⟨by simp,hp,.inr ⟨by simp,by simp⟩,by simp,.open_,ha,h1⟩
theorem pask_rend {s:B8}(hp:IsTok 2 (bytesL pd))(ht:∀ x∈t::q,IsTok (tmTk x).1 (tmTk x).2)(hl:(t::q).length<=4)(h:bytesL s=rend (atomIt [] pd (t::q))):paskS s=some ⟨pd,t::q⟩:=by
 obtain⟨e,h1,h2⟩:=toks_rend (s:=s) (rest:=[]) (atomIt [] pd (t::q)) 0 (atomIt_ok1 hp ht) (by rw[List.append_nil];exact h);rw[atomIt_tk] at h1;obtain⟨_,pl,h3⟩:=patom_toks hl h1 (λ h=>by cases h);unfold paskS;rw[h3];simp only;rw[if_pos (tok_end_is h2 (by simp))]
theorem num_meet:∀ (l ps:P9) (k:B8) (n:Nat),numOf (meetL l ps) k=some n->numOf ps k=some n\/(k,n)∈l
 | [],_,_,_,h=>.inl h
 | x::r,ps,k,n,h=>by
  rcases num_meet r (meetP ps x.1 x.2) k n h with h | h
  ·rw[meetP_num] at h
   split at h
   ·rw[num_snoc] at h
    cases hn:numOf ps k with
    | some m=>rw[hn] at h;exact .inl (by rw[<-h])
    | none=>
     rw[hn] at h;simp only at h
     split at h
     ·rename_i e;have e1:=aN.1 e;have e2:=Option.some.inj h;refine .inr ?_;rw[<-e1,<-e2];exact List.mem_cons_self
     ·cases h
   ·exact .inl h
  ·exact .inr (List.mem_cons_of_mem _ h)
def TwoP (ps:P9):Prop:=∀ k n,numOf ps k=some n->n=2/\∃ i,i<4/\k=eZ i
theorem KL.atoms {L:KL}(h:L.Ok):∀ x∈bg L.rule,x.2=2/\∃ i,i<4/\x.1=eZ i:=by
 cases L with
 | fact i j=>exact one_mem ⟨rfl,0,by decide,rfl⟩
 | rev h' q x y=>
  obtain⟨h1,h2,h3,_,_⟩:=h;exact two_mem ⟨rfl,h',h2,rfl⟩ ⟨rfl,q,by omega,rfl⟩
 | join h' q r x y z=>
  obtain⟨h1,h2,h3,h4,_,_,_⟩:=h;intro u hu;rcases List.mem_cons.1 hu with rfl | hu
  ·exact⟨rfl,h',h2,rfl⟩
  ·exact two_mem (P:=λ x:B8 × Nat=>x.2=2/\∃ i,i<4/\x.1=eZ i) ⟨rfl,q,by omega,rfl⟩ ⟨rfl,r,by omega,rfl⟩ u hu
 | minus h' q r x y=>
  obtain⟨h1,h2,h3,h4,_,_⟩:=h;intro u hu;rcases List.mem_cons.1 hu with rfl | hu
  ·exact⟨rfl,h',h2,rfl⟩
  ·exact two_mem (P:=λ x:B8 × Nat=>x.2=2/\∃ i,i<4/\x.1=eZ i) ⟨rfl,q,by omega,rfl⟩ ⟨rfl,r,by omega,rfl⟩ u hu
 | u7 h' q r x y n m=>
  obtain⟨h1,h2,h3,h4,_,_,_,_⟩:=h;intro u hu;rcases List.mem_cons.1 hu with rfl | hu
  ·exact⟨rfl,h',h2,rfl⟩
  ·exact two_mem (P:=λ x:B8 × Nat=>x.2=2/\∃ i,i<4/\x.1=eZ i) ⟨rfl,q,by omega,rfl⟩ ⟨rfl,r,by omega,rfl⟩ u hu
theorem two_text {L:Nat->KL}{n:Nat}(hn:n<=14)(hL:∀ i,i<n->(L i).Ok):TwoP (aq (cY (cT L n))).2:=by
 obtain⟨h1,h2⟩:=textK_ok L n hn hL;have hg:=good_of (s:=cY (cT L n)) (by rw[h1]);intro k m hk;rw[<-hg.met,h2] at hk;rcases num_meet _ _ _ _ hk with h | h
 ·cases h
 ·obtain⟨R,hR,hx⟩:=List.mem_flatMap.1 h;rcases List.mem_cons.1 hR with rfl | hR
  ·exact KL.atoms (L:=.fact 0 1) ⟨by decide,by decide⟩ _ hx
  ·obtain⟨i,hi,rfl⟩:=List.mem_map.1 hR;exact KL.atoms (hL i (List.mem_range.1 hi)) _ hx
def thK (p i j:Nat):Th:=(eZ p,[one8 (nmU i),one8 (nmU j)])
theorem thText_K (p i:Nat):thText (thK p (i/4) (i%4))=fB p i:=rfl
variable {ps:P9}
theorem thing_K (h:TwoP ps)(p i:Nat):thingS ps (fB p i)=some (thK p (i/4) (i%4)):=by
 have hp:paskS (fB p i)=some ⟨eZ p,[tN (i/4),tN (i%4)]⟩:=pask_rend (tok_pd p) (two_mem (tok_tN _) (tok_tN _)) (by simp) rfl;have hs:suitsB ps ⟨eZ p,[tN (i/4),tN (i%4)]⟩=true:=by
  unfold suitsB
  cases hn:numOf ps (eZ p) with
  | none=>rfl
  | some m=>simp only;rw[(h _ _ hn).1];rfl
 unfold thingS askedS;rw[hp];simp only;rw[if_pos hs];rfl
def fP:B8:={ data:=#[111,119,108] }
theorem pask_owl:paskS fP=some ⟨fP,[]⟩:=by
 have hd:(bytesL fP).drop 0=[]++([111,119,108]++[]):=rfl;obtain⟨h1,h2⟩:=tok_is (s:=fP) (p:=0) (b:=[]) (w:=[111,119,108]) (r:=[]) (k:=2) hd (by simp) (.name (by simp) (by simp) (by decide) (by decide)) (λ c r' e=>by cases e);have he:(ae fP 3).1=0:=tok_end_is (b:=[]) h2 (by simp);have h1:TokIs fP 0 2 [111,119,108] 3:=h1;obtain⟨_,pl,h3⟩:=patom_toks (s:=fP) (p:=0) (pd:=fP) (ts:=[]) (by simp) (.cons h1 (.nil _)) (λ _=>by rw[he];decide);unfold paskS;rw[h3];simp only;rw[if_pos he]
theorem nX (h:TwoP ps):thingS ps fP=some (fP,[]):=by
 have hs:suitsB ps ⟨fP,[]⟩=true:=by
  unfold suitsB
  cases hn:numOf ps fP with
  | none=>rfl
  | some m=>
   obtain⟨_,i,hi,e⟩:=h _ _ hn;have:=congrArg (λ s=>(bytesL s).length) e;simp[fP,bytesL,eZ,one8] at this
 unfold thingS askedS;rw[pask_owl];simp only;rw[if_pos hs];rfl
def askK (k:Nat):PAtm:=⟨eZ k,[(true,one8 88),(true,one8 89)]⟩
theorem asked_K (h:TwoP ps)(k:Nat):askedS ps (one8 (pdU k)++{ data:=#[40,88,44,89,41] })=some (askK k):=by
 have hx:IsTok (tmTk (true,one8 88)).1 (tmTk (true,one8 88)).2:=tok_high (by decide);have hy:IsTok (tmTk (true,one8 89)).1 (tmTk (true,one8 89)).2:=tok_high (by decide)
 have hp:paskS (one8 (pdU k)++{ data:=#[40,88,44,89,41] })=some (askK k):=pask_rend (tok_pd k) (two_mem hx hy) (by simp) (by
  unfold bytesL one8;rw[ByteArray.data_append,Array.toList_append]
  rfl)
 have hs:suitsB ps (askK k)=true:=by
  unfold suitsB askK
  cases hn:numOf ps (eZ k) with
  | none=>rfl
  | some m=>simp only;rw[(h _ _ hn).1];rfl
 unfold askedS;rw[hp];simp only;rw[if_pos hs]
theorem hit_K {k:Nat}{t:Th}(h2:t.2.length=2)(n:Nat):hitB (askK k) (t,n)=true↔t.1=eZ k:=by
 obtain⟨p,ts⟩:=t;obtain⟨a,b,rfl⟩:∃ a b,ts=[a,b]:=by
  match ts,h2 with
  | [a,b],_=>exact⟨a,b,rfl⟩
 unfold hitB aH
 show (if (askK k).p.toList==p.toList then pmTs [] (askK k).ts [a,b] else none).isSome=true↔p=eZ k
 by_cases he:((askK k).p.toList==p.toList)=true
 ·rw[if_pos he];have e:eZ k=p:=aN.1 he;refine⟨λ _=>e.symm,λ _=>?_⟩;have h1:pmT [] (true,one8 88) a=some [(one8 88,a)]:=rfl;have hn:pAt [(one8 88,a)] (one8 89)=none:=by
   have bJ:¬ ((one8 88).toList==(one8 89).toList)=true:=λ h=>by
    have:=aN.1 h;have:=congrArg bytesL this;simp[bytesL,one8] at this
   rw[pAt,if_neg bJ];rfl
  have h2:pmT [(one8 88,a)] (true,one8 89) b=some [(one8 88,a),(one8 89,b)]:=by
   unfold pmT pmB;rw[if_pos rfl,hn];rfl
  show (pmTs [] [(true,one8 88),(true,one8 89)] [a,b]).isSome=true
  rw[pmTs];simp only[List.headD_cons,List.tail_cons,h1];rw[pmTs];simp only[List.headD_cons,h2];rfl
 ·rw[if_neg he];refine⟨λ h=>by simp at h,λ e=>absurd (aN.2 e.symm) he⟩
end
section
open Go.RowKit Go.Maps Go.Sort
variable {zs:List B8}
theorem sortT_perm {ys:List B8}(h:zs.Perm ys):sortT zs=sortT ys:=by
 have hs:∀ l:List (List UInt8),(l.mergeSort λ x y=>decide (x<=y)).Pairwise λ a b=>a<=b:=λ l=>by
  have:=List.pairwise_mergeSort (le:=λ x y:List UInt8=>decide (x<=y)) (λ a b c h1 h2=>by
   simp only[decide_eq_true_eq] at *
   exact List.le_trans h1 h2) (λ a b=>by
   simp only[Bool.or_eq_true,decide_eq_true_eq]
   exact List.le_total a b) l
  exact this.imp λ h=>by simpa using h
 unfold sortT;exact List.Perm.eq_of_pairwise (le:=λ a b=>a<=b) (λ a b _ _ h1 h2=>List.le_antisymm h1 h2) (hs _) (hs _) ((List.mergeSort_perm _ _).trans ((h.map _).trans (List.mergeSort_perm _ _).symm))
theorem j0 {t:B8}:t∈(sortT zs).map cY↔t∈zs:=by
 have hp:(sortT zs).Perm (zs.map λ s=>s.data.toList):=List.mergeSort_perm _ _;rw[(hp.map cY).mem_iff,List.map_map];have:(cY ∘ λ s:B8=>s.data.toList)=id:=by
  funext s
  show cY (bytesL s)=s
  exact bytes_mk s
 rw[this,List.map_id]
theorem sortT_len (zs:List B8):((sortT zs).map cY).length=zs.length:=by
 unfold sortT;rw[List.length_map,List.length_mergeSort,List.length_map]
theorem enc_txt (l:List (List UInt8)):l.map encStr=(l.map cY).map Value.string:=by rw[List.map_map];rfl
def iY (K:List (Th × Nat))(k:Nat):List B8:=(sortT ((K.filter (hitB (askK k))).map λ p=>thText p.1)).map cY
def allL (K:List (Th × Nat))(n:Nat):List B8:=(List.range n).flatMap (iY K)
theorem gU (K:List (Th × Nat))(n:Nat):allL K (n+1)=allL K n++iY K n:=by
 unfold allL;rw[List.range_succ,List.flatMap_append];simp
variable {K:List (Th × Nat)}
theorem jI {K':List (Th × Nat)}(h:K.Perm K')(n:Nat):allL K n=allL K' n:=by
 unfold allL iY
 congr 1
 funext k
 rw[sortT_perm ((h.filter _).map _)]
variable {rs:List PR}
theorem same_refl (cK:∀ r∈rs,r.bs.map (·.1)=r.R.body):bj rs rs:=⟨λ _=>Iff.rfl,cK,cK⟩
variable {m:Nat} {S:B8->Nat} {s:B8}
theorem Mod.uniq (cK:∀ r∈rs,r.bs.map (·.1)=r.R.body){limit:Nat}{S':B8->Nat}{m':Nat}{r r':Option (List (Th × Nat))}(h:Mod s rs limit S m r)(h':Mod s rs limit S' m' r'):S=S'/\m=m'/\((r=none/\r'=none)\/∃ K K',r=some K/\r'=some K'/\K.Perm K'/\K.length<=limit):=by
 obtain rfl:=low_uniq (λ R=>Iff.rfl) h.valid h.low h'.valid h'.low;obtain rfl:=count_uniq h.count h'.count;exact⟨rfl,rfl,strat_det (same_refl cK) h.jn (List.Perm.refl _) (Nat.zero_le _) h'.jn⟩
def j2 (s:B8)(rs:List PR)(w:W8)(e:Ending)(w':W8):Prop:=
 Below w.heap.size w w'/\∃ S m r,Mod s rs 50 S m r/\((r=none/\e=.returned (.tuple #[.slice none 0 0,.bool false]))\/∃ K a c,r=some K/\K.length<=50/\e=.returned (.tuple #[.slice a (allL K 4).length c,.bool true])/\w'.ownsRow w.heap.size 9 1 (.slice a (allL K 4).length c) (allL K 4).length ((allL K 4).map Value.string))
theorem app_noneT (w:W8)(b:O8)(n c:Nat)(h:n<=c)(a:O8)(c':Nat)(ty:TypeId):(Builtin.append_ #[33,33] ty #[.slice b n c,.slice a 0 c']).run Tryz.prog w=.ok (.slice b n c) w:=by
 obtain⟨i0,Cw,dD,cD,cd⟩:=info_parts infoString;refine run_append_nothing w _ _ _ 9 i0 Tryz.underlying33 Cw b n c h _ ?_
 cases a with
 | none=>exact Src.ofNil w Tryz.underlying33 c'
 | some a=>exact Src.ofSlice w Tryz.underlying33 a 0 c' [] (by simp) (by simp) (by simp)
structure mU (s:B8)(rs:List PR)(w:W8)(k:Nat)(zs:List B8)(v:Value)(wr:W8):Prop where
 below:Below w.heap.size w wr
 row:wr.ownsRow w.heap.size 9 1 v zs.length (zs.map Value.string)
 len:zs.length<=50*k
 told:(k=0/\zs=[])\/∃ S m K,Mod s rs 50 S m (some K)/\K.length<=50/\zs=allL K k
theorem mU.next (cK:∀ r∈rs,r.bs.map (·.1)=r.R.body){w:W8}{k:Nat}{v:Value}{wr:W8}(h:mU s rs w k zs v wr)(hM:Mod s rs 50 S m (some K)):K.length<=50/\zs=allL K k/\(iY K k).length<=50:=by
 have hl:K.length<=50:=by
  obtain⟨_,_,⟨e,_⟩ | ⟨A,B,e1,e2,_,h3⟩⟩:=hM.uniq cK hM
  ·cases e
  ·obtain rfl:=Option.some.inj e1;exact h3
 refine⟨hl,?_,?_⟩
 ·rcases h.told with⟨rfl,rfl⟩ | ⟨S',m',K',Ab,_,rfl⟩
  ·rfl
  ·obtain⟨_,_,⟨e,_⟩ | ⟨A,B,e1,e2,h3,_⟩⟩:=Ab.uniq cK hM
   ·cases e
   ·obtain rfl:=Option.some.inj e1;obtain rfl:=Option.some.inj e2;exact jI h3 k
 ·unfold iY;rw[sortT_len,List.length_map];exact Nat.le_trans (List.length_filter_le _ _) hl
theorem str_ones (l:List B8):∀ u∈l.map Value.string,u.oneCell'=true:=λ u hu=>by
 obtain⟨x,_,rfl⟩:=List.mem_map.1 hu;rfl
attribute [local go_sem] one8_size
theorem kall (w:W8)(s:B8)(xb lo:Nat)(rs:List PR)(hE:fo s xb w lo rs)(h2:TwoP (aq s).2):Calls Tryz.prog 19 #[.pointer (some ⟨xb,0,none⟩)] w (j2 s rs w):=by
 obtain⟨i0,hi,dD,cD,cd⟩:=info_parts infoString;have cK:=hE.cE;have kj:=hide cK;have HE:=hide hE;have H0:=hide (show mU s rs w 0 [] (.slice none 0 0) w from ⟨Below.refl _ _,World.ownsRow_nil _ _ _ _,by simp,.inl ⟨rfl,rfl⟩⟩);clear cK hE;go_enter Tryz.func19,Tryz.ntmps19;go_wp2_with fail
 go_loopg [4,5] 4 (λ gg v kv wr=>∃ (k:Nat) (zs:List B8),k<=4/\gg=4-k/\kv=.int .i64 (k:Nat)/\mU s rs w k zs v wr)
 exact⟨0,[],by omega,rfl,rfl,ad H0⟩
 case round=>
  clear H0;obtain⟨k,zs,hk,fK,rfl,ak⟩:=hrel;obtain⟨a1,c1,rfl⟩:=own_slice ak.row;have HI:=hide ak
  by_cases aR:k<4
  ·have gM:(k:Int)<4:=(by omega);have rA:=ak.below.size;have gX:=(Below.refl wr.heap.size wr).alloc L9 bX;have HQ:=hide (pent_query ((ad HE).below (ak.below.trans (gX.mono rA))) (one8 (pdU k)++{ data:=#[40,88,44,89,41] }) (by rw[ByteArray.size_append,one8_size];decide) 50);have HP:=hide (kpred wr k aR);have cR:=hide gX;have uN:(wr.alloc bX).heap.size=wr.heap.size+1:=(by simp);have xa:=hide uN;clear ak gX uN;go_wp2_with fail;refine (ad HP).mono ?_;rintro e w1 ⟨rfl,rfl⟩;go_wp2_with fail;refine (ad HQ).mono ?_;rintro e w2 ⟨hP,aY⟩;have eA:=hide ((ad cR).trans (aY.mono (by have:=ad xa;omega)));have z7:=asked_K h2 k;have Ce:=aY.size;rw[ad xa] at Ce
   cases hP with
   | arg hl=>exact absurd hl (by decide)
   | ask _ hn=>rw[z7] at hn;cases hn
   | @fh A S m hl ha hv aZ hc dj=>
    have HM:=hide (show Mod s rs 50 S m none from ⟨hv,aZ,hc,dj⟩);clear ha hv aZ hc dj aY HQ HP z7 hl;go_wp2_with fail
    go_ret2
    exact⟨(ad HI).below.trans ((ad eA).mono rA),S,m,none,ad HM,.inl ⟨rfl,rfl⟩⟩
   | @yes A S m K ys a2 c2 hl ha hv aZ hc dj dC dA aF=>
    have hA:A=askK k:=(by rw[z7] at ha;exact (Option.some.inj ha).symm);subst hA;have hM:Mod s rs 50 S m (some K):=⟨hv,aZ,hc,dj⟩;obtain⟨qR,AD,Dy⟩:=(ad HI).next (ad kj) hM;have Dw:(sortT ys).map cY=iY K k:=(by unfold iY;rw[sortT_perm dA]);have Dv:ys.length=(iY K k).length:=(by rw[<-Dw,sortT_len]);rw[enc_txt,Dw,Dv] at aF;rw[Dv];obtain⟨Z,hZ⟩:∃ Z,Z=iY K k:=⟨_,rfl⟩;rw[<-hZ] at aF Dy ⊢;have rQ:=hide (show zs++Z=allL K (k+1) by rw[AD,hZ,gU]);have HM:=hide (And.intro hM qR);have mQ:=own_below (ad HI).row (ad eA) (λ g e=>((ad HI).row.lt g e).2);have yD:=(ad HI).len
    have fk:=hide (λ (v5:Value) (w5:W8) (hg:w2.grownBy w5 (Value.slice a1 zs.length c1).ownBlock) (aI:w5.ownsRow w.heap.size 9 1 v5 (zs.length+Z.length) (zs.map Value.string++Z.map Value.string))=>(show mU s rs w (k+1) (zs++Z) v5 w5 from by
     have hb:=(ad HI).below.trans ((ad eA).mono rA);refine⟨⟨hg.os.trans hb.os,hg.tape.trans hb.tape,hg.output.trans hb.output,Nat.le_trans hb.size hg.size,λ j hj=>?_⟩,?_,by rw[List.length_append];omega,.inr ⟨S,m,K,hM,qR,by rw[AD,hZ,gU]⟩⟩
     ·rw[hg.block j (Nat.lt_of_lt_of_le hj hb.size) (λ e=>by have:=((ad HI).row.lt j e.symm).1;omega)];exact hb.block j hj
     ·rw[List.length_append,List.map_append];exact aI))
    have oL:=hide (show Z=[]->mU s rs w (k+1) zs (.slice a1 zs.length c1) w2 from λ hz=>by
     refine⟨(ad HI).below.trans ((ad eA).mono rA),mQ,by omega,.inr ⟨S,m,K,hM,qR,?_⟩⟩
     rw[gU,<-AD,<-hZ,hz,List.append_nil])
    have hT:=np.fy (ad HI).row;have kY:=hT.cap;have J0:w.heap.size<=w2.heap.size:=(by omega);clear hT ha hv aZ hc dj dC dA aY HQ HP z7 hl hM Dw Dv AD hZ
    cases Z with
    | nil=>
     have HN:=hide (ad oL rfl);have nA:=hide (app_noneT w2 a1 zs.length c1 kY a2 c2);clear oL fk aF mQ HI eA cR rQ HM;go_wp2_with (at_builtin;go_must (refine wpList_append_none rfl _ _ _ rfl _ _ rfl rfl (ad nA) ?_));go_roundg (4-(k+1));exact⟨k+1,zs,by omega,rfl,by go_num,ad HN⟩;omega
    | cons z0 Z0=>
     obtain⟨g2,dt⟩:∃ g,a2=some ⟨g,0,none⟩:=by
      obtain⟨g,e,_⟩:=(np.fy aF).at_ 0 (by simp);exact⟨g,e⟩
     subst dt;generalize z0::Z0=Z at *;have fu:=hide (row_newsN aF);have eT:=hide (str_ones Z);have hlen:(Z.map Value.string).length=Z.length*1:=(by simp);have oI:=hide hlen;have iV:=hide mQ;clear oL aF mQ HI eA cR rQ HM hlen;go_wp2_with (at_builtin;go_must (refine wpList_append_own _ rfl _ _ 33 rfl w.heap.size 9 i0 _ 1 16 Tryz.underlying33 hi dD cD cd rfl (by decide) _ _ _ rfl (ad iV) ⟨g2,0,none⟩ Z.length c2 (Z.map Value.string) rfl (ad oI) (ad fu) (ad eT) (by unfold maxLen;omega) (by omega) (by omega) ?_);intro v5 w5 aL dh dr;clear dr;obtain⟨a5,c5,rfl⟩:=own_slice aL;have lX:=hide aL;have jq:=hide dh;clear aL dh);go_roundg (4-(k+1));exact⟨k+1,zs++Z,by omega,rfl,by go_num,ad fk _ _ (ad jq) (ad lX)⟩;omega
  ·have jP:k=4:=(by omega);subst jP;clear ak;go_wp2_with fail
   go_ret2
   have hI:=ad HI;rcases hI.told with⟨h0,_⟩ | ⟨S,m,K,hM,hK,hz⟩
   ·cases h0
   ·subst hz;exact⟨hI.below,S,m,some K,hM,.inr ⟨K,a1,c1,rfl,hK,rfl,hI.row⟩⟩
end
section
open Go.RowKit Go.Maps
def Lvl (s:B8):Prop:=∃ f,ValidN (pparsed s).2.2.1 f/\∀ k,f k<=3
theorem lvl_text {L:Nat->KL}{n:Nat}(hn:n<=14)(hL:∀ i,i<n->(L i).Ok):Lvl (cY (cT L n)):=by
 refine⟨u5,λ R hR=>?_,λ k=>?_⟩
 ·rw[(textK_ok L n hn hL).2] at hR;have ho:RuleOkK (λ _=>2) u5 R:=by
   rcases List.mem_cons.1 hR with rfl | hR
   ·exact KL.ki ⟨by decide,by decide⟩
   ·obtain⟨i,hi,rfl⟩:=List.mem_map.1 hR;exact KL.ki (hL i (List.mem_range.1 hi))
  intro l hl;have h1:=ho.pos l hl;have h2:=ho.neg l hl
  split
  ·rename_i h;have:=h2 h;omega
  ·omega
 ·unfold u5
  split
  ·omega
  ·split
   ·omega
   ·split <;> omega
variable {m limit lo xb:Nat} {S:B8->Nat} {rs:List PR} {w:W8} {s:B8}
theorem Mod.lvl (h:fo s xb w lo rs)(hL:Lvl s){r:Option (List (Th × Nat))}(hM:Mod s rs limit S m r)(k:B8):S k<=3:=by
 obtain⟨f,h1,h2⟩:=hL;exact Nat.le_trans (hM.low f (by rw[h.rules];exact h1) k) (h2 k)
theorem rank_le (B:Nat->Bool)(i:Nat):rankB B i<=i:=by
 unfold rankB;have:=List.length_filter_le B (List.range i)
 rwa [List.length_range] at this
structure kT (s:B8)(rs:List PR)(limit:Nat)(S:B8->Nat)(m:Nat)(K:List (Th × Nat))(t:Th)(O:List Pl)(bs:List Nat):Prop where
 mod:Mod s rs limit S m (some K)
 len:K.length<=limit
 perm:O.Perm (K.map (plOf S))
 sort:O.Pairwise λ p q=>lessPl p q=true
 eq:bs=expL (aq s).2 S K t (reaK (aq s).2 rs S K O) O
variable {bs:List Nat} {t:Th}
theorem kT.byte (h:fo s xb w lo rs)(hL:Lvl s)(hl:limit<=50){K:List (Th × Nat)}{O:List Pl}(hW:kT s rs limit S m K t O bs):∀ x∈bs,x<256:=by
 have hA:=hW.mod.kh h.cE h.dg hW.perm hW.sort;have hK:=hW.len;have xN:O.length=K.length:=by rw[hW.perm.length_eq,List.length_map]
 have iH:rs.length<=30:=by have:=(good_of h.ok).len;rw[<-h.rules,List.length_map] at this;exact this
 rw[hW.eq];intro x hx;unfold expL bytesOf at hx;rcases List.mem_cons.1 hx with rfl | hx
 ·have:=Mod.lvl h hL hW.mod t.1;unfold bf
  split
  ·split <;> omega
  ·omega
 ·rcases List.mem_cons.1 hx with rfl | hx
  ·have:=expN_len (aq s).2 S K t (reaK (aq s).2 rs S K O) O;omega
  ·rw[expN_eq hA.low] at hx;obtain⟨y,hy,hx⟩:=List.mem_flatMap.1 hx;obtain⟨j,hj,rfl⟩:=List.mem_map.1 hy;have iq:=List.mem_range.1 (List.mem_filter.1 hj).1;rcases List.mem_cons.1 hx with rfl | hx
   ·have:=(hA.least j iq).lt
    show (reaK (aq s).2 rs S K O j).1<256
    omega
   ·obtain⟨y,hy,rfl⟩:=List.mem_map.1 hx;have h1:=rank_le (cP O (bf (aq s).2 S K t) t (reaK (aq s).2 rs S K O) 0) y;have h2:=hA.low j iq y hy;omega
theorem iJ.fy {base:Nat}{a:O8}{c:Nat}(hb:∀ x∈bs,x<256)(h:w.ownsRow base 5 1 (.slice a bs.length c) bs.length (bs.map u8c)):iJ w a c bs:=by
 rcases h.2 with⟨e,h0⟩ | ⟨g,cap,cur,hv,_,hg,dB,dx,fi,ig⟩
 ·injection e with e1 e2 e3
  have hz:bs=[]:=List.eq_nil_of_length_eq_zero h0;subst hz e3;exact iJ.none _ _ (by unfold maxLen;omega)
 ·injection hv with e1 e2 e3
  subst e1 e3;refine⟨dB,dx,hb,λ _=>⟨g,0,rfl,(h.lt g rfl).2,λ j hj=>?_⟩⟩;have:=World.ownsRow.cellAt h j (by omega);rw[Nat.zero_add,this,List.getElem?_map,List.getElem?_eq_getElem hj];have hx:=hb _ (List.getElem_mem hj)
  show some (Value.int .u8 ((bs[j]:Int)%256))=_
  rw[Int.emod_eq_of_lt (by omega) (by omega)]
def ExpOver:Ending:=.returned (.tuple #[.agg #[.int .i64 0,.int .i64 0,.slice none 0 0],.int .i64 7])
theorem explain_out {w':W8}{q:B8}(jA:1<=limit)(hl:limit<=50)(cK:∀ r∈rs,r.bs.map (·.1)=r.R.body)(ht:thingS (aq s).2 q=some t){e:Ending}(hE:PEOut w rs (aq s).2 q (limit:Nat) (reaK (aq s).2 rs) w' e):
  (∃ S m,Mod s rs limit S m none/\e=ExpOver)\/∃ S m K O bs a c,kT s rs limit S m K t O bs/\(K.map (·.1)).Nodup/\e=.returned (.tuple #[.agg #[.int .i64 ((if (ay K t).isSome then 1 else 2:Nat):Nat),.int .i64 (((ay K t).getD 0:Nat):Int),.slice a bs.length c],.int .i64 0])/\w'.ownsRow w.heap.size 5 1 (.slice a bs.length c) bs.length (bs.map u8c):=by
 have ow:cB (limit:Nat)=true:=by unfold cB;simp;omega
 have FZ:((limit:Nat):Int).toNat=limit:=by simp
 cases hE with
 | arg h=>rw[ow] at h;cases h
 | ask _ hn=>rw[ht] at hn;cases hn
 | fh _ h1 hv fW hc dj=>
  rw[FZ] at dj;exact .inl ⟨_,_,⟨hv,fW,hc,dj⟩,rfl⟩
 | @yes t' S m K O a c _ h1 hv fW hc dj dC hp jU aF=>
  rw[FZ] at dj;rw[ht] at h1;obtain rfl:=Option.some.inj h1;have hM:Mod s rs limit S m (some K):=⟨hv,fW,hc,dj⟩;have hK:K.length<=limit:=by
   obtain⟨_,_,⟨e,_⟩ | ⟨A,B,e1,e2,_,h3⟩⟩:=hM.uniq cK hM
   ·cases e
   ·obtain rfl:=Option.some.inj e1;exact h3
  refine .inr ⟨S,m,K,O,_,a,c,⟨hM,hK,hp,jU,rfl⟩,dC,?_,aF⟩
  by_cases hk:(ay K t).isSome=true
  ·rw[if_pos hk,if_pos hk];rfl
  ·rw[if_neg hk,if_neg hk];rfl
end
end Go.Proofs.YtldkpahaocjdpaaGreat
