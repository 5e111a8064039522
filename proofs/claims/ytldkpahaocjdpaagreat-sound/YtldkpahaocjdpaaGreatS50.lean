/-
  affidavitkeep: all.
-/
import Derived.Test.YtldkpahaocjdpaaGreatS49
set_option maxHeartbeats 16000000
set_option maxRecDepth 1000000
namespace Go.Proofs.YtldkpahaocjdpaaGreat
section
open Go.RowKit Go.Maps Go.Sort
variable {zs:List B8}
theorem sortT_perm {ys:List B8}(h:zs.Perm ys):sortT zs=sortT ys:=by
 have hs:∀ l:List (List UInt8),(l.mergeSort λ x y=>decide (x<=y)).Pairwise λ a b=>a<=b:=λ l=>by
  have:=List.pairwise_mergeSort (le:=λ x y:List UInt8=>decide (x<=y)) (λ a b c h1 h2=>by
   simp only[decide_eq_true_eq] at *
   exact List.le_trans h1 h2) (λ a b=>by
   simp only[Bool.or_eq_true,decide_eq_true_eq]
   exact List.le_total a b) l
  exact this.imp λ h=>by simpa using h
 unfold sortT;exact List.Perm.eq_of_pairwise (le:=λ a b=>a<=b) (λ a b _ _ h1 h2=>List.le_antisymm h1 h2) (hs _) (hs _) ((List.mergeSort_perm _ _).trans ((h.map _).trans (List.mergeSort_perm _ _).symm))
theorem j0 {t:B8}:t∈(sortT zs).map cY↔t∈zs:=by
 have hp:(sortT zs).Perm (zs.map λ s=>s.data.toList):=List.mergeSort_perm _ _;rw[(hp.map cY).mem_iff,List.map_map];have:(cY ∘ λ s:B8=>s.data.toList)=id:=by
  funext s
  show cY (bytesL s)=s
  exact bytes_mk s
 rw[this,List.map_id]
theorem sortT_len (zs:List B8):((sortT zs).map cY).length=zs.length:=by
 unfold sortT;rw[List.length_map,List.length_mergeSort,List.length_map]
theorem enc_txt (l:List (List UInt8)):l.map encStr=(l.map cY).map Value.string:=by rw[List.map_map];rfl
def iY (K:List (Th × Nat))(k:Nat):List B8:=(sortT ((K.filter (hitB (askK k))).map λ p=>thText p.1)).map cY
def allL (K:List (Th × Nat))(n:Nat):List B8:=(List.range n).flatMap (iY K)
theorem gU (K:List (Th × Nat))(n:Nat):allL K (n+1)=allL K n++iY K n:=by
 unfold allL;rw[List.range_succ,List.flatMap_append];simp
variable {K:List (Th × Nat)}
theorem jI {K':List (Th × Nat)}(h:K.Perm K')(n:Nat):allL K n=allL K' n:=by
 unfold allL iY
 congr 1
 funext k
 rw[sortT_perm ((h.filter _).map _)]
variable {rs:List PR}
theorem same_refl (cK:∀ r∈rs,r.bs.map (·.1)=r.R.body):bj rs rs:=⟨λ _=>Iff.rfl,cK,cK⟩
variable {m:Nat} {S:B8->Nat} {s:B8}
theorem Mod.uniq (cK:∀ r∈rs,r.bs.map (·.1)=r.R.body){limit:Nat}{S':B8->Nat}{m':Nat}{r r':Option (List (Th × Nat))}(h:Mod s rs limit S m r)(h':Mod s rs limit S' m' r'):S=S'/\m=m'/\((r=none/\r'=none)\/∃ K K',r=some K/\r'=some K'/\K.Perm K'/\K.length<=limit):=by
 obtain rfl:=low_uniq (λ R=>Iff.rfl) h.valid h.low h'.valid h'.low;obtain rfl:=count_uniq h.count h'.count;exact⟨rfl,rfl,strat_det (same_refl cK) h.jn (List.Perm.refl _) (Nat.zero_le _) h'.jn⟩
def j2 (s:B8)(rs:List PR)(w:W8)(e:Ending)(w':W8):Prop:=
 Below w.heap.size w w'/\∃ S m r,Mod s rs 50 S m r/\((r=none/\e=.returned (.tuple #[.slice none 0 0,.bool false]))\/∃ K a c,r=some K/\K.length<=50/\e=.returned (.tuple #[.slice a (allL K 4).length c,.bool true])/\w'.ownsRow w.heap.size 9 1 (.slice a (allL K 4).length c) (allL K 4).length ((allL K 4).map Value.string))
theorem app_noneT (w:W8)(b:O8)(n c:Nat)(h:n<=c)(a:O8)(c':Nat)(ty:TypeId):(Builtin.append_ #[33,33] ty #[.slice b n c,.slice a 0 c']).run Tryz.prog w=.ok (.slice b n c) w:=by
 obtain⟨i0,Cw,dD,cD,cd⟩:=info_parts infoString;refine run_append_nothing w _ _ _ 9 i0 Tryz.underlying33 Cw b n c h _ ?_
 cases a with
 | none=>exact Src.ofNil w Tryz.underlying33 c'
 | some a=>exact Src.ofSlice w Tryz.underlying33 a 0 c' [] (by simp) (by simp) (by simp)
structure mU (s:B8)(rs:List PR)(w:W8)(k:Nat)(zs:List B8)(v:Value)(wr:W8):Prop where
 below:Below w.heap.size w wr
 row:wr.ownsRow w.heap.size 9 1 v zs.length (zs.map Value.string)
 len:zs.length<=50*k
 told:(k=0/\zs=[])\/∃ S m K,Mod s rs 50 S m (some K)/\K.length<=50/\zs=allL K k
theorem mU.next (cK:∀ r∈rs,r.bs.map (·.1)=r.R.body){w:W8}{k:Nat}{v:Value}{wr:W8}(h:mU s rs w k zs v wr)(hM:Mod s rs 50 S m (some K)):K.length<=50/\zs=allL K k/\(iY K k).length<=50:=by
 have hl:K.length<=50:=by
  obtain⟨_,_,⟨e,_⟩ | ⟨A,B,e1,e2,_,h3⟩⟩:=hM.uniq cK hM
  ·cases e
  ·obtain rfl:=Option.some.inj e1;exact h3
 refine⟨hl,?_,?_⟩
 ·rcases h.told with⟨rfl,rfl⟩ | ⟨S',m',K',Ab,_,rfl⟩
  ·rfl
  ·obtain⟨_,_,⟨e,_⟩ | ⟨A,B,e1,e2,h3,_⟩⟩:=Ab.uniq cK hM
   ·cases e
   ·obtain rfl:=Option.some.inj e1;obtain rfl:=Option.some.inj e2;exact jI h3 k
 ·unfold iY;rw[sortT_len,List.length_map];exact Nat.le_trans (List.length_filter_le _ _) hl
theorem str_ones (l:List B8):∀ u∈l.map Value.string,u.oneCell'=true:=λ u hu=>by
 obtain⟨x,_,rfl⟩:=List.mem_map.1 hu;rfl
attribute [local go_sem] one8_size
theorem kall (w:W8)(s:B8)(xb lo:Nat)(rs:List PR)(hE:fo s xb w lo rs)(h2:TwoP (aq s).2):Calls Tryz.prog 19 #[.pointer (some ⟨xb,0,none⟩)] w (j2 s rs w):=by
 obtain⟨i0,hi,dD,cD,cd⟩:=info_parts infoString;have cK:=hE.cE;have kj:=hide cK;have HE:=hide hE;have H0:=hide (show mU s rs w 0 [] (.slice none 0 0) w from ⟨Below.refl _ _,World.ownsRow_nil _ _ _ _,by simp,.inl ⟨rfl,rfl⟩⟩);clear cK hE;go_enter Tryz.func19,Tryz.ntmps19;go_wp2_with fail
 go_loopg [4,5] 4 (λ gg v kv wr=>∃ (k:Nat) (zs:List B8),k<=4/\gg=4-k/\kv=.int .i64 (k:Nat)/\mU s rs w k zs v wr)
 exact⟨0,[],by omega,rfl,rfl,ad H0⟩
 case round=>
  clear H0;obtain⟨k,zs,hk,fK,rfl,ak⟩:=hrel;obtain⟨a1,c1,rfl⟩:=own_slice ak.row;have HI:=hide ak
  by_cases aR:k<4
  ·have gM:(k:Int)<4:=(by omega);have rA:=ak.below.size;have gX:=(Below.refl wr.heap.size wr).alloc L9 bX;have HQ:=hide (pent_query ((ad HE).below (ak.below.trans (gX.mono rA))) (one8 (pdU k)++{ data:=#[40,88,44,89,41] }) (by rw[ByteArray.size_append,one8_size];decide) 50);have HP:=hide (kpred wr k aR);have cR:=hide gX;have uN:(wr.alloc bX).heap.size=wr.heap.size+1:=(by simp);have KE:=hide uN;clear ak gX uN;go_wp2_with fail;refine (ad HP).mono ?_;rintro e w1 ⟨rfl,rfl⟩;go_wp2_with fail;refine (ad HQ).mono ?_;rintro e w2 ⟨hP,aY⟩;have eA:=hide ((ad cR).trans (aY.mono (by have:=ad KE;omega)));have z7:=asked_K h2 k;have Ce:=aY.size;rw[ad KE] at Ce
   cases hP with
   | arg hl=>exact absurd hl (by decide)
   | ask _ hn=>rw[z7] at hn;cases hn
   | @fh A S m hl ha hv aZ hc dj=>
    have HM:=hide (show Mod s rs 50 S m none from ⟨hv,aZ,hc,dj⟩);clear ha hv aZ hc dj aY HQ HP z7 hl;go_wp2_with fail
    go_ret2
    exact⟨(ad HI).below.trans ((ad eA).mono rA),S,m,none,ad HM,.inl ⟨rfl,rfl⟩⟩
   | @yes A S m K ys a2 c2 hl ha hv aZ hc dj dC dA aF=>
    have hA:A=askK k:=(by rw[z7] at ha;exact (Option.some.inj ha).symm);subst hA;have hM:Mod s rs 50 S m (some K):=⟨hv,aZ,hc,dj⟩;obtain⟨qR,AD,Dy⟩:=(ad HI).next (ad kj) hM;have Dw:(sortT ys).map cY=iY K k:=(by unfold iY;rw[sortT_perm dA]);have Dv:ys.length=(iY K k).length:=(by rw[<-Dw,sortT_len]);rw[enc_txt,Dw,Dv] at aF;rw[Dv];obtain⟨Z,hZ⟩:∃ Z,Z=iY K k:=⟨_,rfl⟩;rw[<-hZ] at aF Dy ⊢;have rQ:=hide (show zs++Z=allL K (k+1) by rw[AD,hZ,gU]);have HM:=hide (And.intro hM qR);have mQ:=own_below (ad HI).row (ad eA) (λ g e=>((ad HI).row.lt g e).2);have yD:=(ad HI).len
    have fk:=hide (λ (v5:Value) (w5:W8) (hg:w2.grownBy w5 (Value.slice a1 zs.length c1).ownBlock) (aI:w5.ownsRow w.heap.size 9 1 v5 (zs.length+Z.length) (zs.map Value.string++Z.map Value.string))=>(show mU s rs w (k+1) (zs++Z) v5 w5 from by
     have hb:=(ad HI).below.trans ((ad eA).mono rA);refine⟨⟨hg.os.trans hb.os,hg.tape.trans hb.tape,hg.output.trans hb.output,Nat.le_trans hb.size hg.size,λ j hj=>?_⟩,?_,by rw[List.length_append];omega,.inr ⟨S,m,K,hM,qR,by rw[AD,hZ,gU]⟩⟩
     ·rw[hg.block j (Nat.lt_of_lt_of_le hj hb.size) (λ e=>by have:=((ad HI).row.lt j e.symm).1;omega)];exact hb.block j hj
     ·rw[List.length_append,List.map_append];exact aI))
    have oL:=hide (show Z=[]->mU s rs w (k+1) zs (.slice a1 zs.length c1) w2 from λ hz=>by
     refine⟨(ad HI).below.trans ((ad eA).mono rA),mQ,by omega,.inr ⟨S,m,K,hM,qR,?_⟩⟩
     rw[gU,<-AD,<-hZ,hz,List.append_nil])
    have hT:=np.fy (ad HI).row;have kY:=hT.cap;have J0:w.heap.size<=w2.heap.size:=(by omega);clear hT ha hv aZ hc dj dC dA aY HQ HP z7 hl hM Dw Dv AD hZ
    cases Z with
    | nil=>
     have HN:=hide (ad oL rfl);have nA:=hide (app_noneT w2 a1 zs.length c1 kY a2 c2);clear oL fk aF mQ HI eA cR rQ HM;go_wp2_with (at_builtin;go_must (refine wpList_append_none rfl _ _ _ rfl _ _ rfl rfl (ad nA) ?_));go_roundg (4-(k+1));exact⟨k+1,zs,by omega,rfl,by go_num,ad HN⟩;omega
    | cons z0 Z0=>
     obtain⟨g2,dt⟩:∃ g,a2=some ⟨g,0,none⟩:=by
      obtain⟨g,e,_⟩:=(np.fy aF).at_ 0 (by simp);exact⟨g,e⟩
     subst dt;generalize z0::Z0=Z at *;have fu:=hide (row_newsN aF);have eT:=hide (str_ones Z);have hlen:(Z.map Value.string).length=Z.length*1:=(by simp);have oI:=hide hlen;have iV:=hide mQ;clear oL aF mQ HI eA cR rQ HM hlen;go_wp2_with (at_builtin;go_must (refine wpList_append_own _ rfl _ _ 33 rfl w.heap.size 9 i0 _ 1 16 Tryz.underlying33 hi dD cD cd rfl (by decide) _ _ _ rfl (ad iV) ⟨g2,0,none⟩ Z.length c2 (Z.map Value.string) rfl (ad oI) (ad fu) (ad eT) (by unfold maxLen;omega) (by omega) (by omega) ?_);intro v5 w5 aL dh dr;clear dr;obtain⟨a5,c5,rfl⟩:=own_slice aL;have lX:=hide aL;have jq:=hide dh;clear aL dh);go_roundg (4-(k+1));exact⟨k+1,zs++Z,by omega,rfl,by go_num,ad fk _ _ (ad jq) (ad lX)⟩;omega
  ·have jP:k=4:=(by omega);subst jP;clear ak;go_wp2_with fail
   go_ret2
   have hI:=ad HI;rcases hI.told with⟨h0,_⟩ | ⟨S,m,K,hM,hK,hz⟩
   ·cases h0
   ·subst hz;exact⟨hI.below,S,m,some K,hM,.inr ⟨K,a1,c1,rfl,hK,rfl,hI.row⟩⟩
end
section
def dupT:List Th->List Th
 | []=>[]
 | t::r=>if (r.any λ x=>decide (x=t)) then dupT r else t::dupT r
theorem dupT_mem {t:Th}:∀ l:List Th,t∈dupT l↔t∈l
 | []=>Iff.rfl
 | u::r=>by
  unfold dupT
  split
  ·rename_i h;obtain⟨x,hx,e⟩:=List.any_eq_true.1 h;have e:=of_decide_eq_true e;subst e;rw[dupT_mem r,List.mem_cons];exact⟨.inr,λ h'=>h'.elim (λ e=>by rw[e];exact hx) id⟩
  ·rw[List.mem_cons,List.mem_cons,dupT_mem r]
theorem dupT_nodup:∀ l:List Th,(dupT l).Nodup
 | []=>.nil
 | u::r=>by
  unfold dupT
  split
  ·exact dupT_nodup r
  ·rename_i h;exact List.nodup_cons.2 ⟨λ h'=>h (List.any_eq_true.2 ⟨u,(dupT_mem r).1 h',decide_eq_true rfl⟩),dupT_nodup r⟩
def newT (rs:List PR)(K:List (Th × Nat)):List Th:=dupT ((rs.flatMap λ r=>(pways K (negOf r.bs) (posOf r.bs) []).map λ e=>aC e (aS r)).filter λ t=>(ay K t).isNone)
theorem newT_mem {rs:List PR}{K:List (Th × Nat)}{t:Th}:t∈newT rs K↔NewB rs K t:=by
 unfold newT NewB;rw[dupT_mem,List.mem_filter,List.mem_flatMap]
 constructor
 ·rintro⟨⟨r,hr,h⟩,hn⟩;obtain⟨e,he,hf⟩:=List.mem_map.1 h;exact⟨Option.isNone_iff_eq_none.1 hn,r,hr,e,he,hf⟩
 ·rintro⟨hn,r,hr,e,he,hf⟩;exact⟨⟨r,hr,List.mem_map.2 ⟨e,he,hf⟩⟩,Option.isNone_iff_eq_none.2 hn⟩
theorem newT_nodup (rs:List PR)(K:List (Th × Nat)):(newT rs K).Nodup:=dupT_nodup _
def climbF (rs:List PR)(limit:Nat):Nat->Nat->List (Th × Nat)->Option (List (Th × Nat))
 | 0,_,_=>none
 | f+1,h,K=>if (newT rs K).isEmpty then some K else if K.length+(newT rs K).length<=limit then climbF rs limit f (h+1) (K++(newT rs K).map λ t=>(t,h)) else none
theorem climbF_ok {rs:List PR}{limit:Nat}:∀ (f h:Nat) (K K':List (Th × Nat)),climbF rs limit f h K=some K'->PClimb rs limit h K (some K')
 | 0,_,_,_,e=>by cases e
 | f+1,h,K,K',e=>by
  unfold climbF at e
  split at e
  ·rename_i h0;obtain rfl:=Option.some.inj e;exact .done λ t ht=>by
    have:=newT_mem.2 ht;rw[List.isEmpty_iff.1 h0] at this
    cases this
  ·rename_i h0
   split at e
   ·rename_i hl;refine .more (L:=(newT rs K).map λ t=>(t,h)) (λ e=>h0 (by rw[List.map_eq_nil_iff.1 e];rfl)) ?_ (λ p hp=>?_) (λ t=>?_) (by rw[List.length_map];exact hl) (climbF_ok f _ _ _ e)
    ·rw[List.map_map];have:((λ x:Th × Nat=>x.1) ∘ λ t=>(t,h))=id:=rfl;rw[this,List.map_id];exact newT_nodup rs K
    ·obtain⟨_,_,rfl⟩:=List.mem_map.1 hp;rfl
    ·rw[<-newT_mem]
     constructor
     ·rintro⟨n,hn⟩;obtain⟨u,hu,e⟩:=List.mem_map.1 hn;rw[<-(Prod.mk.inj e).1];exact hu
     ·intro ht;exact⟨h,List.mem_map.2 ⟨t,ht,rfl⟩⟩
   ·cases e
def stratF (rs:List PR)(S:B8->Nat)(limit:Nat):Nat->Nat->List (Th × Nat)->Option (List (Th × Nat))
 | 0,_,K=>some K
 | f+1,s,K=>(climbF (rs.filter (bH S s)) limit 60 1 K).bind (stratF rs S limit f (s+1))
theorem stratF_ok {rs:List PR}{S:B8->Nat}{limit:Nat}(count:Nat):∀ (f s:Nat) (K K':List (Th × Nat)),s+f=count->stratF rs S limit f s K=some K'->PStrat rs S limit count s K (some K')
 | 0,s,K,K',hs,e=>by obtain rfl:=Option.some.inj e;exact .ends (by omega)
 | f+1,s,K,K',hs,e=>by
  unfold stratF at e;obtain⟨K1,h1,h2⟩:=Option.bind_eq_some_iff.1 e;exact .next (by omega) (climbF_ok 60 1 K K1 h1) (stratF_ok count f (s+1) K1 K' (by omega) h2)
def gH:B8:={ data:=#[102,97,114] }
def edgB:B8:={ data:=#[101,100,103,101] }
def patB:B8:={ data:=#[112,97,116,104] }
def sc (k:B8):Nat:=if k=gH then 1 else 0
def exR:List PR:=(pparsed exText).2.2.1.map λ R=>⟨R,undef,R.body.map λ l=>(l,undef),undef⟩
def exK:List (Th × Nat):=[((edgB,[one8 97,one8 98]),1),((edgB,[one8 98,one8 99]),1),((patB,[one8 97,one8 98]),2),((patB,[one8 98,one8 99]),2),((patB,[one8 97,one8 99]),3),((gH,[one8 99]),1)]
theorem ex_load:refLoad exText=(true,0,0):=by decide +kernel
theorem ex_strat:stratF exR sc 10 2 0 []=some exK:=by decide +kernel
end
section
open Go.RowKit Go.Maps
def Lvl (s:B8):Prop:=∃ f,ValidN (pparsed s).2.2.1 f/\∀ k,f k<=3
theorem lvl_text {L:Nat->KL}{n:Nat}(hn:n<=14)(hL:∀ i,i<n->(L i).Ok):Lvl (cY (cT L n)):=by
 refine⟨u5,λ R hR=>?_,λ k=>?_⟩
 ·rw[(textK_ok L n hn hL).2] at hR;have ho:RuleOkK (λ _=>2) u5 R:=by
   rcases List.mem_cons.1 hR with rfl | hR
   ·exact KL.ki ⟨by decide,by decide⟩
   ·obtain⟨i,hi,rfl⟩:=List.mem_map.1 hR;exact KL.ki (hL i (List.mem_range.1 hi))
  intro l hl;have h1:=ho.pos l hl;have h2:=ho.neg l hl
  split
  ·rename_i h;have:=h2 h;omega
  ·omega
 ·unfold u5
  split
  ·omega
  ·split
   ·omega
   ·split <;> omega
variable {m limit lo xb:Nat} {S:B8->Nat} {rs:List PR} {w:W8} {s:B8}
theorem Mod.lvl (h:fo s xb w lo rs)(hL:Lvl s){r:Option (List (Th × Nat))}(hM:Mod s rs limit S m r)(k:B8):S k<=3:=by
 obtain⟨f,h1,h2⟩:=hL;exact Nat.le_trans (hM.low f (by rw[h.rules];exact h1) k) (h2 k)
theorem rank_le (B:Nat->Bool)(i:Nat):rankB B i<=i:=by
 unfold rankB;have:=List.length_filter_le B (List.range i)
 rwa [List.length_range] at this
structure kT (s:B8)(rs:List PR)(limit:Nat)(S:B8->Nat)(m:Nat)(K:List (Th × Nat))(t:Th)(O:List Pl)(bs:List Nat):Prop where
 mod:Mod s rs limit S m (some K)
 len:K.length<=limit
 perm:O.Perm (K.map (plOf S))
 sort:O.Pairwise λ p q=>lessPl p q=true
 eq:bs=expL (aq s).2 S K t (reaK (aq s).2 rs S K O) O
variable {bs:List Nat} {t:Th}
theorem kT.byte (h:fo s xb w lo rs)(hL:Lvl s)(hl:limit<=50){K:List (Th × Nat)}{O:List Pl}(hW:kT s rs limit S m K t O bs):∀ x∈bs,x<256:=by
 have hA:=hW.mod.kh h.cE h.dg hW.perm hW.sort;have hK:=hW.len;have xN:O.length=K.length:=by rw[hW.perm.length_eq,List.length_map]
 have iH:rs.length<=30:=by have:=(good_of h.ok).len;rw[<-h.rules,List.length_map] at this;exact this
 rw[hW.eq];intro x hx;unfold expL bytesOf at hx;rcases List.mem_cons.1 hx with rfl | hx
 ·have:=Mod.lvl h hL hW.mod t.1;unfold bf
  split
  ·split <;> omega
  ·omega
 ·rcases List.mem_cons.1 hx with rfl | hx
  ·have:=expN_len (aq s).2 S K t (reaK (aq s).2 rs S K O) O;omega
  ·rw[expN_eq hA.low] at hx;obtain⟨y,hy,hx⟩:=List.mem_flatMap.1 hx;obtain⟨j,hj,rfl⟩:=List.mem_map.1 hy;have iq:=List.mem_range.1 (List.mem_filter.1 hj).1;rcases List.mem_cons.1 hx with rfl | hx
   ·have:=(hA.least j iq).lt
    show (reaK (aq s).2 rs S K O j).1<256
    omega
   ·obtain⟨y,hy,rfl⟩:=List.mem_map.1 hx;have h1:=rank_le (cP O (bf (aq s).2 S K t) t (reaK (aq s).2 rs S K O) 0) y;have h2:=hA.low j iq y hy;omega
theorem iJ.fy {base:Nat}{a:O8}{c:Nat}(hb:∀ x∈bs,x<256)(h:w.ownsRow base 5 1 (.slice a bs.length c) bs.length (bs.map u8c)):iJ w a c bs:=by
 rcases h.2 with⟨e,h0⟩ | ⟨g,cap,cur,hv,_,hg,dB,dx,fi,ig⟩
 ·injection e with e1 e2 e3
  have hz:bs=[]:=List.eq_nil_of_length_eq_zero h0;subst hz e3;exact iJ.none _ _ (by unfold maxLen;omega)
 ·injection hv with e1 e2 e3
  subst e1 e3;refine⟨dB,dx,hb,λ _=>⟨g,0,rfl,(h.lt g rfl).2,λ j hj=>?_⟩⟩;have:=World.ownsRow.cellAt h j (by omega);rw[Nat.zero_add,this,List.getElem?_map,List.getElem?_eq_getElem hj];have hx:=hb _ (List.getElem_mem hj)
  show some (Value.int .u8 ((bs[j]:Int)%256))=_
  rw[Int.emod_eq_of_lt (by omega) (by omega)]
def ExpOver:Ending:=.returned (.tuple #[.agg #[.int .i64 0,.int .i64 0,.slice none 0 0],.int .i64 7])
theorem explain_out {w':W8}{q:B8}(jA:1<=limit)(hl:limit<=50)(cK:∀ r∈rs,r.bs.map (·.1)=r.R.body)(ht:thingS (aq s).2 q=some t){e:Ending}(hE:PEOut w rs (aq s).2 q (limit:Nat) (reaK (aq s).2 rs) w' e):
  (∃ S m,Mod s rs limit S m none/\e=ExpOver)\/∃ S m K O bs a c,kT s rs limit S m K t O bs/\(K.map (·.1)).Nodup/\e=.returned (.tuple #[.agg #[.int .i64 ((if (ay K t).isSome then 1 else 2:Nat):Nat),.int .i64 (((ay K t).getD 0:Nat):Int),.slice a bs.length c],.int .i64 0])/\w'.ownsRow w.heap.size 5 1 (.slice a bs.length c) bs.length (bs.map u8c):=by
 have ow:cB (limit:Nat)=true:=by unfold cB;simp;omega
 have FZ:((limit:Nat):Int).toNat=limit:=by simp
 cases hE with
 | arg h=>rw[ow] at h;cases h
 | ask _ hn=>rw[ht] at hn;cases hn
 | fh _ h1 hv fW hc dj=>
  rw[FZ] at dj;exact .inl ⟨_,_,⟨hv,fW,hc,dj⟩,rfl⟩
 | @yes t' S m K O a c _ h1 hv fW hc dj dC hp jU aF=>
  rw[FZ] at dj;rw[ht] at h1;obtain rfl:=Option.some.inj h1;have hM:Mod s rs limit S m (some K):=⟨hv,fW,hc,dj⟩;have hK:K.length<=limit:=by
   obtain⟨_,_,⟨e,_⟩ | ⟨A,B,e1,e2,_,h3⟩⟩:=hM.uniq cK hM
   ·cases e
   ·obtain rfl:=Option.some.inj e1;exact h3
  refine .inr ⟨S,m,K,O,_,a,c,⟨hM,hK,hp,jU,rfl⟩,dC,?_,aF⟩
  by_cases hk:(ay K t).isSome=true
  ·rw[if_pos hk,if_pos hk];rfl
  ·rw[if_neg hk,if_neg hk];rfl
end
section
open Go.RowKit Go.Maps
theorem sortT_eq {zs:List B8}{L:List (List UInt8)}(h:(zs.map λ s=>s.data.toList).Perm L)(hs:L.Pairwise λ a b=>a<=b):sortT zs=L:=by
 have h1:(sortT zs).Pairwise λ a b=>a<=b:=by
  have:=List.pairwise_mergeSort (le:=λ x y:List UInt8=>decide (x<=y)) (λ a b c h1 h2=>by
   simp only[decide_eq_true_eq] at *
   exact List.le_trans h1 h2) (λ a b=>by
   simp only[Bool.or_eq_true,decide_eq_true_eq]
   exact List.le_total a b) (zs.map λ s=>s.data.toList)
  exact this.imp λ h=>by simpa using h
 exact List.Perm.eq_of_pairwise (le:=λ a b=>a<=b) (λ a b _ _ h1 h2=>List.le_antisymm h1 h2) h1 hs ((List.mergeSort_perm _ _).trans h)
theorem kV:∀ R∈(pparsed exText).2.2.1,∀ l∈R.body,(sc l.pd+if l.neg then 1 else 0)<=sc R.pd:=by decide +kernel
theorem ex_far:∃ R∈(pparsed exText).2.2.1,R.pd=gH/\∃ l∈R.body,l.neg=true:=by decide +kernel
theorem tT:(numOf (aq exText).2 gH).isSome=true:=by decide +kernel
theorem nx:exR.map (·.R)=(pparsed exText).2.2.1:=by
 unfold exR;rw[List.map_map];exact List.map_id _
theorem lY:∀ r∈exR,r.bs.map (·.1)=r.R.body:=λ r hr=>by
 obtain⟨R,_,rfl⟩:=List.mem_map.1 hr
 show (R.body.map λ l=>(l,undef)).map (·.1)=R.body
 rw[List.map_map];exact List.map_id _
variable {rs:List PR}
theorem ex_mod (hr:rs.map (·.R)=(pparsed exText).2.2.1)(hb:∀ r∈rs,r.bs.map (·.1)=r.R.body):Mod exText rs 10 sc 2 (some exK):=by
 refine⟨λ R hR=>by rw[hr] at hR;exact kV R hR,λ f hf k=>?_,⟨λ k _=>?_,.inr ⟨gH,tT,rfl⟩⟩,?_⟩
 ·unfold sc
  split
  ·rename_i e;subst e;obtain⟨R,hR,hp,l,hl,hn⟩:=ex_far;have:=hf R (by rw[hr];exact hR) l hl;rw[hn,if_pos rfl,hp] at this;omega
  ·omega
 ·unfold sc;split <;> omega
 ·exact fA ⟨λ R=>by rw[nx,hr],lY,hb⟩ (stratF_ok 2 2 0 [] exK rfl ex_strat)
theorem ex_lvl:Lvl exText:=⟨sc,kV,λ k=>by unfold sc;split <;> omega⟩
def exQ:B8:={ data:=#[112,97,116,104,40,97,44,88,41] }
def exC:B8:={ data:=#[102,97,114,40,99,41] }
def exB:B8:={ data:=#[102,97,114,40,98,41] }
def exAB:B8:={ data:=#[112,97,116,104,40,97,44,98,41] }
def exAC:B8:={ data:=#[112,97,116,104,40,97,44,99,41] }
def exA:PAtm:=⟨patB,[(false,one8 97),(true,one8 88)]⟩
theorem ex_thC:thingS (aq exText).2 exC=some (gH,[one8 99]):=by decide +kernel
theorem ex_thB:thingS (aq exText).2 exB=some (gH,[one8 98]):=by decide +kernel
theorem ex_askM:(askedS (aq exText).2 exQ).map (λ A=>(A.p,A.ts))=some (patB,[(false,one8 97),(true,one8 88)]):=by decide +kernel
theorem ex_ask:askedS (aq exText).2 exQ=some exA:=by
 have h:=ex_askM
 cases e:askedS (aq exText).2 exQ with
 | none=>rw[e] at h;cases h
 | some A=>
  rw[e] at h;obtain⟨p,ts⟩:=A;have h:(p,ts)=(patB,[(false,one8 97),(true,one8 88)]):=Option.some.inj h;obtain⟨rfl,rfl⟩:=Prod.mk.inj h;rfl
theorem ex_hit:((exK.filter (hitB exA)).map λ p=>thText p.1)=[exAB,exAC]:=by decide +kernel
theorem ex_is (hr:rs.map (·.R)=(pparsed exText).2.2.1)(hb:∀ r∈rs,r.bs.map (·.1)=r.R.body){S:B8->Nat}{m:Nat}{r:Option (List (Th × Nat))}(h:Mod exText rs 10 S m r):∃ K,r=some K/\exK.Perm K:=by
 obtain⟨_,_,⟨e,_⟩ | ⟨A,B,e1,e2,h3,_⟩⟩:=(ex_mod hr hb).uniq hb h
 ·cases e
 ·obtain rfl:=Option.some.inj e1;exact⟨B,e2,h3⟩
variable {e:Ending} {w w':W8}
theorem ex_query (hr:rs.map (·.R)=(pparsed exText).2.2.1)(hb:∀ r∈rs,r.bs.map (·.1)=r.R.body)(h:PQOut w rs (aq exText).2 exQ 10 w' e):∃ g c,e=.returned (.tuple #[.slice (some ⟨g,0,none⟩) 2 c,.int .i64 0])/\2<=c/\c<=maxLen/\g<w'.heap.size/\w'.cell? ⟨g,0,none⟩=some (.string exAB)/\w'.cell? ⟨g,1,none⟩=some (.string exAC):=by
 cases h with
 | arg h=>exact absurd h (by decide)
 | ask _ h=>rw[ex_ask] at h;cases h
 | fh _ _ hv fW hc dj=>obtain⟨K,e,_⟩:=ex_is hr hb ⟨hv,fW,hc,dj⟩;cases e
 | @yes A S m K zs a c _ hA hv fW hc dj dC hp aF=>
  rw[ex_ask] at hA;obtain rfl:=Option.some.inj hA;obtain⟨K',e,hK⟩:=ex_is hr hb ⟨hv,fW,hc,dj⟩;obtain rfl:=Option.some.inj e;have hz:zs.Perm [exAB,exAC]:=by
   have:=hp.trans ((hK.symm.filter (hitB exA)).map λ p=>thText p.1)
   rwa [ex_hit] at this
  have vV:zs.length=2:=hz.length_eq;have jU:sortT zs=[exAB.data.toList,exAC.data.toList]:=sortT_eq (hz.map _) (by decide);rw[vV,jU] at aF;have hT:=np.fy (zs:=[exAB,exAC]) aF;obtain⟨g,rfl,hg,h0⟩:=hT.at_ 0 (by simp);obtain⟨g',e',_,h1⟩:=hT.at_ 1 (by simp);obtain rfl:g=g':=by simpa using e'
  exact⟨g,c,by rw[vV],hT.cap,hT.max,hg,h0,h1⟩
theorem ex_look {K:List (Th × Nat)}(h:exK.Perm K):(ay K (gH,[one8 99])).isSome=true/\(ay K (gH,[one8 98])).isSome=false:=by
 have hm:∀ t,t∈K.map (·.1)↔t∈exK.map (·.1):=λ t=>(h.map _).mem_iff.symm
 constructor
 ·exact look_keys.2 ((hm _).2 (List.mem_map.2 ⟨((gH,[one8 99]),1),by simp[exK],rfl⟩))
 ·cases hx:(ay K (gH,[one8 98])).isSome with
  | false=>rfl
  | true=>
   exfalso
   have h1:=(hm _).1 (look_keys.1 hx);obtain⟨y,hy,he⟩:=List.mem_map.1 h1;have:∀ y∈exK,y.1≠(gH,[one8 98]):=by decide
   exact this y hy he
theorem ex_explain {xb lo:Nat}{w0:W8}(hP:fo exText xb w0 lo rs){q:B8}{t:Th}(ht:thingS (aq exText).2 q=some t)(h:PEOut w rs (aq exText).2 q 10 (reaK (aq exText).2 rs) w' e):∃ S m K O bs a c,kT exText rs 10 S m K t O bs/\exK.Perm K/\e=.returned (.tuple #[.agg #[.int .i64 ((if (ay K t).isSome then 1 else 2:Nat):Nat),.int .i64 (((ay K t).getD 0:Nat):Int),.slice a bs.length c],.int .i64 0])/\iJ w' a c bs:=by
 rcases explain_out (limit:=10) (by decide) (by decide) hP.cE ht h with⟨S,m,hM,_⟩ | ⟨S,m,K,O,bs,a,c,hW,dC,he,aF⟩
 ·obtain⟨K,e,_⟩:=ex_is hP.rules hP.cE hM;cases e
 ·obtain⟨K',e,hK⟩:=ex_is hP.rules hP.cE hW.mod;obtain rfl:=Option.some.inj e;exact⟨S,m,K,O,bs,a,c,hW,hK,he,iJ.fy (hW.byte hP ex_lvl (by decide)) aF⟩
end
end Go.Proofs.YtldkpahaocjdpaaGreat
