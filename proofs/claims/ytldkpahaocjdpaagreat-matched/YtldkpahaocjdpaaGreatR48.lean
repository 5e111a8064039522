/-
  affidavitkeep: all.
-/
import Derived.Test.YtldkpahaocjdpaaGreatR47
import Derived.Test.YtldkpahaocjdpaaGreatRows
import Derived.ProofKit
import Derived.SizedLaws
import Derived.ChangeSlices
import Derived.Deep.Slices
import Derived.Deep.Strs
import Derived.Deep.CondSized
import Derived.JoinedCond
set_option maxHeartbeats 16000000
set_option maxRecDepth 1000000
namespace Go.Proofs.YtldkpahaocjdpaaGreat
section
open Go.RowKit Go.Maps Go.Sort
variable {zs:List B8}
theorem zf6 {ys:List B8}(h:zs.Perm ys):zbe zs=zbe ys:=by
 have hs:∀ l:List (List UInt8),(l.mergeSort λ x y=>decide (x<=y)).Pairwise λ a b=>a<=b:=λ l=>by
  have:=List.pairwise_mergeSort (le:=λ x y:List UInt8=>decide (x<=y)) (λ a b c h1 h2=>by
   simp only[decide_eq_true_eq] at *
   exact List.le_trans h1 h2) (λ a b=>by
   simp only[Bool.or_eq_true,decide_eq_true_eq]
   exact List.le_total a b) l
  exact this.imp λ h=>by simpa using h
 unfold zbe;exact List.Perm.eq_of_pairwise (le:=λ a b=>a<=b) (λ a b _ _ h1 h2=>List.le_antisymm h1 h2) (hs _) (hs _) ((List.mergeSort_perm _ _).trans ((h.map _).trans (List.mergeSort_perm _ _).symm))
theorem Ob {t:B8}:t∈(zbe zs).map aC↔t∈zs:=by
 have hp:(zbe zs).Perm (zs.map λ s=>s.data.toList):=List.mergeSort_perm _ _;rw[(hp.map aC).mem_iff,List.map_map];have:(aC ∘ λ s:B8=>s.data.toList)=id:=by
  funext s
  show aC (zP s)=s
  exact zdt s
 rw[this,List.map_id]
theorem zih (zs:List B8):((zbe zs).map aC).length=zs.length:=by
 unfold zbe;rw[List.length_map,List.length_mergeSort,List.length_map]
theorem z2i (l:List (List UInt8)):l.map encStr=(l.map aC).map Value.string:=by rw[List.map_map];rfl
def dT (K:List (Th × Nat))(k:Nat):List B8:=(zbe ((K.filter (zg3 (zyw k))).map λ p=>yF p.1)).map aC
def zm1 (K:List (Th × Nat))(n:Nat):List B8:=(List.range n).flatMap (dT K)
theorem Er (K:List (Th × Nat))(n:Nat):zm1 K (n+1)=zm1 K n++dT K n:=by
 unfold zm1;rw[List.range_succ,List.flatMap_append];simp
variable {K:List (Th × Nat)}
theorem z11 {K':List (Th × Nat)}(h:K.Perm K')(n:Nat):zm1 K n=zm1 K' n:=by
 unfold zm1 dT
 congr 1
 funext k
 rw[zf6 ((h.filter _).map _)]
variable {rs:List PR}
theorem z5d (cT:∀ r∈rs,r.bs.map (·.1)=r.R.body):xN rs rs:=⟨λ _=>Iff.rfl,cT,cT⟩
variable {m:Nat} {S:B8->Nat} {s:B8}
theorem Mod.uniq (cT:∀ r∈rs,r.bs.map (·.1)=r.R.body){limit:Nat}{S':B8->Nat}{m':Nat}{r r':Option (List (Th × Nat))}(h:Mod s rs limit S m r)(h':Mod s rs limit S' m' r'):S=S'/\m=m'/\((r=none/\r'=none)\/∃ K K',r=some K/\r'=some K'/\K.Perm K'/\K.length<=limit):=by
 obtain rfl:=zfv (λ R=>Iff.rfl) h.valid h.low h'.valid h'.low;obtain rfl:=zbs h.count h'.count;exact⟨rfl,rfl,zt9 (z5d cT) h.gJ (List.Perm.refl _) (Nat.zero_le _) h'.gJ⟩
def NM (s:B8)(rs:List PR)(w:W8)(e:Ending)(w':W8):Prop:=
 Below w.heap.size w w'/\∃ S m r,Mod s rs 50 S m r/\((r=none/\e=.returned (.tuple #[.slice none 0 0,.bool false]))\/∃ K a c,r=some K/\K.length<=50/\e=.returned (.tuple #[.slice a (zm1 K 4).length c,.bool true])/\w'.ownsRow w.heap.size 9 1 (.slice a (zm1 K 4).length c) (zm1 K 4).length ((zm1 K 4).map Value.string))
theorem z12 (w:W8)(b:O8)(n c:Nat)(h:n<=c)(a:O8)(c':Nat)(ty:TypeId):(Builtin.append_ #[33,33] ty #[.slice b n c,.slice a 0 c']).run Tryz.prog w=.ok (.slice b n c) w:=by
 obtain⟨i0,CD,dK,aj,bZ⟩:=info_parts zbt;refine run_append_nothing w _ _ _ 9 i0 Tryz.underlying33 CD b n c h _ ?_
 cases a with
 | none=>exact Src.ofNil w Tryz.underlying33 c'
 | some a=>exact Src.ofSlice w Tryz.underlying33 a 0 c' [] (by simp) (by simp) (by simp)
structure K7 (s:B8)(rs:List PR)(w:W8)(k:Nat)(zs:List B8)(v:Value)(wr:W8):Prop where
 below:Below w.heap.size w wr
 row:wr.ownsRow w.heap.size 9 1 v zs.length (zs.map Value.string)
 len:zs.length<=50*k
 told:(k=0/\zs=[])\/∃ S m K,Mod s rs 50 S m (some K)/\K.length<=50/\zs=zm1 K k
theorem K7.next (cT:∀ r∈rs,r.bs.map (·.1)=r.R.body){w:W8}{k:Nat}{v:Value}{wr:W8}(h:K7 s rs w k zs v wr)(hM:Mod s rs 50 S m (some K)):K.length<=50/\zs=zm1 K k/\(dT K k).length<=50:=by
 have hl:K.length<=50:=by
  obtain⟨_,_,⟨e,_⟩ | ⟨A,B,e1,e2,_,h3⟩⟩:=hM.uniq cT hM
  ·cases e
  ·obtain rfl:=Option.some.inj e1;exact h3
 refine⟨hl,?_,?_⟩
 ·rcases h.told with⟨rfl,rfl⟩ | ⟨S',m',K',wU,_,rfl⟩
  ·rfl
  ·obtain⟨_,_,⟨e,_⟩ | ⟨A,B,e1,e2,h3,_⟩⟩:=wU.uniq cT hM
   ·cases e
   ·obtain rfl:=Option.some.inj e1;obtain rfl:=Option.some.inj e2;exact z11 h3 k
 ·unfold dT;rw[zih,List.length_map];exact Nat.le_trans (List.length_filter_le _ _) hl
theorem z89 (l:List B8):∀ u∈l.map Value.string,u.oneCell'=true:=λ u hu=>by
 obtain⟨x,_,rfl⟩:=List.mem_map.1 hu;rfl
attribute [local go_sem] za4
theorem yf8 (w:W8)(s:B8)(xb lo:Nat)(rs:List PR)(hE:aY s xb w lo rs)(h2:zro (zF s).2):Calls Tryz.prog 19 #[.pointer (some ⟨xb,0,none⟩)] w (NM s rs w):=by
 obtain⟨i0,hi,dK,aj,bZ⟩:=info_parts zbt;have cT:=hE.cg;have dq:=zC cT;have HE:=zC hE;have H0:=zC (show K7 s rs w 0 [] (.slice none 0 0) w from ⟨Below.refl _ _,World.ownsRow_nil _ _ _ _,by simp,.inl ⟨rfl,rfl⟩⟩);clear cT hE;go_enter Tryz.func19,Tryz.ntmps19;go_wp2_with fail
 go_loopg [4,5] 4 (λ gg v kv wr=>∃ (k:Nat) (zs:List B8),k<=4/\gg=4-k/\kv=.int .i64 (k:Nat)/\K7 s rs w k zs v wr)
 exact⟨0,[],by omega,rfl,rfl,zA H0⟩
 case round=>
  clear H0;obtain⟨k,zs,hk,fM,rfl,ak⟩:=hrel;obtain⟨a1,c1,rfl⟩:=zE ak.row;have HI:=zC ak
  by_cases aN:k<4
  ·have gW:(k:Int)<4:=(by omega);have sV:=ak.below.size;have gS:=(Below.refl wr.heap.size wr).alloc L9 aP;have HQ:=zC (zay ((zA HE).below (ak.below.trans (gS.mono sV))) (yJ (pdU k)++{ data:=#[40,88,44,89,41] }) (by rw[ByteArray.size_append,za4];decide) 50);have HP:=zC (zg6 wr k aN);have cR:=zC gS;have uQ:(wr.alloc aP).heap.size=wr.heap.size+1:=(by simp);have xi:=zC uQ;clear ak gS uQ;go_wp2_with fail;refine (zA HP).mono ?_;rintro e w1 ⟨rfl,rfl⟩;go_wp2_with fail;refine (zA HQ).mono ?_;rintro e w2 ⟨hP,aU⟩;have ep:=zC ((zA cR).trans (aU.mono (by have:=zA xi;omega)));have Ak:=ybg h2 k;have Cn:=aU.size;rw[zA xi] at Cn
   cases hP with
   | arg hl=>exact absurd hl (by decide)
   | ask _ hn=>rw[Ak] at hn;cases hn
   | @fk A S m hl ha hv aX hc dj=>
    have HM:=zC (show Mod s rs 50 S m none from ⟨hv,aX,hc,dj⟩);clear ha hv aX hc dj aU HQ HP Ak hl;go_wp2_with fail
    go_ret2
    exact⟨(zA HI).below.trans ((zA ep).mono sV),S,m,none,zA HM,.inl ⟨rfl,rfl⟩⟩
   | @yes A S m K ys a2 c2 hl ha hv aX hc dj dB dC aE=>
    have hA:A=zyw k:=(by rw[Ak] at ha;exact (Option.some.inj ha).symm);subst hA;have hM:Mod s rs 50 S m (some K):=⟨hv,aX,hc,dj⟩;obtain⟨fo,AK,DB⟩:=(zA HI).next (zA dq) hM;have Dz:(zbe ys).map aC=dT K k:=(by unfold dT;rw[zf6 dC]);have Dy:ys.length=(dT K k).length:=(by rw[<-Dz,zih]);rw[z2i,Dz,Dy] at aE;rw[Dy];obtain⟨Z,hZ⟩:∃ Z,Z=dT K k:=⟨_,rfl⟩;rw[<-hZ] at aE DB ⊢;have oC:=zC (show zs++Z=zm1 K (k+1) by rw[AK,hZ,Er]);have HM:=zC (And.intro hM fo);have mN:=zG (zA HI).row (zA ep) (λ g e=>((zA HI).row.lt g e).2);have L7:=(zA HI).len
    have rL:=zC (λ (v5:Value) (w5:W8) (hg:w2.grownBy w5 (Value.slice a1 zs.length c1).ownBlock) (aI:w5.ownsRow w.heap.size 9 1 v5 (zs.length+Z.length) (zs.map Value.string++Z.map Value.string))=>(show K7 s rs w (k+1) (zs++Z) v5 w5 from by
     have hb:=(zA HI).below.trans ((zA ep).mono sV);refine⟨⟨hg.os.trans hb.os,hg.tape.trans hb.tape,hg.output.trans hb.output,Nat.le_trans hb.size hg.size,λ j hj=>?_⟩,?_,by rw[List.length_append];omega,.inr ⟨S,m,K,hM,fo,by rw[AK,hZ,Er]⟩⟩
     ·rw[hg.block j (Nat.lt_of_lt_of_le hj hb.size) (λ e=>by have:=((zA HI).row.lt j e.symm).1;omega)];exact hb.block j hj
     ·rw[List.length_append,List.map_append];exact aI))
    have oE:=zC (show Z=[]->K7 s rs w (k+1) zs (.slice a1 zs.length c1) w2 from λ hz=>by
     refine⟨(zA HI).below.trans ((zA ep).mono sV),mN,by omega,.inr ⟨S,m,K,hM,fo,?_⟩⟩
     rw[Er,<-AK,<-hZ,hz,List.append_nil])
    have hT:=qd.ib (zA HI).row;have kR:=hT.cap;have Ke:w.heap.size<=w2.heap.size:=(by omega);clear hT ha hv aX hc dj dB dC aU HQ HP Ak hl hM Dz Dy AK hZ
    cases Z with
    | nil=>
     have HN:=zC (zA oE rfl);have nx:=zC (z12 w2 a1 zs.length c1 kR a2 c2);clear oE rL aE mN HI ep cR oC HM;go_wp2_with (at_builtin;go_must (refine zio rfl _ _ _ rfl _ _ rfl rfl (zA nx) ?_));go_roundg (4-(k+1));exact⟨k+1,zs,by omega,rfl,by go_num,zA HN⟩;omega
    | cons z0 Z0=>
     obtain⟨g2,dd⟩:∃ g,a2=some ⟨g,0,none⟩:=by
      obtain⟨g,e,_⟩:=(qd.ib aE).at_ 0 (by simp);exact⟨g,e⟩
     subst dd;generalize z0::Z0=Z at *;have gF:=zC (z42 aE);have eR:=zC (z89 Z);have hlen:(Z.map Value.string).length=Z.length*1:=(by simp);have oA:=zC hlen;have iV:=zC mN;clear oE aE mN HI ep cR oC HM hlen;go_wp2_with (at_builtin;go_must (refine wpList_append_own _ rfl _ _ 33 rfl w.heap.size 9 i0 _ 1 16 Tryz.underlying33 hi dK aj bZ rfl (by decide) _ _ _ rfl (zA iV) ⟨g2,0,none⟩ Z.length c2 (Z.map Value.string) rfl (zA oA) (zA gF) (zA eR) (by unfold maxLen;omega) (by omega) (by omega) ?_);intro v5 w5 ad dz aw;clear aw;obtain⟨a5,c5,rfl⟩:=zE ad;have mY:=zC ad;have bp:=zC dz;clear ad dz);go_roundg (4-(k+1));exact⟨k+1,zs++Z,by omega,rfl,by go_num,zA rL _ _ (zA bp) (zA mY)⟩;omega
  ·have bU:k=4:=(by omega);subst bU;clear ak;go_wp2_with fail
   go_ret2
   have hI:=zA HI;rcases hI.told with⟨h0,_⟩ | ⟨S,m,K,hM,hK,hz⟩
   ·cases h0
   ·subst hz;exact⟨hI.below,S,m,some K,hM,.inr ⟨K,a1,c1,rfl,hK,rfl,hI.row⟩⟩
end
section
open Go.RowKit
def vU:B8:={ data:=#[101,100,103,101,40,97,44,98,41,46,32,101,100,103,101,40,98,44,99,41,46,32,112,97,116,104,40,88,44,89,41,32,58,45,32,101,100,103,101,40,88,44,89,41,46,32,112,97,116,104,40,88,44,90,41,32,58,45,32,101,100,103,101,40,88,44,89,41,44,32,112,97,116,104,40,89,44,90,41,46,32,102,97,114,40,88,41,32,58,45,32,112,97,116,104,40,97,44,88,41,44,32,110,111,116,32,101,100,103,101,40,97,44,88,41,46] }
theorem zp9:vU.size<=maxLen:=by decide +kernel
end
section
def ybm:List Th->List Th
 | []=>[]
 | t::r=>if (r.any λ x=>decide (x=t)) then ybm r else t::ybm r
theorem zkk {t:Th}:∀ l:List Th,t∈ybm l↔t∈l
 | []=>Iff.rfl
 | u::r=>by
  unfold ybm
  split
  ·rename_i h;obtain⟨x,hx,e⟩:=List.any_eq_true.1 h;have e:=of_decide_eq_true e;subst e;rw[zkk r,List.mem_cons];exact⟨.inr,λ h'=>h'.elim (λ e=>by rw[e];exact hx) id⟩
  ·rw[List.mem_cons,List.mem_cons,zkk r]
theorem zi1:∀ l:List Th,(ybm l).Nodup
 | []=>.nil
 | u::r=>by
  unfold ybm
  split
  ·exact zi1 r
  ·rename_i h;exact List.nodup_cons.2 ⟨λ h'=>h (List.any_eq_true.2 ⟨u,(zkk r).1 h',decide_eq_true rfl⟩),zi1 r⟩
def yb7 (rs:List PR)(K:List (Th × Nat)):List Th:=ybm ((rs.flatMap λ r=>(qM K (vV r.bs) (zM r.bs) []).map λ e=>zZ e (jB r)).filter λ t=>(zU K t).isNone)
theorem zx2 {rs:List PR}{K:List (Th × Nat)}{t:Th}:t∈yb7 rs K↔zkb rs K t:=by
 unfold yb7 zkb;rw[zkk,List.mem_filter,List.mem_flatMap]
 constructor
 ·rintro⟨⟨r,hr,h⟩,hn⟩;obtain⟨e,he,hf⟩:=List.mem_map.1 h;exact⟨Option.isNone_iff_eq_none.1 hn,r,hr,e,he,hf⟩
 ·rintro⟨hn,r,hr,e,he,hf⟩;exact⟨⟨r,hr,List.mem_map.2 ⟨e,he,hf⟩⟩,Option.isNone_iff_eq_none.2 hn⟩
theorem zzx (rs:List PR)(K:List (Th × Nat)):(yb7 rs K).Nodup:=zi1 _
def zw6 (rs:List PR)(limit:Nat):Nat->Nat->List (Th × Nat)->Option (List (Th × Nat))
 | 0,_,_=>none
 | f+1,h,K=>if (yb7 rs K).isEmpty then some K else if K.length+(yb7 rs K).length<=limit then zw6 rs limit f (h+1) (K++(yb7 rs K).map λ t=>(t,h)) else none
theorem zsc {rs:List PR}{limit:Nat}:∀ (f h:Nat) (K K':List (Th × Nat)),zw6 rs limit f h K=some K'->qT rs limit h K (some K')
 | 0,_,_,_,e=>by cases e
 | f+1,h,K,K',e=>by
  unfold zw6 at e
  split at e
  ·rename_i h0;obtain rfl:=Option.some.inj e;exact .done λ t ht=>by
    have:=zx2.2 ht;rw[List.isEmpty_iff.1 h0] at this
    cases this
  ·rename_i h0
   split at e
   ·rename_i hl;refine .more (L:=(yb7 rs K).map λ t=>(t,h)) (λ e=>h0 (by rw[List.map_eq_nil_iff.1 e];rfl)) ?_ (λ p hp=>?_) (λ t=>?_) (by rw[List.length_map];exact hl) (zsc f _ _ _ e)
    ·rw[List.map_map];have:((λ x:Th × Nat=>x.1) ∘ λ t=>(t,h))=id:=rfl;rw[this,List.map_id];exact zzx rs K
    ·obtain⟨_,_,rfl⟩:=List.mem_map.1 hp;rfl
    ·rw[<-zx2]
     constructor
     ·rintro⟨n,hn⟩;obtain⟨u,hu,e⟩:=List.mem_map.1 hn;rw[<-(Prod.mk.inj e).1];exact hu
     ·intro ht;exact⟨h,List.mem_map.2 ⟨t,ht,rfl⟩⟩
   ·cases e
def zye (rs:List PR)(S:B8->Nat)(limit:Nat):Nat->Nat->List (Th × Nat)->Option (List (Th × Nat))
 | 0,_,K=>some K
 | f+1,s,K=>(zw6 (rs.filter (qJ S s)) limit 60 1 K).bind (zye rs S limit f (s+1))
theorem zt8 {rs:List PR}{S:B8->Nat}{limit:Nat}(count:Nat):∀ (f s:Nat) (K K':List (Th × Nat)),s+f=count->zye rs S limit f s K=some K'->jL rs S limit count s K (some K')
 | 0,s,K,K',hs,e=>by obtain rfl:=Option.some.inj e;exact .ends (by omega)
 | f+1,s,K,K',hs,e=>by
  unfold zye at e;obtain⟨K1,h1,h2⟩:=Option.bind_eq_some_iff.1 e;exact .next (by omega) (zsc 60 1 K K1 h1) (zt8 count f (s+1) K1 K' (by omega) h2)
def fg:B8:={ data:=#[102,97,114] }
def yfw:B8:={ data:=#[101,100,103,101] }
def ydm:B8:={ data:=#[112,97,116,104] }
def rW (k:B8):Nat:=if k=fg then 1 else 0
def exR:List PR:=(zJ vU).2.2.1.map λ R=>⟨R,undef,R.body.map λ l=>(l,undef),undef⟩
def exK:List (Th × Nat):=[((yfw,[yJ 97,yJ 98]),1),((yfw,[yJ 98,yJ 99]),1),((ydm,[yJ 97,yJ 98]),2),((ydm,[yJ 98,yJ 99]),2),((ydm,[yJ 97,yJ 99]),3),((fg,[yJ 99]),1)]
theorem ybr:z7 vU=(true,0,0):=by decide +kernel
theorem z7k:zye exR rW 10 2 0 []=some exK:=by decide +kernel
end
section
open Go.RowKit Go.Maps
def Lvl (s:B8):Prop:=∃ f,qH (zJ s).2.2.1 f/\∀ k,f k<=3
theorem z7w {L:Nat->KL}{n:Nat}(hn:n<=14)(hL:∀ i,i<n->(L i).Ok):Lvl (aC (aW L n)):=by
 refine⟨pT,λ R hR=>?_,λ k=>?_⟩
 ·rw[(zij L n hn hL).2] at hR;have ho:zeu (λ _=>2) pT R:=by
   rcases List.mem_cons.1 hR with rfl | hR
   ·exact KL.ic ⟨by decide,by decide⟩
   ·obtain⟨i,hi,rfl⟩:=List.mem_map.1 hR;exact KL.ic (hL i (List.mem_range.1 hi))
  intro l hl;have h1:=ho.pos l hl;have h2:=ho.neg l hl
  split
  ·rename_i h;have:=h2 h;omega
  ·omega
 ·unfold pT
  split
  ·omega
  ·split
   ·omega
   ·split <;> omega
variable {m limit lo xb:Nat} {S:B8->Nat} {rs:List PR} {w:W8} {s:B8}
theorem Mod.lvl (h:aY s xb w lo rs)(hL:Lvl s){r:Option (List (Th × Nat))}(hM:Mod s rs limit S m r)(k:B8):S k<=3:=by
 obtain⟨f,h1,h2⟩:=hL;exact Nat.le_trans (hM.low f (by rw[h.rules];exact h1) k) (h2 k)
theorem yco (B:Nat->Bool)(i:Nat):zfg B i<=i:=by
 unfold zfg;have:=List.length_filter_le B (List.range i)
 rwa [List.length_range] at this
structure MJ (s:B8)(rs:List PR)(limit:Nat)(S:B8->Nat)(m:Nat)(K:List (Th × Nat))(t:Th)(O:List Pl)(bs:List Nat):Prop where
 mod:Mod s rs limit S m (some K)
 len:K.length<=limit
 perm:O.Perm (K.map (zir S))
 sort:O.Pairwise λ p q=>xX p q=true
 eq:bs=zc5 (zF s).2 S K t (ztt (zF s).2 rs S K O) O
variable {bs:List Nat} {t:Th}
theorem MJ.byte (h:aY s xb w lo rs)(hL:Lvl s)(hl:limit<=50){K:List (Th × Nat)}{O:List Pl}(hW:MJ s rs limit S m K t O bs):∀ x∈bs,x<256:=by
 have hA:=hW.mod.cX h.cg h.dh hW.perm hW.sort;have hK:=hW.len;have LI:O.length=K.length:=by rw[hW.perm.length_eq,List.length_map]
 have iG:rs.length<=30:=by have:=(qR h.ok).len;rw[<-h.rules,List.length_map] at this;exact this
 rw[hW.eq];intro x hx;unfold zc5 zgz at hx;rcases List.mem_cons.1 hx with rfl | hx
 ·have:=Mod.lvl h hL hW.mod t.1;unfold xQ
  split
  ·split <;> omega
  ·omega
 ·rcases List.mem_cons.1 hx with rfl | hx
  ·have:=zxf (zF s).2 S K t (ztt (zF s).2 rs S K O) O;omega
  ·rw[z2m hA.low] at hx;obtain⟨y,hy,hx⟩:=List.mem_flatMap.1 hx;obtain⟨j,hj,rfl⟩:=List.mem_map.1 hy;have ij:=List.mem_range.1 (List.mem_filter.1 hj).1;rcases List.mem_cons.1 hx with rfl | hx
   ·have:=(hA.least j ij).lt
    show (ztt (zF s).2 rs S K O j).1<256
    omega
   ·obtain⟨y,hy,rfl⟩:=List.mem_map.1 hx;have h1:=yco (br O (xQ (zF s).2 S K t) t (ztt (zF s).2 rs S K O) 0) y;have h2:=hA.low j ij y hy;omega
theorem iP.ib {base:Nat}{a:O8}{c:Nat}(hb:∀ x∈bs,x<256)(h:w.ownsRow base 5 1 (.slice a bs.length c) bs.length (bs.map u8c)):iP w a c bs:=by
 rcases h.2 with⟨e,h0⟩ | ⟨g,cap,cur,hv,_,hg,dG,dx,eZ,gZ⟩
 ·injection e with e1 e2 e3
  have hz:bs=[]:=List.eq_nil_of_length_eq_zero h0;subst hz e3;exact iP.none _ _ (by unfold maxLen;omega)
 ·injection hv with e1 e2 e3
  subst e1 e3;refine⟨dG,dx,hb,λ _=>⟨g,0,rfl,(h.lt g rfl).2,λ j hj=>?_⟩⟩;have:=World.ownsRow.cellAt h j (by omega);rw[Nat.zero_add,this,List.getElem?_map,List.getElem?_eq_getElem hj];have hx:=hb _ (List.getElem_mem hj)
  show some (Value.int .u8 ((bs[j]:Int)%256))=_
  rw[Int.emod_eq_of_lt (by omega) (by omega)]
def yaz:Ending:=.returned (.tuple #[.agg #[.int .i64 0,.int .i64 0,.slice none 0 0],.int .i64 7])
theorem zdv {w':W8}{q:B8}(jz:1<=limit)(hl:limit<=50)(cT:∀ r∈rs,r.bs.map (·.1)=r.R.body)(ht:vF (zF s).2 q=some t){e:Ending}(hE:zkc w rs (zF s).2 q (limit:Nat) (ztt (zF s).2 rs) w' e):
  (∃ S m,Mod s rs limit S m none/\e=yaz)\/∃ S m K O bs a c,MJ s rs limit S m K t O bs/\(K.map (·.1)).Nodup/\e=.returned (.tuple #[.agg #[.int .i64 ((if (zU K t).isSome then 1 else 2:Nat):Nat),.int .i64 (((zU K t).getD 0:Nat):Int),.slice a bs.length c],.int .i64 0])/\w'.ownsRow w.heap.size 5 1 (.slice a bs.length c) bs.length (bs.map u8c):=by
 have oo:qY (limit:Nat)=true:=by unfold qY;simp;omega
 have Ds:((limit:Nat):Int).toNat=limit:=by simp
 cases hE with
 | arg h=>rw[oo] at h;cases h
 | ask _ hn=>rw[ht] at hn;cases hn
 | fk _ h1 hv fN hc dj=>
  rw[Ds] at dj;exact .inl ⟨_,_,⟨hv,fN,hc,dj⟩,rfl⟩
 | @yes t' S m K O a c _ h1 hv fN hc dj dB hp cC aE=>
  rw[Ds] at dj;rw[ht] at h1;obtain rfl:=Option.some.inj h1;have hM:Mod s rs limit S m (some K):=⟨hv,fN,hc,dj⟩;have hK:K.length<=limit:=by
   obtain⟨_,_,⟨e,_⟩ | ⟨A,B,e1,e2,_,h3⟩⟩:=hM.uniq cT hM
   ·cases e
   ·obtain rfl:=Option.some.inj e1;exact h3
  refine .inr ⟨S,m,K,O,_,a,c,⟨hM,hK,hp,cC,rfl⟩,dB,?_,aE⟩
  by_cases hk:(zU K t).isSome=true
  ·rw[if_pos hk,if_pos hk];rfl
  ·rw[if_neg hk,if_neg hk];rfl
end
section
open Go.RowKit Go.Maps
theorem z85 {zs:List B8}{L:List (List UInt8)}(h:(zs.map λ s=>s.data.toList).Perm L)(hs:L.Pairwise λ a b=>a<=b):zbe zs=L:=by
 have h1:(zbe zs).Pairwise λ a b=>a<=b:=by
  have:=List.pairwise_mergeSort (le:=λ x y:List UInt8=>decide (x<=y)) (λ a b c h1 h2=>by
   simp only[decide_eq_true_eq] at *
   exact List.le_trans h1 h2) (λ a b=>by
   simp only[Bool.or_eq_true,decide_eq_true_eq]
   exact List.le_total a b) (zs.map λ s=>s.data.toList)
  exact this.imp λ h=>by simpa using h
 exact List.Perm.eq_of_pairwise (le:=λ a b=>a<=b) (λ a b _ _ h1 h2=>List.le_antisymm h1 h2) h1 hs ((List.mergeSort_perm _ _).trans h)
theorem Oc:∀ R∈(zJ vU).2.2.1,∀ l∈R.body,(rW l.pd+if l.neg then 1 else 0)<=rW R.pd:=by decide +kernel
theorem yd3:∃ R∈(zJ vU).2.2.1,R.pd=fg/\∃ l∈R.body,l.neg=true:=by decide +kernel
theorem OA:(zV (zF vU).2 fg).isSome=true:=by decide +kernel
theorem OB:exR.map (·.R)=(zJ vU).2.2.1:=by
 unfold exR;rw[List.map_map];exact List.map_id _
theorem OF:∀ r∈exR,r.bs.map (·.1)=r.R.body:=λ r hr=>by
 obtain⟨R,_,rfl⟩:=List.mem_map.1 hr
 show (R.body.map λ l=>(l,undef)).map (·.1)=R.body
 rw[List.map_map];exact List.map_id _
variable {rs:List PR}
theorem yd6 (hr:rs.map (·.R)=(zJ vU).2.2.1)(hb:∀ r∈rs,r.bs.map (·.1)=r.R.body):Mod vU rs 10 rW 2 (some exK):=by
 refine⟨λ R hR=>by rw[hr] at hR;exact Oc R hR,λ f hf k=>?_,⟨λ k _=>?_,.inr ⟨fg,OA,rfl⟩⟩,?_⟩
 ·unfold rW
  split
  ·rename_i e;subst e;obtain⟨R,hR,hp,l,hl,hn⟩:=yd3;have:=hf R (by rw[hr];exact hR) l hl;rw[hn,if_pos rfl,hp] at this;omega
  ·omega
 ·unfold rW;split <;> omega
 ·exact NJ ⟨λ R=>by rw[OB,hr],OF,hb⟩ (zt8 2 2 0 [] exK rfl z7k)
theorem yd5:Lvl vU:=⟨rW,Oc,λ k=>by unfold rW;split <;> omega⟩
def exQ:B8:={ data:=#[112,97,116,104,40,97,44,88,41] }
def exC:B8:={ data:=#[102,97,114,40,99,41] }
def exB:B8:={ data:=#[102,97,114,40,98,41] }
def ybo:B8:={ data:=#[112,97,116,104,40,97,44,98,41] }
def ybp:B8:={ data:=#[112,97,116,104,40,97,44,99,41] }
def exA:xG:=⟨ydm,[(false,yJ 97),(true,yJ 88)]⟩
theorem yaa:vF (zF vU).2 exC=some (fg,[yJ 99]):=by decide +kernel
theorem z2k:vF (zF vU).2 exB=some (fg,[yJ 98]):=by decide +kernel
theorem ybq:(vC (zF vU).2 exQ).map (λ A=>(A.p,A.ts))=some (ydm,[(false,yJ 97),(true,yJ 88)]):=by decide +kernel
theorem z99:vC (zF vU).2 exQ=some exA:=by
 have h:=ybq
 cases e:vC (zF vU).2 exQ with
 | none=>rw[e] at h;cases h
 | some A=>
  rw[e] at h;obtain⟨p,ts⟩:=A;have h:(p,ts)=(ydm,[(false,yJ 97),(true,yJ 88)]):=Option.some.inj h;obtain⟨rfl,rfl⟩:=Prod.mk.inj h;rfl
theorem yd4:((exK.filter (zg3 exA)).map λ p=>yF p.1)=[ybo,ybp]:=by decide +kernel
theorem z7i (hr:rs.map (·.R)=(zJ vU).2.2.1)(hb:∀ r∈rs,r.bs.map (·.1)=r.R.body){S:B8->Nat}{m:Nat}{r:Option (List (Th × Nat))}(h:Mod vU rs 10 S m r):∃ K,r=some K/\exK.Perm K:=by
 obtain⟨_,_,⟨e,_⟩ | ⟨A,B,e1,e2,h3,_⟩⟩:=(yd6 hr hb).uniq hb h
 ·cases e
 ·obtain rfl:=Option.some.inj e1;exact⟨B,e2,h3⟩
variable {e:Ending} {w w':W8}
theorem z7j (hr:rs.map (·.R)=(zJ vU).2.2.1)(hb:∀ r∈rs,r.bs.map (·.1)=r.R.body)(h:zkw w rs (zF vU).2 exQ 10 w' e):∃ g c,e=.returned (.tuple #[.slice (some ⟨g,0,none⟩) 2 c,.int .i64 0])/\2<=c/\c<=maxLen/\g<w'.heap.size/\w'.cell? ⟨g,0,none⟩=some (.string ybo)/\w'.cell? ⟨g,1,none⟩=some (.string ybp):=by
 cases h with
 | arg h=>exact absurd h (by decide)
 | ask _ h=>rw[z99] at h;cases h
 | fk _ _ hv fN hc dj=>obtain⟨K,e,_⟩:=z7i hr hb ⟨hv,fN,hc,dj⟩;cases e
 | @yes A S m K zs a c _ hA hv fN hc dj dB hp aE=>
  rw[z99] at hA;obtain rfl:=Option.some.inj hA;obtain⟨K',e,hK⟩:=z7i hr hb ⟨hv,fN,hc,dj⟩;obtain rfl:=Option.some.inj e;have hz:zs.Perm [ybo,ybp]:=by
   have:=hp.trans ((hK.symm.filter (zg3 exA)).map λ p=>yF p.1)
   rwa [yd4] at this
  have K6:zs.length=2:=hz.length_eq;have cC:zbe zs=[ybo.data.toList,ybp.data.toList]:=z85 (hz.map _) (by decide);rw[K6,cC] at aE;have hT:=qd.ib (zs:=[ybo,ybp]) aE;obtain⟨g,rfl,hg,h0⟩:=hT.at_ 0 (by simp);obtain⟨g',e',_,h1⟩:=hT.at_ 1 (by simp);obtain rfl:g=g':=by simpa using e'
  exact⟨g,c,by rw[K6],hT.cap,hT.max,hg,h0,h1⟩
theorem zlf {K:List (Th × Nat)}(h:exK.Perm K):(zU K (fg,[yJ 99])).isSome=true/\(zU K (fg,[yJ 98])).isSome=false:=by
 have hm:∀ t,t∈K.map (·.1)↔t∈exK.map (·.1):=λ t=>(h.map _).mem_iff.symm
 constructor
 ·exact yO.2 ((hm _).2 (List.mem_map.2 ⟨((fg,[yJ 99]),1),by simp[exK],rfl⟩))
 ·cases hx:(zU K (fg,[yJ 98])).isSome with
  | false=>rfl
  | true=>
   exfalso
   have h1:=(hm _).1 (yO.1 hx);obtain⟨y,hy,he⟩:=List.mem_map.1 h1;have:∀ y∈exK,y.1≠(fg,[yJ 98]):=by decide
   exact this y hy he
theorem zop {xb lo:Nat}{w0:W8}(hP:aY vU xb w0 lo rs){q:B8}{t:Th}(ht:vF (zF vU).2 q=some t)(h:zkc w rs (zF vU).2 q 10 (ztt (zF vU).2 rs) w' e):∃ S m K O bs a c,MJ vU rs 10 S m K t O bs/\exK.Perm K/\e=.returned (.tuple #[.agg #[.int .i64 ((if (zU K t).isSome then 1 else 2:Nat):Nat),.int .i64 (((zU K t).getD 0:Nat):Int),.slice a bs.length c],.int .i64 0])/\iP w' a c bs:=by
 rcases zdv (limit:=10) (by decide) (by decide) hP.cg ht h with⟨S,m,hM,_⟩ | ⟨S,m,K,O,bs,a,c,hW,dB,he,aE⟩
 ·obtain⟨K,e,_⟩:=z7i hP.rules hP.cg hM;cases e
 ·obtain⟨K',e,hK⟩:=z7i hP.rules hP.cg hW.mod;obtain rfl:=Option.some.inj e;exact⟨S,m,K,O,bs,a,c,hW,hK,he,iP.ib (hW.byte hP yd5 (by decide)) aE⟩
end
section
open Go.RowKit Go.Maps
theorem zun {s:B8}{rs:List PR}{xb lo:Nat}{w0:W8}(hP:aY s xb w0 lo rs){limit:Nat}(hl:limit<=50){S:B8->Nat}{m:Nat}{K:List (Th × Nat)}{t:Th}{O:List Pl}{bs:List Nat}(hW:MJ s rs limit S m K t O bs){q:B8}(ht:vF (zF s).2 q=some t){e:Ending}(hE:z6r s q bs e):e=.returned (.int .i64 ((if (zU K t).isSome then 1 else 2:Nat):Nat)):=by
 have he:=hW.eq;subst he;exact zy1 hP hl hW.mod hW.len ht hW.perm hW.sort hE
theorem yah (w:W8):Calls Tryz.prog 16 #[] w λ e w'=>e=.returned (.bool true)/\Below w.heap.size w w':=by
 have HL:=zC (z3a w vU zp9 ybr);go_enter Tryz.func16,Tryz.ntmps16;go_wp2_with fail;refine (zA HL).mono ?_;rintro e w1 ⟨xb,rs,rfl,hP,aT⟩;clear HL;have HP:=zC hP;have cR:=zC aT;have HQ:=zC (zay hP exQ (by decide) 10);clear hP aT;go_wp2_with fail;refine (zA HQ).mono ?_;rintro e w2 ⟨ho,aU⟩;obtain⟨g,c,rfl,nA,dx,hg,h0,h1⟩:=z7j (zA HP).rules (zA HP).cg ho;have iT:=zC ((zA HP).below aU);have ep:=zC ((zA cR).trans (aU.mono (zA cR).size));have HG:=zC (And.intro hg (And.intro h0 h1));have tn:=zC (zcl (zA iT) exC (by decide) 10);unfold maxLen at dx;clear ho aU HQ h0 h1 hg HP cR;go_wp2_with fail;refine (zA tn).mono ?_;rintro e w3 ⟨ho,cE⟩;obtain⟨S,m,K,O,bs,a,c3,hW,hK,rfl,iD⟩:=zop (zA iT) yaa ho;have nX:=zC ((zA iT).below cE);have gh:=zC ((zA ep).trans (cE.mono (zA ep).size));have LX:g<w3.heap.size:=Nat.lt_of_lt_of_le (zA HG).1 cE.size;have vp:=zC (And.intro LX (And.intro ((cE.cell (p:=⟨g,0,none⟩) (zA HG).1).trans (zA HG).2.1) ((cE.cell (p:=⟨g,1,none⟩) (zA HG).1).trans (zA HG).2.2)));have HW:=zC (And.intro hW hK);have kr:=zC iD;rw[if_pos (zlf hK).1];generalize (zU K (fg,[yJ 99])).getD 0=hh;have ja:bs.length<=c3:=iD.cap;have oi:c3<=maxLen:=iD.max;have vn:=zC (λ (W:W8) (hk:Below w3.heap.size w3 W)=>zcl ((zA nX).below hk) exB (by decide) 10);have Lz:=(Below.refl w3.heap.size w3).alloc L9 (.cells #[.int .i64 ((1:Nat):Int),.int .i64 (hh:Nat),.slice a bs.length c3] 49);have qu:=zC Lz;have hY:=heap_alloc_new w3 (.cells #[.int .i64 ((1:Nat):Int),.int .i64 (hh:Nat),.slice a bs.length c3] 49);have HY:=zC hY;have uR:(w3.alloc (.cells #[.int .i64 ((1:Nat):Int),.int .i64 (hh:Nat),.slice a bs.length c3] 49)).heap.size=w3.heap.size+1:=by simp
 have jk:=zC uR;unfold maxLen at oi;clear ho cE tn hW hK iD iT ep HG Lz hY uR LX;go_wp2_with fail;refine (zA vn _ (zA qu)).mono ?_;rintro e w4 ⟨ho,bQ⟩;obtain⟨S4,m4,K4,O4,IB,a4,c4,Fg,B4,rfl,kJ⟩:=zop ((zA nX).below (zA qu)) z2k ho;have Co:=bQ.size;rw[zA jk] at Co;have AJ:=(bQ.block w3.heap.size (by rw[zA jk];omega)).trans (zA HY);have y0:w4.cell? ⟨w3.heap.size,0,none⟩=some (.int .i64 ((1:Nat):Int)):=by simp[World.cell?,AJ]
 have y2:w4.cell? ⟨w3.heap.size,2,none⟩=some (.slice a bs.length c3):=by simp[World.cell?,AJ]
 have lU:=(zA qu).trans (bQ.mono (by rw[zA jk];omega));have wY:=zC ((zA nX).below lU);have eC:=zC ((zA gh).trans (lU.mono (zA gh).size));have Jk:g<w4.heap.size:=Nat.lt_of_lt_of_le (zA vp).1 lU.size;have g0:w4.cell? ⟨g,0,none⟩=some (.string ybo):=(lU.cell (p:=⟨g,0,none⟩) (zA vp).1).trans (zA vp).2.1;have g1:w4.cell? ⟨g,1,none⟩=some (.string ybp):=(lU.cell (p:=⟨g,1,none⟩) (zA vp).1).trans (zA vp).2.2;unfold ybo at g0;unfold ybp at g1;have Ez:=zC (And.intro Fg B4);have iD:=(zA kr).below lU;rw[(zlf B4).2,if_neg (by simp)];generalize (zU K4 (fg,[yJ 98])).getD 0=J5;have I9:IB.length<=c4:=kJ.cap;have Ct:c4<=maxLen:=kJ.max;have LA:=(Below.refl w4.heap.size w4).alloc L9 (.cells #[.int .i64 ((2:Nat):Int),.int .i64 (J5:Nat),.slice a4 IB.length c4] 49);have tg:=zC LA;have vl:=zC (λ (W:W8) (hk:Below w4.heap.size w4 W)=>zjc W vU exC zp9 (by decide) a c3 bs (iD.below hk));have ks:=zC (λ (W:W8) (hk:Below w4.heap.size w4 W)=>zjc W vU exB zp9 (by decide) a4 c4 IB (kJ.below hk));have vm:=zC (λ (W:W8) (hk:Below w4.heap.size w4 W)=>zjc W vU exB zp9 (by decide) a c3 bs (iD.below hk));have hZ:=heap_alloc_new w4 (.cells #[.int .i64 ((2:Nat):Int),.int .i64 (J5:Nat),.slice a4 IB.length c4] 49);have HZ:=zC hZ;have IA:=zC AJ;have uS:(w4.alloc (.cells #[.int .i64 ((2:Nat):Int),.int .i64 (J5:Nat),.slice a4 IB.length c4] 49)).heap.size=w4.heap.size+1:=by simp
 have jv:=zC uS;unfold maxLen at Ct;clear ho bQ vn Fg B4 iD kJ nX gh qu HY jk vp LA hZ AJ lU uS kr;have Mb:w3.heap.size<w4.heap.size:=by omega
 generalize w3.heap.size=b3 at *;go_wp2_with fail;refine (zA vl _ (zA tg)).mono ?_;rintro e w5 ⟨ho,eO⟩;have he:=zun (zA wY) (by decide) (zA HW).1 yaa ho;rw[if_pos (zlf (zA HW).2).1] at he;subst he;have Cp:=eO.size;rw[zA jv] at Cp;have z5:=(eO.block w4.heap.size (by rw[zA jv];omega)).trans (zA HZ);have ny:=(zA tg).trans (eO.mono (by rw[zA jv];omega));have jn:=zC ((zA eC).trans (ny.mono (zA eC).size));have y5:w5.cell? ⟨b3,2,none⟩=some (.slice a bs.length c3):=(ny.cell (p:=⟨b3,2,none⟩) Mb).trans y2;have u6:w5.cell? ⟨w4.heap.size,2,none⟩=some (.slice a4 IB.length c4):=by simp[World.cell?,z5]
 have Mc:w4.heap.size<w5.heap.size:=by omega
 have wu:=zC (zA ks w5 ny);have wv:=zC (λ (W:W8) (hk:Below w5.heap.size w5 W)=>zA vm W (ny.trans (hk.mono ny.size)));clear ho eO vl ks vm eC tg HZ jv ny z5 y0 y2 g0 g1 Jk IA;generalize w4.heap.size=b4 at *;go_wp2_with fail;refine (zA wu).mono ?_;rintro e w6 ⟨ho,iA⟩;have he:=zun (zA wY) (by decide) (zA Ez).1 z2k ho;rw[(zlf (zA Ez).2).2,if_neg (by simp)] at he;subst he;have y6:w6.cell? ⟨b3,2,none⟩=some (.slice a bs.length c3):=(iA.cell (p:=⟨b3,2,none⟩) (by show b3<_;omega)).trans y5;have mU:=zC ((zA jn).trans (iA.mono (zA jn).size));have wy:=zC (zA wv w6 iA);clear ho iA wu wv y5 u6 jn;go_wp2_with fail;refine (zA wy).mono ?_;rintro e w7 ⟨ho,mB⟩;have iw:=zC ((zA mU).trans (mB.mono (zA mU).size));obtain⟨v,he,Kc,uW,_⟩:=z19 (zA wY) (zA HW).1.mod z2k ho;have bG:¬ v=1:=λ h=>by
  have:=yO.2 (uW h);rw[(zlf (zA HW).2).2] at this
  cases this
 have hv:v=2\/v=3:=by omega
 clear ho mB Kc uW bG y6 mU;subst he;rcases hv with rfl | rfl
 all_goals
  go_wp2_with fail;go_ret;exact⟨rfl,zA iw⟩
end
section
variable {t:Th} {ps:P9}
theorem z04 {q:B8}(h:vF ps q=some t):tQ t:=by
 rw[zyl] at h
 split at h
 ·rename_i bX;obtain rfl:=Option.some.inj h;exact (zp0 bX).1
 ·cases h
variable {K:List (Th × Nat)} {m limit:Nat} {S:B8->Nat} {rs:List PR} {s:B8}
theorem z9o (h2:zro (zF s).2)(hg:∀ r∈rs,j0 (zF s).2 r)(hM:Mod s rs limit S m (some K))(ht:tQ t):yF t∈zm1 K 4↔t∈K.map (·.1):=by
 have Gc:=hM.ti hg;unfold zm1;rw[List.mem_flatMap]
 constructor
 ·rintro⟨k,_,h⟩;unfold dT at h;rw[Ob] at h;obtain⟨p,hp,he⟩:=List.mem_map.1 h;have N3:=(List.mem_filter.1 hp).1;exact List.mem_map.2 ⟨p,N3,zjp (Gc p N3).w ht he⟩
 ·intro h;obtain⟨p,hp,rfl⟩:=List.mem_map.1 h;obtain⟨hl,i,hi,he⟩:=h2 _ _ (Gc p hp).num;refine⟨i,List.mem_range.2 hi,?_⟩;unfold dT;rw[Ob];refine List.mem_map.2 ⟨p,List.mem_filter.2 ⟨hp,?_⟩,rfl⟩;obtain⟨t,n⟩:=p;exact (yed hl n).2 he
theorem zyv (h2:zro (zF s).2)(hg:∀ r∈rs,j0 (zF s).2 r)(hM:Mod s rs limit S m (some K))(ht:tQ t):zgj (yF t) (zm1 K 4)=(zU K t).isSome:=by
 rw[Bool.eq_iff_iff,ziw,z9o h2 hg hM ht,yO]
theorem z3k {K':List (Th × Nat)}(h:K.Perm K')(t:Th):(zU K t).isSome=(zU K' t).isSome:=by
 rw[Bool.eq_iff_iff,yO,yO];exact (h.map _).mem_iff
theorem z9j {x:Nat}(h:x<64):Ht[x]?=some (aM (x/16) (x%16)):=by
 have:∀ x:Nat,x<64->Ht[x]?=some (aM (x/16) (x%16)):=by decide
 exact this x h
theorem zfq:Ht.length=64:=by unfold Ht;rw[z03]
def thX (x:Nat):Th:=thK (x/16) (x%16/4) (x%16%4)
theorem zyk (x:Nat):yF (thX x)=aM (x/16) (x%16):=z9l _ _
theorem zui (h:zro ps)(x:Nat):vF ps (aM (x/16) (x%16))=some (thX x):=yc4 h _ _
theorem z5v (p i:Nat):(aM p i).size<=2000000:=by unfold aM;rw[jO];simp
end
section
open Go.RowKit Go.Maps
structure ydp (w:W8)(a:O8)(n:Nat)(X:Nat->Int):Prop where
 el:∀ i,i<n->∃ g off,a=some ⟨g,off,none⟩/\g<w.heap.size/\w.cell? ⟨g,off+i,none⟩=some (.int .i64 (X i))/\inR (X i)
structure ydw (s:B8):Prop where
 ok:z7 s=(true,0,0)
 sz:s.size<=maxLen
 two:zro (zF s).2
 lvl:Lvl s
theorem zyj (R:Nat->Raw){n:Nat}(hn:n<=14):ydw (aC (aW (λ i=>aZ (R i)) n)):=by
 have hL:∀ i,i<n->(aZ (R i)).Ok:=λ i _=>zhx _ _ _ _
 refine⟨(zij _ n hn hL).1,?_,z9q hn hL,z7w hn hL⟩;have:=zfp (λ i=>aZ (R i)) n;rw[jO];unfold maxLen;omega
def yfh (s:B8)(rs:List PR)(sm:Bool)(zs:List B8):Prop:=∃ S m,if sm then ∃ K,Mod s rs 50 S m (some K)/\zs=zm1 K 4 else Mod s rs 50 S m none
structure yft (s q:B8)(t:Th):Prop where
 sZ:vF (zF s).2 q=some t
 text:q=yF t
 sz:q.size<=2000000
theorem ybf {s:B8}(h:zro (zF s).2)(x:Nat):yft s (aM (x/16) (x%16)) (thX x):=⟨zui h x,(zyk x).symm,z5v _ _⟩
end
section
open Go.RowKit Go.Maps
def zwx (w:W8)(e:Ending)(w':W8):Prop:=e=.returned (.bool true)/\Below w.heap.size w w'
end
section
open Go.ChangeShapes Go.WideShapes Go.ChangeAt Go.RowKit Go.Deep
theorem yfx:ownKnob Tryz.prog.godebug=none:=by kernel_rfl
theorem zzq:laidOutB Tryz.prog=true:=by kernel_rfl
theorem zsb:Tryz.prog.cellsOf 3=1:=by kernel_rfl
theorem Ld {n:Int}(h:(Lit.int .i64 n).wf=true):-9223372036854775808<=n/\n<=9223372036854775807:=by
 simpa[Lit.wf,IntKind.min,IntKind.max,IntKind.signed,IntKind.bits] using h
end
section
open Go.ChangeShapes Go.WideShapes Go.ChangeAt Go.RowKit Go.Deep
theorem zoj:Tryz.prog.cellsOf 44=4:=by kernel_rfl
variable {g off:Nat}
theorem zwz (i:Nat):(⟨g,off,none⟩:Addr).add i=⟨g,off+i,none⟩:=by unfold Addr.add;split <;> simp_all
variable {p:List MemPlace} {len cap:Nat} {a0:O8} {W:W8} {H:Type}
theorem yel {enc:TypeId × Value->H}{d0:DataW H}(h0:DataW.Trod enc Tryz.prog W 0 (λ _=>true) true 24 (.slice a0 len cap) d0 p):len<=cap/\cap<=maxLen/\∃ X:Nat->Int,ydp W a0 len X:=by
 obtain⟨fuel,hf⟩:=h0;rcases open_slice1 Tryz.underlying24 zsb hf with⟨eZ,_⟩ | ⟨a,DF,oI,m,n,V,D,Pl,eZ,_,hl,hm,bz,hx,kK⟩
 ·simp[Value.cells] at eZ;obtain⟨rfl,rfl,rfl⟩:=eZ;exact⟨Nat.le_refl _,by unfold maxLen;omega,λ _=>0,⟨λ i hi=>by omega⟩⟩
 ·simp[Value.cells] at eZ;obtain⟨rfl,rfl,rfl⟩:=eZ;refine⟨hl,hm,?_⟩;have ed:len<=m:=by rw[bz];split <;> omega
  have each:∀ i,i<len->∃ k:Int,V i=.int .i64 k/\inR k:=λ i hi=>by
   obtain⟨k,e1,_,r⟩:=DataW.trod_int Tryz.underlying3 (kK i (by omega)).2;injection e1 with e1
   exact⟨k,e1,Ld r⟩
  refine⟨λ i=>if h:i<len then Classical.choose (each i h) else 0,⟨λ i hi=>?_⟩⟩;have hc:=Classical.choose_spec (each i hi);obtain⟨g,off,sp⟩:=a;have AG:sp=none:=by
   have:=World.cell?_spot (kK 0 (by omega)).1;simpa[Addr.add] using this
  subst AG;have h1:=(kK i (by omega)).1;rw[zwz] at h1;simp only[dif_pos hi];exact⟨g,off,rfl,World.block_lt_of_cell? W _ h1,h1.trans (congrArg some hc.1),hc.2⟩
theorem z33 {enc:TypeId × Value->H}{base n:Nat}{cs:V8}{x:DataW H × List MemPlace}{spare:Nat->Bool}{held:Bool}(hc:W.cells? base ⟨g,off,none⟩ 4=some cs)(ht:DataW.trod enc Tryz.prog W base spare held n 44 cs=some x):
  ∃ r:Raw,W.cell? ⟨g,off,none⟩=some (.int .i64 r.1)/\W.cell? ⟨g,off+1,none⟩=some (.int .i64 r.2.1)/\W.cell? ⟨g,off+2,none⟩=some (.int .i64 r.2.2.1)/\W.cell? ⟨g,off+3,none⟩=some (.int .i64 r.2.2.2)/\z6s r:=by
 obtain⟨_,L7,dV⟩:=World.cells?_some hc;obtain⟨xs,m,_,hxe,hlen,zz,hf⟩:=DataW.trod_struct Tryz.underlying44 ht;obtain⟨c0,c1,c2,c3,rfl⟩:∃ c0 c1 c2 c3,cs=[c0,c1,c2,c3]:=by
  match cs,L7 with
  | [c0,c1,c2,c3],_=>exact⟨c0,c1,c2,c3,rfl⟩
 obtain⟨y0,y1,y2,y3,rfl⟩:∃ y0 y1 y2 y3,xs=[y0,y1,y2,y3]:=by
  match xs,zz with
  | [y0,y1,y2,y3],_=>exact⟨y0,y1,y2,y3,rfl⟩
 have f0 := hf 0 { name := "Kind", type := 3, offset := 0, embedded := false, tag := "", pkgPath := "", byteOffset := 0 } rfl;have f1 := hf 1 { name := "A", type := 3, offset := 1, embedded := false, tag := "", pkgPath := "", byteOffset := 8 } rfl;have f2 := hf 2 { name := "B", type := 3, offset := 2, embedded := false, tag := "", pkgPath := "", byteOffset := 16 } rfl;have f3 := hf 3 { name := "C", type := 3, offset := 3, embedded := false, tag := "", pkgPath := "", byteOffset := 24 } rfl;simp only[zsb,List.drop_zero,List.drop_succ_cons,List.take_succ_cons,List.take_zero,List.getElem?_cons_zero,List.getElem?_cons_succ] at f0 f1 f2 f3;obtain⟨k0,e0,_,r0⟩:=DataW.trod_int Tryz.underlying3 f0;obtain⟨k1,e1,_,r1⟩:=DataW.trod_int Tryz.underlying3 f1;obtain⟨k2,e2,_,r2⟩:=DataW.trod_int Tryz.underlying3 f2;obtain⟨k3,e3,_,r3⟩:=DataW.trod_int Tryz.underlying3 f3;injection e0 with e0
 injection e1 with e1
 injection e2 with e2
 injection e3 with e3
 subst e0 e1 e2 e3;have d0:=dV 0 (by omega);have d1:=dV 1 (by omega);have d2:=dV 2 (by omega);have d3:=dV 3 (by omega);simp only[Addr.add,List.getElem?_cons_zero,List.getElem?_cons_succ] at d0 d1 d2 d3;exact⟨(k0,k1,k2,k3),by simpa using d0,by simpa using d1,by simpa using d2,by simpa using d3,⟨Ld r0,Ld r1,Ld r2,Ld r3⟩⟩
theorem zo6 {enc:TypeId × Value->H}{d0:DataW H}(h0:DataW.Trod enc Tryz.prog W 0 (λ _=>true) true 28 (.slice a0 len cap) d0 p):len<=cap/\cap<=maxLen/\∃ R:Nat->Raw,EW W a0 len R:=by
 obtain⟨fuel,hf⟩:=h0;rcases open_slice Tryz.underlying28 hf with⟨eZ,_⟩ | ⟨a,DF,oI,m,n,D,Pl,eZ,_,hl,hm,bz,hx,kK⟩
 ·simp[Value.cells] at eZ;obtain⟨rfl,rfl,rfl⟩:=eZ;exact⟨Nat.le_refl _,by unfold maxLen;omega,λ _=>(0,0,0,0),⟨λ i hi=>by omega⟩⟩
 ·simp[Value.cells] at eZ;obtain⟨rfl,rfl,rfl⟩:=eZ;refine⟨hl,hm,?_⟩;have ed:len<=m:=by rw[bz];split <;> omega
  obtain⟨g,off,sp⟩:=a;have AG:0<len->sp=none:=λ h=>by
   obtain⟨BU,hc,_⟩:=kK 0 (by omega);rw[zoj] at hc;obtain⟨_,L7,dV⟩:=World.cells?_some hc;obtain⟨c0,r,rfl⟩:∃ c0 r,BU=c0::r:=by
    match BU,L7 with
    | c0::r,_=>exact⟨c0,r,rfl⟩
   have Lr:=dV 0 (by omega);simpa[Addr.add] using World.cell?_spot Lr
  have each:∀ i,i<len->∃ r:Raw,W.cell? ⟨g,off+i*4,none⟩=some (.int .i64 r.1)/\W.cell? ⟨g,off+i*4+1,none⟩=some (.int .i64 r.2.1)/\W.cell? ⟨g,off+i*4+2,none⟩=some (.int .i64 r.2.2.1)/\W.cell? ⟨g,off+i*4+3,none⟩=some (.int .i64 r.2.2.2)/\z6s r:=by
   intro i hi;obtain⟨BU,hc,ht⟩:=kK i (by omega);rw[zoj] at hc;have hs:=AG (by omega);subst hs;rw[zwz] at hc;exact z33 hc ht
  refine⟨λ i=>if h:i<len then Classical.choose (each i h) else (0,0,0,0),⟨λ i hi=>?_⟩⟩;have hc:=Classical.choose_spec (each i hi);have hs:=AG (by omega);subst hs;simp only[dif_pos hi];exact⟨g,off,rfl,World.block_lt_of_cell? W _ hc.1,hc⟩
end
section
inductive Der (rs:List PR)(N:Th->Prop):Th->Prop
 | mk {r:PR} {e:zY} {ts:List Th}:r∈rs->pmL (zM r.bs) ts []=some e->(∀ u∈ts,Der rs N u)->(∀ x∈vV r.bs,¬ N (zZ e x))->Der rs N (zZ e (jB r))
structure yff (rs:List PR)(T:Th->Prop):Prop where
 der:∀ t,T t->Der rs T t
 closed:∀ r∈rs,∀ e ts,pmL (zM r.bs) ts []=some e->(∀ u∈ts,T u)->(∀ x∈vV r.bs,¬ T (zZ e x))->T (zZ e (jB r))
def yfm (K:List (Th × Nat))(t:Th):Prop:=t∈K.map (·.1)
variable {K:List (Th × Nat)} {S:B8->Nat} {rs:List PR}
theorem z9t {n:Nat}(h:zwy rs S n 1 K)(bh:∀ r∈rs,S r.R.pd<n):yff rs (yfm K):=by
 refine⟨?_,λ r hr e ts hm jh eH=>h.closed r hr (bh r hr) e (zfd.2 ⟨⟨ts,hm,jh⟩,eH⟩)⟩;have key:∀ s,∀ j,∀ p∈K,S p.1.p=s->p.2<=j->Der rs (yfm K) p.1:=λ s=>by
  induction s using Nat.strongRecOn with
  | _ s ihs=>
   intro j
   induction j with
   | zero=>intro p hp _ h2;have:=h.pos p hp;omega
   | succ j ihj=>
    intro p hp h1 h2;obtain⟨r,hr,hS,e,ts,hm,hf,jh,eH⟩:=h.each p hp;rw[<-hf];refine .mk hr hm (λ u hu=>?_) eH;obtain⟨q,hq,rfl,bP⟩:=jh u hu;rcases bP with bP | ⟨he,bP⟩
    ·exact ihs _ (by omega) q.2 q hq rfl L9
    ·exact ihj q hq (by omega) (by omega)
 intro t ht;obtain⟨p,hp,rfl⟩:=List.mem_map.1 ht;exact key _ _ p hp rfl L9
theorem Mod.NB {s:B8}{xb:Nat}{w:W8}{lo:Nat}(hP:aY s xb w lo rs){limit m:Nat}(hM:Mod s rs limit S m (some K)):yff rs (yfm K):=by
 obtain⟨n,hn,hw⟩:=hM.GO hP.cg;refine z9t hw λ r hr=>?_
 have ak:r.R∈(zJ s).2.2.1:=by rw[<-hP.rules];exact List.mem_map_of_mem hr
 obtain⟨k,hk⟩:=((qR hP.ok).named r.R ak).1;have:=hM.count.1 r.R.pd (by rw[hk];rfl);omega
end
end Go.Proofs.YtldkpahaocjdpaaGreat
