/-
  affidavitkeep: all.
-/
import Derived.Test.YtldkpahaocjdpaaGreatD47
set_option maxHeartbeats 16000000
set_option maxRecDepth 1000000
namespace Go.Proofs.YtldkpahaocjdpaaGreat
section
open Go.RowKit Go.Maps Go.Sort
variable {zs:List B8}
theorem zfv {ys:List B8}(h:zs.Perm ys):zcp zs=zcp ys:=by
 have hs:∀ l:List (List UInt8),(l.mergeSort λ x y=>decide (x<=y)).Pairwise λ a b=>a<=b:=λ l=>by
  have:=List.pairwise_mergeSort (le:=λ x y:List UInt8=>decide (x<=y)) (λ a b c h1 h2=>by
   simp only[decide_eq_true_eq] at *
   exact List.le_trans h1 h2) (λ a b=>by
   simp only[Bool.or_eq_true,decide_eq_true_eq]
   exact List.le_total a b) l
  exact this.imp λ h=>by simpa using h
 unfold zcp;exact List.Perm.eq_of_pairwise (le:=λ a b=>a<=b) (λ a b _ _ h1 h2=>List.le_antisymm h1 h2) (hs _) (hs _) ((List.mergeSort_perm _ _).trans ((h.map _).trans (List.mergeSort_perm _ _).symm))
theorem Nc {t:B8}:t∈(zcp zs).map aj↔t∈zs:=by
 have hp:(zcp zs).Perm (zs.map λ s=>s.data.toList):=List.mergeSort_perm _ _;rw[(hp.map aj).mem_iff,List.map_map];have:(aj ∘ λ s:B8=>s.data.toList)=id:=by
  funext s
  show aj (yF s)=s
  exact zj5 s
 rw[this,List.map_id]
theorem zl8 (zs:List B8):((zcp zs).map aj).length=zs.length:=by
 unfold zcp;rw[List.length_map,List.length_mergeSort,List.length_map]
theorem z0x (l:List (List UInt8)):l.map encStr=(l.map aj).map Value.string:=by rw[List.map_map];rfl
def fV (K:List (Th × Nat))(k:Nat):List B8:=(zcp ((K.filter (zk8 (z4w k))).map λ p=>yI p.1)).map aj
def zkn (K:List (Th × Nat))(n:Nat):List B8:=(List.range n).flatMap (fV K)
theorem Na (K:List (Th × Nat))(n:Nat):zkn K (n+1)=zkn K n++fV K n:=by
 unfold zkn;rw[List.range_succ,List.flatMap_append];simp
variable {K:List (Th × Nat)}
theorem z0b {K':List (Th × Nat)}(h:K.Perm K')(n:Nat):zkn K n=zkn K' n:=by
 unfold zkn fV
 congr 1
 funext k
 rw[zfv ((h.filter _).map _)]
variable {rs:List PR}
theorem z3n (cT:∀ r∈rs,r.bs.map (·.1)=r.R.body):xR rs rs:=⟨λ _=>Iff.rfl,cT,cT⟩
variable {m:Nat} {S:B8->Nat} {s:B8}
theorem Mod.uniq (cT:∀ r∈rs,r.bs.map (·.1)=r.R.body){limit:Nat}{S':B8->Nat}{m':Nat}{r r':Option (List (Th × Nat))}(h:Mod s rs limit S m r)(h':Mod s rs limit S' m' r'):S=S'/\m=m'/\((r=none/\r'=none)\/∃ K K',r=some K/\r'=some K'/\K.Perm K'/\K.length<=limit):=by
 obtain rfl:=zpl (λ R=>Iff.rfl) h.valid h.low h'.valid h'.low;obtain rfl:=zfo h.count h'.count;exact⟨rfl,rfl,z3x (z3n cT) h.gJ (List.Perm.refl _) (Nat.zero_le _) h'.gJ⟩
def Nd (s:B8)(rs:List PR)(w:W8)(e:Ending)(w':W8):Prop:=
 Below w.heap.size w w'/\∃ S m r,Mod s rs 50 S m r/\((r=none/\e=.returned (.tuple #[.slice none 0 0,.bool false]))\/∃ K a c,r=some K/\K.length<=50/\e=.returned (.tuple #[.slice a (zkn K 4).length c,.bool true])/\w'.ownsRow w.heap.size 9 1 (.slice a (zkn K 4).length c) (zkn K 4).length ((zkn K 4).map Value.string))
theorem z0d (w:W8)(b:O8)(n c:Nat)(h:n<=c)(a:O8)(c':Nat)(ty:TypeId):(Builtin.append_ #[33,33] ty #[.slice b n c,.slice a 0 c']).run Tryz.prog w=.ok (.slice b n c) w:=by
 obtain⟨i0,CD,dK,cB,bZ⟩:=info_parts zbq;refine run_append_nothing w _ _ _ 9 i0 Tryz.underlying33 CD b n c h _ ?_
 cases a with
 | none=>exact Src.ofNil w Tryz.underlying33 c'
 | some a=>exact Src.ofSlice w Tryz.underlying33 a 0 c' [] (by simp) (by simp) (by simp)
structure JZ (s:B8)(rs:List PR)(w:W8)(k:Nat)(zs:List B8)(v:Value)(wr:W8):Prop where
 below:Below w.heap.size w wr
 row:wr.ownsRow w.heap.size 9 1 v zs.length (zs.map Value.string)
 len:zs.length<=50*k
 told:(k=0/\zs=[])\/∃ S m K,Mod s rs 50 S m (some K)/\K.length<=50/\zs=zkn K k
theorem JZ.next (cT:∀ r∈rs,r.bs.map (·.1)=r.R.body){w:W8}{k:Nat}{v:Value}{wr:W8}(h:JZ s rs w k zs v wr)(hM:Mod s rs 50 S m (some K)):K.length<=50/\zs=zkn K k/\(fV K k).length<=50:=by
 have hl:K.length<=50:=by
  obtain⟨_,_,⟨e,_⟩ | ⟨A,B,e1,e2,_,h3⟩⟩:=hM.uniq cT hM
  ·cases e
  ·obtain rfl:=Option.some.inj e1;exact h3
 refine⟨hl,?_,?_⟩
 ·rcases h.told with⟨rfl,rfl⟩ | ⟨S',m',K',ev,_,rfl⟩
  ·rfl
  ·obtain⟨_,_,⟨e,_⟩ | ⟨A,B,e1,e2,h3,_⟩⟩:=ev.uniq cT hM
   ·cases e
   ·obtain rfl:=Option.some.inj e1;obtain rfl:=Option.some.inj e2;exact z0b h3 k
 ·unfold fV;rw[zl8,List.length_map];exact Nat.le_trans (List.length_filter_le _ _) hl
theorem z7y (l:List B8):∀ u∈l.map Value.string,u.oneCell'=true:=λ u hu=>by
 obtain⟨x,_,rfl⟩:=List.mem_map.1 hu;rfl
attribute [local go_sem] nQ
theorem yey (w:W8)(s:B8)(xb lo:Nat)(rs:List PR)(hE:bp s xb w lo rs)(h2:zz8 (zH s).2):Calls Tryz.prog 19 #[.pointer (some ⟨xb,0,none⟩)] w (Nd s rs w):=by
 obtain⟨i0,hi,dK,cB,bZ⟩:=info_parts zbq;have cT:=hE.cg;have dm:=zC cT;have HE:=zC hE;have H0:=zC (show JZ s rs w 0 [] (.slice none 0 0) w from ⟨Below.refl _ _,World.ownsRow_nil _ _ _ _,by simp,.inl ⟨rfl,rfl⟩⟩);clear cT hE;go_enter Tryz.func19,Tryz.ntmps19;go_wp2_with fail
 go_loopg [4,5] 4 (λ gg v kv wr=>∃ (k:Nat) (zs:List B8),k<=4/\gg=4-k/\kv=.int .i64 (k:Nat)/\JZ s rs w k zs v wr)
 exact⟨0,[],by omega,rfl,rfl,zA H0⟩
 case round=>
  clear H0;obtain⟨k,zs,hk,fM,rfl,ak⟩:=hrel;obtain⟨a1,c1,rfl⟩:=zE ak.row;have HI:=zC ak
  by_cases aN:k<4
  ·have gW:(k:Int)<4:=(by omega);have sV:=ak.below.size;have gS:=(Below.refl wr.heap.size wr).alloc L9 aW;have HQ:=zC (zbr ((zA HE).below (ak.below.trans (gS.mono sV))) (yA (pdU k)++{ data:=#[40,88,44,89,41] }) (by rw[ByteArray.size_append,nQ];decide) 50);have HP:=zC (zil wr k aN);have cR:=zC gS;have uQ:(wr.alloc aW).heap.size=wr.heap.size+1:=(by simp);have xi:=zC uQ;clear ak gS uQ;go_wp2_with fail;refine (zA HP).mono ?_;rintro e w1 ⟨rfl,rfl⟩;go_wp2_with fail;refine (zA HQ).mono ?_;rintro e w2 ⟨hP,aU⟩;have ep:=zC ((zA cR).trans (aU.mono (by have:=zA xi;omega)));have Ak:=z92 h2 k;have Cn:=aU.size;rw[zA xi] at Cn
   cases hP with
   | arg hl=>exact absurd hl (by decide)
   | ask _ hn=>rw[Ak] at hn;cases hn
   | @fk A S m hl ha hv aX hc dj=>
    have HM:=zC (show Mod s rs 50 S m none from ⟨hv,aX,hc,dj⟩);clear ha hv aX hc dj aU HQ HP Ak hl;go_wp2_with fail
    go_ret2
    exact⟨(zA HI).below.trans ((zA ep).mono sV),S,m,none,zA HM,.inl ⟨rfl,rfl⟩⟩
   | @yes A S m K ys a2 c2 hl ha hv aX hc dj dB dC aE=>
    have hA:A=z4w k:=(by rw[Ak] at ha;exact (Option.some.inj ha).symm);subst hA;have hM:Mod s rs 50 S m (some K):=⟨hv,aX,hc,dj⟩;obtain⟨jv,AK,DB⟩:=(zA HI).next (zA dm) hM;have Dz:(zcp ys).map aj=fV K k:=(by unfold fV;rw[zfv dC]);have Dy:ys.length=(fV K k).length:=(by rw[<-Dz,zl8]);rw[z0x,Dz,Dy] at aE;rw[Dy];obtain⟨Z,hZ⟩:∃ Z,Z=fV K k:=⟨_,rfl⟩;rw[<-hZ] at aE DB ⊢;have oC:=zC (show zs++Z=zkn K (k+1) by rw[AK,hZ,Na]);have HM:=zC (And.intro hM jv);have mN:=zG (zA HI).row (zA ep) (λ g e=>((zA HI).row.lt g e).2);have LI:=(zA HI).len
    have rL:=zC (λ (v5:Value) (w5:W8) (hg:w2.grownBy w5 (Value.slice a1 zs.length c1).ownBlock) (aI:w5.ownsRow w.heap.size 9 1 v5 (zs.length+Z.length) (zs.map Value.string++Z.map Value.string))=>(show JZ s rs w (k+1) (zs++Z) v5 w5 from by
     have hb:=(zA HI).below.trans ((zA ep).mono sV);refine⟨⟨hg.os.trans hb.os,hg.tape.trans hb.tape,hg.output.trans hb.output,Nat.le_trans hb.size hg.size,λ j hj=>?_⟩,?_,by rw[List.length_append];omega,.inr ⟨S,m,K,hM,jv,by rw[AK,hZ,Na]⟩⟩
     ·rw[hg.block j (Nat.lt_of_lt_of_le hj hb.size) (λ e=>by have:=((zA HI).row.lt j e.symm).1;omega)];exact hb.block j hj
     ·rw[List.length_append,List.map_append];exact aI))
    have oE:=zC (show Z=[]->JZ s rs w (k+1) zs (.slice a1 zs.length c1) w2 from λ hz=>by
     refine⟨(zA HI).below.trans ((zA ep).mono sV),mN,by omega,.inr ⟨S,m,K,hM,jv,?_⟩⟩
     rw[Na,<-AK,<-hZ,hz,List.append_nil])
    have hT:=qd.ib (zA HI).row;have kR:=hT.cap;have Ke:w.heap.size<=w2.heap.size:=(by omega);clear hT ha hv aX hc dj dB dC aU HQ HP Ak hl hM Dz Dy AK hZ
    cases Z with
    | nil=>
     have HN:=zC (zA oE rfl);have nx:=zC (z0d w2 a1 zs.length c1 kR a2 c2);clear oE rL aE mN HI ep cR oC HM;go_wp2_with (at_builtin;go_must (refine zh7 rfl _ _ _ rfl _ _ rfl rfl (zA nx) ?_));go_roundg (4-(k+1));exact⟨k+1,zs,by omega,rfl,by go_num,zA HN⟩;omega
    | cons z0 Z0=>
     obtain⟨g2,dd⟩:∃ g,a2=some ⟨g,0,none⟩:=by
      obtain⟨g,e,_⟩:=(qd.ib aE).at_ 0 (by simp);exact⟨g,e⟩
     subst dd;generalize z0::Z0=Z at *;have gF:=zC (z3f aE);have eR:=zC (z7y Z);have hlen:(Z.map Value.string).length=Z.length*1:=(by simp);have oA:=zC hlen;have iV:=zC mN;clear oE aE mN HI ep cR oC HM hlen;go_wp2_with (at_builtin;go_must (refine wpList_append_own _ rfl _ _ 33 rfl w.heap.size 9 i0 _ 1 16 Tryz.underlying33 hi dK cB bZ rfl (by decide) _ _ _ rfl (zA iV) ⟨g2,0,none⟩ Z.length c2 (Z.map Value.string) rfl (zA oA) (zA gF) (zA eR) (by unfold maxLen;omega) (by omega) (by omega) ?_);intro v5 w5 hown5 dz hne5;clear hne5;obtain⟨a5,c5,rfl⟩:=zE hown5;have mY:=zC hown5;have br:=zC dz;clear hown5 dz);go_roundg (4-(k+1));exact⟨k+1,zs++Z,by omega,rfl,by go_num,zA rL _ _ (zA br) (zA mY)⟩;omega
  ·have bz:k=4:=(by omega);subst bz;clear ak;go_wp2_with fail
   go_ret2
   have hI:=zA HI;rcases hI.told with⟨h0,_⟩ | ⟨S,m,K,hM,hK,hz⟩
   ·cases h0
   ·subst hz;exact⟨hI.below,S,m,some K,hM,.inr ⟨K,a1,c1,rfl,hK,rfl,hI.row⟩⟩
end
section
def z98:List Th->List Th
 | []=>[]
 | t::r=>if (r.any λ x=>decide (x=t)) then z98 r else t::z98 r
theorem zj6 {t:Th}:∀ l:List Th,t∈z98 l↔t∈l
 | []=>Iff.rfl
 | u::r=>by
  unfold z98
  split
  ·rename_i h;obtain⟨x,hx,e⟩:=List.any_eq_true.1 h;have e:=of_decide_eq_true e;subst e;rw[zj6 r,List.mem_cons];exact⟨.inr,λ h'=>h'.elim (λ e=>by rw[e];exact hx) id⟩
  ·rw[List.mem_cons,List.mem_cons,zj6 r]
theorem zii:∀ l:List Th,(z98 l).Nodup
 | []=>.nil
 | u::r=>by
  unfold z98
  split
  ·exact zii r
  ·rename_i h;exact List.nodup_cons.2 ⟨λ h'=>h (List.any_eq_true.2 ⟨u,(zj6 r).1 h',decide_eq_true rfl⟩),zii r⟩
def yav (rs:List PR)(K:List (Th × Nat)):List Th:=z98 ((rs.flatMap λ r=>(qO K (xU r.bs) (zK r.bs) []).map λ e=>zT e (vJ r)).filter λ t=>(z7 K t).isNone)
theorem zwc {rs:List PR}{K:List (Th × Nat)}{t:Th}:t∈yav rs K↔zmn rs K t:=by
 unfold yav zmn;rw[zj6,List.mem_filter,List.mem_flatMap]
 constructor
 ·rintro⟨⟨r,hr,h⟩,hn⟩;obtain⟨e,he,hf⟩:=List.mem_map.1 h;exact⟨Option.isNone_iff_eq_none.1 hn,r,hr,e,he,hf⟩
 ·rintro⟨hn,r,hr,e,he,hf⟩;exact⟨⟨r,hr,List.mem_map.2 ⟨e,he,hf⟩⟩,Option.isNone_iff_eq_none.2 hn⟩
theorem zyc (rs:List PR)(K:List (Th × Nat)):(yav rs K).Nodup:=zii _
def zvk (rs:List PR)(limit:Nat):Nat->Nat->List (Th × Nat)->Option (List (Th × Nat))
 | 0,_,_=>none
 | f+1,h,K=>if (yav rs K).isEmpty then some K else if K.length+(yav rs K).length<=limit then zvk rs limit f (h+1) (K++(yav rs K).map λ t=>(t,h)) else none
theorem zqw {rs:List PR}{limit:Nat}:∀ (f h:Nat) (K K':List (Th × Nat)),zvk rs limit f h K=some K'->za0 rs limit h K (some K')
 | 0,_,_,_,e=>by cases e
 | f+1,h,K,K',e=>by
  unfold zvk at e
  split at e
  ·rename_i h0;obtain rfl:=Option.some.inj e;exact .done λ t ht=>by
    have:=zwc.2 ht;rw[List.isEmpty_iff.1 h0] at this
    cases this
  ·rename_i h0
   split at e
   ·rename_i hl;refine .more (L:=(yav rs K).map λ t=>(t,h)) (λ e=>h0 (by rw[List.map_eq_nil_iff.1 e];rfl)) ?_ (λ p hp=>?_) (λ t=>?_) (by rw[List.length_map];exact hl) (zqw f _ _ _ e)
    ·rw[List.map_map];have:((λ x:Th × Nat=>x.1) ∘ λ t=>(t,h))=id:=rfl;rw[this,List.map_id];exact zyc rs K
    ·obtain⟨_,_,rfl⟩:=List.mem_map.1 hp;rfl
    ·rw[<-zwc]
     constructor
     ·rintro⟨n,hn⟩;obtain⟨u,hu,e⟩:=List.mem_map.1 hn;rw[<-(Prod.mk.inj e).1];exact hu
     ·intro ht;exact⟨h,List.mem_map.2 ⟨t,ht,rfl⟩⟩
   ·cases e
def zwt (rs:List PR)(S:B8->Nat)(limit:Nat):Nat->Nat->List (Th × Nat)->Option (List (Th × Nat))
 | 0,_,K=>some K
 | f+1,s,K=>(zvk (rs.filter (qK S s)) limit 60 1 K).bind (zwt rs S limit f (s+1))
theorem zst {rs:List PR}{S:B8->Nat}{limit:Nat}(count:Nat):∀ (f s:Nat) (K K':List (Th × Nat)),s+f=count->zwt rs S limit f s K=some K'->qD rs S limit count s K (some K')
 | 0,s,K,K',hs,e=>by obtain rfl:=Option.some.inj e;exact .ends (by omega)
 | f+1,s,K,K',hs,e=>by
  unfold zwt at e;obtain⟨K1,h1,h2⟩:=Option.bind_eq_some_iff.1 e;exact .next (by omega) (zqw 60 1 K K1 h1) (zst count f (s+1) K1 K' (by omega) h2)
def eD:B8:={ data:=#[102,97,114] }
def yet:B8:={ data:=#[101,100,103,101] }
def yb9:B8:={ data:=#[112,97,116,104] }
def rW (k:B8):Nat:=if k=eD then 1 else 0
def exR:List PR:=(zO vW).2.2.1.map λ R=>⟨R,undef,R.body.map λ l=>(l,undef),undef⟩
def exK:List (Th × Nat):=[((yet,[yA 97,yA 98]),1),((yet,[yA 98,yA 99]),1),((yb9,[yA 97,yA 98]),2),((yb9,[yA 98,yA 99]),2),((yb9,[yA 97,yA 99]),3),((eD,[yA 99]),1)]
theorem yad:xJ vW=(true,0,0):=by decide +kernel
theorem z59:zwt exR rW 10 2 0 []=some exK:=by decide +kernel
end
section
open Go.RowKit Go.Maps
def Lvl (s:B8):Prop:=∃ f,qH (zO s).2.2.1 f/\∀ k,f k<=3
theorem z6m {L:Nat->KL}{n:Nat}(hn:n<=14)(hL:∀ i,i<n->(L i).Ok):Lvl (aj (qC L n)):=by
 refine⟨pT,λ R hR=>?_,λ k=>?_⟩
 ·rw[(zp5 L n hn hL).2] at hR;have ho:qE (λ _=>2) pT R:=by
   rcases List.mem_cons.1 hR with rfl | hR
   ·exact KL.ic ⟨by decide,by decide⟩
   ·obtain⟨i,hi,rfl⟩:=List.mem_map.1 hR;exact KL.ic (hL i (List.mem_range.1 hi))
  intro l hl;have h1:=ho.pos l hl;have h2:=ho.neg l hl
  split
  ·rename_i h;have:=h2 h;omega
  ·omega
 ·unfold pT
  split
  ·omega
  ·split
   ·omega
   ·split <;> omega
variable {m limit lo xb:Nat} {S:B8->Nat} {rs:List PR} {w:W8} {s:B8}
theorem Mod.lvl (h:bp s xb w lo rs)(hL:Lvl s){r:Option (List (Th × Nat))}(hM:Mod s rs limit S m r)(k:B8):S k<=3:=by
 obtain⟨f,h1,h2⟩:=hL;exact Nat.le_trans (hM.low f (by rw[h.rules];exact h1) k) (h2 k)
theorem yba (B:Nat->Bool)(i:Nat):zfa B i<=i:=by
 unfold zfa;have:=List.length_filter_le B (List.range i)
 rwa [List.length_range] at this
structure Mp (s:B8)(rs:List PR)(limit:Nat)(S:B8->Nat)(m:Nat)(K:List (Th × Nat))(t:Th)(O:List Pl)(bs:List Nat):Prop where
 mod:Mod s rs limit S m (some K)
 len:K.length<=limit
 perm:O.Perm (K.map (zh9 S))
 sort:O.Pairwise λ p q=>vK p q=true
 eq:bs=zdi (zH s).2 S K t (zzg (zH s).2 rs S K O) O
variable {bs:List Nat} {t:Th}
theorem Mp.byte (h:bp s xb w lo rs)(hL:Lvl s)(hl:limit<=50){K:List (Th × Nat)}{O:List Pl}(hW:Mp s rs limit S m K t O bs):∀ x∈bs,x<256:=by
 have hA:=hW.mod.cY h.cg h.dh hW.perm hW.sort;have hK:=hW.len;have Lo:O.length=K.length:=by rw[hW.perm.length_eq,List.length_map]
 have iG:rs.length<=30:=by have:=(zdo h.ok).len;rw[<-h.rules,List.length_map] at this;exact this
 rw[hW.eq];intro x hx;unfold zdi zgq at hx;rcases List.mem_cons.1 hx with rfl | hx
 ·have:=Mod.lvl h hL hW.mod t.1;unfold xP
  split
  ·split <;> omega
  ·omega
 ·rcases List.mem_cons.1 hx with rfl | hx
  ·have:=zvs (zH s).2 S K t (zzg (zH s).2 rs S K O) O;omega
  ·rw[z00 hA.low] at hx;obtain⟨y,hy,hx⟩:=List.mem_flatMap.1 hx;obtain⟨j,hj,rfl⟩:=List.mem_map.1 hy;have ij:=List.mem_range.1 (List.mem_filter.1 hj).1;rcases List.mem_cons.1 hx with rfl | hx
   ·have:=(hA.least j ij).lt
    show (zzg (zH s).2 rs S K O j).1<256
    omega
   ·obtain⟨y,hy,rfl⟩:=List.mem_map.1 hx;have h1:=yba (bu O (xP (zH s).2 S K t) t (zzg (zH s).2 rs S K O) 0) y;have h2:=hA.low j ij y hy;omega
theorem iP.ib {base:Nat}{a:O8}{c:Nat}(hb:∀ x∈bs,x<256)(h:w.ownsRow base 5 1 (.slice a bs.length c) bs.length (bs.map u8c)):iP w a c bs:=by
 rcases h.2 with⟨e,h0⟩ | ⟨g,cap,cur,hv,_,hg,dG,dx,eZ,gZ⟩
 ·injection e with e1 e2 e3
  have hz:bs=[]:=List.eq_nil_of_length_eq_zero h0;subst hz e3;exact iP.none _ _ (by unfold maxLen;omega)
 ·injection hv with e1 e2 e3
  subst e1 e3;refine⟨dG,dx,hb,λ _=>⟨g,0,rfl,(h.lt g rfl).2,λ j hj=>?_⟩⟩;have:=World.ownsRow.cellAt h j (by omega);rw[Nat.zero_add,this,List.getElem?_map,List.getElem?_eq_getElem hj];have hx:=hb _ (List.getElem_mem hj)
  show some (Value.int .u8 ((bs[j]:Int)%256))=_
  rw[Int.emod_eq_of_lt (by omega) (by omega)]
def z9o:Ending:=.returned (.tuple #[.agg #[.int .i64 0,.int .i64 0,.slice none 0 0],.int .i64 7])
theorem ztt {w':W8}{q:B8}(jz:1<=limit)(hl:limit<=50)(cT:∀ r∈rs,r.bs.map (·.1)=r.R.body)(ht:vM (zH s).2 q=some t){e:Ending}(hE:zmr w rs (zH s).2 q (limit:Nat) (zzg (zH s).2 rs) w' e):
  (∃ S m,Mod s rs limit S m none/\e=z9o)\/∃ S m K O bs a c,Mp s rs limit S m K t O bs/\(K.map (·.1)).Nodup/\e=.returned (.tuple #[.agg #[.int .i64 ((if (z7 K t).isSome then 1 else 2:Nat):Nat),.int .i64 (((z7 K t).getD 0:Nat):Int),.slice a bs.length c],.int .i64 0])/\w'.ownsRow w.heap.size 5 1 (.slice a bs.length c) bs.length (bs.map u8c):=by
 have oo:qX (limit:Nat)=true:=by unfold qX;simp;omega
 have Ds:((limit:Nat):Int).toNat=limit:=by simp
 cases hE with
 | arg h=>rw[oo] at h;cases h
 | ask _ hn=>rw[ht] at hn;cases hn
 | fk _ h1 hv fN hc dj=>
  rw[Ds] at dj;exact .inl ⟨_,_,⟨hv,fN,hc,dj⟩,rfl⟩
 | @yes t' S m K O a c _ h1 hv fN hc dj dB hp ca aE=>
  rw[Ds] at dj;rw[ht] at h1;obtain rfl:=Option.some.inj h1;have hM:Mod s rs limit S m (some K):=⟨hv,fN,hc,dj⟩;have hK:K.length<=limit:=by
   obtain⟨_,_,⟨e,_⟩ | ⟨A,B,e1,e2,_,h3⟩⟩:=hM.uniq cT hM
   ·cases e
   ·obtain rfl:=Option.some.inj e1;exact h3
  refine .inr ⟨S,m,K,O,_,a,c,⟨hM,hK,hp,ca,rfl⟩,dB,?_,aE⟩
  by_cases hk:(z7 K t).isSome=true
  ·rw[if_pos hk,if_pos hk];rfl
  ·rw[if_neg hk,if_neg hk];rfl
end
section
open Go.RowKit Go.Maps
theorem z7u {zs:List B8}{L:List (List UInt8)}(h:(zs.map λ s=>s.data.toList).Perm L)(hs:L.Pairwise λ a b=>a<=b):zcp zs=L:=by
 have h1:(zcp zs).Pairwise λ a b=>a<=b:=by
  have:=List.pairwise_mergeSort (le:=λ x y:List UInt8=>decide (x<=y)) (λ a b c h1 h2=>by
   simp only[decide_eq_true_eq] at *
   exact List.le_trans h1 h2) (λ a b=>by
   simp only[Bool.or_eq_true,decide_eq_true_eq]
   exact List.le_total a b) (zs.map λ s=>s.data.toList)
  exact this.imp λ h=>by simpa using h
 exact List.Perm.eq_of_pairwise (le:=λ a b=>a<=b) (λ a b _ _ h1 h2=>List.le_antisymm h1 h2) h1 hs ((List.mergeSort_perm _ _).trans h)
theorem NF:∀ R∈(zO vW).2.2.1,∀ l∈R.body,(rW l.pd+if l.neg then 1 else 0)<=rW R.pd:=by decide +kernel
theorem ycq:∃ R∈(zO vW).2.2.1,R.pd=eD/\∃ l∈R.body,l.neg=true:=by decide +kernel
theorem NY:(zZ (zH vW).2 eD).isSome=true:=by decide +kernel
theorem NZ:exR.map (·.R)=(zO vW).2.2.1:=by
 unfold exR;rw[List.map_map];exact List.map_id _
theorem N3:∀ r∈exR,r.bs.map (·.1)=r.R.body:=λ r hr=>by
 obtain⟨R,_,rfl⟩:=List.mem_map.1 hr
 show (R.body.map λ l=>(l,undef)).map (·.1)=R.body
 rw[List.map_map];exact List.map_id _
variable {rs:List PR}
theorem yct (hr:rs.map (·.R)=(zO vW).2.2.1)(hb:∀ r∈rs,r.bs.map (·.1)=r.R.body):Mod vW rs 10 rW 2 (some exK):=by
 refine⟨λ R hR=>by rw[hr] at hR;exact NF R hR,λ f hf k=>?_,⟨λ k _=>?_,.inr ⟨eD,NY,rfl⟩⟩,?_⟩
 ·unfold rW
  split
  ·rename_i e;subst e;obtain⟨R,hR,hp,l,hl,hn⟩:=ycq;have:=hf R (by rw[hr];exact hR) l hl;rw[hn,if_pos rfl,hp] at this;omega
  ·omega
 ·unfold rW;split <;> omega
 ·exact M7 ⟨λ R=>by rw[NZ,hr],N3,hb⟩ (zst 2 2 0 [] exK rfl z59)
theorem ycs:Lvl vW:=⟨rW,NF,λ k=>by unfold rW;split <;> omega⟩
def exQ:B8:={ data:=#[112,97,116,104,40,97,44,88,41] }
def exC:B8:={ data:=#[102,97,114,40,99,41] }
def exB:B8:={ data:=#[102,97,114,40,98,41] }
def yaa:B8:={ data:=#[112,97,116,104,40,97,44,98,41] }
def yab:B8:={ data:=#[112,97,116,104,40,97,44,99,41] }
def exA:yY:=⟨yb9,[(false,yA 97),(true,yA 88)]⟩
theorem z82:vM (zH vW).2 exC=some (eD,[yA 99]):=by decide +kernel
theorem z0z:vM (zH vW).2 exB=some (eD,[yA 98]):=by decide +kernel
theorem yac:(vF (zH vW).2 exQ).map (λ A=>(A.p,A.ts))=some (yb9,[(false,yA 97),(true,yA 88)]):=by decide +kernel
theorem z81:vF (zH vW).2 exQ=some exA:=by
 have h:=yac
 cases e:vF (zH vW).2 exQ with
 | none=>rw[e] at h;cases h
 | some A=>
  rw[e] at h;obtain⟨p,ts⟩:=A;have h:(p,ts)=(yb9,[(false,yA 97),(true,yA 88)]):=Option.some.inj h;obtain⟨rfl,rfl⟩:=Prod.mk.inj h;rfl
theorem ycr:((exK.filter (zk8 exA)).map λ p=>yI p.1)=[yaa,yab]:=by decide +kernel
theorem z57 (hr:rs.map (·.R)=(zO vW).2.2.1)(hb:∀ r∈rs,r.bs.map (·.1)=r.R.body){S:B8->Nat}{m:Nat}{r:Option (List (Th × Nat))}(h:Mod vW rs 10 S m r):∃ K,r=some K/\exK.Perm K:=by
 obtain⟨_,_,⟨e,_⟩ | ⟨A,B,e1,e2,h3,_⟩⟩:=(yct hr hb).uniq hb h
 ·cases e
 ·obtain rfl:=Option.some.inj e1;exact⟨B,e2,h3⟩
variable {e:Ending} {w w':W8}
theorem z58 (hr:rs.map (·.R)=(zO vW).2.2.1)(hb:∀ r∈rs,r.bs.map (·.1)=r.R.body)(h:zms w rs (zH vW).2 exQ 10 w' e):∃ g c,e=.returned (.tuple #[.slice (some ⟨g,0,none⟩) 2 c,.int .i64 0])/\2<=c/\c<=maxLen/\g<w'.heap.size/\w'.cell? ⟨g,0,none⟩=some (.string yaa)/\w'.cell? ⟨g,1,none⟩=some (.string yab):=by
 cases h with
 | arg h=>exact absurd h (by decide)
 | ask _ h=>rw[z81] at h;cases h
 | fk _ _ hv fN hc dj=>obtain⟨K,e,_⟩:=z57 hr hb ⟨hv,fN,hc,dj⟩;cases e
 | @yes A S m K zs a c _ hA hv fN hc dj dB hp aE=>
  rw[z81] at hA;obtain rfl:=Option.some.inj hA;obtain⟨K',e,hK⟩:=z57 hr hb ⟨hv,fN,hc,dj⟩;obtain rfl:=Option.some.inj e;have hz:zs.Perm [yaa,yab]:=by
   have:=hp.trans ((hK.symm.filter (zk8 exA)).map λ p=>yI p.1)
   rwa [ycr] at this
  have JR:zs.length=2:=hz.length_eq;have ca:zcp zs=[yaa.data.toList,yab.data.toList]:=z7u (hz.map _) (by decide);rw[JR,ca] at aE;have hT:=qd.ib (zs:=[yaa,yab]) aE;obtain⟨g,rfl,hg,h0⟩:=hT.at_ 0 (by simp);obtain⟨g',e',_,h1⟩:=hT.at_ 1 (by simp);obtain rfl:g=g':=by simpa using e'
  exact⟨g,c,by rw[JR],hT.cap,hT.max,hg,h0,h1⟩
theorem zk2 {K:List (Th × Nat)}(h:exK.Perm K):(z7 K (eD,[yA 99])).isSome=true/\(z7 K (eD,[yA 98])).isSome=false:=by
 have hm:∀ t,t∈K.map (·.1)↔t∈exK.map (·.1):=λ t=>(h.map _).mem_iff.symm
 constructor
 ·exact xB.2 ((hm _).2 (List.mem_map.2 ⟨((eD,[yA 99]),1),by simp[exK],rfl⟩))
 ·cases hx:(z7 K (eD,[yA 98])).isSome with
  | false=>rfl
  | true=>
   exfalso
   have h1:=(hm _).1 (xB.1 hx);obtain⟨y,hy,he⟩:=List.mem_map.1 h1;have:∀ y∈exK,y.1≠(eD,[yA 98]):=by decide
   exact this y hy he
theorem zna {xb lo:Nat}{w0:W8}(hP:bp vW xb w0 lo rs){q:B8}{t:Th}(ht:vM (zH vW).2 q=some t)(h:zmr w rs (zH vW).2 q 10 (zzg (zH vW).2 rs) w' e):∃ S m K O bs a c,Mp vW rs 10 S m K t O bs/\exK.Perm K/\e=.returned (.tuple #[.agg #[.int .i64 ((if (z7 K t).isSome then 1 else 2:Nat):Nat),.int .i64 (((z7 K t).getD 0:Nat):Int),.slice a bs.length c],.int .i64 0])/\iP w' a c bs:=by
 rcases ztt (limit:=10) (by decide) (by decide) hP.cg ht h with⟨S,m,hM,_⟩ | ⟨S,m,K,O,bs,a,c,hW,dB,he,aE⟩
 ·obtain⟨K,e,_⟩:=z57 hP.rules hP.cg hM;cases e
 ·obtain⟨K',e,hK⟩:=z57 hP.rules hP.cg hW.mod;obtain rfl:=Option.some.inj e;exact⟨S,m,K,O,bs,a,c,hW,hK,he,iP.ib (hW.byte hP ycs (by decide)) aE⟩
end
end Go.Proofs.YtldkpahaocjdpaaGreat
