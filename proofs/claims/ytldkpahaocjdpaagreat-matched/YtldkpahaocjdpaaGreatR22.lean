/-
  The program's strata: Of.
-/
import Derived.Test.YtldkpahaocjdpaaGreatR18
import Derived.Test.YtldkpahaocjdpaaGreatR21
set_option maxHeartbeats 16000000
set_option maxRecDepth 1000000
namespace Go.Proofs.YtldkpahaocjdpaaGreat
section
open Go.RowKit Go.Maps
def zer (f:B8->Nat)(R:yH):Prop:=∀ l∈R.body,(f l.pd+if l.neg then 1 else 0)<=f R.pd
def qH (rs:List yH)(f:B8->Nat):Prop:=∀ R∈rs,zer f R
def zuu (rs:List yH)(S:B8->Nat):Prop:=∀ f,qH rs f->∀ k,S k<=f k
theorem ztr (S:B8->Nat)(R:yH)(k:B8):S k<=zgq S R k:=by
 unfold zgq
 by_cases e:k=R.pd
 ·subst e;rw[zfm];exact zrl _ _ _
 ·rw[zf5 e];exact Nat.le_refl _
variable {R:yH} {S:B8->Nat} {rs:List yH}
theorem z3n (h:zuu rs S)(hR:R∈rs):zuu rs (zgq S R):=by
 intro f hf k;unfold zgq
 by_cases e:k=R.pd
 ·subst e;rw[zfm];refine z58 _ _ (h f hf _) λ x hx=>?_
  have h1:=h f hf x.pd;have h2:=hf R hR x hx;omega
 ·rw[zf5 e];exact h f hf k
theorem zv1 (h:¬ S R.pd<zrr S R.body (S R.pd)):zer S R/\zgq S R=S:=by
 have h2:zrr S R.body (S R.pd)=S R.pd:=Nat.le_antisymm (Nat.not_lt.1 h) (zrl _ _ _);refine⟨λ l hl=>?_,?_⟩
 ·have:=zyo R.body (S R.pd) (S:=S) l hl
  rwa [h2] at this
 ·funext k
  unfold zgq
  by_cases e:k=R.pd
  ·subst e;rw[zfm,h2]
  ·rw[zf5 e]
def zua (S:B8->Nat):P9->Nat
 | []=>0
 | p::r=>S p.1+zua S r
theorem zrh {S T:B8->Nat}(h:∀ k,S k<=T k):∀ ps,zua S ps<=zua T ps
 | []=>Nat.le_refl _
 | p::r=>Nat.add_le_add (h p.1) (zrh h r)
theorem z5q {S T:B8->Nat}(h:∀ k,S k<=T k){p:B8 × Nat}(hp:S p.1<T p.1):∀ ps,p∈ps->zua S ps<zua T ps
 | [],hm=>by cases hm
 | q::r,hm=>by
  rcases List.mem_cons.1 hm with rfl | hm
  ·exact Nat.add_lt_add_of_lt_of_le hp (zrh h r)
  ·exact Nat.add_lt_add_of_le_of_lt (h q.1) (z5q h hp r hm)
theorem zpk {S:B8->Nat}{c:Nat}(h:∀ k,S k<=c):∀ ps,zua S ps<=c*ps.length
 | []=>Nat.zero_le _
 | p::r=>by
  have:=zpk h r;have h1:=h p.1;simp only[zua,List.length_cons,Nat.mul_add,Nat.mul_one];omega
theorem zs6 {nm:B8}{n:Nat}:∀ {ps:P9},zV ps nm=some n->∃ p∈ps,p.1=nm
 | [],h=>by simp[zV] at h
 | p::r,h=>by
  rw[zV] at h
  split at h
  ·rename_i e;exact⟨p,List.mem_cons_self,yB.1 e⟩
  ·obtain⟨q,hq,e⟩:=zs6 h;exact⟨q,List.mem_cons_of_mem _ hq,e⟩
structure MG (rs:List yH)(ps:P9)(S0:B8->Nat)(k:Nat)(b:Bool)(S:B8->Nat):Prop where
 low:zuu rs S
 ge:zua S0 ps<=zua S ps
 up:b=true->zua S0 ps<zua S ps
 keeps:b=false->∀ R∈rs.take k,zer S R
theorem MG.next {ps:P9}{S0:B8->Nat}{k:Nat}{b:Bool}(h:MG rs ps S0 k b S)(hk:k<rs.length){n:Nat}(hn:zV ps rs[k].pd=some n):MG rs ps S0 (k+1) (if decide (S rs[k].pd<zrr S rs[k].body (S rs[k].pd)) then true else b) (zgq S rs[k]):=by
 have um:=zrh (ztr S rs[k]) ps
 by_cases hu:S rs[k].pd<zrr S rs[k].body (S rs[k].pd)
 ·obtain⟨p,hp,e⟩:=zs6 hn;have bP:zua S ps<zua (zgq S rs[k]) ps:=z5q (ztr S rs[k]) (p:=p) (by rw[e,zgq,zfm];exact hu) ps hp;simp only[hu,decide_true,if_true];exact⟨z3n h.low (List.getElem_mem hk),Nat.le_trans h.ge um,λ _=>Nat.lt_of_le_of_lt h.ge bP,λ e=>by cases e⟩
 ·obtain⟨h1,h2⟩:=zv1 hu;simp only[hu,decide_false,h2];refine⟨h.low,h.ge,by simpa using h.up,λ e R hR=>?_⟩;rw[List.take_succ_eq_append_getElem hk,List.mem_append] at hR;rcases hR with hR | hR
  ·exact h.keeps (by simpa using e) R hR
  ·rw[List.mem_singleton.1 hR];exact h1
theorem z3z (w:W8)(base:Nat)(ar:O8)(cr:Nat)(rs:List PR)(ps:P9)(h:aD w base (.slice ar rs.length cr) rs)(iG:rs.length<=30)(cE:∀ r∈rs,r.bs.length<=3)(eN:∀ r∈rs,r.R.pd.size<=800)(kX:∀ r∈rs,∀ x∈r.bs,x.1.pd.size<=800)(kc:qS ((rs.map (·.R)).flatMap xS) [])(gj:j7 ((rs.map (·.R)).flatMap xS) []=ps)(dP:ps.length<=1000)(ak:∀ r∈rs,(∃ n,zV ps r.R.pd=some n)/\∀ x∈r.bs,∃ n,zV ps x.1.pd=some n)(f0:B8->Nat)(bO:qH (rs.map (·.R)) f0)(jd:∀ k,f0 k<=1000):
  Calls Tryz.prog 35 #[.slice ar rs.length cr] w λ e w'=>e=.returned (.map (some w.heap.size))/\w.heap.size<w'.heap.size/\Below w.heap.size w w'/\∃ (S:B8->Nat) (n:Nat),qQ Tryz.prog 9 w' w.heap.size n (stV ps S)/\n<=1000000000/\qH (rs.map (·.R)) S/\zuu (rs.map (·.R)) S:=by
 have HR:=zC h;have hsf:=zpk jd ps;go_enter Tryz.func35,Tryz.ntmps35;go_wp2_with fail;refine (zzj w base ar cr rs h iG cE eN kX kc).mono ?_;rintro e w1 ⟨rfl,aj,aT,fa⟩;rw[gj] at fa;clear h kc gj;go_wp2_with fail
 go_loopg [4] (zua f0 ps+1) (λ gg r wr=>∃ (b:Bool) (S:B8->Nat) (n:Nat),r=.bool b/\(b=true->zua f0 ps-zua S ps+1<=gg)/\n+30*gg<=120+30*(zua f0 ps+1)/\Below w.heap.size w wr/\w.heap.size<wr.heap.size/\qQ Tryz.prog 9 wr w.heap.size n (stV ps S)/\zuu (rs.map (·.R)) S/\(b=false->qH (rs.map (·.R)) S))
 exact⟨true,λ _=>0,4*rs.length,rfl,λ _=>by omega,by omega,aT,aj,fa,λ _ _ _=>Nat.zero_le _,λ e=>by cases e⟩
 case round=>
  clear aT aj fa;obtain⟨b,S0,n0,rfl,dn,AA,hB,hsz,hm,aX,fD⟩:=hrel
  cases b with
  | false=>
   have HV:=zC (fD rfl);have wV:=zC aX;clear aX fD;go_wp2_with fail;go_ret;exact⟨rfl,hsz,hB,S0,n0,hm,by omega,zA HV,zA wV⟩
  | true=>
   have fM:=dn rfl;generalize eP:gk=g1 at *;have h0:MG (rs.map (·.R)) ps S0 0 false S0:=⟨aX,Nat.le_refl _,(λ e=>by cases e),λ _ R hR=>by simp at hR⟩;clear dn fD aX;go_wp2_with fail
   go_loopg [4,12] rs.length (λ gg2 r j wj=>∃ (b:Bool) (S:B8->Nat) (k:Nat),r=.bool b/\k<=rs.length/\gg2=rs.length-k/\j=.int .i64 k/\Below w.heap.size w wj/\w.heap.size<wj.heap.size/\qQ Tryz.prog 9 wj w.heap.size (n0+k) (stV ps S)/\MG (rs.map (·.R)) ps S0 k b S)
   exact⟨false,S0,0,rfl,Nat.zero_le _,rfl,rfl,hB,hsz,hm,h0⟩
   case round=>
    clear hB hm h0;obtain⟨b,S,k,rfl,hk,Jm,rfl,hB,hsz,hm,eR⟩:=hrel
    by_cases aN:k<rs.length
    ·have fV:=(zA HR).below hB;obtain⟨gr,oJ,nM,oS,o5,pn,oY,fL⟩:=vE zme fV.row k aN;injection nM with h4 h5 h6
     subst h4 h6;have kh:=(zA HR).each _ (List.getElem_mem aN);obtain⟨ah,ch,nz⟩:=zE kh.hd;obtain⟨ab,cb,iB⟩:=zE kh.bo.row;have r0:=fL 0 (by omega);have r1:=fL 1 (by omega);have r2:=fL 2 (by omega);simp only[PR.cells,nz,iB,Nat.add_zero,List.getElem?_cons_zero,List.getElem?_cons_succ] at r0 r1 r2;have mJ:=eN _ (List.getElem_mem aN);obtain⟨⟨nt,bV⟩,nD⟩:=ak _ (List.getElem_mem aN);have uC:=kX _ (List.getElem_mem aN);have I8:=cE _ (List.getElem_mem aN);have fa:=hm.alloc (.cells #[.string rs[k].R.pd,.slice ah rs[k].R.ts.length ch,.slice ab rs[k].bs.length cb] 123);have gS:=hB.alloc (by omega) (.cells #[.string rs[k].R.pd,.slice ah rs[k].R.ts.length ch,.slice ab rs[k].bs.length cb] 123);have eL:aL (wr.alloc (.cells #[.string rs[k].R.pd,.slice ah rs[k].R.ts.length ch,.slice ab rs[k].bs.length cb] 123)) base (.slice ab rs[k].bs.length cb) rs[k].bs:=by
      have:=kh.bo.below gS
      rwa [iB] at this
     have De:=eR.next (by simpa using aN) (n:=nt) (by simpa using bV);have sx:∀ x,S x<=100000:=λ x=>Nat.le_trans (Nat.le_trans (eR.low f0 bO x) (jd x)) (by omega)
     simp only[List.getElem_map] at De;have heq:=kh.eq;have oC:=zC De;clear fL kh nz iB fV De eR hB hm;go_wp2_with fail;refine (z4u _ w.heap.size (n0+k) base ps S rs[k].R.pd ah rs[k].R.ts.length ch ab cb rs[k].bs fa eL (by omega) mJ nt bV (λ x hx=>⟨uC x hx,nD x hx⟩) sx (by omega)).mono ?_;rintro e w3 ⟨rfl,ey,fB⟩;have pO:=fB.size;rw[World.size_alloc] at pO;have iz:=yE gS fB (by simp;omega) (by simp);rw[heq] at ey ⊢;have mW:Hid (qQ Tryz.prog 9 w3 w.heap.size (n0+(k+1)) (stV ps (zgq S rs[k].R))):=zC ey;clear ey fB gS fa eL r0 r1 r2 sx heq;generalize decide (S rs[k].R.pd<zrr S rs[k].R.body (S rs[k].R.pd))=c at oC ⊢
     cases c with
     | true=>
      go_wp2_with fail;go_roundg (rs.length-(k+1));exact⟨true,_,k+1,rfl,by omega,rfl,by go_num,iz,by omega,zA mW,zA oC⟩;omega
     | false=>
      go_wp2_with fail;go_roundg (rs.length-(k+1));exact⟨b,_,k+1,rfl,by omega,rfl,by go_num,iz,by omega,zA mW,zA oC⟩;omega
    ·have du:k=rs.length:=(by omega);have um:=eR.ge;have sR:=eR.up;have KR:=zrh (eR.low f0 bO) ps;have Ek:=zC eR;have Ah:=zC sR;clear eR sR;go_wp2_with fail;go_roundg (g1-1);exact⟨b,S,n0+k,rfl,λ e=>by have:=zA Ah e;omega,by omega,hB,hsz,hm,(zA Ek).low,λ e R hR=>(zA Ek).keeps e R (by rwa [List.take_of_length_le (by simp;omega)])⟩;omega
end
section
open Go.RowKit Go.Maps
attribute [local go_sem ↓] vS vA xZ xY
attribute [local go_sem] vH vG
theorem zsu {L:List (Th × Nat)}{t:Th}(h:∀ n,(t,n)∉L):zU L t=none:=by
 cases hl:zU L t with
 | none=>rfl
 | some n=>exact absurd (vJ hl) (h n)
structure z9x (w:W8)(db sb rb:Nat)(D S:List (Th × Nat))(Lf:Th->Prop)(S1:List (Th × Nat))(dF:Nat)(wr:W8):Prop where
 rg:dr wr sb rb S Lf dF
 m:vW wr db (D++S1)
 mem:∀ p,p∈S1↔p∈S/\¬ Lf p.1
 len:S1.length+dF<=S.length
 k:yA [db] w wr
def z6l (w:W8)(db:Nat)(D S:List (Th × Nat))(en:Ending)(w':W8):Prop:=(∃ v,en=.returned v)/\yA [db] w w'/\∃ S',vW w' db (D++S')/\(∀ p,p∈S'↔p∈S)/\S'.length<=S.length
theorem z7e (w:W8)(db sb:Nat)(D S:List (Th × Nat))(hd:vW w db D)(hs:vW w sb S)(bG:db≠sb)(yw:∀ p∈S,zU D p.1=none)(hl:D.length+S.length<=1000000):
  Calls Tryz.prog 100 #[.map (some db),.map (some sb)] w (z6l w db D S):=by
 have HD:=zC hd;have HS:=zC hs;have A1:=zC yw;have hdl:=hd.lt;have lJ:=hs.lt;clear hd yw;go_enter Tryz.func100,Tryz.ntmps100;go_wp2_with (first | (at_range;refine zip _ rfl _ 83 rfl Tryz.underlying83 sb S rfl hs ?_;intro w1 hrg1 eP js) | go_in)
 try go_frame
 have h0:z9x w db sb w.heap.size D S (λ _=>True) [] S.length w1:=by
  refine⟨hrg1,by rw[List.append_nil];exact (zA HD).kept eP (by simp),λ p=>⟨λ h=>absurd h List.not_mem_nil,λ h=>absurd trivial h.2⟩,by simp,⟨eP.os,eP.tape,eP.output,eP.size,λ j hj _=>eP.block j hj (by simp)⟩⟩
 clear hrg1 eP js hs
 go_loopg [] S.length (λ gg wr=>∃ (Lf:Th->Prop) (S1:List (Th × Nat)),z9x w db sb w.heap.size D S Lf S1 gg wr)
 exact⟨_,_,h0⟩
 case round=>
  clear h0;obtain⟨Lf,S1,ak⟩:=hrel;have jf:=ak.rg;have bt:=zC ak;clear ak;go_wp2_with (first | (at_next;refine zkv _ rfl _ rfl sb w.heap.size S Lf gk rfl jf ?_ ?_) | go_in)
  ·intro cF;have qv:=zC cF;clear cF jf;go_wp2_with fail;go_end0;have ak:=zA bt;exact⟨⟨_,rfl⟩,ak.k,S1,ak.m,λ p=>⟨λ h=>((ak.mem p).1 h).1,λ h=>(ak.mem p).2 ⟨h,zA qv p.1.1 p.1.2 p.2 h⟩⟩,by have:=ak.len;omega⟩
  ·intro tp tts n w2 cnt2 gZ kV hrg2 gX dd lj hen2;generalize ((tp,tts):Th)=t at *;have ak:=zA bt;have du:=ak.k.size;have hT:zbk t:=ak.rg.map.ok _ gZ;have eG:vW w2 db (D++S1):=ak.m.kept dd (by simp;omega);have cP:zU (D++S1) t=none:=zsu λ m hm=>by
    rcases List.mem_append.1 hm with hm | hm
    ·exact qB (zA A1 _ gZ) m hm
    ·exact ((ak.mem _).1 hm).2 kV
   have fX:zis (D++S1) t n=D++(S1++[(t,n)]):=(by unfold zis;rw[cP,List.append_assoc];rfl);have hlen:=ak.len;have HT:=zC hT;have iU:=zC hrg2;have A6:=zC dd;have Bt:=zC fX;have fU:=zC gZ;have Ee:=zC kV;have vt:=zC (eG.alloc (.cells (zK t).toArray 88));have gK:=(TV.new w2 t).load;have ik:(D++S1).length<maxLen:=(by unfold maxLen;rw[List.length_append];omega);clear lj jf hrg2 dd eG cP fX gZ kV ak hT;go_wp2_with (at_mapUpdate;refine zwo _ rfl _ _ _ 83 rfl Tryz.underlying83 db (D++S1) rfl (zA vt) ik t n rfl rfl (zA HT) ?_;intro w3 ey ki);rw[zA Bt] at ey;have mW:=zC ey;have tO:=zC ki;clear ey ki gK hen2;go_wp2_with fail;go_roundg cnt2
   case measure=>omega
   case rel=>
    have ak:=zA bt;have g2:=zA A6;have g3:=(zA tO).grown;have gk0:w.heap.size<=wr.heap.size:=du;refine⟨λ x=>Lf x/\¬ x=t,S1++[(t,n)],⟨?_,zA mW,λ p=>?_,by rw[List.length_append];simp;omega,?_⟩⟩
    ·have r2:=zA iU;refine r2.blocks ?_ ?_
     ·rw[g3.block sb (by have:=r2.map.lt;simp;omega) (by simp;omega),Below.heap_alloc _ _ _ r2.map.lt]
     ·rw[g3.block w.heap.size (by have:=r2.lt;simp;omega) (by simp;omega),Below.heap_alloc _ _ _ r2.lt]
    ·rw[List.mem_append,ak.mem]
     constructor
     ·rintro (⟨h1,h2⟩ | h1)
      ·exact⟨h1,λ h=>h2 h.1⟩
      ·rw[List.mem_singleton.1 h1];exact⟨zA fU,λ h=>h.2 rfl⟩
     ·rintro⟨h1,h2⟩
      by_cases e:p.1=t
      ·right
       have h3:=qO (ak.rg.map.nodup) h1;have h4:=qO (ak.rg.map.nodup) (zA fU);have e1:p.2=n:=by
        have:zU S p.1=some n:=by rw[e];exact h4
        exact Option.some.inj (h3.symm.trans this)
       rw[List.mem_singleton,<-e,<-e1]
      ·left
       exact⟨h1,λ h=>h2 ⟨h,e⟩⟩
    ·have k2:yA [db] w w2:=ak.k.grown g2 (λ i e=>by cases e;left;omega);exact (k2.alloc _).grown g3 (λ i e=>by cases e;right;simp)
end
section
open Go.RowKit Go.Maps
def mr (w w':W8):Prop:=∀ (b:Nat) (cs:Array Value) (t:TypeId) (fr:Nat × Nat),w.heap[b]?=some (Obj.cells cs t fr)->w'.heap[b]?=some (Obj.cells cs t fr)
variable {base:Nat} {w w':W8}
theorem mr.row (h:mr w w'){e:TypeId}{size:Nat}{v:Value}{n:Nat}{xs:V8}(hr:w.ownsRow base e size v n xs):w'.ownsRow base e size v n xs:=by
 refine zQ hr λ g hg=>?_
 rcases hr.2 with⟨h0,_⟩ | ⟨g',cap,cur,rfl,hb,jo,_⟩
 ·rw[h0] at hg;cases hg
 ·have e:g'=g:=by simpa[Value.ownBlock] using hg
  subst e;exact (h _ _ _ _ jo).trans jo.symm
theorem mr.DI (h:mr w w'){bv:Value}{ls:List (yR × Value)}(hr:aL w base bv ls):aL w' base bv ls:=⟨h.row hr.row,λ x hx=>h.row (hr.each x hx)⟩
variable {rs:List PR}
theorem mr.DN (h:mr w w'){rv:Value}(hr:aD w base rv rs):aD w' base rv rs:=⟨h.row hr.row,λ r hm=>⟨h.row (hr.each r hm).hd,h.DI (hr.each r hm).bo,(hr.each r hm).eq⟩⟩
variable {K:List (Th × Nat)}
theorem mr.rB {kb:Nat}(hm:vW w kb K)(k:yA [kb] w w'):mr w w':=λ b cs t fr hb=>by
 refine (k.block b (Array.getElem?_eq_some_iff.1 hb).1 ?_).trans hb;simp only[List.mem_singleton];rintro rfl;obtain⟨es,c,h⟩:=hm.isMap;rw[hb] at h;cases h
inductive qT (rs:List PR)(limit:Nat):Nat->List (Th × Nat)->Option (List (Th × Nat))->Prop
 | fk {h:Nat} {K:List (Th × Nat)} (L:List Th):L.Nodup->(∀ t∈L,zkb rs K t)->limit<K.length+L.length->qT rs limit h K none
 | done {h:Nat} {K:List (Th × Nat)}:(∀ t,¬ zkb rs K t)->qT rs limit h K (some K)
 | more {h:Nat} {K L:List (Th × Nat)} {r:Option (List (Th × Nat))}:L≠[]->(L.map (·.1)).Nodup->(∀ p∈L,p.2=h)->(∀ t,(∃ n,(t,n)∈L)↔zkb rs K t)->K.length+L.length<=limit->qT rs limit (h+1) (K++L) r->qT rs limit h K r
def fI (rs:List PR)(TI:Th->Prop):Prop:=∀ K:List (Th × Nat),(∀ p∈K,TI p.1)->∀ r∈rs,zwv K r/\∀ e∈zR K (zM r.bs) [],TI (zZ e (jB r))
theorem fI.new {TI:Th->Prop}(h:fI rs TI)(hK:∀ p∈K,TI p.1){t:Th}(ht:zkb rs K t):TI t:=by
 obtain⟨_,r,hr,e,he,rfl⟩:=ht;exact (h K hK r hr).2 e (List.mem_filter.1 he).1
structure z1f (w:W8)(kb base:Nat)(rv:Value)(rs:List PR)(limit:Nat)(TI:Th->Prop)(K0:List (Th × Nat))(n:Nat)(K:List (Th × Nat))(wr:W8):Prop where
 m:vW wr kb K
 ti:∀ p∈K,TI p.1
 len:K.length<=limit
 k:yA [kb] w wr
 n0:1<=n
 n1:n<=K.length+1
 rel:∀ r,qT rs limit n K r->qT rs limit 1 K0 r
def z1g (w:W8)(kb:Nat)(rs:List PR)(limit:Nat)(TI:Th->Prop)(K:List (Th × Nat))(en:Ending)(w':W8):Prop:=
 ∃ r,qT rs limit 1 K r/\en=.returned (.bool r.isSome)/\yA [kb] w w'/\∀ K',r=some K'->vW w' kb K'/\(∀ p∈K',TI p.1)/\K'.length<=limit
theorem z2a (w:W8)(kb base:Nat)(ar:O8)(cr:Nat)(rs:List PR)(limit:Nat)(TI:Th->Prop)(K:List (Th × Nat))(hm:vW w kb K)(hr:aD w base (.slice ar rs.length cr) rs)(oX:fI rs TI)(Gc:∀ p∈K,TI p.1)(hK:K.length<=limit)(hl:limit<=50):
  Calls Tryz.prog 60 #[.map (some kb),.slice ar rs.length cr,.int .i64 (limit:Nat)] w (z1g w kb rs limit TI K):=by
 have HM:=zC hm;have HR:=zC hr;have pZ:=zC oX;have h0:z1f w kb base (.slice ar rs.length cr) rs limit TI K 1 K w:=⟨hm,Gc,hK,yA.refl _ _,Nat.le_refl _,by omega,λ _ h=>h⟩;have H0:=zC h0;have du:=hm.lt;clear hm hr oX Gc hK h0;go_enter Tryz.func60,Tryz.ntmps60;go_wp2_with fail
 go_loopg [7] (limit+1-K.length) (λ gg hv wr=>∃ (n:Nat) (K':List (Th × Nat)),gg=limit+1-K'.length/\hv=.int .i64 (n:Nat)/\z1f w kb base (.slice ar rs.length cr) rs limit TI K n K' wr)
 exact⟨1,K,rfl,rfl,zA H0⟩
 case round=>
  clear H0;obtain⟨n,K',fM,rfl,ak⟩:=hrel;have sl:=ak.len;have lH:=ak.n1;have HN:=zC (z79 wr kb base ar cr rs K' n limit ak.m ((mr.rB (zA HM) ak.k).DN (zA HR)) (λ r hr=>(zA pZ K' ak.ti r hr).1) ak.len hl);have bt:=zC ak;clear ak;have nU:=zC (λ (w1:W8) (aT:Below wr.heap.size wr w1)=>(zA bt).m.block (aT.block kb (zA bt).m.lt));have Jz:=(zA bt).m.lt;go_wp2_with fail;refine (zA HN).mono ?_;rintro en w1 ⟨aT,⟨fb,L,rfl,jd,Mh,hh,eQ,hlen⟩ | ⟨rfl,L,dB,dJ,Dg⟩⟩
  ·have uB:=Mh.len Tryz.underlying83;have G4:=zC (z7e w1 kb fb K' L (zA nU w1 aT) Mh (by omega) (λ p hp=>((eQ p.1).1 (by rw[qO Mh.nodup hp];rfl)).1) (by omega));have cR:=zC aT;have HH:=zC hh;have oB:=zC eQ;have Ho:=zC Mh;have bq:=aT.size;clear aT hh eQ Mh
   cases hL:L with
   | nil=>
    subst hL;go_wp2_with fail;go_ret;have ak:=zA bt;exact⟨some K',ak.rel _ (.done λ t ht=>by have:=(zA oB t).2 ht;cases this),rfl,ak.k.aF (zA cR),λ K2 e=>by cases e;exact⟨zA nU w1 (zA cR),ak.ti,ak.len⟩⟩
   | cons p tl=>
    have hz:(L.length:Int)≠0:=(by rw[hL];simp;omega);have bn:0<L.length:=(by rw[hL];simp);clear hL;go_wp2_with (go_at_call 100;refine (zA G4).mono ?_;rintro en w2 ⟨⟨v2,rfl⟩,cN,S',eG,lj,lG⟩;have ky:=zC cN;have vt:=zC eG;have Ad:=zC lj;clear cN eG lj);have im:0<S'.length:=by
     cases hS:S' with
     | nil=>
      exfalso
      cases hL:L with
      | nil=>rw[hL] at bn;simp at bn
      | cons q tl=>have:=(zA Ad q).2 (by rw[hL];exact List.mem_cons_self);rw[hS] at this;cases this
     | cons q tl=>simp
    have eQ:∀ t,(∃ m,(t,m)∈S')↔zkb rs K' t:=λ t=>by
     rw[<-zA oB t]
     constructor
     ·rintro⟨m,hm⟩;rw[qO (zA Ho).nodup ((zA Ad _).1 hm)];rfl
     ·intro h;obtain⟨m,hm⟩:=Option.isSome_iff_exists.1 h;exact⟨m,(zA Ad _).2 (vJ hm)⟩
    go_roundg (limit+1-(K'++S').length)
    case measure=>rw[List.length_append];omega
    case rel=>
     have ak:=zA bt;refine⟨n+1,K'++S',rfl,by go_num,zA vt,λ q hq=>?_,by rw[List.length_append];omega,(ak.k.aF (zA cR)).trans (zA ky),by omega,by rw[List.length_append];omega,λ r hr=>ak.rel r (.more (λ e=>by rw[e] at im;simp at im) (by have dB:=(zA vt).nodup;rw[List.map_append,List.nodup_append] at dB;exact dB.2.1) (λ q hq=>zA HH q ((zA Ad q).1 hq)) eQ (by omega) hr)⟩;rcases List.mem_append.1 hq with hq | hq
     ·exact ak.ti q hq
     ·exact (zA pZ).new ak.ti ((eQ q.1).1 ⟨q.2,hq⟩)
  ·have cR:=zC aT;clear aT;go_wp2_with fail;go_ret;have ak:=zA bt;exact⟨none,ak.rel _ (.fk L dB dJ Dg),rfl,ak.k.aF (zA cR),λ K2 e=>by cases e⟩
end
section
open Go.RowKit Go.Maps
def qJ (S:B8->Nat)(s:Nat)(r:PR):Bool:=S r.R.pd==s
structure z93 (w:W8)(base:Nat)(rv:Value)(rs:List PR)(tb n:Nat)(ps:P9)(S:B8->Nat)(l:List PR)(v:Value)(wr:W8):Prop where
 row:wr.ownsRow w.heap.size 123 3 v l.length (l.flatMap PR.cells)
 below:Below w.heap.size w wr
variable {wr w:W8} {v rv:Value} {l rs:List PR} {S:B8->Nat} {ps:P9} {tb n base:Nat}
theorem z93.alloc (h:z93 w base rv rs tb n ps S l v wr)(o:Obj):z93 w base rv rs tb n ps S l v (wr.alloc o):=⟨h.row.alloc o,h.below.alloc h.below.size _⟩
theorem z93.append {v':Value}{w5:W8}(h:z93 w base rv rs tb n ps S l v wr){r:PR}(aI:w5.ownsRow w.heap.size 123 3 v' (l.length+1) (l.flatMap PR.cells++r.cells))(hg:wr.grownBy w5 v.ownBlock):z93 w base rv rs tb n ps S (l++[r]) v' w5:=by
 have hs:=h.below.size;have hb:∀ g,g<w.heap.size->w5.heap[g]?=wr.heap[g]?:=λ g jo=>hg.block g (by omega) (λ e=>by have:=(h.row.lt g e.symm).1;omega)
 refine⟨?_,h.below.trans ⟨hg.os,hg.tape,hg.output,hg.size,hb⟩⟩;simpa using aI
def yds (w:W8)(base:Nat)(rs:List PR)(S:B8->Nat)(s:Nat)(en:Ending)(w':W8):Prop:=
 ∃ a c,en=.returned (.slice a (rs.filter (qJ S s)).length c)/\Below w.heap.size w w'/\aD w' base (.slice a (rs.filter (qJ S s)).length c) (rs.filter (qJ S s))
theorem z30 (w:W8)(base:Nat)(ar:O8)(cr:Nat)(rs:List PR)(tb n:Nat)(ps:P9)(S:B8->Nat)(s:Nat)(h:aD w base (.slice ar rs.length cr) rs)(hb:base<=w.heap.size)(ht:qQ Tryz.prog 9 w tb n (stV ps S))(hl:rs.length<=1000)(eN:∀ r∈rs,r.R.pd.size<=800/\(zV ps r.R.pd).isSome=true):
  Calls Tryz.prog 61 #[.slice ar rs.length cr,.map (some tb),.int .i64 (s:Nat)] w (yds w base rs S s):=by
 obtain⟨i0,hi,dK,aj,bZ⟩:=info_parts zsl;have H:=zC h;have HT:=zC ht;have fR:=zC eN;have h0:z93 w base (.slice ar rs.length cr) rs tb n ps S [] (.slice none 0 0) w:=⟨World.ownsRow_nil _ _ _ _,Below.refl _ _⟩;have H0:=zC h0;have fZ:=ht.lt;clear h ht eN h0;have uk:=zht;go_enter Tryz.func61,Tryz.ntmps61;go_wp2_with fail
 go_loopg [7,12] rs.length (λ gg v i wr=>∃ k:Nat,k<=rs.length/\gg=rs.length-k/\i=.int .i64 k/\z93 w base (.slice ar rs.length cr) rs tb n ps S ((rs.take k).filter (qJ S s)) v wr)
 exact⟨0,Nat.zero_le _,rfl,rfl,zA H0⟩
 case round=>
  clear H0;obtain⟨k,hk,fM,rfl,hinv⟩:=hrel;obtain⟨a1,kN,rfl⟩:=zE hinv.row
  by_cases aN:k<rs.length
  ·obtain⟨r,eI⟩:∃ r,r=rs[k]:=⟨_,rfl⟩;have bC:r∈rs:=(by rw[eI];exact List.getElem_mem aN);have ak:=(zA H).each r bC;obtain⟨ah,ch,fs⟩:=zE ak.hd;obtain⟨ab,cb,fi⟩:=zE ak.bo.row;obtain⟨g,cap,hv,iC,dp,dG,dx,hc⟩:=vE zq4 (zA H).row k aN;injection hv with h1 h2 h3
   subst h1 h3;have ei:=hinv.below;have e0:wr.cell? ⟨g,k*3,none⟩=some (.string r.R.pd):=(by rw[eI];exact (ei.cell (p:=⟨g,k*3,none⟩) dp).trans (hc 0 (by omega)));have e1:wr.cell? ⟨g,k*3+1,none⟩=some (.slice ah r.R.ts.length ch):=(by rw[<-fs,eI];exact (ei.cell (p:=⟨g,k*3+1,none⟩) dp).trans (hc 1 (by omega)));have e2:wr.cell? ⟨g,k*3+2,none⟩=some (.slice ab r.bs.length cb):=(by rw[<-fi,eI];exact (ei.cell (p:=⟨g,k*3+2,none⟩) dp).trans (hc 2 (by omega)));have gW:(k:Int)<rs.length:=(by omega);have hI:=hinv.alloc (.cells #[.string r.R.pd,.slice ah r.R.ts.length ch,.slice ab r.bs.length cb] 123);have nE:qQ Tryz.prog 9 (wr.alloc (.cells #[.string r.R.pd,.slice ah r.R.ts.length ch,.slice ab r.bs.length cb] 123)) tb n (stV ps S):=(zA HT).block (hI.below.block tb fZ);obtain⟨mJ,gj⟩:=zA fR r bC;have du:r.R.pd.size<=maxLen:=(by unfold maxLen;omega);obtain⟨m,hm⟩:=Option.isSome_iff_exists.1 gj;have hu:(stV ps S r.R.pd).getD (.agg #[.string { data:=#[] },.int .i64 0,.int .i64 0])=.agg #[.string r.R.pd,.int .i64 (S r.R.pd),.int .i64 m]:=(by unfold stV;rw[hm];rfl);have lE:((rs.take k).filter (qJ S s)).length<=1000:=Nat.le_trans (List.length_filter_le _ _) (by simp;omega);have ru:r=⟨r.R,.slice ah r.R.ts.length ch,r.bs,.slice ab r.bs.length cb⟩:=(by rw[<-fs,<-fi]);have Iz:=zC ru;have fU:=zC (zhd (f:=qJ S s) aN);have lR:=zC eI;have sU:=hinv.below.size;clear hc hinv ak eI bC ei h2 gj hm fs fi ru
   cases hq:qJ S s r with
   | true=>
    have AE:(S r.R.pd:Int)=s:=(by have:S r.R.pd=s:=(by simpa[qJ] using hq);omega);have HQ:=zC hq;have bH:=(hI.alloc (.cells #[.string r.R.pd,.slice ah r.R.ts.length ch,.slice ab r.bs.length cb] 123)).row;have HI:=zC (hI.alloc (.cells #[.string r.R.pd,.slice ah r.R.ts.length ch,.slice ab r.bs.length cb] 123));clear hI hq
    go_wp2_with (first
     | (at_lookup;refine zcv _ rfl _ _ 73 rfl 9 185 Tryz.underlying9 Tryz.underlying73 (Tryz.zeroValue185 _) tb n (stV ps S) rfl nE r.R.pd rfl du _ hu ?_)
     | (at_builtin;refine wpList_append_own _ rfl _ _ 75 rfl w.heap.size 123 i0 _ 3 64 Tryz.underlying75 hi dK aj bZ rfl (by decide) _ _ _ rfl bH ⟨wr.heap.size+1,0,none⟩ 1 1 (PR.mk r.R (.slice ah r.R.ts.length ch) r.bs (.slice ab r.bs.length cb)).cells rfl rfl (z4m wr _ (PR.mk r.R (.slice ah r.R.ts.length ch) r.bs (.slice ab r.bs.length cb))) (yap _ _ _ _ _ _ _ _) (by unfold maxLen;omega) (by omega) (by simp;omega) ?_;intro v5 w5 ad dz aw;clear aw;obtain⟨a5,gz,rfl⟩:=zE ad;have mj:=zC ((zA HI).append ad dz);clear ad dz))
    go_roundg (rs.length-(k+1))
    case measure=>omega
    case rel=>
     refine⟨k+1,by omega,rfl,by go_num,?_⟩;rw[zA fU,<-zA lR,zA HQ,if_pos rfl,zA Iz];exact zA mj
   | false=>
    have AE:¬ ((S r.R.pd:Int)=s):=(by have:S r.R.pd≠s:=(by simpa[qJ] using hq);omega);have HQ:=zC hq;have HI:=zC hI;clear hI hq;go_wp2_with (at_lookup;refine zcv _ rfl _ _ 73 rfl 9 185 Tryz.underlying9 Tryz.underlying73 (Tryz.zeroValue185 _) tb n (stV ps S) rfl nE r.R.pd rfl du _ hu ?_);go_roundg (rs.length-(k+1))
    case measure=>omega
    case rel=>
     refine⟨k+1,by omega,rfl,by go_num,?_⟩;rw[zA fU,<-zA lR,zA HQ,if_neg (by decide),List.append_nil];exact zA HI
  ·have e:(rs.take k).filter (qJ S s)=rs.filter (qJ S s):=(by rw[List.take_of_length_le (by omega)]);rw[e] at hinv ⊢;have HI:=zC hinv;clear hinv;go_wp2_with fail;go_ret;have hI:=zA HI
   exact⟨_,_,rfl,hI.below,⟨zI hI.row hb,λ r hr=>by
    have ak:=(zA H).each r (List.mem_filter.1 hr).1
    exact⟨zG ak.hd hI.below (λ g e=>(ak.hd.lt g e).2),ak.bo.below hI.below,ak.eq⟩⟩⟩
end
end Go.Proofs.YtldkpahaocjdpaaGreat
