/-
  Plain: what the steps say; when a witness is right, as the program asks it.
-/
import Derived.Test.YtldkpahaocjdpaaGreatS38
set_option maxHeartbeats 16000000
set_option maxRecDepth 1000000
namespace Go.Proofs.YtldkpahaocjdpaaGreat
section
def saidK (st:List aM):List (Th × Nat):=(st.map (·.t)).zipIdx
def DenyP (Sp:B8->Nat)(k:Nat)(st:List aM):Prop:=∀ s∈st,∀ a∈negOf s.r.bs,aC s.e a∉st.map (·.t)/\Sp a.p<k
def ClosP (Sp:B8->Nat)(k:Nat)(rp:List PR)(st:List aM):Prop:=∀ r∈rp,Sp r.R.pd<k->∀ e∈pways (saidK st) (negOf r.bs) (posOf r.bs) [],aC e (aS r)∈st.map (·.t)
def ev (rp:List PR)(Sp:B8->Nat)(m:Nat)(b:List Nat)(k:Nat)(st:List aM):Prop:=
 ∃ ns,fromP (posL rp) b=some (k,ns)/\k<=m/\stepsP rp ns []=some st/\(st.map (·.t)).Nodup/\DenyP Sp k st/\ClosP Sp k rp st
theorem saidK_keys (st:List aM):(saidK st).map (·.1)=st.map (·.t):=by unfold saidK;rw[List.zipIdx_map_fst]
theorem look_keys {K:List (Th × Nat)}{t:Th}:(ay K t).isSome=true↔t∈K.map (·.1):=by
 constructor
 ·intro h;obtain⟨n,hn⟩:=Option.isSome_iff_exists.1 h;exact List.mem_map.2 ⟨_,bq hn,rfl⟩
 ·intro h
  cases hk:ay K t with
  | some n=>rfl
  | none=>
   obtain⟨p,hp,e⟩:=List.mem_map.1 h;exact absurd (show (t,p.2)∈K by rw[<-e];exact hp) (lookN_none hk _)
end
section
structure kR (ps:P9)(rp:List PR)(s:aM):Prop where
 rule:s.r∈rp
 rI:WayG ps s.r s.e
 th:s.t=aC s.e (aS s.r)
variable {rp:List PR} {ps:P9}
theorem kR.ti {s:aM}(h:kR ps rp s):eX ps s.t:=by rw[h.th];exact h.rI.hd
theorem take_way (hR:∀ r∈rp,bu ps r){st:List aM}(hs:∀ s∈st,kR ps rp s){R:PR}(hr:R∈rp){fr:List Nat}{e:aB}(h:takeP (posOf R.bs) fr (st.map (·.t)) []=some e):WayG ps R e:=
 (hR R hr).rI (K:=(st.map (·.t)).map λ t=>(t,0)) (λ p hp=>by
  obtain⟨t,ht,rfl⟩:=List.mem_map.1 hp;obtain⟨s,iw,rfl⟩:=List.mem_map.1 ht
  exact (hs s iw).ti) (take_matches _ _ _ _ _ h)
theorem steps_good {ps:P9}{rp:List PR}(hR:∀ r∈rp,bu ps r):∀ (ns:List (Nat × List Nat)) (st fQ:List aM),(∀ s∈st,kR ps rp s)->stepsP rp ns st=some fQ->∀ s∈fQ,kR ps rp s
 | [],st,fQ,hs,h=>by
  obtain rfl:=Option.some.inj h;exact hs
 | x::q,st,fQ,hs,h=>by
  rw[stepsP] at h
  split at h
  ·cases h
  ·rename_i R hx
   split at h
   ·cases h
   ·rename_i e he;refine steps_good hR q _ fQ (λ s iw=>?_) h;rcases List.mem_append.1 iw with iw | iw
    ·exact hs s iw
    ·rw[List.mem_singleton.1 iw];exact⟨List.mem_of_getElem? hx,take_way hR hs (List.mem_of_getElem? hx) he,rfl⟩
end
section
def pmL:List PAtm->List Th->aB->Option aB
 | [],[],e=>some e
 | a::r,t::q,e=>match aH e a t with
  | some e'=>pmL r q e'
  | none=>none
 | [],_::_,_=>none
 | _::_,[],_=>none
theorem mem_pmL {K:List (Th × Nat)}:∀ {pos:List PAtm} {e0 e:aB},e∈pmatches K pos e0↔∃ ts,pmL pos ts e0=some e/\∀ t∈ts,t∈K.map (·.1)
 | [],e0,e=>by
  rw[pmatches,List.mem_singleton]
  constructor
  ·rintro rfl;exact⟨[],rfl,by simp⟩
  ·rintro⟨ts,h,_⟩
   cases ts with
   | nil=>exact (Option.some.inj h).symm
   | cons t q=>cases h
 | a::r,e0,e=>by
  rw[pmatches,List.mem_flatMap]
  constructor
  ·rintro⟨p,hp,h⟩
   cases hm:aH e0 a p.1 with
   | none=>rw[hm] at h;cases h
   | some e'=>
    rw[hm] at h;obtain⟨ts,h1,h2⟩:=mem_pmL.1 h;refine⟨p.1::ts,by rw[pmL,hm];exact h1,λ t ht=>?_⟩;rcases List.mem_cons.1 ht with rfl | ht
    ·exact List.mem_map_of_mem hp
    ·exact h2 t ht
  ·rintro⟨ts,h,jh⟩
   cases ts with
   | nil=>cases h
   | cons t q=>
    obtain⟨p,hp,rfl⟩:=List.mem_map.1 (jh t List.mem_cons_self);refine⟨p,hp,?_⟩;rw[pmL] at h
    cases hm:aH e0 a p.1 with
    | none=>rw[hm] at h;cases h
    | some e'=>
     rw[hm] at h;exact mem_pmL.2 ⟨q,h,λ t ht=>jh t (List.mem_cons_of_mem _ ht)⟩
theorem pmL_pred:∀ {pos:List PAtm} {ts:List Th} {e0 e:aB},pmL pos ts e0=some e->∀ t∈ts,∃ a∈pos,a.p=t.p
 | [],ts,e0,e,h,t,ht=>by
  cases ts with
  | nil=>cases ht
  | cons _ _=>cases h
 | a::r,ts,e0,e,h,t,ht=>by
  cases ts with
  | nil=>cases h
  | cons u q=>
   rw[pmL] at h
   cases hm:aH e0 a u with
   | none=>rw[hm] at h;cases h
   | some e'=>
    rw[hm] at h;rcases List.mem_cons.1 ht with rfl | ht
    ·refine⟨a,List.mem_cons_self,?_⟩;unfold aH at hm
     split at hm
     ·rename_i he;exact aN.1 he
     ·cases hm
    ·obtain⟨b,hb,e⟩:=pmL_pred h t ht;exact⟨b,List.mem_cons_of_mem _ hb,e⟩
theorem takeP_pmL:∀ {pos:List PAtm} {fr:List Nat} {T:List Th} {e0 e:aB},takeP pos fr T e0=some e->∃ ts,pmL pos ts e0=some e/\∀ t∈ts,t∈T
 | [],fr,T,e0,e,h=>⟨[],h,by simp⟩
 | a::r,fr,T,e0,e,h=>by
  rw[takeP_cons] at h
  cases fr with
  | nil=>cases h
  | cons x q=>
   simp only at h
   cases hx:T[x]? with
   | none=>rw[hx] at h;cases h
   | some t=>
    rw[hx] at h;simp only at h
    cases hp:aH e0 a t with
    | none=>rw[hp] at h;cases h
    | some e'=>
     rw[hp] at h;obtain⟨ts,h1,h2⟩:=takeP_pmL h;refine⟨t::ts,by rw[pmL,hp];exact h1,λ u hu=>?_⟩;rcases List.mem_cons.1 hu with rfl | hu
     ·exact List.mem_of_getElem? hx
     ·exact h2 u hu
variable {K:List (Th × Nat)}
theorem mem_pw {neg pos:List PAtm}{e0 e:aB}:e∈pways K neg pos e0↔(∃ ts,pmL pos ts e0=some e/\∀ t∈ts,t∈K.map (·.1))/\∀ x∈neg,aC e x∉K.map (·.1):=by
 unfold pways;rw[List.mem_filter,mem_pmL];refine and_congr Iff.rfl ?_;unfold deniedB;rw[Bool.not_eq_true',List.any_eq_false];refine forall_congr' λ x=>forall_congr' λ _=>?_
 rw[look_keys]
inductive Built (rs:List PR)(S:B8->Nat):Nat->List (Th × Nat)->Prop
 | nil:Built rs S 0 []
 | add {s:Nat} {K L:List (Th × Nat)}:Built rs S s K->(∀ p∈L,NewB (rs.filter (bH S s)) K p.1)->Built rs S s (K++L)
 | up {s:Nat} {K:List (Th × Nat)}:Built rs S s K->(∀ t,¬ NewB (rs.filter (bH S s)) K t)->Built rs S (s+1) K
variable {r:Option (List (Th × Nat))} {limit s:Nat} {S:B8->Nat} {rs:List PR}
theorem climb_built {h:Nat}(hc:PClimb (rs.filter (bH S s)) limit h K r)(hb:Built rs S s K):∀ K',r=some K'->Built rs S (s+1) K':=by
 induction hc with
 | fh _ _ _ _=>intro K' h;cases h
 | done hn=>
  intro K' h;obtain rfl:=Option.some.inj h;exact .up hb hn
 | more _ _ _ hL _ _ ih=>exact ih (.add hb (λ p hp=>(hL p.1).1 ⟨p.2,hp⟩))
theorem strat_built {count:Nat}(hc:PStrat rs S limit count s K r)(hb:Built rs S s K):∀ K',r=some K'->∃ m,count<=m/\Built rs S m K':=by
 induction hc with
 | ends h=>
  intro K' e;obtain rfl:=Option.some.inj e;exact⟨_,h,hb⟩
 | fs _ _=>intro K' e;cases e
 | next _ hc _ ih=>exact ih (climb_built hc hb _ rfl)
variable {R:PR}
theorem keeps_pos (hk:KeepsN S R.R)(cK:R.bs.map (·.1)=R.R.body):∀ a∈posOf R.bs,S a.p<=S R.R.pd:=λ a ha=>by
 obtain⟨x,hx,hn,rfl⟩:=mem_pos.1 ha;have:=hk x.1 (by rw[<-cK];exact List.mem_map_of_mem hx);simp only at *;omega
theorem keeps_neg (hk:KeepsN S R.R)(cK:R.bs.map (·.1)=R.R.body):∀ a∈negOf R.bs,S a.p<S R.R.pd:=λ a ha=>by
 obtain⟨x,hx,hn,rfl⟩:=mem_neg.1 ha;have:=hk x.1 (by rw[<-cK];exact List.mem_map_of_mem hx);rw[hn] at this;simp only[if_true] at *;omega
def NodesB (rp:List PR)(st:List aM):Prop:=∀ (j:Nat) (h:j<st.length),st[j].r∈rp/\st[j].t=aC st[j].e (aS st[j].r)/\∃ ts,pmL (posOf st[j].r.bs) ts []=some st[j].e/\∀ t∈ts,t∈(st.take j).map (·.t)
theorem steps_nodes {rp:List PR}:∀ (ns:List (Nat × List Nat)) (st fQ:List aM),NodesB rp st->stepsP rp ns st=some fQ->NodesB rp fQ
 | [],st,fQ,hs,h=>by obtain rfl:=Option.some.inj h;exact hs
 | x::q,st,fQ,hs,h=>by
  rw[stepsP] at h
  split at h
  ·cases h
  ·rename_i R hx
   split at h
   ·cases h
   ·rename_i e he;refine steps_nodes q _ fQ (λ j hj=>?_) h;rw[List.length_append,List.length_singleton] at hj
    by_cases iq:j<st.length
    ·obtain⟨h1,h2,h3⟩:=hs j iq;rw[List.getElem_append_left iq,List.take_append_of_le_length (by omega)];exact⟨h1,h2,h3⟩
    ·have e1:j=st.length:=(by omega);subst e1;rw[List.getElem_append_right (by omega)];simp only[Nat.sub_self,List.getElem_cons_zero,List.take_left'];obtain⟨ts,h1,h2⟩:=takeP_pmL he;exact⟨List.mem_of_getElem? hx,trivial,ts,h1,h2⟩
variable {st:List aM} {k:Nat} {rp:List PR}
theorem built_right (hv:∀ r∈rp,KeepsN S r.R)(cK:∀ r∈rp,r.bs.map (·.1)=r.R.body)(hN:NodesB rp st)(hD:DenyP S k st)(hC:ClosP S k rp st)(hb:Built rp S s K):(∀ t∈K.map (·.1),S t.p<=s)/\(∀ t∈K.map (·.1),S t.p<k->t∈st.map (·.t))/\(∀ t∈st.map (·.t),S t.p<s->t∈K.map (·.1)):=by
 induction hb with
 | nil=>exact⟨by simp,by simp,λ t _ h=>by omega⟩
 | @add s K L _ hL ih=>
  obtain⟨i0,i1,i2⟩:=ih;have eS:∀ t∈L.map (·.1),S t.p=s/\(S t.p<k->t∈st.map (·.t)):=λ t ht=>by
   obtain⟨p,hp,rfl⟩:=List.mem_map.1 ht;obtain⟨_,r,hr,e,he,hf⟩:=hL p hp;obtain⟨ey,fj⟩:=List.mem_filter.1 hr;have hs:S r.R.pd=s:=(by unfold bH at fj;simpa using fj);have hp:S p.1.p=s:=(by rw[<-hf];exact hs);refine⟨hp,λ hk=>?_⟩;obtain⟨⟨ts,h1,h2⟩,h3⟩:=mem_pw.1 he;have vI:S r.R.pd<k:=(by omega);have:=hC r ey vI e (mem_pw.2 ⟨⟨ts,h1,λ t ht=>?_⟩,λ x hx hm=>?_⟩)
   ·rw[<-hf];exact this
   ·rw[saidK_keys];obtain⟨a,ha,e⟩:=pmL_pred h1 t ht;have:=keeps_pos (hv r ey) (cK r ey) a ha;exact i1 t (h2 t ht) (by rw[<-e];omega)
   ·rw[saidK_keys] at hm;have:=keeps_neg (hv r ey) (cK r ey) x hx;exact h3 x hx (i2 _ hm (by show S x.p<s;omega))
  refine⟨λ t ht=>?_,λ t ht hk=>?_,λ t ht hs=>?_⟩
  ·rw[List.map_append] at ht;rcases List.mem_append.1 ht with ht | ht
   ·exact i0 t ht
   ·exact Nat.le_of_eq (eS t ht).1
  ·rw[List.map_append] at ht;rcases List.mem_append.1 ht with ht | ht
   ·exact i1 t ht hk
   ·exact (eS t ht).2 hk
  ·rw[List.map_append];exact List.mem_append_left _ (i2 t ht hs)
 | @up s K _ hn ih=>
  obtain⟨i0,i1,i2⟩:=ih;refine⟨λ t ht=>Nat.le_succ_of_le (i0 t ht),i1,λ t ht hs=>?_⟩;have all:∀ (j:Nat) (hj:j<st.length),S st[j].t.p<s+1->st[j].t∈K.map (·.1):=by
   intro j
   induction j using Nat.strongRecOn with
   | _ j ihj=>
    intro hj hsj
    by_cases bS:S st[j].t.p<s
    ·exact i2 _ (List.mem_map_of_mem (List.getElem_mem hj)) bS
    ·obtain⟨hr,sR,ts,h1,h2⟩:=hN j hj;have eR:st[j].t.p=st[j].r.R.pd:=(by rw[sR];rfl);have iw:S st[j].r.R.pd=s:=by rw[<-eR];omega
     by_cases ak:st[j].t∈K.map (·.1)
     ·exact ak
     ·exfalso
      refine hn st[j].t ⟨?_,st[j].r,List.mem_filter.2 ⟨hr,by unfold bH;simpa using iw⟩,st[j].e,mem_pw.2 ⟨⟨ts,h1,λ t ht=>?_⟩,λ x hx hm=>?_⟩,sR.symm⟩
      ·cases hl:ay K st[j].t with
       | none=>rfl
       | some n=>exact absurd (look_keys.1 (by rw[hl];rfl)) ak
      ·obtain⟨a,ha,e⟩:=pmL_pred h1 t ht;have h3:=keeps_pos (hv _ hr) (cK _ hr) a ha;obtain⟨x,hx,rfl⟩:=List.mem_map.1 (h2 t ht);obtain⟨i,hi,rfl⟩:=List.getElem_of_mem hx;rw[List.length_take] at hi;rw[List.getElem_take] at e ⊢;exact ihj i (by omega) (by omega) (by rw[<-e];omega)
      ·have hd:=hD st[j] (List.getElem_mem hj) x hx;exact hd.1 (i1 _ hm (by show S x.p<k;exact hd.2))
  obtain⟨x,hx,rfl⟩:=List.mem_map.1 ht;obtain⟨j,hj,rfl⟩:=List.getElem_of_mem hx;exact all j hj hs
theorem right_sound {ps:P9}(hv:ValidN (rp.map (·.R)) S)(cK:∀ r∈rp,r.bs.map (·.1)=r.R.body)(hR:∀ r∈rp,bu ps r){m:Nat}(hm:IsCount ps S m){b:List Nat}(hr:ev rp S m b k st)(hK:PStrat rp S limit m 0 [] (some K)):(∀ t∈st.map (·.t),t∈K.map (·.1))/\∀ t∈K.map (·.1),S t.p<k->t∈st.map (·.t):=by
 obtain⟨ns,_,_,dj,_,hD,hC⟩:=hr;obtain⟨n,hn,hb⟩:=strat_built hK .nil K rfl;have hN:=steps_nodes ns [] st (λ j hj=>by simp at hj) dj;obtain⟨_,h1,h2⟩:=built_right (λ r hr=>hv r.R (List.mem_map_of_mem hr)) cK hN hD hC hb;refine⟨λ t ht=>h2 t ht ?_,h1⟩;obtain⟨s,hs,rfl⟩:=List.mem_map.1 ht;have hg:=steps_good hR ns [] st (by simp) dj s hs;have:=hm.1 s.t.p (by have:=hg.ti.num;rw[show s.t.p=s.t.1 from rfl,this];rfl);omega
end
section
open Go.RowKit
attribute [local go_sem ↓] to_stLoad to_stStore to_stAlloc to_stBuild to_stOne stepV_cells
attribute [local go_sem] run_stAlloc run_stOne
theorem infoStepZ:(Tryz.prog.info? 352).map (λ i=>(i.zero,i.size,i.bytes))=some (some (stepV zeroS),33,536):=by kernel_rfl
theorem step_mem (s:aM)(h:s.r.hv.oneCell'=true/\s.r.bv.oneCell'=true):∀ u∈stepCells s,u.oneCell'=true:=by
 have:=step_one s h;rw[Array.all_eq_true_iff_forall_mem] at this;exact λ u hu=>this u (by simpa using hu)
theorem stepsP_at {rp:List PR}{ns:List (Nat × List Nat)}{st:List aM}{k:Nat}(h:k<ns.length)(hr:ns[k].1<rp.length):stepsP rp (ns.drop k) st=match takeP (posOf rp[ns[k].1].bs) ns[k].2 (st.map (·.t)) [] with | none=>none | some e=>stepsP rp (ns.drop (k+1)) (st++[takeS rp[ns[k].1] (some e)]):=by
 rw[List.drop_eq_getElem_cons h,stepsP,List.getElem?_eq_getElem hr];rfl
structure fT (w:W8)(K:Nat)(nv v:Value)(st:List aM)(wr:W8):Prop where
 kp:Below w.heap.size w wr
 box:wr.heap[w.heap.size]?=some (.cells #[.int .i64 (K:Nat),nv] 93 (0,0))
 st:wr.ownsRow (w.heap.size+1) 352 33 v st.length (st.flatMap stepCells)
variable {wr w:W8} {nv v:Value} {K:Nat}
theorem fT.lt {st:List aM}(h:fT w K nv v st wr):w.heap.size<wr.heap.size:=(Array.getElem?_eq_some_iff.1 h.box).1
theorem fT.below {st:List aM}{w':W8}(h:fT w K nv v st wr)(k:Below wr.heap.size wr w'):fT w K nv v st w':=
 ⟨h.kp.trans (k.mono h.kp.size),(k.block _ h.lt).trans h.box,own_below h.st k (λ g e=>(h.st.lt g e).2)⟩
theorem fT.add {wX W w5:W8}{v':Value}{st:List aM}{s:aM}(h:fT w K nv v st wX)(hW:Below wX.heap.size wX W)(hg:W.grownBy w5 v.ownBlock)(aI:w5.ownsRow (w.heap.size+1) 352 33 v' (st.length+1) (st.flatMap stepCells++stepCells s)):fT w K nv v' (st++[s]) w5:=by
 have hB:=h.below hW;have k5:Kept v.ownBlock.toList W w5:=Kept.eM hg;have aZ:∀ x∈v.ownBlock.toList,w.heap.size+1<=x:=λ x hx=>(hB.st.lt x (by simpa using hx)).1
 exact⟨below_kept hB.kp k5 hB.kp.size (λ b hm=>by have:=aZ b hm;omega),(k5.block _ hB.lt (λ hm=>by have:=aZ _ hm;omega)).trans hB.box,by rw[List.length_append,List.flatMap_append];simpa using aI⟩
structure StepsArg (w:W8)(base:Nat)(rs:List PR)(rv:Value)(aK:List ND)(nv:Value):Prop where
 rules:bQ w base rv rs
 l3:∀ r∈rs,r.bs.length<=3
 t4:∀ r∈rs,∀ x∈r.bs,x.1.ts.length<=4
 h4:∀ r∈rs,r.R.ts.length<=4
 nodes:bN w 0 nv aK
 fG:aK.length<=50
 ix:∀ x∈aK,∃ h:x.r<rs.length,x.fr.length=(posOf rs[x.r].bs).length
def StepsPost (w:W8)(o:Option (List aM))(e:Ending)(w':W8):Prop:=Below w.heap.size w w'/\∃ v,e=.returned (.tuple #[v,.bool o.isSome])/\StepsIn w' (w.heap.size+1) v (o.getD [])
theorem steps_any (w:W8)(base K:Nat)(rs:List PR)(ar:O8)(cr:Nat)(aK:List ND)(an:O8)(cn:Nat)(h:StepsArg w base rs (.slice ar rs.length cr) aK (.slice an aK.length cn)):
  Calls Tryz.prog 178 #[.agg #[.int .i64 (K:Nat),.slice an aK.length cn],.slice ar rs.length cr] w (StepsPost w (stepsP rs (aK.map dW) [])):=by
 have mL:=own_max h.nodes.row;have JR:=own_max h.rules.row;unfold maxLen at mL JR;have H:=hide h;have gL:=h.fG;obtain⟨i0,Cw,dD,cD,cd⟩:=info_parts infoStepZ;clear h;go_enter Tryz.func178,Tryz.ntmps178;go_upto_region 2 with fail;generalize hw0:World.alloc w _=w0;have h0:fT w K (.slice an aK.length cn) (.slice none 0 0) [] w0:=by
  rw[<-hw0];exact⟨B9.alloc L9 _,heap_alloc_new w _,World.ownsRow_nil _ _ _ _⟩
 clear hw0;have c1:=(block_cells h0.box 1).1;simp only[List.getElem?_toArray,List.getElem?_cons_zero,List.getElem?_cons_succ] at c1;have jH:=hide h0;clear h0;go_wp2_with fail;clear c1;generalize vA:stepsP rs (aK.map dW) []=T at *;have xi:=hide vA;clear vA
 go_loopg [6,14] aK.length (λ gg v ii wr=>∃ (k:Nat) (st:List aM),k<=aK.length/\gg=aK.length-k/\ii=.int .i64 k/\fT w K (.slice an aK.length cn) v st wr/\st.length=k/\stepsP rs ((aK.map dW).drop k) st=T)
 exact⟨0,[],Nat.zero_le _,rfl,rfl,ad jH,rfl,ad xi⟩
 case round=>
  clear jH xi;obtain⟨k,st,hk,fK,rfl,ak,lO,bh⟩:=hrel;obtain⟨av,cv,rfl⟩:=own_slice ak.st;have bp:=hide ak;have rX:=hide lO;have gR:=hide bh;have lP:=ak.lt
  by_cases aR:k<aK.length
  ·have gM:(k:Int)<aK.length:=(by omega);have dC:=(ad H).nodes.below ak.kp;obtain⟨gn,cn',hv,-,dn,dB,dx,hc⟩:=row_at ndCells_len dC.row k aR;injection hv with i1 i2 i3
   subst i1 i3;have bE:=List.getElem_mem aR;have lg:=dC.each _ bE;obtain⟨af,cf,Az⟩:=own_slice lg;have e0:=hc 0 (by omega);have e1:=hc 1 (by omega);simp only[ndCells,List.getElem?_cons_zero,List.getElem?_cons_succ] at e0 e1;rw[Az] at e1 lg;obtain⟨rB,F7⟩:=(ad H).ix _ bE;have dj:=stepsP_at (rp:=rs) (ns:=aK.map dW) (st:=st) (k:=k) (by simpa using aR) (by simpa[dW] using rB);simp only[List.getElem_map,dW] at dj;rw[dj] at bh;have HT:=hide bh;have eI:=(ad H).rules.row;have gI:=((ad H).rules.each _ (List.getElem_mem rB));have eT:=gI.one;have h3:=(ad H).l3 _ (List.getElem_mem rB);have zl:=(ad H).t4 _ (List.getElem_mem rB);have vF:=(ad H).h4 _ (List.getElem_mem rB);obtain⟨gr,cr',nQ,-,um,hnr,Ao,fV⟩:=row_at (f:=PR.cells) (n:=3) (λ _=>rfl) (own_below eI ak.kp (λ g e=>(eI.lt g e).2)) aK[k].r rB;injection nQ with i1 i2 i3
   subst i1 i3;have r0:=fV 0 (by omega);have r1:=fV 1 (by omega);have r2:=fV 2 (by omega);simp only[PR.cells,List.getElem?_cons_zero,List.getElem?_cons_succ,Nat.add_zero] at r0 r1 r2 e0;obtain⟨ah,ch,fF⟩:=own_slice gI.hd;obtain⟨ab,cb,fq⟩:=own_slice gI.bo.row;rw[fF] at r1;rw[fq] at r2;have J8:((aK[k].r:Nat):Int)<rs.length:=(by omega);have na:=hide eT;have AY:=hide (And.intro fF fq);have gh:=hide (λ (W:W8) (hW:Below wr.heap.size wr W)=>ptake_any W base rs[aK[k].r] aK[k].fr af cf st av cv ⟨⟨own_below gI.hd (ak.kp.trans (hW.mono ak.kp.size)) (λ g e=>(gI.hd.lt g e).2),gI.bo.below (ak.kp.trans (hW.mono ak.kp.size)),gI.eq⟩,h3,zl,vF,own_below (ax lg (Nat.zero_le _)) hW (λ g e=>(lg.lt g e).2),F7,⟨own_below (ax ak.st (Nat.zero_le _)) hW (λ g e=>(ak.st.lt g e).2)⟩⟩);rw[fF,fq] at gh;clear ak lO bh dC hc dj eI gI fV eT bE lg Az zl vF fF fq F7 h3 gR;generalize hR:rs[aK[k].r]=R at *;generalize hX:aK[k].r=x at *;generalize hFR:aK[k].fr=FR at *;generalize hO:takeP (posOf R.bs) FR (st.map (·.t)) []=O at *;have Bg:=hide hO;clear hO hFR hX hR;have pF:(takeS R O).r.hv.oneCell'=true/\(takeS R O).r.bv.oneCell'=true:=by
    cases O with
    | none=>exact⟨rfl,rfl⟩
    | some e=>exact ad na
   have sP:=λ (W:W8) (s:aM)=>stStore_new W s (takeS R O) pF
   go_upto_region 5 with fail;generalize hw3:World.alloc wr _=w3;have k3:Below wr.heap.size wr w3:=(by rw[<-hw3];exact B9.alloc L9 _);have y3:w3.heap[wr.heap.size]?=some (.cells #[.int .i64 (x:Nat),.slice af FR.length cf] 150 (0,0)):=(by rw[<-hw3];exact heap_alloc_new wr _);have s3:wr.heap.size<w3.heap.size:=(by rw[<-hw3];simp);clear hw3;have a0:=(block_cells y3 0).1;have a1:=(block_cells y3 1).1;simp only[List.getElem?_toArray,List.getElem?_cons_zero,List.getElem?_cons_succ] at a0 a1;have u0:=(k3.cell (p:=⟨gr,x*3,none⟩) um).trans r0;have u1:=(k3.cell (p:=⟨gr,x*3+1,none⟩) um).trans r1;have u2:=(k3.cell (p:=⟨gr,x*3+2,none⟩) um).trans r2;have HA:=hide (λ (W:W8) (hW:Below w3.heap.size w3 W)=>(show W.cell? ⟨wr.heap.size,0,none⟩=some (.int .i64 (x:Nat))/\W.cell? ⟨wr.heap.size,1,none⟩=some (.slice af FR.length cf)/\W.cell? ⟨gr,x*3,none⟩=some (.string R.R.pd)/\W.cell? ⟨gr,x*3+1,none⟩=some (.slice ah R.R.ts.length ch)/\W.cell? ⟨gr,x*3+2,none⟩=some (.slice ab R.bs.length cb) from ⟨(hW.cell (p:=⟨wr.heap.size,0,none⟩) (by show wr.heap.size<_;omega)).trans a0,(hW.cell (p:=⟨wr.heap.size,1,none⟩) (by show wr.heap.size<_;omega)).trans a1,(hW.cell (p:=⟨gr,x*3,none⟩) (by show gr<_;omega)).trans u0,(hW.cell (p:=⟨gr,x*3+1,none⟩) (by show gr<_;omega)).trans u1,(hW.cell (p:=⟨gr,x*3+2,none⟩) (by show gr<_;omega)).trans u2⟩));have xh:=hide (λ (W:W8) (hW:Below w3.heap.size w3 W)=>ad gh W (k3.trans (hW.mono k3.size)));have qy:=hide k3;clear e0 e1 r0 r1 r2 y3 k3
   go_cut [9,10] from 15 to 36 (λ p c wc=>∃ nb,p=.pointer (some ⟨nb,0,none⟩)/\c=.bool O.isSome/\gT wc nb (takeS R O)/\Below w3.heap.size w3 wc)
   case first=>
    go_region_held3 (λ w'=>w'.cell? ⟨wr.heap.size,0,none⟩=some (.int .i64 (x:Nat))/\w'.cell? ⟨wr.heap.size,1,none⟩=some (.slice af FR.length cf)/\w'.cell? ⟨gr,x*3,none⟩=some (.string R.R.pd)/\w'.cell? ⟨gr,x*3+1,none⟩=some (.slice ah R.R.ts.length ch)/\w'.cell? ⟨gr,x*3+2,none⟩=some (.slice ab R.bs.length cb)) ((refine ad HA _ ?_;first | exact bY | exact B9.drew | exact (B9.alloc L9 _).drew | exact bY.alloc bY.size _ | exact below_setRow bY L9 _)) ((go_at_call 222;refine (ad xh _ (by first | exact B9.drew | exact (B9.alloc L9 _).drew)).mono ?_;rintro en w4 ⟨bP,rfl⟩;have bY:Below w3.heap.size w3 w4:=(by first | exact below_of_drew bP | exact below_past (B9.alloc L9 _) bP);first | (have uM:=((gT.new w3 zeroS).below (below_of_drew bP)).store (takeS R O) pF) | skip))
    all_goals
     go_wp2_with fail;go_meet
     case rel=>first | exact⟨_,rfl,rfl,gT.new _ _,bY.alloc bY.size _⟩ | exact⟨_,rfl,rfl,setRow_heap _ _ _ _ _ _ ((gT.new w3 zeroS).below (below_of_drew bP)),below_setRow bY L9 _⟩
   case rest=>
    generalize wc=wA at *;obtain⟨nb,rfl,rfl,lx,gJ⟩:=hcut;have di:=((ad bp).below (ad qy)).below gJ;have qx:=hide di;clear HA gh xh a0 a1 u0 u1 u2
    cases hRR:O with
    | none=>
     have HE:=hide (show T=none by rw[<-ad HT,hRR]);clear di lx gJ hRR;go_wp2_with fail
     go_ret2
     rw[ad HE];exact⟨(ad qx).kp,_,rfl,⟨World.ownsRow_nil _ _ _ _⟩⟩
    | some e=>
     rw[hRR] at lx;have HE:=hide (show stepsP rs ((aK.map dW).drop (k+1)) (st++[takeS R (some e)])=T by rw[<-ad HT,hRR]);have tW:(takeS R (some e)).r.hv.oneCell'=true/\(takeS R (some e)).r.bv.oneCell'=true:=ad na;have qn:=lx.load;generalize takeS R (some e)=sn at *;have bz:=di.st.alloc (.cells (stepCells sn).toArray 352);have fu:=hide (World.news_of_block (heap_alloc_new wA (.cells (stepCells sn).toArray 352)));have lO:st.length<=50:=(by have:=ad rX;omega);have F3:=di.lt;clear di lx gJ hRR pF sP;go_wp2_with (at_builtin;refine wpList_append_own _ rfl _ _ 303 rfl (w.heap.size+1) 352 i0 _ 33 536 Tryz.underlying303 Cw dD cD cd rfl (by decide) _ _ _ rfl bz ⟨wA.heap.size,0,none⟩ 1 1 (stepCells sn) rfl rfl (ad fu) (step_mem sn tW) (by unfold maxLen;omega) (by omega) (by simp;omega) ?_;intro v5 w5 aL dh dr;clear dr;obtain⟨a5,gF,rfl⟩:=own_slice aL;have lX:=hide aL;have jq:=hide dh;clear aL dh);go_roundg (aK.length-(k+1));exact⟨k+1,st++[sn],by omega,rfl,by go_num,(ad qx).add (B9.alloc L9 _) (ad jq) (ad lX),by have:=ad rX;rw[List.length_append,List.length_singleton];omega,ad HE⟩;omega
  ·have gM:¬ (k:Int)<aK.length:=(by omega);have HE:=hide (show T=some st by rw[<-bh,List.drop_of_length_le (by simp;omega)];rfl);clear ak lO bh;go_wp2_with fail
   go_ret2
   rw[ad HE];exact⟨(ad bp).kp,_,rfl,⟨(ad bp).st⟩⟩
end
section
open Go.RowKit Go.Maps
attribute [local go_sem ↓] to_stLoad to_stStore to_stAlloc to_stBuild to_stOne stepV_cells to_tLoad
attribute [local go_sem] run_stAlloc
theorem saidK_snoc (st:List aM)(s:aM):saidK (st++[s])=saidK st++[(s.t,st.length)]:=by
 unfold saidK;rw[List.map_append,List.zipIdx_append,List.length_map];simp
def GatherPost (w:W8)(st:List aM)(e:Ending)(w':W8):Prop:=Below w.heap.size w w'/\((¬ (st.map (·.t)).Nodup/\e=.returned (.tuple #[.map none,.bool false]))\/((st.map (·.t)).Nodup/\e=.returned (.tuple #[.map (some w.heap.size),.bool true])/\aP w' w.heap.size (saidK st)))
theorem gather_any (w:W8)(base:Nat)(st:List aM)(a:O8)(c:Nat)(h:StepsIn w base (.slice a st.length c) st)(bZ:∀ s∈st,ThOk s.t)(h50:st.length<=50)(eT:∀ s∈st,s.r.hv.oneCell'=true/\s.r.bv.oneCell'=true):
  Calls Tryz.prog 179 #[.slice a st.length c] w (GatherPost w st):=by
 have hm:=own_max h.row;unfold maxLen at hm;have H:=hide h;have iS:=hide bZ;have na:=hide eT;clear h bZ eT;have jB:=@run_makeMap Tryz.prog;go_enter Tryz.func179,Tryz.ntmps179;go_upto_region 2 with fail;clear jB;have uC:=aP.made w;have j7:Below w.heap.size w (w.alloc (.map #[] 0)):=B9.alloc L9 _;generalize (w.alloc (.map #[] 0))=w0 at *;have jH:=hide (And.intro uC j7);clear uC j7;go_wp2_with fail
 go_loopg [12] st.length (λ gg ii wr=>∃ k:Nat,k<=st.length/\gg=st.length-k/\ii=.int .i64 k/\aP wr w.heap.size (saidK (st.take k))/\Below w.heap.size w wr)
 exact⟨0,Nat.zero_le _,rfl,rfl,(ad jH).1,(ad jH).2⟩
 case round=>
  clear jH;obtain⟨k,hk,fK,rfl,cA,cV⟩:=hrel;have kJ:=hide cA;have gC:=hide cV;have lP:=cA.lt
  by_cases aR:k<st.length
  ·have gM:(k:Int)<st.length:=(by omega);have aF:=own_below (ad H).row cV (λ g e=>((ad H).row.lt g e).2);obtain⟨g,cap,hv,-,dn,dB,dx,hc⟩:=step_at aF aR;injection hv with h1 h2 h3
   subst h1 h3;have bE:=List.getElem_mem aR;have hT:=ad iS _ bE;have tW:=ad na _ bE;have qn:=stepP_load hc
   have gh:=hide (show saidK (st.take (k+1))=saidK (st.take k)++[(st[k].t,k)] by
    rw[List.take_succ_eq_append_getElem aR,saidK_snoc,List.length_take,Nat.min_eq_left (by omega)])
   have hlen:(saidK (st.take k)).length<maxLen:=by
    unfold saidK maxLen;rw[List.length_zipIdx,List.length_map,List.length_take];omega
   have tg:=hide (show st.map (·.t)=(st.take k).map (·.t)++st[k].t::(st.drop (k+1)).map (·.t) by
    rw[<-List.map_cons,<-List.drop_eq_getElem_cons aR,<-List.map_append,List.take_append_drop])
   have sP:=λ (W:W8) (s:aM)=>stStore_new W s st[k] tW
   have lx:=gT.new wr st[k]
   have JT:=step_says (o:=0) (s:=st[k]) (w:=wr.alloc (.cells (stepCells st[k]).toArray 352)) (g:=wr.heap.size) (λ j hj=>by
    rw[Nat.zero_add,(block_cells lx j).1,List.getElem?_toArray])
   rw[Nat.zero_add] at JT;have CV:=(ad kJ).alloc (.cells (stepCells st[k]).toArray 352);have mu:=hide (cV.alloc cV.size (.cells (stepCells st[k]).toArray 352));generalize st[k]=s at *;clear cA cV aF hc bE lx kJ
   cases fW:ay (saidK (st.take k)) s.t with
   | some m=>
    have AV:=hide (show ¬ (st.map (·.t)).Nodup by
     intro dC;rw[ad tg,List.nodup_append] at dC;have h5:s.t∈(st.take k).map (·.t):=by
      rw[<-saidK_keys];exact look_keys.1 (by rw[fW];rfl)
     exact dC.2.2 _ h5 _ List.mem_cons_self rfl)
    go_wp2_with (at_lookup;refine wp_hlook _ rfl _ _ 82 rfl Tryz.underlying82 w.heap.size (saidK (st.take k)) rfl CV s.t rfl hT _ rfl true (by rw[fW];rfl) ?_)
    go_ret2
    exact⟨ad mu,.inl ⟨ad AV,rfl⟩⟩
   | none=>
    have iK:=hide fW;go_wp2_with (first | (at_lookup;refine wp_hlook _ rfl _ _ 82 rfl Tryz.underlying82 w.heap.size (saidK (st.take k)) rfl CV s.t rfl hT _ rfl false (by rw[ad iK];rfl) ?_) | (at_mapUpdate;refine wp_hput _ rfl _ _ _ 82 rfl Tryz.underlying82 w.heap.size (saidK (st.take k)) rfl CV hlen s.t k rfl rfl hT ?_;intro w3 ew ks;have mY:=hide ew;have tP:=hide ks;clear ew ks));go_roundg (st.length-(k+1))
    case measure=>omega
    case rel=>
     have g3:=(ad tP).grown;have kA:=ad mu;refine⟨k+1,by omega,rfl,by go_num,?_,⟨g3.os.trans kA.os,g3.tape.trans kA.tape,g3.output.trans kA.output,Nat.le_trans kA.size g3.size,λ j hj=>(g3.block j (by have:=kA.size;omega) (by simp;omega)).trans (kA.block j hj)⟩⟩;have h3:=ad mY;have sJ:putN (saidK (st.take k)) s.t k=saidK (st.take k)++[(s.t,k)]:=(by unfold putN;rw[ad iK];rfl);rw[sJ] at h3;rw[ad gh];exact h3
  ·have gM:¬ (k:Int)<st.length:=(by omega);have ma:st.take k=st:=List.take_of_length_le (by omega)
   have jw:=hide (show (st.map (·.t)).Nodup by
    have:=cA.nodup;rw[saidK_keys,ma] at this
    exact this)
   rw[ma] at kJ;clear cA cV ma;go_wp2_with fail
   go_ret2
   exact⟨ad gC,.inr ⟨ad jw,rfl,ad kJ⟩⟩
end
end Go.Proofs.YtldkpahaocjdpaaGreat
