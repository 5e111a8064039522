/-
  Plain: what the steps say; when a witness is right, as the program asks it.
-/
import Derived.Test.YtldkpahaocjdpaaGreatD36
set_option maxHeartbeats 16000000
set_option maxRecDepth 1000000
namespace Go.Proofs.YtldkpahaocjdpaaGreat
section
def j6 (st:List yL):List (Th × Nat):=(st.map (·.t)).zipIdx
def zw4 (Sp:B8->Nat)(k:Nat)(st:List yL):Prop:=∀ s∈st,∀ a∈xU s.r.bs,zT s.e a∉st.map (·.t)/\Sp a.p<k
def zzn (Sp:B8->Nat)(k:Nat)(rp:List PR)(st:List yL):Prop:=∀ r∈rp,Sp r.R.pd<k->∀ e∈qO (j6 st) (xU r.bs) (zK r.bs) [],zT e (vJ r)∈st.map (·.t)
def gI (rp:List PR)(Sp:B8->Nat)(m:Nat)(b:List Nat)(k:Nat)(st:List yL):Prop:=
 ∃ ns,zjz (zix rp) b=some (k,ns)/\k<=m/\zaj rp ns []=some st/\(st.map (·.t)).Nodup/\zw4 Sp k st/\zzn Sp k rp st
theorem jE (st:List yL):(j6 st).map (·.1)=st.map (·.t):=by unfold j6;rw[List.zipIdx_map_fst]
theorem xB {K:List (Th × Nat)}{t:Th}:(z7 K t).isSome=true↔t∈K.map (·.1):=by
 constructor
 ·intro h;obtain⟨n,hn⟩:=Option.isSome_iff_exists.1 h;exact List.mem_map.2 ⟨_,vP hn,rfl⟩
 ·intro h
  cases hk:z7 K t with
  | some n=>rfl
  | none=>
   obtain⟨p,hp,e⟩:=List.mem_map.1 h;exact absurd (show (t,p.2)∈K by rw[<-e];exact hp) (j8 hk _)
end
section
structure Mo (ps:P9)(rp:List PR)(s:yL):Prop where
 rule:s.r∈rp
 rE:ydz ps s.r s.e
 th:s.t=zT s.e (vJ s.r)
variable {rp:List PR} {ps:P9}
theorem Mo.ti {s:yL}(h:Mo ps rp s):eE ps s.t:=by rw[h.th];exact h.rE.hd
theorem z73 (hR:∀ r∈rp,jZ ps r){st:List yL}(hs:∀ s∈st,Mo ps rp s){R:PR}(hr:R∈rp){fr:List Nat}{e:zX}(h:zdd (zK R.bs) fr (st.map (·.t)) []=some e):ydz ps R e:=
 (hR R hr).rE (K:=(st.map (·.t)).map λ t=>(t,0)) (λ p hp=>by
  obtain⟨t,ht,rfl⟩:=List.mem_map.1 hp;obtain⟨s,im,rfl⟩:=List.mem_map.1 ht
  exact (hs s im).ti) (zjv _ _ _ _ _ h)
theorem zi8 {ps:P9}{rp:List PR}(hR:∀ r∈rp,jZ ps r):∀ (ns:List (Nat × List Nat)) (st fF:List yL),(∀ s∈st,Mo ps rp s)->zaj rp ns st=some fF->∀ s∈fF,Mo ps rp s
 | [],st,fF,hs,h=>by
  obtain rfl:=Option.some.inj h;exact hs
 | x::q,st,fF,hs,h=>by
  rw[zaj] at h
  split at h
  ·cases h
  ·rename_i R hx
   split at h
   ·cases h
   ·rename_i e he;refine zi8 hR q _ fF (λ s im=>?_) h;rcases List.mem_append.1 im with im | im
    ·exact hs s im
    ·rw[List.mem_singleton.1 im];exact⟨List.mem_of_getElem? hx,z73 hR hs (List.mem_of_getElem? hx) he,rfl⟩
end
section
def pmL:List yY->List Th->zX->Option zX
 | [],[],e=>some e
 | a::r,t::q,e=>match zV e a t with
  | some e'=>pmL r q e'
  | none=>none
 | [],_::_,_=>none
 | _::_,[],_=>none
theorem zpo {K:List (Th × Nat)}:∀ {pos:List yY} {e0 e:zX},e∈zQ K pos e0↔∃ ts,pmL pos ts e0=some e/\∀ t∈ts,t∈K.map (·.1)
 | [],e0,e=>by
  rw[zQ,List.mem_singleton]
  constructor
  ·rintro rfl;exact⟨[],rfl,by simp⟩
  ·rintro⟨ts,h,_⟩
   cases ts with
   | nil=>exact (Option.some.inj h).symm
   | cons t q=>cases h
 | a::r,e0,e=>by
  rw[zQ,List.mem_flatMap]
  constructor
  ·rintro⟨p,hp,h⟩
   cases hm:zV e0 a p.1 with
   | none=>rw[hm] at h;cases h
   | some e'=>
    rw[hm] at h;obtain⟨ts,h1,h2⟩:=zpo.1 h;refine⟨p.1::ts,by rw[pmL,hm];exact h1,λ t ht=>?_⟩;rcases List.mem_cons.1 ht with rfl | ht
    ·exact List.mem_map_of_mem hp
    ·exact h2 t ht
  ·rintro⟨ts,h,jh⟩
   cases ts with
   | nil=>cases h
   | cons t q=>
    obtain⟨p,hp,rfl⟩:=List.mem_map.1 (jh t List.mem_cons_self);refine⟨p,hp,?_⟩;rw[pmL] at h
    cases hm:zV e0 a p.1 with
    | none=>rw[hm] at h;cases h
    | some e'=>
     rw[hm] at h;exact zpo.2 ⟨q,h,λ t ht=>jh t (List.mem_cons_of_mem _ ht)⟩
theorem zfr:∀ {pos:List yY} {ts:List Th} {e0 e:zX},pmL pos ts e0=some e->∀ t∈ts,∃ a∈pos,a.p=t.p
 | [],ts,e0,e,h,t,ht=>by
  cases ts with
  | nil=>cases ht
  | cons _ _=>cases h
 | a::r,ts,e0,e,h,t,ht=>by
  cases ts with
  | nil=>cases h
  | cons u q=>
   rw[pmL] at h
   cases hm:zV e0 a u with
   | none=>rw[hm] at h;cases h
   | some e'=>
    rw[hm] at h;rcases List.mem_cons.1 ht with rfl | ht
    ·refine⟨a,List.mem_cons_self,?_⟩;unfold zV at hm
     split at hm
     ·rename_i he;exact zU.1 he
     ·cases hm
    ·obtain⟨b,hb,e⟩:=zfr h t ht;exact⟨b,List.mem_cons_of_mem _ hb,e⟩
theorem zsx:∀ {pos:List yY} {fr:List Nat} {T:List Th} {e0 e:zX},zdd pos fr T e0=some e->∃ ts,pmL pos ts e0=some e/\∀ t∈ts,t∈T
 | [],fr,T,e0,e,h=>⟨[],h,by simp⟩
 | a::r,fr,T,e0,e,h=>by
  rw[zde] at h
  cases fr with
  | nil=>cases h
  | cons x q=>
   simp only at h
   cases hx:T[x]? with
   | none=>rw[hx] at h;cases h
   | some t=>
    rw[hx] at h;simp only at h
    cases hp:zV e0 a t with
    | none=>rw[hp] at h;cases h
    | some e'=>
     rw[hp] at h;obtain⟨ts,h1,h2⟩:=zsx h;refine⟨t::ts,by rw[pmL,hp];exact h1,λ u hu=>?_⟩;rcases List.mem_cons.1 hu with rfl | hu
     ·exact List.mem_of_getElem? hx
     ·exact h2 u hu
variable {K:List (Th × Nat)}
theorem ze7 {neg pos:List yY}{e0 e:zX}:e∈qO K neg pos e0↔(∃ ts,pmL pos ts e0=some e/\∀ t∈ts,t∈K.map (·.1))/\∀ x∈neg,zT e x∉K.map (·.1):=by
 unfold qO;rw[List.mem_filter,zpo];refine and_congr Iff.rfl ?_;unfold jV;rw[Bool.not_eq_true',List.any_eq_false];refine forall_congr' λ x=>forall_congr' λ _=>?_
 rw[xB]
inductive zmo (rs:List PR)(S:B8->Nat):Nat->List (Th × Nat)->Prop
 | nil:zmo rs S 0 []
 | add {s:Nat} {K L:List (Th × Nat)}:zmo rs S s K->(∀ p∈L,zmn (rs.filter (qK S s)) K p.1)->zmo rs S s (K++L)
 | up {s:Nat} {K:List (Th × Nat)}:zmo rs S s K->(∀ t,¬ zmn (rs.filter (qK S s)) K t)->zmo rs S (s+1) K
variable {r:Option (List (Th × Nat))} {limit s:Nat} {S:B8->Nat} {rs:List PR}
theorem ztk {h:Nat}(hc:za0 (rs.filter (qK S s)) limit h K r)(hb:zmo rs S s K):∀ K',r=some K'->zmo rs S (s+1) K':=by
 induction hc with
 | fk _ _ _ _=>intro K' h;cases h
 | done hn=>
  intro K' h;obtain rfl:=Option.some.inj h;exact .up hb hn
 | more _ _ _ hL _ _ ih=>exact ih (.add hb (λ p hp=>(hL p.1).1 ⟨p.2,hp⟩))
theorem zuv {count:Nat}(hc:qD rs S limit count s K r)(hb:zmo rs S s K):∀ K',r=some K'->∃ m,count<=m/\zmo rs S m K':=by
 induction hc with
 | ends h=>
  intro K' e;obtain rfl:=Option.some.inj e;exact⟨_,h,hb⟩
 | fK _ _=>intro K' e;cases e
 | next _ hc _ ih=>exact ih (ztk hc hb _ rfl)
variable {R:PR}
theorem zla (hk:zek S R.R)(cT:R.bs.map (·.1)=R.R.body):∀ a∈zK R.bs,S a.p<=S R.R.pd:=λ a ha=>by
 obtain⟨x,hx,hn,rfl⟩:=zpp.1 ha;have:=hk x.1 (by rw[<-cT];exact List.mem_map_of_mem hx);simp only at *;omega
theorem zez (hk:zek S R.R)(cT:R.bs.map (·.1)=R.R.body):∀ a∈xU R.bs,S a.p<S R.R.pd:=λ a ha=>by
 obtain⟨x,hx,hn,rfl⟩:=zpn.1 ha;have:=hk x.1 (by rw[<-cT];exact List.mem_map_of_mem hx);rw[hn] at this;simp only[if_true] at *;omega
def zzr (rp:List PR)(st:List yL):Prop:=∀ (j:Nat) (h:j<st.length),st[j].r∈rp/\st[j].t=zT st[j].e (vJ st[j].r)/\∃ ts,pmL (zK st[j].r.bs) ts []=some st[j].e/\∀ t∈ts,t∈(st.take j).map (·.t)
theorem zma {rp:List PR}:∀ (ns:List (Nat × List Nat)) (st fF:List yL),zzr rp st->zaj rp ns st=some fF->zzr rp fF
 | [],st,fF,hs,h=>by obtain rfl:=Option.some.inj h;exact hs
 | x::q,st,fF,hs,h=>by
  rw[zaj] at h
  split at h
  ·cases h
  ·rename_i R hx
   split at h
   ·cases h
   ·rename_i e he;refine zma q _ fF (λ j hj=>?_) h;rw[List.length_append,List.length_singleton] at hj
    by_cases ij:j<st.length
    ·obtain⟨h1,h2,h3⟩:=hs j ij;rw[List.getElem_append_left ij,List.take_append_of_le_length (by omega)];exact⟨h1,h2,h3⟩
    ·have e1:j=st.length:=(by omega);subst e1;rw[List.getElem_append_right (by omega)];simp only[Nat.sub_self,List.getElem_cons_zero,List.take_left'];obtain⟨ts,h1,h2⟩:=zsx he;exact⟨List.mem_of_getElem? hx,trivial,ts,h1,h2⟩
variable {st:List yL} {k:Nat} {rp:List PR}
theorem zti (hv:∀ r∈rp,zek S r.R)(cT:∀ r∈rp,r.bs.map (·.1)=r.R.body)(hN:zzr rp st)(hD:zw4 S k st)(hC:zzn S k rp st)(hb:zmo rp S s K):(∀ t∈K.map (·.1),S t.p<=s)/\(∀ t∈K.map (·.1),S t.p<k->t∈st.map (·.t))/\(∀ t∈st.map (·.t),S t.p<s->t∈K.map (·.1)):=by
 induction hb with
 | nil=>exact⟨by simp,by simp,λ t _ h=>by omega⟩
 | @add s K L _ hL ih=>
  obtain⟨i0,i1,i2⟩:=ih;have eQ:∀ t∈L.map (·.1),S t.p=s/\(S t.p<k->t∈st.map (·.t)):=λ t ht=>by
   obtain⟨p,hp,rfl⟩:=List.mem_map.1 ht;obtain⟨_,r,hr,e,he,hf⟩:=hL p hp;obtain⟨ez,fc⟩:=List.mem_filter.1 hr;have hs:S r.R.pd=s:=(by unfold qK at fc;simpa using fc);have hp:S p.1.p=s:=(by rw[<-hf];exact hs);refine⟨hp,λ hk=>?_⟩;obtain⟨⟨ts,h1,h2⟩,h3⟩:=ze7.1 he;have sl:S r.R.pd<k:=(by omega);have:=hC r ez sl e (ze7.2 ⟨⟨ts,h1,λ t ht=>?_⟩,λ x hx hm=>?_⟩)
   ·rw[<-hf];exact this
   ·rw[jE];obtain⟨a,ha,e⟩:=zfr h1 t ht;have:=zla (hv r ez) (cT r ez) a ha;exact i1 t (h2 t ht) (by rw[<-e];omega)
   ·rw[jE] at hm;have:=zez (hv r ez) (cT r ez) x hx;exact h3 x hx (i2 _ hm (by show S x.p<s;omega))
  refine⟨λ t ht=>?_,λ t ht hk=>?_,λ t ht hs=>?_⟩
  ·rw[List.map_append] at ht;rcases List.mem_append.1 ht with ht | ht
   ·exact i0 t ht
   ·exact Nat.le_of_eq (eQ t ht).1
  ·rw[List.map_append] at ht;rcases List.mem_append.1 ht with ht | ht
   ·exact i1 t ht hk
   ·exact (eQ t ht).2 hk
  ·rw[List.map_append];exact List.mem_append_left _ (i2 t ht hs)
 | @up s K _ hn ih=>
  obtain⟨i0,i1,i2⟩:=ih;refine⟨λ t ht=>Nat.le_succ_of_le (i0 t ht),i1,λ t ht hs=>?_⟩;have all:∀ (j:Nat) (hj:j<st.length),S st[j].t.p<s+1->st[j].t∈K.map (·.1):=by
   intro j
   induction j using Nat.strongRecOn with
   | _ j ihj=>
    intro hj hsj
    by_cases bP:S st[j].t.p<s
    ·exact i2 _ (List.mem_map_of_mem (List.getElem_mem hj)) bP
    ·obtain⟨hr,sN,ts,h1,h2⟩:=hN j hj;have eN:st[j].t.p=st[j].r.R.pd:=(by rw[sN];rfl);have im:S st[j].r.R.pd=s:=by rw[<-eN];omega
     by_cases ak:st[j].t∈K.map (·.1)
     ·exact ak
     ·exfalso
      refine hn st[j].t ⟨?_,st[j].r,List.mem_filter.2 ⟨hr,by unfold qK;simpa using im⟩,st[j].e,ze7.2 ⟨⟨ts,h1,λ t ht=>?_⟩,λ x hx hm=>?_⟩,sN.symm⟩
      ·cases hl:z7 K st[j].t with
       | none=>rfl
       | some n=>exact absurd (xB.1 (by rw[hl];rfl)) ak
      ·obtain⟨a,ha,e⟩:=zfr h1 t ht;have h3:=zla (hv _ hr) (cT _ hr) a ha;obtain⟨x,hx,rfl⟩:=List.mem_map.1 (h2 t ht);obtain⟨i,hi,rfl⟩:=List.getElem_of_mem hx;rw[List.length_take] at hi;rw[List.getElem_take] at e ⊢;exact ihj i (by omega) (by omega) (by rw[<-e];omega)
      ·have hd:=hD st[j] (List.getElem_mem hj) x hx;exact hd.1 (i1 _ hm (by show S x.p<k;exact hd.2))
  obtain⟨x,hx,rfl⟩:=List.mem_map.1 ht;obtain⟨j,hj,rfl⟩:=List.getElem_of_mem hx;exact all j hj hs
theorem zul {ps:P9}(hv:qH (rp.map (·.R)) S)(cT:∀ r∈rp,r.bs.map (·.1)=r.R.body)(hR:∀ r∈rp,jZ ps r){m:Nat}(hm:jS ps S m){b:List Nat}(hr:gI rp S m b k st)(hK:qD rp S limit m 0 [] (some K)):(∀ t∈st.map (·.t),t∈K.map (·.1))/\∀ t∈K.map (·.1),S t.p<k->t∈st.map (·.t):=by
 obtain⟨ns,_,_,dj,_,hD,hC⟩:=hr;obtain⟨n,hn,hb⟩:=zuv hK .nil K rfl;have hN:=zma ns [] st (λ j hj=>by simp at hj) dj;obtain⟨_,h1,h2⟩:=zti (λ r hr=>hv r.R (List.mem_map_of_mem hr)) cT hN hD hC hb;refine⟨λ t ht=>h2 t ht ?_,h1⟩;obtain⟨s,hs,rfl⟩:=List.mem_map.1 ht;have hg:=zi8 hR ns [] st (by simp) dj s hs;have:=hm.1 s.t.p (by have:=hg.ti.num;rw[show s.t.p=s.t.1 from rfl,this];rfl);omega
end
section
open Go.RowKit
attribute [local go_sem ↓] zh5 zf3 zfy zfz zkf zd7
attribute [local go_sem] zd5 z3j
theorem z1g:(Tryz.prog.info? 352).map (λ i=>(i.zero,i.size,i.bytes))=some (some (zf7 zec),33,536):=by kernel_rfl
theorem z7w (s:yL)(h:s.r.hv.oneCell'=true/\s.r.bv.oneCell'=true):∀ u∈zM s,u.oneCell'=true:=by
 have:=zws s h;rw[Array.all_eq_true_iff_forall_mem] at this;exact λ u hu=>this u (by simpa using hu)
theorem z3v {rp:List PR}{ns:List (Nat × List Nat)}{st:List yL}{k:Nat}(h:k<ns.length)(hr:ns[k].1<rp.length):zaj rp (ns.drop k) st=match zdd (zK rp[ns[k].1].bs) ns[k].2 (st.map (·.t)) [] with | none=>none | some e=>zaj rp (ns.drop (k+1)) (st++[zj2 rp[ns[k].1] (some e)]):=by
 rw[List.drop_eq_getElem_cons h,zaj,List.getElem?_eq_getElem hr];rfl
structure gN (w:W8)(K:Nat)(nv v:Value)(st:List yL)(wr:W8):Prop where
 kp:Below w.heap.size w wr
 box:wr.heap[w.heap.size]?=some (.cells #[.int .i64 (K:Nat),nv] 93 (0,0))
 st:wr.ownsRow (w.heap.size+1) 352 33 v st.length (st.flatMap zM)
variable {wr w:W8} {nv v:Value} {K:Nat}
theorem gN.lt {st:List yL}(h:gN w K nv v st wr):w.heap.size<wr.heap.size:=(Array.getElem?_eq_some_iff.1 h.box).1
theorem gN.below {st:List yL}{w':W8}(h:gN w K nv v st wr)(k:Below wr.heap.size wr w'):gN w K nv v st w':=
 ⟨h.kp.trans (k.mono h.kp.size),(k.block _ h.lt).trans h.box,zG h.st k (λ g e=>(h.st.lt g e).2)⟩
theorem gN.add {wX W w5:W8}{v':Value}{st:List yL}{s:yL}(h:gN w K nv v st wX)(hW:Below wX.heap.size wX W)(hg:W.grownBy w5 v.ownBlock)(aI:w5.ownsRow (w.heap.size+1) 352 33 v' (st.length+1) (st.flatMap zM++zM s)):gN w K nv v' (st++[s]) w5:=by
 have hB:=h.below hW;have k5:yC v.ownBlock.toList W w5:=yC.eK hg;have aX:∀ x∈v.ownBlock.toList,w.heap.size+1<=x:=λ x hx=>(hB.st.lt x (by simpa using hx)).1
 exact⟨yE hB.kp k5 hB.kp.size (λ b hm=>by have:=aX b hm;omega),(k5.block _ hB.lt (λ hm=>by have:=aX _ hm;omega)).trans hB.box,by rw[List.length_append,List.flatMap_append];simpa using aI⟩
structure z5h (w:W8)(base:Nat)(rs:List PR)(rv:Value)(aJ:List ND)(nv:Value):Prop where
 rules:aD w base rv rs
 l3:∀ r∈rs,r.bs.length<=3
 t4:∀ r∈rs,∀ x∈r.bs,x.1.ts.length<=4
 h4:∀ r∈rs,r.R.ts.length<=4
 nodes:jT w 0 nv aJ
 ft:aJ.length<=50
 ix:∀ x∈aJ,∃ h:x.r<rs.length,x.fr.length=(zK rs[x.r].bs).length
def zz7 (w:W8)(o:Option (List yL))(e:Ending)(w':W8):Prop:=Below w.heap.size w w'/\∃ v,e=.returned (.tuple #[v,.bool o.isSome])/\zoc w' (w.heap.size+1) v (o.getD [])
theorem z3w (w:W8)(base K:Nat)(rs:List PR)(ar:O8)(cr:Nat)(aJ:List ND)(an:O8)(cn:Nat)(h:z5h w base rs (.slice ar rs.length cr) aJ (.slice an aJ.length cn)):
  Calls Tryz.prog 178 #[.agg #[.int .i64 (K:Nat),.slice an aJ.length cn],.slice ar rs.length cr] w (zz7 w (zaj rs (aJ.map dX) [])):=by
 have mH:=vV h.nodes.row;have J4:=vV h.rules.row;unfold maxLen at mH J4;have H:=zC h;have gE:=h.ft;obtain⟨i0,CD,dK,cB,bZ⟩:=info_parts z1g;clear h;go_enter Tryz.func178,Tryz.ntmps178;go_upto_region 2 with fail;generalize hw0:World.alloc w _=w0;have h0:gN w K (.slice an aJ.length cn) (.slice none 0 0) [] w0:=by
  rw[<-hw0];exact⟨B9.alloc L9 _,heap_alloc_new w _,World.ownsRow_nil _ _ _ _⟩
 clear hw0;have c1:=(zB h0.box 1).1;simp only[List.getElem?_toArray,List.getElem?_cons_zero,List.getElem?_cons_succ] at c1;have iI:=zC h0;clear h0;go_wp2_with fail;clear c1;generalize sc:zaj rs (aJ.map dX) []=T at *;have xn:=zC sc;clear sc
 go_loopg [6,14] aJ.length (λ gg v ii wr=>∃ (k:Nat) (st:List yL),k<=aJ.length/\gg=aJ.length-k/\ii=.int .i64 k/\gN w K (.slice an aJ.length cn) v st wr/\st.length=k/\zaj rs ((aJ.map dX).drop k) st=T)
 exact⟨0,[],Nat.zero_le _,rfl,rfl,zA iI,rfl,zA xn⟩
 case round=>
  clear iI xn;obtain⟨k,st,hk,fM,rfl,ak,lJ,bj⟩:=hrel;obtain⟨av,cv,rfl⟩:=zE ak.st;have bt:=zC ak;have rR:=zC lJ;have gL:=zC bj;have lK:=ak.lt
  by_cases aN:k<aJ.length
  ·have gW:(k:Int)<aJ.length:=(by omega);have dB:=(zA H).nodes.below ak.kp;obtain⟨gn,cn',hv,-,dp,dG,dx,hc⟩:=vL zdw dB.row k aN;injection hv with i1 i2 i3
   subst i1 i3;have bC:=List.getElem_mem aN;have kU:=dB.each _ bC;obtain⟨af,cf,AH⟩:=zE kU;have e0:=hc 0 (by omega);have e1:=hc 1 (by omega);simp only[zax,List.getElem?_cons_zero,List.getElem?_cons_succ] at e0 e1;rw[AH] at e1 kU;obtain⟨ru,Gk⟩:=(zA H).ix _ bC;have dj:=z3v (rp:=rs) (ns:=aJ.map dX) (st:=st) (k:=k) (by simpa using aN) (by simpa[dX] using ru);simp only[List.getElem_map,dX] at dj;rw[dj] at bj;have HT:=zC bj;have eI:=(zA H).rules.row;have gC:=((zA H).rules.each _ (List.getElem_mem ru));have eR:=gC.one;have h3:=(zA H).l3 _ (List.getElem_mem ru);have zt:=(zA H).t4 _ (List.getElem_mem ru);have Er:=(zA H).h4 _ (List.getElem_mem ru);obtain⟨gr,cr',nM,-,uq,hnr,Ay,fL⟩:=vL (f:=PR.cells) (n:=3) (λ _=>rfl) (zG eI ak.kp (λ g e=>(eI.lt g e).2)) aJ[k].r ru;injection nM with i1 i2 i3
   subst i1 i3;have r0:=fL 0 (by omega);have r1:=fL 1 (by omega);have r2:=fL 2 (by omega);simp only[PR.cells,List.getElem?_cons_zero,List.getElem?_cons_succ,Nat.add_zero] at r0 r1 r2 e0;obtain⟨ah,ch,fs⟩:=zE gC.hd;obtain⟨ab,cb,fi⟩:=zE gC.bo.row;rw[fs] at r1;rw[fi] at r2;have Kk:((aJ[k].r:Nat):Int)<rs.length:=(by omega);have mZ:=zC eR;have A5:=zC (And.intro fs fi);have fU:=zC (λ (W:W8) (hW:Below wr.heap.size wr W)=>z21 W base rs[aJ[k].r] aJ[k].fr af cf st av cv ⟨⟨zG gC.hd (ak.kp.trans (hW.mono ak.kp.size)) (λ g e=>(gC.hd.lt g e).2),gC.bo.below (ak.kp.trans (hW.mono ak.kp.size)),gC.eq⟩,h3,zt,Er,zG (zI kU (Nat.zero_le _)) hW (λ g e=>(kU.lt g e).2),Gk,⟨zG (zI ak.st (Nat.zero_le _)) hW (λ g e=>(ak.st.lt g e).2)⟩⟩);rw[fs,fi] at fU;clear ak lJ bj dB hc dj eI gC fL eR bC kU AH zt Er fs fi Gk h3 gL;generalize hR:rs[aJ[k].r]=R at *;generalize hX:aJ[k].r=x at *;generalize hFR:aJ[k].fr=FR at *;generalize hO:zdd (zK R.bs) FR (st.map (·.t)) []=O at *;have Bm:=zC hO;clear hO hFR hX hR;have pw:(zj2 R O).r.hv.oneCell'=true/\(zj2 R O).r.bv.oneCell'=true:=by
    cases O with
    | none=>exact⟨rfl,rfl⟩
    | some e=>exact zA mZ
   have sM:=λ (W:W8) (s:yL)=>zg3 W s (zj2 R O) pw
   go_upto_region 5 with fail;generalize hw3:World.alloc wr _=w3;have k3:Below wr.heap.size wr w3:=(by rw[<-hw3];exact B9.alloc L9 _);have y3:w3.heap[wr.heap.size]?=some (.cells #[.int .i64 (x:Nat),.slice af FR.length cf] 150 (0,0)):=(by rw[<-hw3];exact heap_alloc_new wr _);have s3:wr.heap.size<w3.heap.size:=(by rw[<-hw3];simp);clear hw3;have a0:=(zB y3 0).1;have a1:=(zB y3 1).1;simp only[List.getElem?_toArray,List.getElem?_cons_zero,List.getElem?_cons_succ] at a0 a1;have u0:=(k3.cell (p:=⟨gr,x*3,none⟩) uq).trans r0;have u1:=(k3.cell (p:=⟨gr,x*3+1,none⟩) uq).trans r1;have u2:=(k3.cell (p:=⟨gr,x*3+2,none⟩) uq).trans r2;have HA:=zC (λ (W:W8) (hW:Below w3.heap.size w3 W)=>(show W.cell? ⟨wr.heap.size,0,none⟩=some (.int .i64 (x:Nat))/\W.cell? ⟨wr.heap.size,1,none⟩=some (.slice af FR.length cf)/\W.cell? ⟨gr,x*3,none⟩=some (.string R.R.pd)/\W.cell? ⟨gr,x*3+1,none⟩=some (.slice ah R.R.ts.length ch)/\W.cell? ⟨gr,x*3+2,none⟩=some (.slice ab R.bs.length cb) from ⟨(hW.cell (p:=⟨wr.heap.size,0,none⟩) (by show wr.heap.size<_;omega)).trans a0,(hW.cell (p:=⟨wr.heap.size,1,none⟩) (by show wr.heap.size<_;omega)).trans a1,(hW.cell (p:=⟨gr,x*3,none⟩) (by show gr<_;omega)).trans u0,(hW.cell (p:=⟨gr,x*3+1,none⟩) (by show gr<_;omega)).trans u1,(hW.cell (p:=⟨gr,x*3+2,none⟩) (by show gr<_;omega)).trans u2⟩));have xm:=zC (λ (W:W8) (hW:Below w3.heap.size w3 W)=>zA fU W (k3.trans (hW.mono k3.size)));have qy:=zC k3;clear e0 e1 r0 r1 r2 y3 k3
   go_cut [9,10] from 15 to 36 (λ p c wc=>∃ nb,p=.pointer (some ⟨nb,0,none⟩)/\c=.bool O.isSome/\gO wc nb (zj2 R O)/\Below w3.heap.size w3 wc)
   case first=>
    go_region_held3 (λ w'=>w'.cell? ⟨wr.heap.size,0,none⟩=some (.int .i64 (x:Nat))/\w'.cell? ⟨wr.heap.size,1,none⟩=some (.slice af FR.length cf)/\w'.cell? ⟨gr,x*3,none⟩=some (.string R.R.pd)/\w'.cell? ⟨gr,x*3+1,none⟩=some (.slice ah R.R.ts.length ch)/\w'.cell? ⟨gr,x*3+2,none⟩=some (.slice ab R.bs.length cb)) ((refine zA HA _ ?_;first | exact bY | exact B9.drew | exact (B9.alloc L9 _).drew | exact bY.alloc bY.size _ | exact z6 bY L9 _)) ((go_at_call 222;refine (zA xm _ (by first | exact B9.drew | exact (B9.alloc L9 _).drew)).mono ?_;rintro en w4 ⟨bQ,rfl⟩;have bY:Below w3.heap.size w3 w4:=(by first | exact zL bQ | exact zbp (B9.alloc L9 _) bQ);first | (have uO:=((gO.new w3 zec).below (zL bQ)).store (zj2 R O) pw) | skip))
    all_goals
     go_wp2_with fail;go_meet
     case rel=>first | exact⟨_,rfl,rfl,gO.new _ _,bY.alloc bY.size _⟩ | exact⟨_,rfl,rfl,setRow_heap _ _ _ _ _ _ ((gO.new w3 zec).below (zL bQ)),z6 bY L9 _⟩
   case rest=>
    generalize wc=wA at *;obtain⟨nb,rfl,rfl,lk,fu⟩:=hcut;have di:=((zA bt).below (zA qy)).below fu;have qx:=zC di;clear HA fU xm a0 a1 u0 u1 u2
    cases hRR:O with
    | none=>
     have HE:=zC (show T=none by rw[<-zA HT,hRR]);clear di lk fu hRR;go_wp2_with fail
     go_ret2
     rw[zA HE];exact⟨(zA qx).kp,_,rfl,⟨World.ownsRow_nil _ _ _ _⟩⟩
    | some e=>
     rw[hRR] at lk;have HE:=zC (show zaj rs ((aJ.map dX).drop (k+1)) (st++[zj2 R (some e)])=T by rw[<-zA HT,hRR]);have tW:(zj2 R (some e)).r.hv.oneCell'=true/\(zj2 R (some e)).r.bv.oneCell'=true:=zA mZ;have qi:=lk.load;generalize zj2 R (some e)=sn at *;have bH:=di.st.alloc (.cells (zM sn).toArray 352);have gF:=zC (World.news_of_block (heap_alloc_new wA (.cells (zM sn).toArray 352)));have lJ:st.length<=50:=(by have:=zA rR;omega);have Gg:=di.lt;clear di lk fu hRR pw sM;go_wp2_with (at_builtin;refine wpList_append_own _ rfl _ _ 303 rfl (w.heap.size+1) 352 i0 _ 33 536 Tryz.underlying303 CD dK cB bZ rfl (by decide) _ _ _ rfl bH ⟨wA.heap.size,0,none⟩ 1 1 (zM sn) rfl rfl (zA gF) (z7w sn tW) (by unfold maxLen;omega) (by omega) (by simp;omega) ?_;intro v5 w5 hown5 dz hne5;clear hne5;obtain⟨a5,gz,rfl⟩:=zE hown5;have mY:=zC hown5;have br:=zC dz;clear hown5 dz);go_roundg (aJ.length-(k+1));exact⟨k+1,st++[sn],by omega,rfl,by go_num,(zA qx).add (B9.alloc L9 _) (zA br) (zA mY),by have:=zA rR;rw[List.length_append,List.length_singleton];omega,zA HE⟩;omega
  ·have gW:¬ (k:Int)<aJ.length:=(by omega);have HE:=zC (show T=some st by rw[<-bj,List.drop_of_length_le (by simp;omega)];rfl);clear ak lJ bj;go_wp2_with fail
   go_ret2
   rw[zA HE];exact⟨(zA bt).kp,_,rfl,⟨(zA bt).st⟩⟩
end
section
open Go.RowKit Go.Maps
attribute [local go_sem ↓] zh5 zf3 zfy zfz zkf zd7 vU
attribute [local go_sem] zd5
theorem zy2 (st:List yL)(s:yL):j6 (st++[s])=j6 st++[(s.t,st.length)]:=by
 unfold j6;rw[List.map_append,List.zipIdx_append,List.length_map];simp
def zw5 (w:W8)(st:List yL)(e:Ending)(w':W8):Prop:=Below w.heap.size w w'/\((¬ (st.map (·.t)).Nodup/\e=.returned (.tuple #[.map none,.bool false]))\/((st.map (·.t)).Nodup/\e=.returned (.tuple #[.map (some w.heap.size),.bool true])/\jA w' w.heap.size (j6 st)))
theorem zxy (w:W8)(base:Nat)(st:List yL)(a:O8)(c:Nat)(h:zoc w base (.slice a st.length c) st)(bX:∀ s∈st,zbj s.t)(h50:st.length<=50)(eR:∀ s∈st,s.r.hv.oneCell'=true/\s.r.bv.oneCell'=true):
  Calls Tryz.prog 179 #[.slice a st.length c] w (zw5 w st):=by
 have hm:=vV h.row;unfold maxLen at hm;have H:=zC h;have iS:=zC bX;have mZ:=zC eR;clear h bX eR;have bD:=@run_makeMap Tryz.prog;go_enter Tryz.func179,Tryz.ntmps179;go_upto_region 2 with fail;clear bD;have uD:=jA.made w;have cM:Below w.heap.size w (w.alloc (.map #[] 0)):=B9.alloc L9 _;generalize (w.alloc (.map #[] 0))=w0 at *;have iI:=zC (And.intro uD cM);clear uD cM;go_wp2_with fail
 go_loopg [12] st.length (λ gg ii wr=>∃ k:Nat,k<=st.length/\gg=st.length-k/\ii=.int .i64 k/\jA wr w.heap.size (j6 (st.take k))/\Below w.heap.size w wr)
 exact⟨0,Nat.zero_le _,rfl,rfl,(zA iI).1,(zA iI).2⟩
 case round=>
  clear iI;obtain⟨k,hk,fM,rfl,cA,cV⟩:=hrel;have kz:=zC cA;have gw:=zC cV;have lK:=cA.lt
  by_cases aN:k<st.length
  ·have gW:(k:Int)<st.length:=(by omega);have aE:=zG (zA H).row cV (λ g e=>((zA H).row.lt g e).2);obtain⟨g,cap,hv,-,dp,dG,dx,hc⟩:=zut aE aN;injection hv with h1 h2 h3
   subst h1 h3;have bC:=List.getElem_mem aN;have hT:=zA iS _ bC;have tW:=zA mZ _ bC;have qi:=znx hc
   have fU:=zC (show j6 (st.take (k+1))=j6 (st.take k)++[(st[k].t,k)] by
    rw[List.take_succ_eq_append_getElem aN,zy2,List.length_take,Nat.min_eq_left (by omega)])
   have hlen:(j6 (st.take k)).length<maxLen:=by
    unfold j6 maxLen;rw[List.length_zipIdx,List.length_map,List.length_take];omega
   have tf:=zC (show st.map (·.t)=(st.take k).map (·.t)++st[k].t::(st.drop (k+1)).map (·.t) by
    rw[<-List.map_cons,<-List.drop_eq_getElem_cons aN,<-List.map_append,List.take_append_drop])
   have sM:=λ (W:W8) (s:yL)=>zg3 W s st[k] tW
   have lk:=gO.new wr st[k]
   have J7:=zsq (o:=0) (s:=st[k]) (w:=wr.alloc (.cells (zM st[k]).toArray 352)) (g:=wr.heap.size) (λ j hj=>by
    rw[Nat.zero_add,(zB lk j).1,List.getElem?_toArray])
   rw[Nat.zero_add] at J7;have CZ:=(zA kz).alloc (.cells (zM st[k]).toArray 352);have mm:=zC (cV.alloc cV.size (.cells (zM st[k]).toArray 352));generalize st[k]=s at *;clear cA cV aE hc bC lk kz
   cases fN:z7 (j6 (st.take k)) s.t with
   | some m=>
    have A2:=zC (show ¬ (st.map (·.t)).Nodup by
     intro dB;rw[zA tf,List.nodup_append] at dB;have h5:s.t∈(st.take k).map (·.t):=by
      rw[<-jE];exact xB.1 (by rw[fN];rfl)
     exact dB.2.2 _ h5 _ List.mem_cons_self rfl)
    go_wp2_with (at_lookup;refine zbn _ rfl _ _ 82 rfl Tryz.underlying82 w.heap.size (j6 (st.take k)) rfl CZ s.t rfl hT _ rfl true (by rw[fN];rfl) ?_)
    go_ret2
    exact⟨zA mm,.inl ⟨zA A2,rfl⟩⟩
   | none=>
    have iJ:=zC fN;go_wp2_with (first | (at_lookup;refine zbn _ rfl _ _ 82 rfl Tryz.underlying82 w.heap.size (j6 (st.take k)) rfl CZ s.t rfl hT _ rfl false (by rw[zA iJ];rfl) ?_) | (at_mapUpdate;refine zu1 _ rfl _ _ _ 82 rfl Tryz.underlying82 w.heap.size (j6 (st.take k)) rfl CZ hlen s.t k rfl rfl hT ?_;intro w3 ey ki;have mW:=zC ey;have tO:=zC ki;clear ey ki));go_roundg (st.length-(k+1))
    case measure=>omega
    case rel=>
     have g3:=(zA tO).grown;have kA:=zA mm;refine⟨k+1,by omega,rfl,by go_num,?_,⟨g3.os.trans kA.os,g3.tape.trans kA.tape,g3.output.trans kA.output,Nat.le_trans kA.size g3.size,λ j hj=>(g3.block j (by have:=kA.size;omega) (by simp;omega)).trans (kA.block j hj)⟩⟩;have h3:=zA mW;have sG:zia (j6 (st.take k)) s.t k=j6 (st.take k)++[(s.t,k)]:=(by unfold zia;rw[zA iJ];rfl);rw[sG] at h3;rw[zA fU];exact h3
  ·have gW:¬ (k:Int)<st.length:=(by omega);have lX:st.take k=st:=List.take_of_length_le (by omega)
   have ju:=zC (show (st.map (·.t)).Nodup by
    have:=cA.nodup;rw[jE,lX] at this
    exact this)
   rw[lX] at kz;clear cA cV lX;go_wp2_with fail
   go_ret2
   exact⟨zA gw,.inr ⟨zA ju,rfl,zA kz⟩⟩
end
end Go.Proofs.YtldkpahaocjdpaaGreat
