/-
  Plain: what the steps say; when a witness is right, as the program asks it.
-/
import Derived.Test.YtldkpahaocjdpaaGreatR34
set_option maxHeartbeats 16000000
set_option maxRecDepth 1000000
namespace Go.Proofs.YtldkpahaocjdpaaGreat
section
def j9 (st:List yM):List (Th × Nat):=(st.map (·.t)).zipIdx
def zyr (Sp:B8->Nat)(k:Nat)(st:List yM):Prop:=∀ s∈st,∀ a∈vV s.r.bs,zZ s.e a∉st.map (·.t)/\Sp a.p<k
def z1h (Sp:B8->Nat)(k:Nat)(rp:List PR)(st:List yM):Prop:=∀ r∈rp,Sp r.R.pd<k->∀ e∈qM (j9 st) (vV r.bs) (zM r.bs) [],zZ e (jB r)∈st.map (·.t)
def ie (rp:List PR)(Sp:B8->Nat)(m:Nat)(b:List Nat)(k:Nat)(st:List yM):Prop:=
 ∃ ns,zke (zjd rp) b=some (k,ns)/\k<=m/\zak rp ns []=some st/\(st.map (·.t)).Nodup/\zyr Sp k st/\z1h Sp k rp st
theorem jC (st:List yM):(j9 st).map (·.1)=st.map (·.t):=by unfold j9;rw[List.zipIdx_map_fst]
theorem yO {K:List (Th × Nat)}{t:Th}:(zU K t).isSome=true↔t∈K.map (·.1):=by
 constructor
 ·intro h;obtain⟨n,hn⟩:=Option.isSome_iff_exists.1 h;exact List.mem_map.2 ⟨_,vJ hn,rfl⟩
 ·intro h
  cases hk:zU K t with
  | some n=>rfl
  | none=>
   obtain⟨p,hp,e⟩:=List.mem_map.1 h;exact absurd (show (t,p.2)∈K by rw[<-e];exact hp) (qB hk _)
end
section
structure MI (ps:P9)(rp:List PR)(s:yM):Prop where
 rule:s.r∈rp
 rE:yfi ps s.r s.e
 th:s.t=zZ s.e (jB s.r)
variable {rp:List PR} {ps:P9}
theorem MI.ti {s:yM}(h:MI ps rp s):eE ps s.t:=by rw[h.th];exact h.rE.hd
theorem z9c (hR:∀ r∈rp,j0 ps r){st:List yM}(hs:∀ s∈st,MI ps rp s){R:PR}(hr:R∈rp){fr:List Nat}{e:zY}(h:zdl (zM R.bs) fr (st.map (·.t)) []=some e):yfi ps R e:=
 (hR R hr).rE (K:=(st.map (·.t)).map λ t=>(t,0)) (λ p hp=>by
  obtain⟨t,ht,rfl⟩:=List.mem_map.1 hp;obtain⟨s,im,rfl⟩:=List.mem_map.1 ht
  exact (hs s im).ti) (zj7 _ _ _ _ _ h)
theorem zjn {ps:P9}{rp:List PR}(hR:∀ r∈rp,j0 ps r):∀ (ns:List (Nat × List Nat)) (st fF:List yM),(∀ s∈st,MI ps rp s)->zak rp ns st=some fF->∀ s∈fF,MI ps rp s
 | [],st,fF,hs,h=>by
  obtain rfl:=Option.some.inj h;exact hs
 | x::q,st,fF,hs,h=>by
  rw[zak] at h
  split at h
  ·cases h
  ·rename_i R hx
   split at h
   ·cases h
   ·rename_i e he;refine zjn hR q _ fF (λ s im=>?_) h;rcases List.mem_append.1 im with im | im
    ·exact hs s im
    ·rw[List.mem_singleton.1 im];exact⟨List.mem_of_getElem? hx,z9c hR hs (List.mem_of_getElem? hx) he,rfl⟩
end
section
def pmL:List xG->List Th->zY->Option zY
 | [],[],e=>some e
 | a::r,t::q,e=>match yC e a t with
  | some e'=>pmL r q e'
  | none=>none
 | [],_::_,_=>none
 | _::_,[],_=>none
theorem zqt {K:List (Th × Nat)}:∀ {pos:List xG} {e0 e:zY},e∈zR K pos e0↔∃ ts,pmL pos ts e0=some e/\∀ t∈ts,t∈K.map (·.1)
 | [],e0,e=>by
  rw[zR,List.mem_singleton]
  constructor
  ·rintro rfl;exact⟨[],rfl,by simp⟩
  ·rintro⟨ts,h,_⟩
   cases ts with
   | nil=>exact (Option.some.inj h).symm
   | cons t q=>cases h
 | a::r,e0,e=>by
  rw[zR,List.mem_flatMap]
  constructor
  ·rintro⟨p,hp,h⟩
   cases hm:yC e0 a p.1 with
   | none=>rw[hm] at h;cases h
   | some e'=>
    rw[hm] at h;obtain⟨ts,h1,h2⟩:=zqt.1 h;refine⟨p.1::ts,by rw[pmL,hm];exact h1,λ t ht=>?_⟩;rcases List.mem_cons.1 ht with rfl | ht
    ·exact List.mem_map_of_mem hp
    ·exact h2 t ht
  ·rintro⟨ts,h,jh⟩
   cases ts with
   | nil=>cases h
   | cons t q=>
    obtain⟨p,hp,rfl⟩:=List.mem_map.1 (jh t List.mem_cons_self);refine⟨p,hp,?_⟩;rw[pmL] at h
    cases hm:yC e0 a p.1 with
    | none=>rw[hm] at h;cases h
    | some e'=>
     rw[hm] at h;exact zqt.2 ⟨q,h,λ t ht=>jh t (List.mem_cons_of_mem _ ht)⟩
theorem zkq:∀ {pos:List xG} {ts:List Th} {e0 e:zY},pmL pos ts e0=some e->∀ t∈ts,∃ a∈pos,a.p=t.p
 | [],ts,e0,e,h,t,ht=>by
  cases ts with
  | nil=>cases ht
  | cons _ _=>cases h
 | a::r,ts,e0,e,h,t,ht=>by
  cases ts with
  | nil=>cases h
  | cons u q=>
   rw[pmL] at h
   cases hm:yC e0 a u with
   | none=>rw[hm] at h;cases h
   | some e'=>
    rw[hm] at h;rcases List.mem_cons.1 ht with rfl | ht
    ·refine⟨a,List.mem_cons_self,?_⟩;unfold yC at hm
     split at hm
     ·rename_i he;exact yB.1 he
     ·cases hm
    ·obtain⟨b,hb,e⟩:=zkq h t ht;exact⟨b,List.mem_cons_of_mem _ hb,e⟩
theorem zud:∀ {pos:List xG} {fr:List Nat} {T:List Th} {e0 e:zY},zdl pos fr T e0=some e->∃ ts,pmL pos ts e0=some e/\∀ t∈ts,t∈T
 | [],fr,T,e0,e,h=>⟨[],h,by simp⟩
 | a::r,fr,T,e0,e,h=>by
  rw[zdm] at h
  cases fr with
  | nil=>cases h
  | cons x q=>
   simp only at h
   cases hx:T[x]? with
   | none=>rw[hx] at h;cases h
   | some t=>
    rw[hx] at h;simp only at h
    cases hp:yC e0 a t with
    | none=>rw[hp] at h;cases h
    | some e'=>
     rw[hp] at h;obtain⟨ts,h1,h2⟩:=zud h;refine⟨t::ts,by rw[pmL,hp];exact h1,λ u hu=>?_⟩;rcases List.mem_cons.1 hu with rfl | hu
     ·exact List.mem_of_getElem? hx
     ·exact h2 u hu
variable {K:List (Th × Nat)}
theorem zfd {neg pos:List xG}{e0 e:zY}:e∈qM K neg pos e0↔(∃ ts,pmL pos ts e0=some e/\∀ t∈ts,t∈K.map (·.1))/\∀ x∈neg,zZ e x∉K.map (·.1):=by
 unfold qM;rw[List.mem_filter,zqt];refine and_congr Iff.rfl ?_;unfold jU;rw[Bool.not_eq_true',List.any_eq_false];refine forall_congr' λ x=>forall_congr' λ _=>?_
 rw[yO]
inductive zm2 (rs:List PR)(S:B8->Nat):Nat->List (Th × Nat)->Prop
 | nil:zm2 rs S 0 []
 | add {s:Nat} {K L:List (Th × Nat)}:zm2 rs S s K->(∀ p∈L,zkb (rs.filter (qJ S s)) K p.1)->zm2 rs S s (K++L)
 | up {s:Nat} {K:List (Th × Nat)}:zm2 rs S s K->(∀ t,¬ zkb (rs.filter (qJ S s)) K t)->zm2 rs S (s+1) K
variable {r:Option (List (Th × Nat))} {limit s:Nat} {S:B8->Nat} {rs:List PR}
theorem zu1 {h:Nat}(hc:qT (rs.filter (qJ S s)) limit h K r)(hb:zm2 rs S s K):∀ K',r=some K'->zm2 rs S (s+1) K':=by
 induction hc with
 | fk _ _ _ _=>intro K' h;cases h
 | done hn=>
  intro K' h;obtain rfl:=Option.some.inj h;exact .up hb hn
 | more _ _ _ hL _ _ ih=>exact ih (.add hb (λ p hp=>(hL p.1).1 ⟨p.2,hp⟩))
theorem zwd {count:Nat}(hc:jL rs S limit count s K r)(hb:zm2 rs S s K):∀ K',r=some K'->∃ m,count<=m/\zm2 rs S m K':=by
 induction hc with
 | ends h=>
  intro K' e;obtain rfl:=Option.some.inj e;exact⟨_,h,hb⟩
 | fK _ _=>intro K' e;cases e
 | next _ hc _ ih=>exact ih (zu1 hc hb _ rfl)
variable {R:PR}
theorem zln (hk:zer S R.R)(cT:R.bs.map (·.1)=R.R.body):∀ a∈zM R.bs,S a.p<=S R.R.pd:=λ a ha=>by
 obtain⟨x,hx,hn,rfl⟩:=zqu.1 ha;have:=hk x.1 (by rw[<-cT];exact List.mem_map_of_mem hx);simp only at *;omega
theorem ze7 (hk:zer S R.R)(cT:R.bs.map (·.1)=R.R.body):∀ a∈vV R.bs,S a.p<S R.R.pd:=λ a ha=>by
 obtain⟨x,hx,hn,rfl⟩:=zvk.1 ha;have:=hk x.1 (by rw[<-cT];exact List.mem_map_of_mem hx);rw[hn] at this;simp only[if_true] at *;omega
def z1l (rp:List PR)(st:List yM):Prop:=∀ (j:Nat) (h:j<st.length),st[j].r∈rp/\st[j].t=zZ st[j].e (jB st[j].r)/\∃ ts,pmL (zM st[j].r.bs) ts []=some st[j].e/\∀ t∈ts,t∈(st.take j).map (·.t)
theorem zmr {rp:List PR}:∀ (ns:List (Nat × List Nat)) (st fF:List yM),z1l rp st->zak rp ns st=some fF->z1l rp fF
 | [],st,fF,hs,h=>by obtain rfl:=Option.some.inj h;exact hs
 | x::q,st,fF,hs,h=>by
  rw[zak] at h
  split at h
  ·cases h
  ·rename_i R hx
   split at h
   ·cases h
   ·rename_i e he;refine zmr q _ fF (λ j hj=>?_) h;rw[List.length_append,List.length_singleton] at hj
    by_cases ij:j<st.length
    ·obtain⟨h1,h2,h3⟩:=hs j ij;rw[List.getElem_append_left ij,List.take_append_of_le_length (by omega)];exact⟨h1,h2,h3⟩
    ·have e1:j=st.length:=(by omega);subst e1;rw[List.getElem_append_right (by omega)];simp only[Nat.sub_self,List.getElem_cons_zero,List.take_left'];obtain⟨ts,h1,h2⟩:=zud he;exact⟨List.mem_of_getElem? hx,trivial,ts,h1,h2⟩
variable {st:List yM} {k:Nat} {rp:List PR}
theorem zuz (hv:∀ r∈rp,zer S r.R)(cT:∀ r∈rp,r.bs.map (·.1)=r.R.body)(hN:z1l rp st)(hD:zyr S k st)(hC:z1h S k rp st)(hb:zm2 rp S s K):(∀ t∈K.map (·.1),S t.p<=s)/\(∀ t∈K.map (·.1),S t.p<k->t∈st.map (·.t))/\(∀ t∈st.map (·.t),S t.p<s->t∈K.map (·.1)):=by
 induction hb with
 | nil=>exact⟨by simp,by simp,λ t _ h=>by omega⟩
 | @add s K L _ hL ih=>
  obtain⟨i0,i1,i2⟩:=ih;have eQ:∀ t∈L.map (·.1),S t.p=s/\(S t.p<k->t∈st.map (·.t)):=λ t ht=>by
   obtain⟨p,hp,rfl⟩:=List.mem_map.1 ht;obtain⟨_,r,hr,e,he,hf⟩:=hL p hp;obtain⟨ez,fc⟩:=List.mem_filter.1 hr;have hs:S r.R.pd=s:=(by unfold qJ at fc;simpa using fc);have hp:S p.1.p=s:=(by rw[<-hf];exact hs);refine⟨hp,λ hk=>?_⟩;obtain⟨⟨ts,h1,h2⟩,h3⟩:=zfd.1 he;have sl:S r.R.pd<k:=(by omega);have:=hC r ez sl e (zfd.2 ⟨⟨ts,h1,λ t ht=>?_⟩,λ x hx hm=>?_⟩)
   ·rw[<-hf];exact this
   ·rw[jC];obtain⟨a,ha,e⟩:=zkq h1 t ht;have:=zln (hv r ez) (cT r ez) a ha;exact i1 t (h2 t ht) (by rw[<-e];omega)
   ·rw[jC] at hm;have:=ze7 (hv r ez) (cT r ez) x hx;exact h3 x hx (i2 _ hm (by show S x.p<s;omega))
  refine⟨λ t ht=>?_,λ t ht hk=>?_,λ t ht hs=>?_⟩
  ·rw[List.map_append] at ht;rcases List.mem_append.1 ht with ht | ht
   ·exact i0 t ht
   ·exact Nat.le_of_eq (eQ t ht).1
  ·rw[List.map_append] at ht;rcases List.mem_append.1 ht with ht | ht
   ·exact i1 t ht hk
   ·exact (eQ t ht).2 hk
  ·rw[List.map_append];exact List.mem_append_left _ (i2 t ht hs)
 | @up s K _ hn ih=>
  obtain⟨i0,i1,i2⟩:=ih;refine⟨λ t ht=>Nat.le_succ_of_le (i0 t ht),i1,λ t ht hs=>?_⟩;have all:∀ (j:Nat) (hj:j<st.length),S st[j].t.p<s+1->st[j].t∈K.map (·.1):=by
   intro j
   induction j using Nat.strongRecOn with
   | _ j ihj=>
    intro hj hsj
    by_cases bP:S st[j].t.p<s
    ·exact i2 _ (List.mem_map_of_mem (List.getElem_mem hj)) bP
    ·obtain⟨hr,sN,ts,h1,h2⟩:=hN j hj;have eN:st[j].t.p=st[j].r.R.pd:=(by rw[sN];rfl);have im:S st[j].r.R.pd=s:=by rw[<-eN];omega
     by_cases ak:st[j].t∈K.map (·.1)
     ·exact ak
     ·exfalso
      refine hn st[j].t ⟨?_,st[j].r,List.mem_filter.2 ⟨hr,by unfold qJ;simpa using im⟩,st[j].e,zfd.2 ⟨⟨ts,h1,λ t ht=>?_⟩,λ x hx hm=>?_⟩,sN.symm⟩
      ·cases hl:zU K st[j].t with
       | none=>rfl
       | some n=>exact absurd (yO.1 (by rw[hl];rfl)) ak
      ·obtain⟨a,ha,e⟩:=zkq h1 t ht;have h3:=zln (hv _ hr) (cT _ hr) a ha;obtain⟨x,hx,rfl⟩:=List.mem_map.1 (h2 t ht);obtain⟨i,hi,rfl⟩:=List.getElem_of_mem hx;rw[List.length_take] at hi;rw[List.getElem_take] at e ⊢;exact ihj i (by omega) (by omega) (by rw[<-e];omega)
      ·have hd:=hD st[j] (List.getElem_mem hj) x hx;exact hd.1 (i1 _ hm (by show S x.p<k;exact hd.2))
  obtain⟨x,hx,rfl⟩:=List.mem_map.1 ht;obtain⟨j,hj,rfl⟩:=List.getElem_of_mem hx;exact all j hj hs
theorem zv3 {ps:P9}(hv:qH (rp.map (·.R)) S)(cT:∀ r∈rp,r.bs.map (·.1)=r.R.body)(hR:∀ r∈rp,j0 ps r){m:Nat}(hm:vY ps S m){b:List Nat}(hr:ie rp S m b k st)(hK:jL rp S limit m 0 [] (some K)):(∀ t∈st.map (·.t),t∈K.map (·.1))/\∀ t∈K.map (·.1),S t.p<k->t∈st.map (·.t):=by
 obtain⟨ns,_,_,dj,_,hD,hC⟩:=hr;obtain⟨n,hn,hb⟩:=zwd hK .nil K rfl;have hN:=zmr ns [] st (λ j hj=>by simp at hj) dj;obtain⟨_,h1,h2⟩:=zuz (λ r hr=>hv r.R (List.mem_map_of_mem hr)) cT hN hD hC hb;refine⟨λ t ht=>h2 t ht ?_,h1⟩;obtain⟨s,hs,rfl⟩:=List.mem_map.1 ht;have hg:=zjn hR ns [] st (by simp) dj s hs;have:=hm.1 s.t.p (by have:=hg.ti.num;rw[show s.t.p=s.t.1 from rfl,this];rfl);omega
end
section
open Go.RowKit
attribute [local go_sem ↓] zik zgc zga zgb zkt zee
attribute [local go_sem] zec z49
theorem z20:(Tryz.prog.info? 352).map (λ i=>(i.zero,i.size,i.bytes))=some (some (zgh zej),33,536):=by kernel_rfl
theorem z87 (s:yM)(h:s.r.hv.oneCell'=true/\s.r.bv.oneCell'=true):∀ u∈zO s,u.oneCell'=true:=by
 have:=zyd s h;rw[Array.all_eq_true_iff_forall_mem] at this;exact λ u hu=>this u (by simpa using hu)
theorem z5m {rp:List PR}{ns:List (Nat × List Nat)}{st:List yM}{k:Nat}(h:k<ns.length)(hr:ns[k].1<rp.length):zak rp (ns.drop k) st=match zdl (zM rp[ns[k].1].bs) ns[k].2 (st.map (·.t)) [] with | none=>none | some e=>zak rp (ns.drop (k+1)) (st++[zkh rp[ns[k].1] (some e)]):=by
 rw[List.drop_eq_getElem_cons h,zak,List.getElem?_eq_getElem hr];rfl
structure ig (w:W8)(K:Nat)(nv v:Value)(st:List yM)(wr:W8):Prop where
 kp:Below w.heap.size w wr
 box:wr.heap[w.heap.size]?=some (.cells #[.int .i64 (K:Nat),nv] 93 (0,0))
 st:wr.ownsRow (w.heap.size+1) 352 33 v st.length (st.flatMap zO)
variable {wr w:W8} {nv v:Value} {K:Nat}
theorem ig.lt {st:List yM}(h:ig w K nv v st wr):w.heap.size<wr.heap.size:=(Array.getElem?_eq_some_iff.1 h.box).1
theorem ig.below {st:List yM}{w':W8}(h:ig w K nv v st wr)(k:Below wr.heap.size wr w'):ig w K nv v st w':=
 ⟨h.kp.trans (k.mono h.kp.size),(k.block _ h.lt).trans h.box,zG h.st k (λ g e=>(h.st.lt g e).2)⟩
theorem ig.add {wX W w5:W8}{v':Value}{st:List yM}{s:yM}(h:ig w K nv v st wX)(hW:Below wX.heap.size wX W)(hg:W.grownBy w5 v.ownBlock)(aI:w5.ownsRow (w.heap.size+1) 352 33 v' (st.length+1) (st.flatMap zO++zO s)):ig w K nv v' (st++[s]) w5:=by
 have hB:=h.below hW;have k5:yA v.ownBlock.toList W w5:=yA.eK hg;have aX:∀ x∈v.ownBlock.toList,w.heap.size+1<=x:=λ x hx=>(hB.st.lt x (by simpa using hx)).1
 exact⟨yE hB.kp k5 hB.kp.size (λ b hm=>by have:=aX b hm;omega),(k5.block _ hB.lt (λ hm=>by have:=aX _ hm;omega)).trans hB.box,by rw[List.length_append,List.flatMap_append];simpa using aI⟩
structure z6z (w:W8)(base:Nat)(rs:List PR)(rv:Value)(aJ:List ND)(nv:Value):Prop where
 rules:aD w base rv rs
 l3:∀ r∈rs,r.bs.length<=3
 t4:∀ r∈rs,∀ x∈r.bs,x.1.ts.length<=4
 h4:∀ r∈rs,r.R.ts.length<=4
 nodes:jS w 0 nv aJ
 ft:aJ.length<=50
 ix:∀ x∈aJ,∃ h:x.r<rs.length,x.fr.length=(zM rs[x.r].bs).length
def z1y (w:W8)(o:Option (List yM))(e:Ending)(w':W8):Prop:=Below w.heap.size w w'/\∃ v,e=.returned (.tuple #[v,.bool o.isSome])/\zpz w' (w.heap.size+1) v (o.getD [])
theorem z5n (w:W8)(base K:Nat)(rs:List PR)(ar:O8)(cr:Nat)(aJ:List ND)(an:O8)(cn:Nat)(h:z6z w base rs (.slice ar rs.length cr) aJ (.slice an aJ.length cn)):
  Calls Tryz.prog 178 #[.agg #[.int .i64 (K:Nat),.slice an aJ.length cn],.slice ar rs.length cr] w (z1y w (zak rs (aJ.map dX) [])):=by
 have mH:=vK h.nodes.row;have J4:=vK h.rules.row;unfold maxLen at mH J4;have H:=zC h;have gE:=h.ft;obtain⟨i0,CD,dK,aj,bZ⟩:=info_parts z20;clear h;go_enter Tryz.func178,Tryz.ntmps178;go_upto_region 2 with fail;generalize hw0:World.alloc w _=w0;have h0:ig w K (.slice an aJ.length cn) (.slice none 0 0) [] w0:=by
  rw[<-hw0];exact⟨B9.alloc L9 _,heap_alloc_new w _,World.ownsRow_nil _ _ _ _⟩
 clear hw0;have c1:=(zB h0.box 1).1;simp only[List.getElem?_toArray,List.getElem?_cons_zero,List.getElem?_cons_succ] at c1;have iI:=zC h0;clear h0;go_wp2_with fail;clear c1;generalize sc:zak rs (aJ.map dX) []=T at *;have xn:=zC sc;clear sc
 go_loopg [6,14] aJ.length (λ gg v ii wr=>∃ (k:Nat) (st:List yM),k<=aJ.length/\gg=aJ.length-k/\ii=.int .i64 k/\ig w K (.slice an aJ.length cn) v st wr/\st.length=k/\zak rs ((aJ.map dX).drop k) st=T)
 exact⟨0,[],Nat.zero_le _,rfl,rfl,zA iI,rfl,zA xn⟩
 case round=>
  clear iI xn;obtain⟨k,st,hk,fM,rfl,ak,lJ,bj⟩:=hrel;obtain⟨av,cv,rfl⟩:=zE ak.st;have bt:=zC ak;have rR:=zC lJ;have gL:=zC bj;have lK:=ak.lt
  by_cases aN:k<aJ.length
  ·have gW:(k:Int)<aJ.length:=(by omega);have dB:=(zA H).nodes.below ak.kp;obtain⟨gn,cn',hv,-,dp,dG,dx,hc⟩:=vE zd3 dB.row k aN;injection hv with i1 i2 i3
   subst i1 i3;have bC:=List.getElem_mem aN;have kU:=dB.each _ bC;obtain⟨af,cf,AH⟩:=zE kU;have e0:=hc 0 (by omega);have e1:=hc 1 (by omega);simp only[zax,List.getElem?_cons_zero,List.getElem?_cons_succ] at e0 e1;rw[AH] at e1 kU;obtain⟨ru,Gk⟩:=(zA H).ix _ bC;have dj:=z5m (rp:=rs) (ns:=aJ.map dX) (st:=st) (k:=k) (by simpa using aN) (by simpa[dX] using ru);simp only[List.getElem_map,dX] at dj;rw[dj] at bj;have HT:=zC bj;have eI:=(zA H).rules.row;have gC:=((zA H).rules.each _ (List.getElem_mem ru));have eR:=gC.one;have h3:=(zA H).l3 _ (List.getElem_mem ru);have zt:=(zA H).t4 _ (List.getElem_mem ru);have J5:=(zA H).h4 _ (List.getElem_mem ru);obtain⟨gr,cr',nM,-,uq,hnr,Ay,fL⟩:=vE (f:=PR.cells) (n:=3) (λ _=>rfl) (zG eI ak.kp (λ g e=>(eI.lt g e).2)) aJ[k].r ru;injection nM with i1 i2 i3
   subst i1 i3;have r0:=fL 0 (by omega);have r1:=fL 1 (by omega);have r2:=fL 2 (by omega);simp only[PR.cells,List.getElem?_cons_zero,List.getElem?_cons_succ,Nat.add_zero] at r0 r1 r2 e0;obtain⟨ah,ch,fs⟩:=zE gC.hd;obtain⟨ab,cb,fi⟩:=zE gC.bo.row;rw[fs] at r1;rw[fi] at r2;have Kk:((aJ[k].r:Nat):Int)<rs.length:=(by omega);have mZ:=zC eR;have A5:=zC (And.intro fs fi);have fU:=zC (λ (W:W8) (hW:Below wr.heap.size wr W)=>z4r W base rs[aJ[k].r] aJ[k].fr af cf st av cv ⟨⟨zG gC.hd (ak.kp.trans (hW.mono ak.kp.size)) (λ g e=>(gC.hd.lt g e).2),gC.bo.below (ak.kp.trans (hW.mono ak.kp.size)),gC.eq⟩,h3,zt,J5,zG (zI kU (Nat.zero_le _)) hW (λ g e=>(kU.lt g e).2),Gk,⟨zG (zI ak.st (Nat.zero_le _)) hW (λ g e=>(ak.st.lt g e).2)⟩⟩);rw[fs,fi] at fU;clear ak lJ bj dB hc dj eI gC fL eR bC kU AH zt J5 fs fi Gk h3 gL;generalize hR:rs[aJ[k].r]=R at *;generalize hX:aJ[k].r=x at *;generalize hFR:aJ[k].fr=FR at *;generalize hO:zdl (zM R.bs) FR (st.map (·.t)) []=O at *;have Bm:=zC hO;clear hO hFR hX hR;have pw:(zkh R O).r.hv.oneCell'=true/\(zkh R O).r.bv.oneCell'=true:=by
    cases O with
    | none=>exact⟨rfl,rfl⟩
    | some e=>exact zA mZ
   have sM:=λ (W:W8) (s:yM)=>zhb W s (zkh R O) pw
   go_upto_region 5 with fail;generalize hw3:World.alloc wr _=w3;have k3:Below wr.heap.size wr w3:=(by rw[<-hw3];exact B9.alloc L9 _);have y3:w3.heap[wr.heap.size]?=some (.cells #[.int .i64 (x:Nat),.slice af FR.length cf] 150 (0,0)):=(by rw[<-hw3];exact heap_alloc_new wr _);have s3:wr.heap.size<w3.heap.size:=(by rw[<-hw3];simp);clear hw3;have a0:=(zB y3 0).1;have a1:=(zB y3 1).1;simp only[List.getElem?_toArray,List.getElem?_cons_zero,List.getElem?_cons_succ] at a0 a1;have u0:=(k3.cell (p:=⟨gr,x*3,none⟩) uq).trans r0;have u1:=(k3.cell (p:=⟨gr,x*3+1,none⟩) uq).trans r1;have u2:=(k3.cell (p:=⟨gr,x*3+2,none⟩) uq).trans r2;have HA:=zC (λ (W:W8) (hW:Below w3.heap.size w3 W)=>(show W.cell? ⟨wr.heap.size,0,none⟩=some (.int .i64 (x:Nat))/\W.cell? ⟨wr.heap.size,1,none⟩=some (.slice af FR.length cf)/\W.cell? ⟨gr,x*3,none⟩=some (.string R.R.pd)/\W.cell? ⟨gr,x*3+1,none⟩=some (.slice ah R.R.ts.length ch)/\W.cell? ⟨gr,x*3+2,none⟩=some (.slice ab R.bs.length cb) from ⟨(hW.cell (p:=⟨wr.heap.size,0,none⟩) (by show wr.heap.size<_;omega)).trans a0,(hW.cell (p:=⟨wr.heap.size,1,none⟩) (by show wr.heap.size<_;omega)).trans a1,(hW.cell (p:=⟨gr,x*3,none⟩) (by show gr<_;omega)).trans u0,(hW.cell (p:=⟨gr,x*3+1,none⟩) (by show gr<_;omega)).trans u1,(hW.cell (p:=⟨gr,x*3+2,none⟩) (by show gr<_;omega)).trans u2⟩));have xm:=zC (λ (W:W8) (hW:Below w3.heap.size w3 W)=>zA fU W (k3.trans (hW.mono k3.size)));have qy:=zC k3;clear e0 e1 r0 r1 r2 y3 k3
   go_cut [9,10] from 15 to 36 (λ p c wc=>∃ nb,p=.pointer (some ⟨nb,0,none⟩)/\c=.bool O.isSome/\gO wc nb (zkh R O)/\Below w3.heap.size w3 wc)
   case first=>
    go_region_held3 (λ w'=>w'.cell? ⟨wr.heap.size,0,none⟩=some (.int .i64 (x:Nat))/\w'.cell? ⟨wr.heap.size,1,none⟩=some (.slice af FR.length cf)/\w'.cell? ⟨gr,x*3,none⟩=some (.string R.R.pd)/\w'.cell? ⟨gr,x*3+1,none⟩=some (.slice ah R.R.ts.length ch)/\w'.cell? ⟨gr,x*3+2,none⟩=some (.slice ab R.bs.length cb)) ((refine zA HA _ ?_;first | exact bY | exact B9.drew | exact (B9.alloc L9 _).drew | exact bY.alloc bY.size _ | exact zX bY L9 _)) ((go_at_call 222;refine (zA xm _ (by first | exact B9.drew | exact (B9.alloc L9 _).drew)).mono ?_;rintro en w4 ⟨bQ,rfl⟩;have bY:Below w3.heap.size w3 w4:=(by first | exact zL bQ | exact zbr (B9.alloc L9 _) bQ);first | (have uO:=((gO.new w3 zej).below (zL bQ)).store (zkh R O) pw) | skip))
    all_goals
     go_wp2_with fail;go_meet
     case rel=>first | exact⟨_,rfl,rfl,gO.new _ _,bY.alloc bY.size _⟩ | exact⟨_,rfl,rfl,setRow_heap _ _ _ _ _ _ ((gO.new w3 zej).below (zL bQ)),zX bY L9 _⟩
   case rest=>
    generalize wc=wA at *;obtain⟨nb,rfl,rfl,lk,fu⟩:=hcut;have di:=((zA bt).below (zA qy)).below fu;have qx:=zC di;clear HA fU xm a0 a1 u0 u1 u2
    cases hRR:O with
    | none=>
     have HE:=zC (show T=none by rw[<-zA HT,hRR]);clear di lk fu hRR;go_wp2_with fail
     go_ret2
     rw[zA HE];exact⟨(zA qx).kp,_,rfl,⟨World.ownsRow_nil _ _ _ _⟩⟩
    | some e=>
     rw[hRR] at lk;have HE:=zC (show zak rs ((aJ.map dX).drop (k+1)) (st++[zkh R (some e)])=T by rw[<-zA HT,hRR]);have tW:(zkh R (some e)).r.hv.oneCell'=true/\(zkh R (some e)).r.bv.oneCell'=true:=zA mZ;have qi:=lk.load;generalize zkh R (some e)=sn at *;have bH:=di.st.alloc (.cells (zO sn).toArray 352);have gF:=zC (World.news_of_block (heap_alloc_new wA (.cells (zO sn).toArray 352)));have lJ:st.length<=50:=(by have:=zA rR;omega);have Gg:=di.lt;clear di lk fu hRR pw sM;go_wp2_with (at_builtin;refine wpList_append_own _ rfl _ _ 303 rfl (w.heap.size+1) 352 i0 _ 33 536 Tryz.underlying303 CD dK aj bZ rfl (by decide) _ _ _ rfl bH ⟨wA.heap.size,0,none⟩ 1 1 (zO sn) rfl rfl (zA gF) (z87 sn tW) (by unfold maxLen;omega) (by omega) (by simp;omega) ?_;intro v5 w5 ad dz aw;clear aw;obtain⟨a5,gz,rfl⟩:=zE ad;have mY:=zC ad;have bp:=zC dz;clear ad dz);go_roundg (aJ.length-(k+1));exact⟨k+1,st++[sn],by omega,rfl,by go_num,(zA qx).add (B9.alloc L9 _) (zA bp) (zA mY),by have:=zA rR;rw[List.length_append,List.length_singleton];omega,zA HE⟩;omega
  ·have gW:¬ (k:Int)<aJ.length:=(by omega);have HE:=zC (show T=some st by rw[<-bj,List.drop_of_length_le (by simp;omega)];rfl);clear ak lJ bj;go_wp2_with fail
   go_ret2
   rw[zA HE];exact⟨(zA bt).kp,_,rfl,⟨(zA bt).st⟩⟩
end
section
open Go.RowKit Go.Maps
attribute [local go_sem ↓] zik zgc zga zgb zkt zee vS
attribute [local go_sem] zec
theorem z0t (st:List yM)(s:yM):j9 (st++[s])=j9 st++[(s.t,st.length)]:=by
 unfold j9;rw[List.map_append,List.zipIdx_append,List.length_map];simp
def zys (w:W8)(st:List yM)(e:Ending)(w':W8):Prop:=Below w.heap.size w w'/\((¬ (st.map (·.t)).Nodup/\e=.returned (.tuple #[.map none,.bool false]))\/((st.map (·.t)).Nodup/\e=.returned (.tuple #[.map (some w.heap.size),.bool true])/\vW w' w.heap.size (j9 st)))
theorem zzi (w:W8)(base:Nat)(st:List yM)(a:O8)(c:Nat)(h:zpz w base (.slice a st.length c) st)(bX:∀ s∈st,zbk s.t)(h50:st.length<=50)(eR:∀ s∈st,s.r.hv.oneCell'=true/\s.r.bv.oneCell'=true):
  Calls Tryz.prog 179 #[.slice a st.length c] w (zys w st):=by
 have hm:=vK h.row;unfold maxLen at hm;have H:=zC h;have iS:=zC bX;have mZ:=zC eR;clear h bX eR;have bz:=@run_makeMap Tryz.prog;go_enter Tryz.func179,Tryz.ntmps179;go_upto_region 2 with fail;clear bz;have uD:=vW.made w;have bS:Below w.heap.size w (w.alloc (.map #[] 0)):=B9.alloc L9 _;generalize (w.alloc (.map #[] 0))=w0 at *;have iI:=zC (And.intro uD bS);clear uD bS;go_wp2_with fail
 go_loopg [12] st.length (λ gg ii wr=>∃ k:Nat,k<=st.length/\gg=st.length-k/\ii=.int .i64 k/\vW wr w.heap.size (j9 (st.take k))/\Below w.heap.size w wr)
 exact⟨0,Nat.zero_le _,rfl,rfl,(zA iI).1,(zA iI).2⟩
 case round=>
  clear iI;obtain⟨k,hk,fM,rfl,aq,cV⟩:=hrel;have kz:=zC aq;have gw:=zC cV;have lK:=aq.lt
  by_cases aN:k<st.length
  ·have gW:(k:Int)<st.length:=(by omega);have aE:=zG (zA H).row cV (λ g e=>((zA H).row.lt g e).2);obtain⟨g,cap,hv,-,dp,dG,dx,hc⟩:=zwb aE aN;injection hv with h1 h2 h3
   subst h1 h3;have bC:=List.getElem_mem aN;have hT:=zA iS _ bC;have tW:=zA mZ _ bC;have qi:=zpi hc
   have fU:=zC (show j9 (st.take (k+1))=j9 (st.take k)++[(st[k].t,k)] by
    rw[List.take_succ_eq_append_getElem aN,z0t,List.length_take,Nat.min_eq_left (by omega)])
   have hlen:(j9 (st.take k)).length<maxLen:=by
    unfold j9 maxLen;rw[List.length_zipIdx,List.length_map,List.length_take];omega
   have tf:=zC (show st.map (·.t)=(st.take k).map (·.t)++st[k].t::(st.drop (k+1)).map (·.t) by
    rw[<-List.map_cons,<-List.drop_eq_getElem_cons aN,<-List.map_append,List.take_append_drop])
   have sM:=λ (W:W8) (s:yM)=>zhb W s st[k] tW
   have lk:=gO.new wr st[k]
   have J7:=zt5 (o:=0) (s:=st[k]) (w:=wr.alloc (.cells (zO st[k]).toArray 352)) (g:=wr.heap.size) (λ j hj=>by
    rw[Nat.zero_add,(zB lk j).1,List.getElem?_toArray])
   rw[Nat.zero_add] at J7;have CZ:=(zA kz).alloc (.cells (zO st[k]).toArray 352);have eS:=zC (cV.alloc cV.size (.cells (zO st[k]).toArray 352));generalize st[k]=s at *;clear aq cV aE hc bC lk kz
   cases fN:zU (j9 (st.take k)) s.t with
   | some m=>
    have A2:=zC (show ¬ (st.map (·.t)).Nodup by
     intro dB;rw[zA tf,List.nodup_append] at dB;have h5:s.t∈(st.take k).map (·.t):=by
      rw[<-jC];exact yO.1 (by rw[fN];rfl)
     exact dB.2.2 _ h5 _ List.mem_cons_self rfl)
    go_wp2_with (at_lookup;refine zbo _ rfl _ _ 82 rfl Tryz.underlying82 w.heap.size (j9 (st.take k)) rfl CZ s.t rfl hT _ rfl true (by rw[fN];rfl) ?_)
    go_ret2
    exact⟨zA eS,.inl ⟨zA A2,rfl⟩⟩
   | none=>
    have iJ:=zC fN;go_wp2_with (first | (at_lookup;refine zbo _ rfl _ _ 82 rfl Tryz.underlying82 w.heap.size (j9 (st.take k)) rfl CZ s.t rfl hT _ rfl false (by rw[zA iJ];rfl) ?_) | (at_mapUpdate;refine zwo _ rfl _ _ _ 82 rfl Tryz.underlying82 w.heap.size (j9 (st.take k)) rfl CZ hlen s.t k rfl rfl hT ?_;intro w3 ey ki;have mW:=zC ey;have tO:=zC ki;clear ey ki));go_roundg (st.length-(k+1))
    case measure=>omega
    case rel=>
     have g3:=(zA tO).grown;have kA:=zA eS;refine⟨k+1,by omega,rfl,by go_num,?_,⟨g3.os.trans kA.os,g3.tape.trans kA.tape,g3.output.trans kA.output,Nat.le_trans kA.size g3.size,λ j hj=>(g3.block j (by have:=kA.size;omega) (by simp;omega)).trans (kA.block j hj)⟩⟩;have h3:=zA mW;have sG:zis (j9 (st.take k)) s.t k=j9 (st.take k)++[(s.t,k)]:=(by unfold zis;rw[zA iJ];rfl);rw[sG] at h3;rw[zA fU];exact h3
  ·have gW:¬ (k:Int)<st.length:=(by omega);have lX:st.take k=st:=List.take_of_length_le (by omega)
   have ju:=zC (show (st.map (·.t)).Nodup by
    have:=aq.nodup;rw[jC,lX] at this
    exact this)
   rw[lX] at kz;clear aq cV lX;go_wp2_with fail
   go_ret2
   exact⟨zA gw,.inr ⟨zA ju,rfl,zA kz⟩⟩
end
end Go.Proofs.YtldkpahaocjdpaaGreat
