/-
  Plain: Query answers the same in the reference and in the program.
-/
import Derived.Sort.Walk0
import Derived.Test.YtldkpahaocjdpaaGreatC35
import Derived.Test.YtldkpahaocjdpaaGreatC42
import Derived.Test.YtldkpahaocjdpaaGreatC45
set_option maxHeartbeats 16000000
set_option maxRecDepth 1000000
namespace Go.Proofs.YtldkpahaocjdpaaGreat
section
open Go.Sort
theorem zt0 {S:Nat->Nat}:∀ {n i:Nat},i<n->S i<=oI S n
 | 0,_,h=>by omega
 | n+1,i,h=>by
  rw[oI];rcases Nat.lt_or_eq_of_le (Nat.le_of_lt_succ h) with h | rfl
  ·exact Nat.le_trans (zt0 h) (Nat.le_max_left _ _)
  ·exact Nat.le_max_right _ _
theorem ztz {S:Nat->Nat}:∀ (n:Nat),n=0\/∃ i,i<n/\oI S n=S i
 | 0=>.inl rfl
 | n+1=>by
  right
  rw[oI];rcases Nat.le_total (oI S n) (S n) with h | h
  ·exact⟨n,by omega,Nat.max_eq_right h⟩
  ·rw[Nat.max_eq_left h];rcases ztz (S:=S) n with h0 | ⟨i,hi,e⟩
   ·refine⟨n,by omega,?_⟩;subst h0;have:oI S 0=0:=rfl;omega
   ·exact⟨i,by omega,e⟩
variable {ps:P9}
theorem Il {k:B8}:(xH ps k).isSome=true↔0<=zM ps k:=by
 have h:=(zlt k ps 0).1;unfold zM
 constructor
 ·intro hk;refine Int.not_lt.1 λ c=>?_
  rw[h.1 c] at hk
  cases hk
 ·intro hk
  cases hn:xH ps k with
  | none=>have:=h.2 hn;omega
  | some n=>rfl
theorem zva {Sp:B8->Nat}{S:Nat->Nat}{m:Nat}(ho:zxs ps)(hs:∀ k,0<=zM ps k->Sp k=S (vZ ps k))(hc:za1 ps Sp m)(eI:ps≠[]):m=oI S ps.length+1:=by
 have hZ:∀ (i:Nat) (hi:i<ps.length),0<=zM ps ps[i].1/\vZ ps ps[i].1=i:=λ i hi=>by
  have:=zr8 ho i 0 hi;unfold vZ zM;rw[this]
  constructor
  ·omega
  ·simp
 have h1:oI S ps.length+1<=m:=by
  rcases ztz (S:=S) ps.length with h0 | ⟨i,hi,e⟩
  ·exact absurd (List.length_eq_zero_iff.1 h0) eI
  ·obtain⟨a,b⟩:=hZ i hi;have:=hc.1 _ (Il.2 a);rw[hs _ a,b] at this;omega
 have h2:m<=oI S ps.length+1:=by
  rcases hc.2 with h0 | ⟨k,hk,e⟩
  ·omega
  ·have ph:=Il.1 hk;rw[hs k ph] at e;have:=(zzm k ps 0 ph).2;have aG:vZ ps k<ps.length:=(by unfold vZ zM at *;omega);have:=zt0 (S:=S) aG;omega
 omega
end
section
open Go.RowKit Go.Maps
theorem z67 {s:B8}{xb yb:Nat}{w:W8}{lo:Nat}(h:uq s xb yb w lo):∃ (rs:List RR) (rv pv tv:Value) (gs:Nat) (S:Nat->Nat),AX w yb rs (yA s).2 rv pv tv gs S/\rs.map (·.R)=(yO s).1/\zdf (yA s).2 (yO s).1 S/\Low (yA s).2 (yO s).1 S/\∀ i,S i<=1000000:=by
 obtain⟨rs,ps,rv,pv,tv,gs,S,h1,h2,h3,h4,h5,h6,h7,h8,h9⟩:=h.y;have hg:=zfy h.ok;subst h8;rw[h7] at h5 h6;have ay:∀ r∈rs,yT r.R∈(yS s).2.2.1:=λ r hr=>by
  rw[hg.rules,<-h7,List.map_map];exact List.mem_map.2 ⟨r,hr,rfl⟩
 have hm:∀ r∈rs,r.R∈(yO s).1:=λ r hr=>by rw[<-h7];exact List.mem_map_of_mem hr
 have eS:∀ A:zL,zit A.pred (A.ae.map gZ)->zgo A:=λ A hA=>⟨by have:=hA.pd.le;omega,λ t ht=>by
  have:=(hA.ts (gZ t) (List.mem_map.2 ⟨t,ht,rfl⟩)).le;have e:(gZ t).2=t.text:=rfl;rw[e] at this
  omega,by have:=hA.gH;rw[List.length_map] at this;exact this⟩
 refine⟨rs,rv,pv,tv,gs,S,⟨h3,h4,λ r hr=>?_,λ r hr a ha=>?_,λ r hr=>?_⟩,h7,h5,h6,λ i=>?_⟩
 ·have hb:=hg.body _ (ay r hr);have e:=(h3.each r hr).eq;simp only[yT] at hb;rw[List.length_map,e,List.length_map] at hb;exact hb
 ·have hw:=zei s _ (ay r hr);rcases List.mem_cons.1 ha with rfl | ha
  ·exact eS _ hw.1
  ·exact eS _ (hw.2 (nI a) (List.mem_map.2 ⟨a,ha,rfl⟩))
 ·exact h9 _ (List.mem_flatMap.2 ⟨r.R,hm r hr,List.mem_cons_self⟩)
 ·obtain⟨f,hf,nO⟩:=hg.some_;rw[hg.rules] at hf;have:=h6 _ (zoe hf h9) i;have:=nO (z7q (yA s).2 i);omega
end
section
open Go.Sort
variable {q:B8} {ps:P9}
theorem zi4 (h:(zae ps q&&vP (zJ q))=true):DP (thA (zJ q))/\(thA (zJ q)).2.length<=4:=by
 have vd:zgt q=true:=by
  unfold zae at h;simp only[Bool.and_eq_true] at h;exact h.1.1
 have hw:zit (pa (zJ q)).p (pa (zJ q)).ts:=z0m (q:=q) (by rw[z0l,if_pos vd]);refine⟨⟨hw.pd,λ x hx=>?_⟩,by have:=hw.gH;simpa[pa,thA] using this⟩;obtain⟨t,ht,rfl⟩:=List.mem_map.1 hx;exact hw.ts (gZ t) (List.mem_map.2 ⟨t,ht,rfl⟩)
theorem z93 {t:Th}(h:DP t)(hf:t.2.length<=4):zhm t:=
 ⟨by have:=h.pd.le;show t.1.size<=_;omega,hf,λ x hx=>by have:=(h.ts x hx).le;omega,λ x hx=>(h.ts x hx).ne⟩
theorem z28 (t:Th)(h:zcv ps q=some t):zhm t:=by
 rw[zum] at h
 split at h
 ·rename_i cd;obtain rfl:=Option.some.inj h;exact z93 (zi4 cd).1 (zi4 cd).2
 ·cases h
theorem zrh (h:(zae ps q&&vP (zJ q))=true):(xS (zJ q)).length<=1000000000:=by
 obtain⟨hw,h3⟩:=zi4 h;have e:(xS (zJ q)).length=(zhu (thA (zJ q)).1 (j4 (thA (zJ q)))).length:=by
  have:=congrArg (λ x:B8=>x.data.toList.length) (zgg (zJ q));simpa[zU,zhg] using this
 generalize thA (zJ q)=t at *;have h1:=zgc (j4 t) 0 (λ x hx=>by have:=(hw.ae x hx).le;omega);have h2:(j4 t).length=t.2.length:=by unfold j4;simp
 have h4:=hw.pd.le;have h5:=qR t.1;rw[e];unfold zhu;rw[List.length_append,List.length_append];have h6:(if (j4 t).length=0 then ([]:List UInt8) else [41]).length<=1:=by split <;> simp
 have h7:(j4 t).length*1001<=4*1001:=Nat.mul_le_mul_right _ (by omega);omega
variable {s:B8}
theorem z9c (h:(yH s).1=true){rp:List PR}(pw:rp.map (·.R)=(yS s).2.2.1)(ux:∀ r∈rp,r.bs.map (·.1)=r.R.body):z2q (yO s).1 rp:=by
 have g:=zfy h;have e:rp.map (·.R)=(yO s).1.map yT:=by rw[pw,g.rules]
 have hl:(yO s).1.length=rp.length:=by have:=congrArg List.length e;simpa using this.symm
 refine⟨hl,λ i h1 h2=>⟨?_,ux _ (List.getElem_mem h2)⟩⟩;have:=congrArg (λ l:List vX=>l[i]?) e;simp only[List.getElem?_map,List.getElem?_eq_getElem h1,List.getElem?_eq_getElem h2,Option.map_some,Option.some.injEq] at this;exact this
theorem zof {l:List zQ}:∀ (b:List zL) (now:List Way) (m:Nat),(∀ x∈now,x.2.length<=m/\∀ z∈x.2,z<l.length)->∀ y∈zis l b now,y.2.length<=m+b.length/\∀ z∈y.2,z<l.length
 | [],_,_,h,y,hy=>by simpa using h y hy
 | a::r,now,m,h,y,hy=>by
  rw[zis] at hy
  split at hy
  ·have:=zof r now m h y hy;exact⟨by have:=this.1;simp;omega,this.2⟩
  ·have:=zof r (zgi a l now) (m+1) (λ x hx=>by
    obtain⟨u,hu,hx⟩:=List.mem_flatMap.1 hx;obtain⟨k,hk,e,_,rfl⟩:=zic l 0 hx;have hu:=h u hu;refine⟨by simp;exact hu.1,λ z hz=>?_⟩;rcases List.mem_append.1 hz with hz | hz
    ·exact hu.2 z hz
    ·rw[List.mem_singleton] at hz
     omega) y hy
   exact⟨by have:=this.1;simp;omega,this.2⟩
theorem zss (h:(yH s).1=true){S:Nat->Nat}{aq:Nat}(hl:aq<=50){l:List zQ}(aP:zld (yA s).2 S (yO s).1 aq (oI S (yA s).2.length) 0 [] (some l)):∀ f∈l,f.fr.length<=3/\∀ x∈f.fr,x<l.length:=by
 have g:=zfy h;have hT:=z5a hl aP (Dm.nil _ _ _) (by simp) l rfl;intro f hf;obtain⟨l0,r,e,_,_,_,hF⟩:=hT.each f hf;obtain⟨R,Xa,_,⟨y,hy,YQ,_⟩,_⟩:=hF.has;have hb:R.body.length<=3:=by
  have:=g.body (yT R) (by rw[g.rules];exact List.mem_map_of_mem (List.mem_of_getElem? Xa));simpa[yT] using this
 obtain⟨h1,h2⟩:=zof R.body [([],[])] 0 (by simp) y (List.mem_filter.1 hy).1;rw[YQ] at h1 h2;refine⟨by omega,λ x hx=>?_⟩;have:=h2 x hx;rw[e,List.length_append];omega
end
section
open Go.RowKit
def z6o (w:W8)(bs:List Nat)(G:zQ->Prop)(N:Nat)(T:Option (List zQ × List Env × Nat))(e:Ending)(w':W8):Prop:=
 Below w.heap.size w w'/\((T=none/\e=.returned (.tuple #[.slice none 0 0,.slice none 0 0,.bool false])) \/
  ∃ (fs:List FG) (xs:List EV) (i:Nat) (a7 a8:O8) (c7 c8:Nat),T=some (fs.map (·.F),xs.map (·.e),i)/\e=.returned (.tuple #[.slice a7 fs.length c7,.slice a8 xs.length c8,.bool (decide (i=bs.length))])/\yW w' w.heap.size (.slice a7 fs.length c7) fs/\FV w' w.heap.size (.slice a8 xs.length c8) xs/\(∀ f∈fs,G f.F)/\fs.length=N/\xs.length=N)
theorem z0g (w:W8)(o:Nat)(rs:List RR)(ps:P9)(rv pv tv:Value)(gs:Nat)(S:Nat->Nat)(G:zQ->Prop)(hC:yab w o rs ps rv pv tv gs S G)(g oo c:Nat)(bs:List Nat)(hb:nJ w (some ⟨g,oo,none⟩) c bs)(N:Nat)(h2:2<=bs.length)(eK:bs.length<=1000000000)(hN:bs[1]?=some N)(KA:N<=50):
  Calls Tryz.prog 191 #[.pointer (some ⟨o,0,none⟩),.slice (some ⟨g,oo,none⟩) bs.length c] w (z6o w bs G N (xM (rs.map (·.R)) (zdz ps S) bs N 2 [] [])):=by
 have HC:=zC hC;have HB:=zC hb;have HN:=zC hN;clear hC hb hN;go_enter Tryz.func191,Tryz.ntmps191;go_wp2_with fail;refine z9m w o rs ps rv pv tv gs S G (zA HC) g oo c bs (zA HB) N h2 eK (zA HN) KA ?_ ?_
 ·intro v7 v8 v9 fs xs i w2;intros;rename_i h9 hI hG lG nU Qh hT;subst h9;obtain⟨a7,c7,rfl⟩:=zD hI.facts.row;obtain⟨a8,c8,rfl⟩:=zD hI.qx.row;have HI:=zC hI;have HG:=zC hG;have HL:=zC (And.intro lG nU);have HT:=zC hT;clear hI hG lG nU hT HC HB HN;go_wp2_with fail
  go_ret3
  refine⟨(zA HI).below,.inr ⟨fs,xs,i,a7,a8,c7,c8,zA HT,?_,(zA HI).facts,(zA HI).qx,zA HG,(zA HL).1,(zA HL).2⟩⟩;simp;rw[Bool.eq_iff_iff];simp;omega
 ·intro v7 v8 v9 w2;intros;rename_i hB hT;have rA:=zC hB;have HT:=zC hT;clear hB hT HC HB HN
  go_ret3
  exact⟨zA rA,.inl ⟨zA HT,rfl⟩⟩
end
section
def qk (S:Nat->Nat):Nat->Nat
 | 0=>0
 | n+1=>max (qk S n) (S n+1)
theorem zlr (S:Nat->Nat):∀ n,qk S (n+1)=oI S (n+1)+1
 | 0=>by simp[qk,oI]
 | n+1=>by
  rw[qk,oI,zlr S n];omega
variable {m:Nat} {S:Nat->Nat} {Sp:B8->Nat} {ps:P9}
theorem z3d (ho:zxs ps)(hs:∀ k,0<=zM ps k->Sp k=S (vZ ps k))(hc:za1 ps Sp m):m=qk S ps.length:=by
 cases rf:ps with
 | nil=>
  subst rf;rcases hc.2 with h0 | ⟨k,hk,_⟩
  ·exact h0
  ·cases hk
 | cons p q=>
  rw[zva ho hs hc (by rw[rf];simp),rf,List.length_cons,zlr]
def zuy (rs:List zP)(ps:P9)(S:Nat->Nat)(k:Nat)(l:List zQ)(es:List Env):Prop:=∀ (i:Nat) (f:zQ) (E:Env) (R:zP),l[i]?=some f->es[i]?=some E->rs[f.r]?=some R->∀ a∈R.body,a.no=true->S (vZ ps a.pred)<k/\yL l (zU (bf E a))<0
def zuw (rs:List zP)(ps:P9)(S:Nat->Nat)(k:Nat)(l:List zQ):Prop:=∀ R∈rs,S (vZ ps R.head.pred)<k->∀ y∈zdt R l,¬ yL l (zU (bf y.1 R.head))<0
def zd5 (rs:List zP)(ps:P9)(S:Nat->Nat)(b:List Nat)(l:List zQ):Prop:=
 ∃ k n es,b[0]?=some k/\b[1]?=some n/\n<=50/\xM rs (zdz ps S) b n 2 [] []=some (l,es,b.length)/\k<=qk S ps.length/\zuy rs ps S k l es/\zuw rs ps S k l
theorem zh3 {rs:List zP}{F:zL->Nat->zQ}{b:List Nat}{P:zQ->Prop}(hF:∀ A r,P (F A r)):∀ (n i:Nat) (l:List zQ) (es:List Env) (l':List zQ) (kj:List Env) (i':Nat),(∀ f∈l,P f)->xM rs F b n i l es=some (l',kj,i')->∀ f∈l',P f
 | 0,i,l,es,l',kj,i',hl,h=>by
  obtain⟨rfl,_⟩:l=l'/\_:=by simpa[xM] using h
  exact hl
 | n+1,i,l,es,l',kj,i',hl,h=>by
  rw[xM] at h
  split at h
  ·cases h
  ·split at h
   ·cases h
   ·split at h
    ·cases h
    ·split at h
     ·cases h
     ·split at h
      ·refine zh3 hF n _ _ _ l' kj i' (λ f hf=>?_) h;rcases List.mem_append.1 hf with hf | hf
       ·exact hl f hf
       ·rw[List.mem_singleton.1 hf];exact hF _ _
      ·cases h
structure Aq (ps:P9)(rs:List zP)(rp:List PR)(l:List zQ)(es:List Env)(st:List xA):Prop where
 rel:z8v ps rp l es st
 step:∀ s∈st,Jp ps rp s
 h0:∀ f∈l,f.h=0
variable {st:List xA} {es:List Env} {l:List zQ} {rp:List PR} {rs:List zP}
theorem Aq.find (h:Aq ps rs rp l es st){A:zL}(ht:sO ps (thA A)):yL l (zU A)<0↔thA A∉st.map (·.t):=by
 rw[zhx,<-h.rel.th,zgg]
 constructor
 ·intro h1 hm;obtain⟨f,hf,e⟩:=List.mem_map.1 hm;exact h1 f hf (by rw[h.rel.text f hf,e])
 ·intro h1 f hf e;rw[h.rel.text f hf] at e;exact h1 (List.mem_map.2 ⟨f,hf,ze4 (h.rel.de f hf).w ht.w e⟩)
theorem Aq.same (h:Aq ps rs rp l es st):ED ps (st.map λ s=>(s.t,0)) l:=by
 have kY:=h.rel.nd;refine⟨λ t n=>?_,by rw[List.map_map];exact kY,by rw[h.rel.th];exact kY,h.rel.de,h.rel.text⟩
 constructor
 ·intro hm;obtain⟨s,hs,e⟩:=List.mem_map.1 hm;injection e with e1 e2
  have:t∈l.map λ f=>thA f.ao:=by rw[h.rel.th];exact List.mem_map.2 ⟨s,hs,e1⟩
  obtain⟨f,hf,e⟩:=List.mem_map.1 this;exact⟨f,hf,e,by rw[h.h0 f hf];exact e2⟩
 ·rintro⟨f,hf,e,hn⟩;have:t∈st.map (·.t):=by rw[<-h.rel.th];exact List.mem_map.2 ⟨f,hf,e⟩
  obtain⟨s,hs,e1⟩:=List.mem_map.1 this;rw[h.h0 f hf] at hn;exact List.mem_map.2 ⟨s,hs,by rw[e1,hn]⟩
theorem Aq.Kg (h:Aq ps rs rp l es st)(hR:zgs ps rs rp)(hs:∀ k,0<=zM ps k->Sp k=S (vZ ps k))(aL:∀ R∈rs,0<=zM ps R.head.pred)(k:Nat):zuw rs ps S k l↔zxo Sp k rp st:=by
 have Lt:(j3 st).map (·.1)=(st.map λ s=>(s.t,0)).map (·.1):=by rw[qK,List.map_map];rfl
 have one:∀ {R:zP} {r:PR},qA R r->r∈rp->R∈rs->((S (vZ ps R.head.pred)<k->∀ y∈zdt R l,¬ yL l (zU (bf y.1 R.head))<0)↔(Sp r.R.pd<k->∀ e∈zbq (j3 st) (zbh r.bs) (yZ r.bs) [],xZ e (kz r)∈st.map (·.t))):=λ {R r} hr pw Gs=>by
  have hg:=hR.de r pw;have nS:r.R.pd=R.head.pred:=congrArg j6.p hr.hd;have hS:Sp r.R.pd=S (vZ ps R.head.pred):=by rw[nS];exact hs _ (aL R Gs)
  have hw:=z1a h.same hr hg;rw[hS,zwk Lt]
  constructor
  ·intro h1 hk e he;obtain⟨y,hy,rfl⟩:=(hw e).2 he;have yn:=hg.xe (K:=st.map λ s=>(s.t,0)) h.same.ti (List.mem_filter.1 he).1;have e1:thA (bf y.1 R.head)=xZ y.1 (kz r):=(by rw[zkv,hr.hd]);have:=h1 hk y hy;rw[h.find (by rw[e1];exact yn.hd),e1] at this;exact Classical.byContradiction λ c=>this c
  ·intro h1 hk y hy aG;have he:=(hw y.1).1 ⟨y,hy,rfl⟩;have yn:=hg.xe (K:=st.map λ s=>(s.t,0)) h.same.ti (List.mem_filter.1 he).1;have e1:thA (bf y.1 R.head)=xZ y.1 (kz r):=(by rw[zkv,hr.hd]);rw[h.find (by rw[e1];exact yn.hd),e1] at aG;exact aG (h1 hk _ he)
 constructor
 ·intro h1 r hr;obtain⟨R,Gs,hrel⟩:=hR.bwd r hr;exact (one hrel hr Gs).1 (h1 R Gs)
 ·intro h1 R Gs;obtain⟨r,hr,hrel⟩:=hR.fwd R Gs;exact (one hrel hr Gs).2 (h1 r hr)
theorem Aq.DW (h:Aq ps rs rp l es st)(hR:zgs ps rs rp)(hI:z2q rs rp)(hs:∀ k,0<=zM ps k->Sp k=S (vZ ps k))(k:Nat):zuy rs ps S k l es↔zux Sp k st:=by
 have hlen:l.length=st.length:=by have:=congrArg List.length h.rel.th;simpa using this
 have at_:∀ (i:Nat) (hi:i<st.length),∃ R,es[i]?=some st[i].e/\l[i]?=some (l[i]'(by omega))/\rs[(l[i]'(by omega)).r]?=some R/\qA R st[i].r:=λ i hi=>by
  have lI:i<l.length:=by omega
  have h1:es[i]?=some st[i].e:=by rw[h.rel.en,List.getElem?_map,List.getElem?_eq_getElem hi];rfl
  have h2:rp[l[i].r]?=some st[i].r:=by
   have:=congrArg (λ L=>L[i]?) h.rel.ru;simp only[List.getElem?_map,List.getElem?_eq_getElem lI,List.getElem?_eq_getElem hi,Option.map_some,Option.some.injEq] at this;exact this
  obtain⟨h3,h4⟩:=List.getElem?_eq_some_iff.1 h2;have h5:l[i].r<rs.length:=by rw[hI.len];exact h3
  refine⟨rs[l[i].r],h1,List.getElem?_eq_getElem lI,List.getElem?_eq_getElem h5,?_⟩;rw[<-h4];exact hI.at_ _ h5 h3
 have one:∀ {R:zP} {s:xA},qA R s.r->s∈st->((∀ a∈R.body,a.no=true->S (vZ ps a.pred)<k/\yL l (zU (bf s.e a))<0)↔∀ a∈zbh s.r.bs,xZ s.e a∉st.map (·.t)/\Sp a.p<k):=λ {R s} hr aP=>by
  have hg:=h.step s aP;have bY:∀ a,a∈zbh s.r.bs↔∃ b∈R.body,b.no=true/\pa b=a:=λ a=>by
   rw[hr.neg];unfold z39;rw[List.mem_map]
   constructor
   ·rintro⟨b,hb,e⟩;obtain⟨h1,h2⟩:=List.mem_filter.1 hb;exact⟨b,h1,h2,e⟩
   ·rintro⟨b,h1,h2,e⟩;exact⟨b,List.mem_filter.2 ⟨h1,h2⟩,e⟩
  have key:∀ b∈R.body,b.no=true->((yL l (zU (bf s.e b))<0↔xZ s.e (pa b)∉st.map (·.t))/\Sp (pa b).p=S (vZ ps b.pred)):=λ b hb hn=>by
   have hm:pa b∈zbh s.r.bs:=(bY _).2 ⟨b,hb,hn,rfl⟩;have NN:=hg.xe.neg _ hm;refine⟨?_,hs _ (Il.1 ?_)⟩
   ·rw[h.find (by rw[zkv];exact NN),zkv]
   ·have xx:=(hR.de s.r hg.aX).neg _ hm;have:=xx.num
    show (xH ps (pa b).p).isSome=true
    rw[this];rfl
  constructor
  ·intro h1 a ha;obtain⟨b,hb,hn,rfl⟩:=(bY a).1 ha;obtain⟨k1,k2⟩:=key b hb hn;obtain⟨q1,q2⟩:=h1 b hb hn;exact⟨k1.1 q2,by rw[k2];exact q1⟩
  ·intro h1 b hb hn;obtain⟨k1,k2⟩:=key b hb hn;obtain⟨q1,q2⟩:=h1 _ ((bY _).2 ⟨b,hb,hn,rfl⟩);rw[k2] at q2;exact⟨q2,k1.2 q1⟩
 constructor
 ·intro h1 s cE;obtain⟨i,hi,rfl⟩:=List.getElem_of_mem cE;obtain⟨R,a1,a2,a3,a4⟩:=at_ i hi;exact (one a4 cE).1 (h1 i _ _ R a2 a1 a3)
 ·intro h1 i f E R e1 e2 e3;have lI:=(List.getElem?_eq_some_iff.1 e1).1;obtain⟨R',a1,a2,a3,a4⟩:=at_ i (by omega);rw[a1] at e2;obtain rfl:=Option.some.inj e2;rw[a2] at e1;obtain rfl:=Option.some.inj e1;rw[a3] at e3;obtain rfl:=Option.some.inj e3;exact (one a4 (List.getElem_mem (by omega))).2 (h1 _ (List.getElem_mem (by omega)))
theorem z4s (hR:zgs ps rs rp)(hI:z2q rs rp)(ho:zxs ps)(hs:∀ k,0<=zM ps k->Sp k=S (vZ ps k))(aL:∀ R∈rs,0<=zM ps R.head.pred)(hc:za1 ps Sp m)(b:List Nat):
  (∀ l,zd5 rs ps S b l->∃ k st,b[0]?=some k/\Dp rp Sp m b k st/\l.map (λ f=>thA f.ao)=st.map (·.t)/\Aq ps rs rp l (st.map (·.e)) st)/\(∀ k st,Dp rp Sp m b k st->∃ l,zd5 rs ps S b l):=by
 have hF:∀ A r,(zdz ps S A r).ao=A/\(zdz ps S A r).text=zU A/\(zdz ps S A r).r=r:=λ A r=>⟨rfl,rfl,rfl⟩
 have h0:z8v ps rp [] [] []:=⟨rfl,rfl,rfl,by simp,by simp,by simp⟩;have hm:=z3d ho hs hc
 constructor
 ·rintro l ⟨k,n,es,b0,b1,hn,kY,hk,hd,pg⟩
  match b,b0,b1 with
  | k'::n'::rest,b0,b1=>
   obtain rfl:k'=k:=by simpa using b0
   obtain rfl:n'=n:=by simpa using b1
   obtain⟨ns,st,e1,e2,e3⟩:=(znt hR hI hF (k'::n'::rest) n' 2 [] [] [] (by simp) h0).1 l es _ kY rfl;have hB:Aq ps rs rp l es st:=⟨e3,ze0 hR.de ns [] st (by simp) e2,zh3 (P:=λ f=>f.h=0) (λ _ _=>rfl) n' 2 [] [] l es _ (by simp) kY⟩;refine⟨k',st,rfl,⟨ns,?_,by omega,e2,e3.nd,(hB.DW hR hI hs k').1 hd,(hB.Kg hR hs aL k').1 pg⟩,e3.th,by rw[<-e3.en];exact hB⟩
   show zg2 (zdy rp) (k'::n'::rest)=some (k',ns)
   unfold zg2;simp only;rw[if_neg (by omega)];rw[show (k'::n'::rest).drop 2=rest from rfl] at e1;rw[e1];rfl
 ·rintro k st ⟨ns,hf,hk,aP,kY,hd,pg⟩
  match b,hf with
  | k'::n::rest,hf=>
   unfold zg2 at hf;simp only at hf
   split at hf
   ·cases hf
   ·rename_i G8;obtain⟨Y5,e1,e2⟩:=Option.map_eq_some_iff.1 hf;injection e2 with e2 e3
    subst e2 e3;have E7:=znt hR hI hF (k'::n::rest) n 2 [] [] [] (by simp) h0;have hex:∃ l es,xM rs (zdz ps S) (k'::n::rest) n 2 [] []=some (l,es,(k'::n::rest).length):=by
     refine Classical.byContradiction λ aR=>?_
     rcases E7.2 (λ l' kj i' h1 h2=>aR ⟨l',kj,by rw[h1,h2]⟩) with h1 | ⟨Y6,h1,h2⟩
     ·rw[show (k'::n::rest).drop 2=rest from rfl,e1] at h1
      cases h1
     ·rw[show (k'::n::rest).drop 2=rest from rfl,e1] at h1;obtain rfl:=Option.some.inj h1;rcases h2 with h2 | ⟨st2,h2,h3⟩
      ·rw[aP] at h2;cases h2
      ·rw[aP] at h2;obtain rfl:=Option.some.inj h2;exact h3 kY
    obtain⟨l,es,hl⟩:=hex;obtain⟨Y6,st2,q1,q2,q3⟩:=E7.1 l es _ hl rfl;rw[show (k'::n::rest).drop 2=rest from rfl,e1] at q1;obtain rfl:=Option.some.inj q1;rw[aP] at q2;obtain rfl:=Option.some.inj q2;have hB:Aq ps rs rp l es st:=⟨q3,ze0 hR.de _ [] st (by simp) aP,zh3 (P:=λ f=>f.h=0) (λ _ _=>rfl) n 2 [] [] l es _ (by simp) hl⟩;exact⟨l,k',n,es,rfl,rfl,by omega,hl,by omega,(hB.DW hR hI hs k').2 hd,(hB.Kg hR hs aL k').2 pg⟩
end
section
open Go.RowKit
noncomputable def zqd (k:Nat):Code:=((Tryz.f132.body.map zbf).getD []).getD k .skip
theorem znq {S:Nat->Nat}{m:Nat}:∀ (n:Nat),(∀ i,i<n->S i+1<=m)->qk S n<=m
 | 0,_=>Nat.zero_le _
 | n+1,h=>Nat.max_le.2 ⟨znq n (λ i hi=>h i (by omega)),h n (by omega)⟩
theorem z9s (w:W8)(o:Nat)(rs:List RR)(ps:P9)(rv pv tv:Value)(gs:Nat)(S:Nat->Nat)(hP:ziv w o rs ps rv pv tv (.slice (some ⟨gs,0,none⟩) ps.length ps.length))(hT:nk w gs ps.length S)(hS:∀ i,i<ps.length->S i<=1000000)
  {Q:Exit->Act->W8->Prop} {c1 c2 c3 c4 c5 c8 c9 eQ gM iS fY gG eJ eY fZ eL dU dR dx dy dz dA dB dC dD dE dF dG dL dM dN dO dP dV dW dX ee eg ei eo ep ev dd ew ey ez eA dY dZ eD eE dQ eZ fa fc di fe fg fh fi fj fl fm fo fp fH fI fJ fK fL gd gh gi gj gq gu gv fM fN fq ft fu fO fP fQ fR fU fV fW fX gw gy gz gA gB gC gD cg bq br bt bu bx bz bC bU bV bW bX bD bE bG bH bI bJ bK bL bM bj bk bn bN bO bP bQ aZ aW cH cI cJ cK cL dp dq dr dt du dv dc iu iv iy iz iA iB iC iD gN gO gP gQ gR gS gT gU gV gW iE iF iG iH mu mx my mz mA mB mC mD mE mF mG mH mI mJ mK kT:Value}
  (aJ:∀ (w2:W8) (u7 xd u32 tZ ua ub rm rq rr pK pL pM pN pO pP pQ pR pS pT pU:Value),w2=w->Q (.exit 0) ⟨List.toArray (.pointer (some ⟨o,0,none⟩)::c1::c2::c3::c4::c5::.int .i64 (qk S ps.length)::u7::c8::c9::eQ::gM::iS::fY::gG::eJ::eY::fZ::eL::dU::dR::dx::dy::dz::dA::dB::dC::dD::dE::dF::dG::xd::u32::tZ::ua::ub::rm::rq::rr::pK::pL::pM::pN::pO::pP::pQ::pR::pS::pT::pU::dY::dZ::eD::eE::dQ::eZ::fa::fc::di::fe::fg::fh::fi::fj::fl::fm::fo::fp::fH::fI::fJ::fK::fL::gd::gh::gi::gj::gq::gu::gv::fM::fN::fq::ft::fu::fO::fP::fQ::fR::fU::fV::fW::fX::gw::gy::gz::gA::gB::gC::gD::cg::bq::br::bt::bu::bx::bz::bC::bU::bV::bW::bX::bD::bE::bG::bH::bI::bJ::bK::bL::bM::bj::bk::bn::bN::bO::bP::bQ::aZ::aW::cH::cI::cJ::cK::cL::dp::dq::dr::dt::du::dv::dc::iu::iv::iy::iz::iA::iB::iC::iD::gN::gO::gP::gQ::gR::gS::gT::gU::gV::gW::iE::iF::iG::iH::mu::mx::my::mz::mA::mB::mC::mD::mE::mF::mG::mH::mI::mJ::mK::kT::[]),[]⟩ w2):
  Code.wp Tryz.prog (Code.loop (zqd 0)) Q ⟨List.toArray (.pointer (some ⟨o,0,none⟩)::c1::c2::c3::c4::c5::.int .i64 0::.int .i64 0::c8::c9::eQ::gM::iS::fY::gG::eJ::eY::fZ::eL::dU::dR::dx::dy::dz::dA::dB::dC::dD::dE::dF::dG::dL::dM::dN::dO::dP::dV::dW::dX::ee::eg::ei::eo::ep::ev::dd::ew::ey::ez::eA::dY::dZ::eD::eE::dQ::eZ::fa::fc::di::fe::fg::fh::fi::fj::fl::fm::fo::fp::fH::fI::fJ::fK::fL::gd::gh::gi::gj::gq::gu::gv::fM::fN::fq::ft::fu::fO::fP::fQ::fR::fU::fV::fW::fX::gw::gy::gz::gA::gB::gC::gD::cg::bq::br::bt::bu::bx::bz::bC::bU::bV::bW::bX::bD::bE::bG::bH::bI::bJ::bK::bL::bM::bj::bk::bn::bN::bO::bP::bQ::aZ::aW::cH::cI::cJ::cK::cL::dp::dq::dr::dt::du::dv::dc::iu::iv::iy::iz::iA::iB::iC::iD::gN::gO::gP::gQ::gR::gS::gT::gU::gV::gW::iE::iF::iG::iH::mu::mx::my::mz::mA::mB::mC::mD::mE::mF::mG::mH::mI::mJ::mK::kT::[]),[]⟩ w:=by
 conv=>arg 2;arg 1;whnf
 have b8:=yN hP.fC;unfold maxLen at b8;have c3:=hP.c3;have AL:=hP.lt;have bR:=hT.sz;have HT:=zC hT;have HX:=zC aJ;have HS:=zC hS;clear hP hT aJ hS
 go_loopg [6,7] ps.length (λ gg mm ii wr=>∃ (i:Nat),ii=.int .i64 i/\i<=ps.length/\gg=ps.length-i/\mm=.int .i64 (qk S i)/\wr=w)
 exact⟨0,rfl,by omega,by omega,rfl,rfl⟩
 case round=>
  obtain⟨i,rfl,hi,dI,rfl,Al⟩:=hrel;subst Al
  by_cases jb:i<ps.length
  ·have rF:(i:Int)<ps.length:=(by omega);have Xr:=(zA HT).cell i jb;have kO:=znq (S:=S) (m:=1000001) i (λ j hj=>by have:=zA HS j (by omega);omega);have il:=zA HS i jb;go_wp2_with fail;go_roundg (ps.length-(i+1));exact⟨i+1,by go_num,by omega,rfl,by rw[qk];go_num,rfl⟩;omega
  ·have rF:¬ ((i:Int)<ps.length):=(by omega);have AH:i=ps.length:=(by omega);subst AH;go_wp2_with fail;apply zA HX;rfl
end
section
open Go.RowKit Go.Maps
attribute [local go_sem ↓] za9 zau zat zas
attribute [local go_sem] zby zbx
variable {rs:List PR}
theorem zwn {w w':W8}{base:Nat}{rv:Value}(h:l8 w base rv rs)(k:Below w.heap.size w w'):l8 w' base rv rs:=
 ⟨zH h.row k (λ g e=>(h.row.lt g e).2),λ r hr=>⟨zH (h.each r hr).hd k (λ g e=>((h.each r hr).hd.lt g e).2),(h.each r hr).bo.below k,(h.each r hr).eq⟩⟩
def MK (ps:P9)(Sp:B8->Nat)(rs:List PR)(bs:List Nat)(t:Th)(e:Ending):Prop:=
 (∃ m k st,za1 ps Sp m/\Dp rs Sp m bs k st/\e=.returned (.int .i64 (zi0 ps Sp k (st.map (·.t)) t:Nat)))\/((∀ m k st,za1 ps Sp m->¬ Dp rs Sp m bs k st)/\e=.returned (.int .i64 (3:Nat)))
def zx1 (w:W8)(ps:P9)(rs:List PR)(s:B8)(bs:List Nat)(e:Ending)(w':W8):Prop:=
 Below w.heap.size w w'/\((zcv ps s=none/\e=.returned (.int .i64 (3:Nat)))\/∃ t Sp,zcv ps s=some t/\zd7 (rs.map (·.R)) Sp/\z5v (rs.map (·.R)) Sp/\MK ps Sp rs bs t e)
theorem MK.int {ps:P9}{Sp:B8->Nat}{bs:List Nat}{t:Th}{e:Ending}(h:MK ps Sp rs bs t e):∃ n:Nat,e=.returned (.int .i64 (n:Nat)):=by
 rcases h with⟨_,_,_,_,_,rfl⟩ | ⟨_,rfl⟩
 ·exact⟨_,rfl⟩
 ·exact⟨_,rfl⟩
theorem z1g (w:W8)(base b:Nat)(rs:List PR)(ps:P9)(s:B8)(hs:s.size<=2000000)(h:yu w base b rs)(oQ:rs.length<=30)(eG:∀ r∈rs,r.bs.length<=3)(nS:∀ r∈rs,r.R.pd.size<=800)(BW:∀ r∈rs,∀ x∈r.bs,x.1.pd.size<=800)(xx:zay ((rs.map (·.R)).flatMap jJ) [])(rf:qQ ((rs.map (·.R)).flatMap jJ) []=ps)(b8:ps.length<=1000)(ay:∀ r∈rs,(∃ n,xH ps r.R.pd=some n)/\∀ x∈r.bs,∃ n,xH ps x.1.pd=some n)(f0:B8->Nat)(sS:zd7 (rs.map (·.R)) f0)(nO:∀ k,f0 k<=1000)(hg:∀ r∈rs,xh ps r)(rZ:∀ t,zcv ps s=some t->zhm t)(ba:O8)(bc:Nat)(bs:List Nat)(cX:nJ w ba bc bs):
  Calls Tryz.prog 47 #[.pointer (some ⟨b,0,none⟩),.string s,.slice ba bs.length bc] w (zx1 w ps rs s bs):=by
 obtain⟨a,c,hb,TS,hr⟩:=h;have eK:b<w.heap.size:=(Array.getElem?_eq_some_iff.1 hb).1;have HR:=zC hr;have HG:=zC hg;have Od:=zC rZ;have F6:=zC sS;have Dy:=zC nO;have JS:=zC (z9p w base a c rs ps hr oQ eG nS BW xx rf b8 ay f0 sS nO);have HB:=zC hb;have oJ:=zC cX;obtain⟨x0,_⟩:=zB hb 0;clear hr eG nS BW xx rf b8 ay sS nO hg rZ hb cX;go_enter Tryz.func47,Tryz.ntmps47;go_wp2_with fail;refine (zp5 _ b _ a rs.length c rfl x0).mono ?_;rintro e w2 ⟨rfl,hw⟩;have hw:=hw.symm;subst hw;go_wp2_with fail;refine (zA JS).mono ?_;clear JS;rintro e w2 ⟨rfl,cx,aH,S,n,hm,hn,gF,cC⟩;have JZ:=zC (show ∀ k,S k<=1000000 from λ k=>by have:=cC f0 (zA F6) k;have:=zA Dy k;omega);have HV:=zC gF;have uR:=zC cC;have HM:=zC hm;have kR:=zC aH;clear gF cC hm aH x0;go_wp2_with fail;refine (zn2 w2 s _ n ps S (zA HM) hs).mono ?_;rintro e w3 ⟨eG,rfl⟩;have Eu:=eG.size;have lU:Below w.heap.size w w3:=(zA kR).trans (eG.mono (zA kR).size);have kP:=(zA HM).block (eG.block _ cx)
 cases hP:zcv ps s with
 | none=>
  have HP:=zC hP;have kZ:=zC lU;clear hP lU kP eG;rw[Option.getD_none,Option.isSome_none];go_wp2_with fail;go_ret;exact⟨(zA kZ).alloc (zA kZ).size _,.inl ⟨zA HP,rfl⟩⟩
 | some t=>
  have cd:=zA Od t hP;have HP:=zC hP;have k4:Below w.heap.size w (w3.alloc (.cells (yK t).toArray 88)):=lU.alloc lU.size _;have Hc:=(k4.block b eK).trans (zA HB);have yg:=kP.block (Below.heap_alloc w3 (.cells (yK t).toArray 88) w.heap.size (by omega));have t4:TV (w3.alloc (.cells (yK t).toArray 88)) w3.heap.size t:=heap_alloc_new _ _;rw[Option.getD_some,Option.isSome_some];clear hP lU kP eG;go_upto_region 5 with fail;generalize Ak:(w3.alloc (.cells (yK t).toArray 88))=w4 at *;have MY:=zC (λ (W:W8) (hW:Below w4.heap.size w4 W)=>z1h W base w.heap.size n ps S rs a c ba bc bs t ⟨zwn (zA HR) (k4.trans (hW.mono k4.size)),zA HG,yg.block (hW.block _ yg.lt),λ k _=>zA JZ k,(zA oJ).below (k4.trans (hW.mono k4.size)),cd⟩);have HX:=zC (λ (W:W8) (hW:Below w4.heap.size w4 W)=>(show W.cell? ⟨b,0,none⟩=some (.slice a rs.length c)/\(zkq (.pointer (some ⟨w3.heap.size,0,none⟩))).run Tryz.prog W=.ok (thV t) W from ⟨(hW.cell (p:=⟨b,0,none⟩) (Array.getElem?_eq_some_iff.1 Hc).1).trans (zB Hc 0).1,(t4.below hW).load⟩));have EO:=zC k4;clear Ak k4 Hc yg t4
  go_region_held3 (λ w'=>w'.cell? ⟨b,0,none⟩=some (.slice a rs.length c)/\(zkq (.pointer (some ⟨w3.heap.size,0,none⟩))).run Tryz.prog w'=.ok (thV t) w') (first | exact zA HX _ dT | exact zA HX _ B9.drew) ((first | (go_at_call 36;refine (zp5 _ b _ a rs.length c rfl (zA HX _ B9.drew).1).mono ?_;rintro e w5 ⟨rfl,hw⟩;have hw:=hw.symm;subst hw) | (go_at_call 78;refine (zA MY _ (by exact B9.drew)).mono ?_;rintro e w5 ⟨eH,h5⟩;have dT:Below w4.heap.size w4 w5:=zV eH;have h6:MK ps S rs bs t e:=h5;obtain⟨v,rfl⟩:=h6.int;have HE:=zC h6;clear h5 h6)))
  all_goals
   go_wp2_with fail;go_ret;exact⟨(zA EO).trans (dT.mono (zA EO).size),.inr ⟨t,S,zA HP,zA HV,zA uR,zA HE⟩⟩
end
section
open Go.RowKit Go.Maps
def N5 (ps:P9)(rs:List PR)(q:B8)(bs:List Nat)(e:Ending):Prop:=
 (zcv ps q=none/\e=.returned (.int .i64 (3:Nat)))\/∃ t Sp,zcv ps q=some t/\zd7 (rs.map (·.R)) Sp/\z5v (rs.map (·.R)) Sp/\MK ps Sp rs bs t e
def N4 (s q:B8)(bs:List Nat)(e:Ending):Prop:=
 ((yH s).1=false/\e=.returned (.int .i64 (3:Nat)))\/((yH s).1=true/\∃ rp:List PR,rp.map (·.R)=(yS s).2.2.1/\(∀ r∈rp,r.bs.map (·.1)=r.R.body)/\N5 (yA s).2 rp q bs e)
theorem N5.int {ps:P9}{rs:List PR}{q:B8}{bs:List Nat}{e:Ending}(h:N5 ps rs q bs e):∃ n:Nat,e=.returned (.int .i64 (n:Nat)):=by
 rcases h with⟨_,rfl⟩ | ⟨_,_,_,_,_,h⟩
 ·exact⟨_,rfl⟩
 ·exact h.int
theorem N4.int {s q:B8}{bs:List Nat}{e:Ending}(h:N4 s q bs e):∃ n:Nat,e=.returned (.int .i64 (n:Nat)):=by
 rcases h with⟨_,rfl⟩ | ⟨_,_,_,_,h⟩
 ·exact⟨_,rfl⟩
 ·exact h.int
theorem zcu (s:B8):(yH s).1=true↔(yH s).2.1=0:=by
 unfold yH
 split
 ·simp
 ·split
  ·simp
  ·split
   ·simp
   ·split
    ·simp
    ·split <;> simp
theorem zwd (w:W8)(s q:B8)(hs:s.size<=maxLen)(hq:q.size<=2000000)(ba:O8)(bc:Nat)(bs:List Nat)(cX:nJ w ba bc bs):
  Calls Tryz.prog 31 #[.string s,.string q,.slice ba bs.length bc] w λ e w'=>N4 s q bs e/\Below w.heap.size w w':=by
 have hL:=zp6 w s hs;rw[zzz] at hL;have HL:=zC hL;have oJ:=zC cX;clear hL cX
 cases cd:(yH s).1 with
 | false=>
  have gK:=zC cd;have BC:(yH s).2.1≠0:=by
   have:=zcu s;rw[cd] at this;simpa using this
  clear cd;go_enter Tryz.func31,Tryz.ntmps31;go_wp2_with (go_at_call 30;refine (zA HL).mono ?_;rintro e w1 ⟨aM,aR,-⟩;have he:=aR (zA gK);subst he;have lC:=zC aM;clear aM aR);go_ret;exact⟨.inl ⟨zA gK,rfl⟩,zA lC⟩
 | true=>
  have gK:=zC cd;have BC:(yH s).2.1=0:=by
   have:=zcu s;rw[cd] at this;simpa using this
  have MY:=zC (λ (W:W8) (b:Nat) (rs:List PR) (hW:Below w.heap.size w W) (hp:yu W w.heap.size b rs) (hr:rs.map (·.R)=(yS s).2.2.1)=>(show Calls Tryz.prog 47 #[.pointer (some ⟨b,0,none⟩),.string q,.slice ba bs.length bc] W (zx1 W (yA s).2 rs q bs)/\(∀ r∈rs,r.bs.map (·.1)=r.R.body) from by
   have hg:=zfy cd;obtain⟨f0,sS,nO⟩:=hg.some_;have ay:∀ r∈rs,r.R∈(yS s).2.2.1:=λ r so=>by rw[<-hr];exact List.mem_map_of_mem so
   have gX:∀ r∈rs,r.bs.map (·.1)=r.R.body:=λ r so=>by
    obtain⟨a,c,_,_,sW⟩:=hp;exact (sW.each r so).eq
   have Nq:∀ r∈rs,∀ x∈r.bs,x.1∈r.R.body:=λ r so x hx=>by rw[<-gX r so];exact List.mem_map_of_mem hx
   have hl:rs.length<=30:=(by have:=hg.len;rw[<-hr,List.length_map] at this;exact this);have hR:=zql cd hr gX
   exact⟨z1g W w.heap.size b rs (yA s).2 q hq hp hl (λ r so=>by have:=hg.body r.R (ay r so);rw[<-gX r so,List.length_map] at this;exact this) (λ r so=>hg.pd r.R (ay r so)) (λ r so x hx=>hg.U1 r.R (ay r so) x.1 (Nq r so x hx)) (by rw[hr];exact hg.agree) (by rw[hr];exact hg.met) (by have:=hg.gH;omega) (λ r so=>⟨(hg.named r.R (ay r so)).1,λ x hx=>(hg.named r.R (ay r so)).2 x.1 (Nq r so x hx)⟩) f0 (by rw[hr];exact sS) nO hR.de z28 ba bc bs ((zA oJ).below hW),gX⟩))
  clear cd;go_enter Tryz.func31,Tryz.ntmps31;go_upto_region 2 with (go_at_call 30;refine (zA HL).mono ?_;rintro e w1 ⟨aM,-,ri⟩;obtain⟨b,rs,rfl,hp,hr⟩:=ri (zA gK);have lC:=zC aM;have ir:=zC (And.intro hp hr);clear aM ri hp hr);obtain⟨dH,gX⟩:=zA MY w1 b rs (zA lC) (zA ir).1 (zA ir).2;have aV:=zC dH;have CW:=zC gX;clear dH gX MY HL;go_wp2_with (go_at_call 47;refine (zA aV).mono ?_;rintro e w2 ⟨aH,h2⟩;have h3:N5 (yA s).2 rs q bs e:=h2;obtain⟨v,rfl⟩:=h3.int;have HE:=zC h3;have kR:=zC aH;clear aH h2 h3);go_ret;exact⟨.inr ⟨zA gK,rs,(zA ir).2,zA CW,zA HE⟩,(zA lC).trans ((zA kR).mono (zA lC).size)⟩
end
end Go.Proofs.YtldkpahaocjdpaaGreat
