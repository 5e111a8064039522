/-
  Plain: height by height, stratum by stratum: the reference and the program come to the same.
-/
import Derived.Test.YtldkpahaocjdpaaGreatE42
import Derived.Test.YtldkpahaocjdpaaGreatE43
set_option maxHeartbeats 16000000
set_option maxRecDepth 1000000
namespace Go.Proofs.YtldkpahaocjdpaaGreat
section
structure zax (ps:P9)(rs:List zS)(rp:List PR):Prop where
 fwd:∀ R∈rs,∃ r∈rp,ue R r
 bwd:∀ r∈rp,∃ R∈rs,ue R r
 dM:∀ r∈rp,nP ps r
theorem zf6 {ps:P9}{S:Nat->Nat}{l:List zP}{s n:Nat}{f:zP}:∀ (rs:List zS) (i:Nat),f∈j4 ps S l s n rs i->f.h=n/\f.text=xK (bN f.aj)/\∃ R∈rs,S (zM ps R.head.pred).toNat=s/\∃ y∈ze4 R l,bN f.aj=xV y.1 (pa R.head)
 | [],_,h=>by simp[j4] at h
 | R::r,i,h=>by
  rw[j4] at h;rcases List.mem_append.1 h with h | h
  ·split at h
   ·rename_i hs;obtain⟨y,hy,rfl⟩:=List.mem_map.1 h;exact⟨rfl,DO _,R,List.mem_cons_self,hs,y,hy,IP _ _⟩
   ·simp at h
  ·obtain⟨h1,h2,Q,hQ,h3⟩:=zf6 r (i+1) h;exact⟨h1,h2,Q,List.mem_cons_of_mem _ hQ,h3⟩
theorem z1l {ps:P9}{S:Nat->Nat}{l:List zP}{s n:Nat}{R:zS}{y:Way}:∀ (rs:List zS) (i:Nat),R∈rs->S (zM ps R.head.pred).toNat=s->y∈ze4 R l->∃ f∈j4 ps S l s n rs i,bN f.aj=xV y.1 (pa R.head)
 | [],_,h,_,_=>by cases h
 | Q::r,i,h,hs,hy=>by
  rw[j4];rcases List.mem_cons.1 h with rfl | h
  ·refine⟨zcq R s n i y,List.mem_append.2 (.inl ?_),IP _ _⟩;rw[if_pos hs];exact List.mem_map.2 ⟨y,hy,rfl⟩
  ·obtain⟨f,hf,e⟩:=z1l (n:=n) r (i+1) h hs hy;exact⟨f,List.mem_append.2 (.inr hf),e⟩
variable {S:Nat->Nat} {Sp:B8->Nat} {rp:List PR} {rs:List zS} {l:List zP} {K:List (Th × Nat)} {ps:P9}
theorem z3s (hS:gu ps K l)(hR:zax ps rs rp)(hs:∀ R∈rs,Sp R.head.pred=S (zM ps R.head.pred).toNat)(s n:Nat)(t:Th):ztm (rp.filter (zc2 Sp s)) K t↔yS K t=none/\∃ f∈j4 ps S l s n rs 0,bN f.aj=t:=by
 unfold ztm;refine and_congr_right λ _=>⟨?_,?_⟩
 ·rintro⟨r,hr,e,he,rfl⟩;obtain⟨hr,hi⟩:=List.mem_filter.1 hr;obtain⟨R,uY,hrel⟩:=hR.bwd r hr;obtain⟨y,hy,rfl⟩:=(zfs hS hrel (hR.dM r hr) e).2 he;unfold zc2 at hi;have ve:S (zM ps R.head.pred).toNat=s:=by
   rw[<-hs R uY];rw[hrel.eq] at hi;simpa[yO] using hi
  obtain⟨f,hf,e⟩:=z1l (n:=n) rs 0 uY ve hy;exact⟨f,hf,by rw[e,hrel.hd]⟩
 ·rintro⟨f,hf,rfl⟩;obtain⟨_,_,R,uY,hi,y,hy,e⟩:=zf6 rs 0 hf;obtain⟨r,hr,hrel⟩:=hR.fwd R uY;refine⟨r,List.mem_filter.2 ⟨hr,?_⟩,y.1,(zfs hS hrel (hR.dM r hr) y.1).1 ⟨y,hy,rfl⟩,by rw[e,hrel.hd]⟩;unfold zc2;rw[hrel.eq]
  show (Sp R.head.pred==s)=true
  rw[hs R uY,hi];simp
variable {s n:Nat}
theorem zra (hS:gu ps K l)(hR:zax ps rs rp){f:zP}(hf:f∈j4 ps S l s n rs 0):iD ps (bN f.aj):=by
 obtain⟨_,_,R,uY,_,y,hy,e⟩:=zf6 rs 0 hf;obtain⟨r,hr,hrel⟩:=hR.fwd R uY;have he:=(zfs hS hrel (hR.dM r hr) y.1).1 ⟨y,hy,rfl⟩;rw[e,<-hrel.hd];exact ((hR.dM r hr).Hf hS.ti (List.mem_filter.1 he).1).hd
structure zq2 (l C out:List zP):Prop where
 nd:(out.map (·.text)).Nodup
 mem:∀ f∈out,f∈C/\jE l f.text<0
variable {out:List zP}
theorem yam {C:List zP}{f:zP}(h:zq2 l C out)(hf:f∈C):zq2 l C (ztq l out f):=by
 unfold ztq
 split
 ·rename_i c;refine⟨?_,λ g hg=>?_⟩
  ·rw[List.map_append,List.nodup_append];refine⟨h.nd,by simp,λ a ha b hb e=>?_⟩;obtain⟨g,hg,rfl⟩:=List.mem_map.1 ha;rw[List.map_cons,List.map_nil,List.mem_singleton] at hb;exact (zlw out f.text).1 c.2 g hg (by rw[e,hb])
  ·rcases List.mem_append.1 hg with hg | hg
   ·exact h.mem g hg
   ·rw[List.mem_singleton.1 hg];exact⟨hf,c.1⟩
 ·exact h
theorem zxc {l C:List zP}:∀ (cs out:List zP),(∀ f∈cs,f∈C)->zq2 l C out->zq2 l C (vC l cs out).1
 | [],_,_,h=>h
 | f::r,out,hc,h=>by
  rw[vC]
  split
  ·exact h
  ·exact zxc r _ (λ g hg=>hc g (List.mem_cons_of_mem _ hg)) (yam h (hc f List.mem_cons_self))
theorem RU {l:List zP}:∀ (cs out:List zP),(vC l cs out).2=true->50<l.length+(vC l cs out).1.length
 | [],_,h=>by cases h
 | f::r,out,h=>by
  rw[vC] at h ⊢
  split at h
  ·rename_i c;rw[if_pos c];exact c
  ·rename_i c;rw[if_neg c];exact RU r _ h
theorem zq3 {f g:zP}(h:g∈out):g∈ztq l out f:=by
 unfold ztq
 split
 ·exact List.mem_append.2 (.inl h)
 ·exact h
theorem Vu {l:List zP}{g:zP}:∀ (cs out:List zP),g∈out->g∈(vC l cs out).1
 | [],_,h=>h
 | f::r,out,h=>by
  rw[vC]
  split
  ·exact h
  ·exact Vu r _ (zq3 h)
theorem zvn {f:zP}(h:jE l f.text<0):∃ g∈ztq l out f,g.text=f.text:=by
 unfold ztq
 split
 ·exact⟨f,List.mem_append.2 (.inr (List.mem_singleton.2 rfl)),rfl⟩
 ·rename_i c;have:¬ jE out f.text<0:=λ h2=>c ⟨h,h2⟩
  rw[zlw] at this;simpa using this
theorem zs4 {l:List zP}:∀ (cs out:List zP),(vC l cs out).2=false->∀ f∈cs,jE l f.text<0->∃ g∈(vC l cs out).1,g.text=f.text
 | [],_,_,f,hf,_=>by cases hf
 | x::r,out,h,f,hf,hn=>by
  rw[vC] at h ⊢
  split at h
  ·cases h
  ·rename_i c;rw[if_neg c];rcases List.mem_cons.1 hf with rfl | hf
   ·obtain⟨g,hg,e⟩:=zvn (out:=out) hn;exact⟨g,Vu r _ hg,e⟩
   ·exact zs4 r _ h f hf hn
structure yag (ps:P9)(S:Nat->Nat)(rs:List zS)(l:List zP)(s n:Nat)(out:List zP):Prop where
 tk:zq2 l (j4 ps S l s n rs 0) out
 all:l.length+out.length<=50->∀ f∈j4 ps S l s n rs 0,jE l f.text<0->∃ g∈out,g.text=f.text
theorem zw1 (h:BN ps S rs l s n out):yag ps S rs l s n out:=by
 have ax:=zxc (l:=l) (C:=j4 ps S l s n rs 0) (j4 ps S l s n rs 0) [] (λ _ h=>h) ⟨by simp,by simp⟩;rcases h with⟨h1,rfl⟩ | ⟨h1,_,hp⟩
 ·exact⟨ax,λ h2=>by have:=RU _ _ h1;omega⟩
 ·refine⟨⟨(hp.map _).nodup_iff.2 ax.nd,λ f hf=>ax.mem f (hp.mem_iff.1 hf)⟩,λ _ f hf hn=>?_⟩;obtain⟨g,hg,e⟩:=zs4 _ _ h1 f hf hn;exact⟨g,hp.mem_iff.2 hg,e⟩
structure z0y (ps:P9)(rp:List PR)(K:List (Th × Nat))(l:List zP)(n:Nat)(out:List zP):Prop where
 nd:(out.map λ f=>bN f.aj).Nodup
 new:∀ f∈out,ztm rp K (bN f.aj)
 h:∀ f∈out,f.h=n
 dM:∀ f∈out,iD ps (bN f.aj)
 text:∀ f∈out,f.text=xK (bN f.aj)
 all:l.length+out.length<=50->∀ t,ztm rp K t->∃ f∈out,bN f.aj=t
theorem zp1 (hS:gu ps K l)(hR:zax ps rs rp)(hs:∀ R∈rs,Sp R.head.pred=S (zM ps R.head.pred).toNat)(h:BN ps S rs l s n out):z0y ps (rp.filter (zc2 Sp s)) K l n out:=by
 have hr:=zw1 h;have hg:∀ f∈out,iD ps (bN f.aj):=λ f hf=>zra hS hR (hr.tk.mem f hf).1
 have ht:∀ f∈out,f.text=xK (bN f.aj):=λ f hf=>(zf6 rs 0 (hr.tk.mem f hf).1).2.1
 have nW:∀ t:Th,iD ps t->(jE l (xK t)<0↔yS K t=none):=λ t h=>by
  rw[hS.find h]
  cases yS K t <;> simp
 refine⟨?_,λ f hf=>?_,λ f hf=>(zf6 rs 0 (hr.tk.mem f hf).1).1,hg,ht,λ hb t hn=>?_⟩
 ·have h1:=hr.tk.nd;have e:out.map (·.text)=(out.map λ f=>bN f.aj).map xK:=by
   rw[List.map_map];exact List.map_congr_left λ f hf=>ht f hf
  rw[e] at h1;unfold List.Nodup at h1 ⊢;rw[List.pairwise_map] at h1;exact h1.imp λ h2 e=>h2 (by rw[e])
 ·rw[z3s hS hR hs s n];refine⟨?_,f,(hr.tk.mem f hf).1,rfl⟩;have:=(hr.tk.mem f hf).2;rw[ht f hf,nW _ (hg f hf)] at this;exact this
 ·rw[z3s hS hR hs s n] at hn;obtain⟨h1,f,hf,rfl⟩:=hn;have PX:=zra hS hR hf;have Ut:=(zf6 rs 0 hf).2.1;obtain⟨g,jg,e⟩:=hr.all hb f hf (by rw[Ut,nW _ PX];exact h1);refine⟨g,jg,zea (hg g jg).w PX.w ?_⟩;rw[<-ht g jg,e,Ut]
theorem gu.more {L:List (Th × Nat)}(hS:gu ps K l)(hr:z0y ps rp K l n out)(hb:l.length+out.length<=50)(mT:(L.map (·.1)).Nodup)(hh:∀ p∈L,p.2=n)(F4:∀ t,(∃ m,(t,m)∈L)↔ztm rp K t):gu ps (K++L) (l++out):=by
 refine⟨λ t m=>?_,?_,?_,λ f hf=>?_,λ f hf=>?_⟩
 ·rw[List.mem_append,hS.mem t m]
  constructor
  ·rintro (⟨f,hf,h⟩ | h)
   ·exact⟨f,List.mem_append.2 (.inl hf),h⟩
   ·obtain⟨f,hf,e⟩:=hr.all hb t ((F4 t).1 ⟨m,h⟩);exact⟨f,List.mem_append.2 (.inr hf),e,by rw[hr.h f hf];exact (hh _ h).symm⟩
  ·rintro⟨f,hf,e,hm⟩;rcases List.mem_append.1 hf with hf | hf
   ·exact .inl ⟨f,hf,e,hm⟩
   ·obtain⟨k,hk⟩:=(F4 t).2 (by rw[<-e];exact hr.new f hf);refine .inr ?_;have h1:=hh _ hk;simp only at h1;rw[<-hm,hr.h f hf,<-h1];exact hk
 ·rw[List.map_append,List.nodup_append];refine⟨hS.NC,mT,λ a ha b hb e=>?_⟩;obtain⟨p,hp,rfl⟩:=List.mem_map.1 hb;obtain⟨q,hq,rfl⟩:=List.mem_map.1 ha;have:=((F4 p.1).1 ⟨p.2,hp⟩).1;rw[<-e] at this;exact qV this q.2 hq
 ·rw[List.map_append,List.nodup_append];refine⟨hS.EM,hr.nd,λ a ha b hb e=>?_⟩;obtain⟨f,hf,rfl⟩:=List.mem_map.1 hb;obtain⟨g,hg,rfl⟩:=List.mem_map.1 ha;have h1:=(hr.new f hf).1;have h2:=(hS.look (bN f.aj)).2 ⟨g,hg,e⟩;rw[h1] at h2
  cases h2
 ·rcases List.mem_append.1 hf with hf | hf
  ·exact hS.dM f hf
  ·exact hr.dM f hf
 ·rcases List.mem_append.1 hf with hf | hf
  ·exact hS.text f hf
  ·exact hr.text f hf
def ztp (ps:P9)(limit:Nat)(r:Option (List zP))(r':Option (List (Th × Nat))):Prop:=(r=none/\r'=none)\/∃ l' K',r=some l'/\r'=some K'/\gu ps K' l'/\l'.length<=limit
variable {r:Option (List zP)} {limit:Nat}
theorem zo7 (hR:zax ps rs rp)(hs:∀ R∈rs,Sp R.head.pred=S (zM ps R.head.pred).toNat)(hl:limit<=50)(h:zbr ps S rs limit s n l r):∀ (K:List (Th × Nat)) (r':Option (List (Th × Nat))),gu ps K l->l.length<=limit->zgn (rp.filter (zc2 Sp s)) limit n K r'->ztp ps limit r r':=by
 induction h with
 | @fG n l out hr hb=>
  intro K r' hS hZ hp;have hq:=zp1 hS hR hs hr;have bF:out≠[]:=λ e=>by rw[e] at hb;simp at hb;omega
  obtain⟨f,hf⟩:=List.exists_mem_of_ne_nil _ bF
  cases hp with
  | fG L _ _ _=>exact .inl ⟨rfl,rfl⟩
  | done hn=>exact absurd (hq.new f hf) (hn _)
  | @more _ _ L _ h1 h2 h3 h4 h5 h6=>
   exfalso
   have:=zic (out.map λ f=>bN f.aj) (L.map (·.1)) hq.nd (λ t ht=>by
    obtain⟨g,hg,rfl⟩:=List.mem_map.1 ht;obtain⟨m,hm⟩:=(h4 _).2 (hq.new g hg)
    exact List.mem_map.2 ⟨_,hm,rfl⟩)
   have hlen:=hS.len;simp only[List.length_map] at this;omega
 | @done n l hr hb=>
  intro K r' hS hZ hp;have hq:=zp1 hS hR hs hr;have aX:∀ t,¬ ztm (rp.filter (zc2 Sp s)) K t:=λ t ht=>by
   obtain⟨f,hf,_⟩:=hq.all (by simp;omega) t ht
   cases hf
  cases hp with
  | fG L h1 h2 h3=>
   exfalso
   cases L with
   | nil=>have:=hS.len;simp at h3;omega
   | cons t q=>exact aX t (h2 t List.mem_cons_self)
  | done hn=>exact .inr ⟨l,K,rfl,rfl,hS,hZ⟩
  | @more _ _ L _ h1 h2 h3 h4 h5 h6=>
   exfalso
   obtain⟨p,hp⟩:=List.exists_mem_of_ne_nil _ h1;exact aX p.1 ((h4 p.1).1 ⟨p.2,hp⟩)
 | @more n l out r hr bF hb n9 ih=>
  intro K r' hS hZ hp;have hq:=zp1 hS hR hs hr;have Pj:l.length+out.length<=50:=by omega
  obtain⟨f,hf⟩:=List.exists_mem_of_ne_nil _ bF;have hlen:=hS.len
  cases hp with
  | fG L h1 h2 h3=>
   exfalso
   have:=zic L (out.map λ f=>bN f.aj) h1 (λ t ht=>by
    obtain⟨g,hg,e⟩:=hq.all Pj t (h2 t ht)
    exact List.mem_map.2 ⟨g,hg,e⟩)
   simp only[List.length_map] at this;omega
  | done hn=>exact absurd (hq.new f hf) (hn _)
  | @more _ _ L _ h1 h2 h3 h4 h5 h6=>
   exact ih (K++L) r' (hS.more hq Pj h2 h3 h4) (by rw[List.length_append];exact hb) h6
theorem ydw (hR:zax ps rs rp)(hs:∀ R∈rs,Sp R.head.pred=S (zM ps R.head.pred).toNat){di:Nat}(hl:limit<=50)(h:zka ps S rs limit di s l r):∀ (K:List (Th × Nat)) (r':Option (List (Th × Nat))),gu ps K l->l.length<=limit->zdx rp Sp limit (di+1) s K r'->ztp ps limit r r':=by
 induction h with
 | @ends s l h1=>
  intro K r' hS hZ hp
  cases hp with
  | ends _=>exact .inr ⟨l,K,rfl,rfl,hS,hZ⟩
  | gX h2 _=>omega
  | next h2 _ _=>omega
 | @gX s l h1 hc=>
  intro K r' hS hZ hp
  cases hp with
  | ends h2=>omega
  | gX _ gY=>exact .inl ⟨rfl,rfl⟩
  | next _ gY _=>
   rcases zo7 hR hs hl hc K _ hS hZ gY with⟨_,e⟩ | ⟨_,_,e,_⟩ <;> cases e
 | @next s l l' r h1 hc _ ih=>
  intro K r' hS hZ hp
  cases hp with
  | ends h2=>omega
  | gX _ gY=>
   rcases zo7 hR hs hl hc K _ hS hZ gY with⟨e,_⟩ | ⟨_,_,_,e,_⟩ <;> cases e
  | next _ gY hn=>
   rcases zo7 hR hs hl hc K _ hS hZ gY with⟨e,_⟩ | ⟨l1,K1,e1,e2,J7,rW⟩
   ·cases e
   ·obtain rfl:=Option.some.inj e1;obtain rfl:=Option.some.inj e2;exact ih _ r' J7 rW hn
end
section
def zcb:List zP->Nat->List (Th × Nat)
 | [],_=>[]
 | f::r,i=>(bN f.aj,i)::zcb r (i+1)
def zb6 (l:List zP):List (Th × Nat):=zcb l 0
theorem zev:∀ (l:List zP) (i:Nat),(zcb l i).map (·.1)=l.map λ f=>bN f.aj
 | [],_=>rfl
 | f::r,i=>by rw[zcb,List.map_cons,List.map_cons,zev r (i+1)]
theorem zmb:∀ (l:List zP) (i k:Nat) (h:k<l.length),(bN l[k].aj,i+k)∈zcb l i
 | [],_,_,h=>absurd h (Nat.not_lt_zero _)
 | f::r,i,0,_=>by rw[zcb];exact List.mem_cons_self
 | f::r,i,k+1,h=>by
  rw[zcb];have:=zmb r (i+1) k (by simpa using h);rw[show i+(k+1)=i+1+k by omega];exact List.mem_cons_of_mem _ this
variable {l:List zP}
theorem zur (hn:(l.map λ f=>bN f.aj).Nodup)(k:Nat)(h:k<l.length):yS (zb6 l) (bN l[k].aj)=some k:=by
 refine za5 (by unfold zb6;rw[zev];exact hn) ?_;have:=zmb l 0 k h;rw[Nat.zero_add] at this;exact this
def Cm (K N:List (Th × Nat)):Prop:=∀ t,(∃ n,(t,n)∈K)↔∃ n,(t,n)∈N
theorem zep (K:List (Th × Nat))(t:Th):(yS K t).isSome=true↔∃ n,(t,n)∈K:=by
 constructor
 ·intro h;obtain⟨n,hn⟩:=Option.isSome_iff_exists.1 h;exact⟨n,jV hn⟩
 ·rintro⟨n,hn⟩
  cases h:yS K t with
  | some _=>rfl
  | none=>exact absurd hn (qV h n)
variable {K N:List (Th × Nat)}
theorem Cm.look (h:Cm K N)(t:Th):(yS K t).isSome=(yS N t).isSome:=by
 rw[Bool.eq_iff_iff,zep,zep];exact h t
theorem Cm.mY {K N:List (Th × Nat)}(h:Cm K N):∀ (pos:List jZ) (e x:yR),x∈yD K pos e->x∈yD N pos e
 | [],e,x,hx=>hx
 | a::r,e,x,hx=>by
  rw[yD] at hx ⊢;obtain⟨p,hp,hx⟩:=List.mem_flatMap.1 hx;obtain⟨n,hn⟩:=(h p.1).1 ⟨p.2,hp⟩;refine List.mem_flatMap.2 ⟨_,hn,?_⟩
  cases hm:xG e a p.1 with
  | none=>rw[hm] at hx;cases hx
  | some e1=>rw[hm] at hx;exact h.mY r e1 x hx
theorem Cm.symm (h:Cm K N):Cm N K:=λ t=>(h t).symm
theorem Cm.ways (h:Cm K N)(neg pos:List jZ)(e x:yR):x∈zbe K neg pos e↔x∈zbe N neg pos e:=by
 have hd:j6 K neg x=j6 N neg x:=by
  unfold j6;have:(λ a:jZ=>(yS K (xV x a)).isSome)=λ a=>(yS N (xV x a)).isSome:=funext λ a=>h.look _
  rw[this]
 unfold zbe;rw[List.mem_filter,List.mem_filter,hd];exact and_congr_left λ _=>⟨h.mY pos e x,h.symm.mY pos e x⟩
theorem zhr {a:zL}{x y:Way}:∀ (l:List zP) (i:Nat),y∈zht a x l i->∃ (k:Nat) (h:k<l.length) (e:Env),qA x.1 a l[k].aj=some e/\y=(e,x.2++[i+k])
 | [],_,h=>by simp[zht] at h
 | f::r,i,h=>by
  rw[zht] at h;rcases List.mem_append.1 h with h | h
  ·cases hm:qA x.1 a f.aj with
   | none=>rw[hm] at h;cases h
   | some e=>rw[hm] at h;exact⟨0,by simp,e,hm,List.mem_singleton.1 h⟩
  ·obtain⟨k,hk,e,h1,h2⟩:=zhr r (i+1) h;exact⟨k+1,by simpa using hk,e,h1,by rw[h2,show i+1+k=i+(k+1) by omega]⟩
theorem Vr {a:zL}{x:Way}:∀ (l:List zP) (i:Nat),(zht a x l i).Pairwise λ y z=>zes y.2 z.2=true
 | [],_=>by simp[zht]
 | f::r,i=>by
  rw[zht];refine List.pairwise_append.2 ⟨?_,Vr r (i+1),λ y hy z hz=>?_⟩
  ·split <;> simp
  ·obtain⟨k,_,e,_,rfl⟩:=zhr r (i+1) hz
   split at hy
   ·rw[List.mem_singleton.1 hy];exact zrr _ (by omega)
   ·cases hy
theorem zm8 {a:zL}{l:List zP}{m:Nat}:∀ (now:List Way),(now.Pairwise λ y z=>zes y.2 z.2=true)->(∀ x∈now,x.2.length=m)->((zgl a l now).Pairwise λ y z=>zes y.2 z.2=true)/\∀ x∈zgl a l now,x.2.length=m+1
 | [],_,_=>by simp[zgl]
 | x::r,hs,hl=>by
  have e:zgl a l (x::r)=zht a x l 0++zgl a l r:=by simp[zgl]
  rw[List.pairwise_cons] at hs;obtain⟨h1,h2⟩:=zm8 (a:=a) (l:=l) r hs.2 (λ y hy=>hl y (List.mem_cons_of_mem _ hy));have hx:=hl x List.mem_cons_self;rw[e];refine⟨List.pairwise_append.2 ⟨Vr l 0,h1,λ y hy z hz=>?_⟩,λ y hy=>?_⟩
  ·obtain⟨k,_,_,_,rfl⟩:=zhr l 0 hy;obtain⟨u,hu,hz⟩:=List.mem_flatMap.1 hz;obtain⟨j,_,_,_,rfl⟩:=zhr l 0 hz;exact zwd _ _ (hx.trans (hl u (List.mem_cons_of_mem _ hu)).symm) (hs.1 u hu)
  ·rcases List.mem_append.1 hy with hy | hy
   ·obtain⟨k,_,_,_,rfl⟩:=zhr l 0 hy;simp[hx]
   ·exact h2 y hy
theorem zhs {l:List zP}:∀ (b:List zL) (now:List Way) (m:Nat),(now.Pairwise λ y z=>zes y.2 z.2=true)->(∀ x∈now,x.2.length=m)->(ziq l b now).Pairwise λ y z=>zes y.2 z.2=true
 | [],_,_,h,_=>h
 | a::r,now,m,h,hl=>by
  rw[ziq]
  split
  ·exact zhs r now m h hl
  ·obtain⟨h1,h2⟩:=zm8 (a:=a) (l:=l) now h hl;exact zhs r _ (m+1) h1 h2
theorem zte (R:zS)(l:List zP):(ze4 R l).Pairwise λ y z=>zes y.2 z.2=true:=
 (zhs R.body [([],[])] 0 (by simp) (by simp)).filter _
theorem zqf {ps:P9}{K:List (Th × Nat)}{l:List zP}(hS:gu ps K l):∀ (b:List zL) (now:List Way) (done:List jZ),(∀ a∈b,zis ps (pa a))->(∀ x∈now,oo x.1/\x.2=qK (zb6 l) done x.1/\∀ a∈done,Dom x.1 a)->∀ y∈ziq l b now,y.2=qK (zb6 l) (done++zqn b) y.1/\∀ x∈y.2,x<l.length\/x∈(now.flatMap (·.2))
 | [],now,done,_,hn,y,hy=>by
  have e:zqn []=[]:=rfl;rw[ziq] at hy;rw[e,List.append_nil];exact⟨(hn y hy).2.1,λ x hx=>.inr (List.mem_flatMap.2 ⟨y,hy,hx⟩)⟩
 | a::r,now,done,ha,hn,y,hy=>by
  have Ka:∀ x∈r,zis ps (pa x):=λ x hx=>ha x (List.mem_cons_of_mem _ hx)
  have vc:=ha a List.mem_cons_self;rw[ziq] at hy
  cases aX:a.no with
  | true=>
   have e1:zqn (a::r)=zqn r:=(by unfold zqn;rw[List.filter_cons,aX];simp);rw[aX,if_pos rfl] at hy;rw[e1];exact zqf hS r now done Ka hn y hy
  | false=>
   have e1:zqn (a::r)=pa a::zqn r:=(by unfold zqn;rw[List.filter_cons,aX];simp);rw[aX,if_neg (by decide)] at hy;have hw:∀ z∈zgl a l now,(oo z.1/\z.2=qK (zb6 l) (done++[pa a]) z.1/\∀ u∈done++[pa a],Dom z.1 u)/\∀ x∈z.2,x<l.length\/x∈(now.flatMap (·.2)):=λ z hz=>by
    obtain⟨x,hx,hz⟩:=List.mem_flatMap.1 hz;obtain⟨k,hk,e,hm,rfl⟩:=zhr l 0 hz;obtain⟨Ci,Nv,UE⟩:=hn x hx;have cg:l[k]∈l:=List.getElem_mem hk;have oO:=hS.dM _ cg;have key:qA x.1 a l[k].aj=xG x.1 (pa a) (bN l[k].aj):=by
     refine zry Ci vc.w oO.w λ e=>?_
     have h1:yX ps a.pred=some (pa a).ts.length:=vc.num;have h2:yX ps l[k].aj.pred=some (bN l[k].aj).2.length:=oO.num;rw[e,h2] at h1;have:=Option.some.inj h1;simp only[bN,pa,List.length_map] at this;exact this.symm
    rw[key] at hm;obtain⟨g1,b1,d1⟩:=zhj (zt7 vc oO) hm;refine⟨⟨(zge vc oO Ci hm).1.w,?_,λ u hu=>?_⟩,λ i hi=>?_⟩
    ·show x.2++[0+k]=(done++[pa a]).map _
     rw[List.map_append,List.map_cons,List.map_nil,b1,zur hS.EM k hk];rw[show (done.map λ a=>(yS (zb6 l) (xV e a)).getD 0)=qK (zb6 l) done e from rfl,zmp g1 UE,<-Nv];simp
    ·rcases List.mem_append.1 hu with hu | hu
     ·exact g1.SY (UE u hu)
     ·rw[List.mem_singleton.1 hu];exact d1
    ·rcases List.mem_append.1 hi with hi | hi
     ·exact .inr (List.mem_flatMap.2 ⟨x,hx,hi⟩)
     ·rw[List.mem_singleton.1 hi];exact .inl (by omega)
   obtain⟨h1,h2⟩:=zqf hS r (zgl a l now) (done++[pa a]) Ka (λ z hz=>(hw z hz).1) y hy;rw[e1];refine⟨by rw[h1,List.append_assoc];rfl,λ x hx=>?_⟩;rcases h2 x hx with h | h
   ·exact .inl h
   ·obtain⟨z,hz,YT⟩:=List.mem_flatMap.1 h;exact (hw z hz).2 x YT
variable {r:PR} {ps:P9}
theorem zqh (hS:gu ps K l){R:zS}(hr:ue R r)(hg:nP ps r){y:Way}(hy:y∈ze4 R l):y.2=qK (zb6 l) (yP r.bs) y.1/\∀ x∈y.2,x<l.length:=by
 obtain⟨h1,h2⟩:=zqf hS R.body [([],[])] [] (hr.body hg) (λ x hx=>by rw[List.mem_singleton.1 hx];exact⟨NU,rfl,by simp⟩) y (List.mem_filter.1 hy).1;rw[hr.pos];refine⟨by simpa using h1,λ x hx=>?_⟩;rcases h2 x hx with h | h
 ·exact h
 ·simp at h
theorem zhh (hS:gu ps K l):Cm K (zb6 l):=λ t=>by
 have e:(∃ n,(t,n)∈zb6 l)↔t∈(zb6 l).map (·.1):=by
  rw[List.mem_map];exact⟨λ ⟨n,h⟩=>⟨_,h,rfl⟩,λ ⟨p,h,e⟩=>⟨p.2,by rw[<-e];exact h⟩⟩
 have e2:(∃ n,(t,n)∈K)↔t∈K.map (·.1):=by
  rw[List.mem_map];exact⟨λ ⟨n,h⟩=>⟨_,h,rfl⟩,λ ⟨p,h,e⟩=>⟨p.2,by rw[<-e];exact h⟩⟩
 rw[e,e2,hS.key t];unfold zb6;rw[zev]
theorem zp3 (hS:gu ps K l){R:zS}(hr:ue R r)(hg:nP ps r){t:Th}(ht:iD ps t)(row:List Nat):row∈zfr (zb6 l) r t↔∃ y∈ze4 R l,bN (fa y.1 R.head)=t/\y.2=row:=by
 have hN:∀ p∈zb6 l,iD ps p.1:=λ p hp=>by
  obtain⟨n,hn⟩:=((zhh hS) p.1).2 ⟨p.2,hp⟩;exact hS.ti (p.1,n) hn
 rw[zzf hN hg ht]
 constructor
 ·rintro⟨e,he,h1,rfl⟩;obtain⟨y,hy,rfl⟩:=(zfs hS hr hg e).2 (((zhh hS).ways _ _ _ _).2 he);exact⟨y,hy,by rw[IP,<-hr.hd];exact h1,(zqh hS hr hg hy).1⟩
 ·rintro⟨y,hy,h1,rfl⟩;refine⟨y.1,((zhh hS).ways _ _ _ _).1 ((zfs hS hr hg y.1).1 ⟨y,hy,rfl⟩),?_,((zqh hS hr hg hy).1).symm⟩;rw[hr.hd,<-IP];exact h1
theorem zmz {l:List zP}{f:zP}:∀ (cs out:List zP),f∈(vC l cs out).1->f∈out\/((∃ a b,cs=a++f::b/\∀ g∈a,g.text≠f.text)/\jE l f.text<0/\∀ g∈out,g.text≠f.text)
 | [],out,h=>.inl h
 | c::r,out,h=>by
  rw[vC] at h
  split at h
  ·exact .inl h
  ·rcases zmz r _ h with h1 | ⟨⟨a,b,rfl,h2⟩,h3,h4⟩
   ·unfold ztq at h1
    split at h1
    ·rename_i hc;rcases List.mem_append.1 h1 with h1 | h1
     ·exact .inl h1
     ·rw[List.mem_singleton.1 h1];exact .inr ⟨⟨[],r,rfl,by simp⟩,hc.1,(zlw out c.text).1 hc.2⟩
    ·exact .inl h1
   ·refine .inr ⟨⟨c::a,b,rfl,λ g hg=>?_⟩,h3,λ g hg=>h4 g (zq3 hg)⟩;rcases List.mem_cons.1 hg with rfl | hg
    ·intro e;obtain⟨g2,fL,e2⟩:=zvn (l:=l) (out:=out) (f:=g) (by rw[e];exact h3);exact h4 g2 fL (e2.trans e)
    ·exact h2 g hg
theorem zg8 {ps:P9}{S:Nat->Nat}{l:List zP}{s n:Nat}{f:zP}:∀ (rs:List zS) (i:Nat) (a b:List zP),j4 ps S l s n rs i=a++f::b->∃ (j:Nat) (R:zS),rs[j]?=some R/\S (zM ps R.head.pred).toNat=s/\(∃ ya y yb,ze4 R l=ya++y::yb/\f=zcq R s n (i+j) y/\∀ y'∈ya,zcq R s n (i+j) y'∈a)/\∀ j' R',j'<j->rs[j']?=some R'->S (zM ps R'.head.pred).toNat=s->∀ y'∈ze4 R' l,zcq R' s n (i+j') y'∈a
 | [],i,a,b,h=>by
  rw[j4] at h;simp at h
 | R::r,i,a,b,h=>by
  rw[j4] at h;rcases List.append_eq_append_iff.1 h with⟨a',h1,h2⟩ | ⟨c',h1,h2⟩
  ·obtain⟨j,Q,hj,hs,⟨ya,y,yb,h3,h4,h5⟩,h6⟩:=zg8 r (i+1) a' b h2;refine⟨j+1,Q,by simpa using hj,hs,⟨ya,y,yb,h3,by rw[h4,show i+1+j=i+(j+1) by omega],λ y' kX=>?_⟩,λ j' R' vg pB mh y' kX=>?_⟩
   ·rw[h1,show i+(j+1)=i+1+j by omega];exact List.mem_append.2 (.inr (h5 y' kX))
   ·rw[h1]
    cases j' with
    | zero=>
     rw[List.getElem?_cons_zero] at pB
     cases pB
     refine List.mem_append.2 (.inl ?_);rw[if_pos mh];exact List.mem_map.2 ⟨y',kX,rfl⟩
    | succ j''=>
     refine List.mem_append.2 (.inr ?_);rw[show i+(j''+1)=i+1+j'' by omega];exact h6 j'' R' (by omega) (by simpa using pB) mh y' kX
  ·cases c' with
   | nil=>
    rw[List.nil_append] at h2;obtain⟨j,Q,hj,hs,⟨ya,y,yb,h3,h4,h5⟩,h6⟩:=zg8 r (i+1) [] b h2.symm;rw[List.append_nil] at h1;refine⟨j+1,Q,by simpa using hj,hs,⟨ya,y,yb,h3,by rw[h4,show i+1+j=i+(j+1) by omega],λ y' kX=>?_⟩,λ j' R' vg pB mh y' kX=>?_⟩
    ·cases h5 y' kX
    ·cases j' with
     | zero=>
      rw[List.getElem?_cons_zero] at pB
      cases pB
      rw[<-h1,if_pos mh];exact List.mem_map.2 ⟨y',kX,rfl⟩
     | succ j''=>cases h6 j'' R' (by omega) (by simpa using pB) mh y' kX
   | cons x c''=>
    rw[List.cons_append] at h2;injection h2 with h2 h3
    subst h2
    split at h1
    ·rename_i hs;obtain⟨ya,ys,e1,e2,e3⟩:=List.map_eq_append_iff.1 h1;obtain⟨y,yb,e4,e5,e6⟩:=List.map_eq_cons_iff.1 e3;refine⟨0,R,rfl,hs,⟨ya,y,yb,by rw[e1,e4],e5.symm,λ y' kX=>?_⟩,λ j' R' vg=>absurd vg (Nat.not_lt_zero _)⟩;rw[<-e2];exact List.mem_map.2 ⟨y',kX,rfl⟩
    ·simp at h1
structure z98 (ps:P9)(S:Nat->Nat)(rs:List zS)(l:List zP)(f:zP):Prop where
 tx:f.text=xP f.aj
 has:∃ R,rs[f.r]?=some R/\S (zM ps R.head.pred).toNat=f.s/\(∃ y∈ze4 R l,y.2=f.fr/\fa y.1 R.head=f.aj)/\∀ y∈ze4 R l,xP (fa y.1 R.head)=f.text->zes y.2 f.fr=false
 low:∀ j R,j<f.r->rs[j]?=some R->S (zM ps R.head.pred).toNat=f.s->∀ y∈ze4 R l,xP (fa y.1 R.head)≠f.text
theorem z63 {S:Nat->Nat}{rs:List zS}{s n:Nat}{out:List zP}(h:BN ps S rs l s n out){f:zP}(hf:f∈out):z98 ps S rs l f/\f.s=s/\f.h=n:=by
 have hm:f∈(vC l (j4 ps S l s n rs 0) []).1:=by
  rcases h with⟨_,rfl⟩ | ⟨_,_,hp⟩
  ·exact hf
  ·exact hp.mem_iff.1 hf
 rcases zmz _ _ hm with h1 | ⟨⟨a,b,h1,h2⟩,_⟩
 ·cases h1
 ·obtain⟨j,R,hj,hs,⟨ya,y,yb,h3,h4,h5⟩,h6⟩:=zg8 rs 0 a b h1;have er:f.r=j:=by rw[h4];exact Nat.zero_add j
  have es:f.s=s:=by rw[h4];rfl
  have eh:f.h=n:=by rw[h4];rfl
  have et:f.text=xP (fa y.1 R.head):=by rw[h4];rfl
  have S2:f.aj=fa y.1 R.head:=by rw[h4];rfl
  have ef:f.fr=y.2:=by rw[h4];rfl
  refine⟨⟨by rw[et,S2],⟨R,by rw[er];exact hj,by rw[es];exact hs,⟨y,by rw[h3];simp,ef.symm,S2.symm⟩,λ y' kX he=>?_⟩,λ j' R' vg pB mh y' kX he=>?_⟩,es,eh⟩
  ·have rj:=zte R l;rw[h3] at kX rj;rcases List.mem_append.1 kX with kX | kX
   ·exact absurd he (h2 _ (h5 y' kX))
   ·rcases List.mem_cons.1 kX with rfl | kX
    ·rw[ef];exact zkh _
    ·have:=((List.pairwise_cons.1 (List.pairwise_append.1 rj).2.1).1) y' kX;rw[ef]
     cases hq:zes y'.2 y.2 with
     | false=>rfl
     | true=>have:=zi7 this hq;rw[zkh] at this;cases this
  ·rw[es] at mh;rw[er] at vg;exact h2 _ (h6 j' R' vg pB mh y' kX) he
end
section
def zgy (g f:zP):Bool:=decide (g.s<f.s)||(decide (g.s=f.s)&&decide (g.h<f.h))
variable {g f:zP}
theorem zcj:zgy g f=true↔g.s<f.s\/(g.s=f.s/\g.h<f.h):=by unfold zgy;simp
theorem zta:zgy g f=false↔¬ (g.s<f.s\/(g.s=f.s/\g.h<f.h)):=by rw[<-zcj];simp
structure pN (ps:P9)(S:Nat->Nat)(rs:List zS)(l:List zP):Prop where
 Vb:l.Pairwise λ x y=>jD y x=false
 each:∀ f∈l,∃ l0 r,l=l0++r/\f∈r/\(∀ g∈l0,zgy g f=true)/\(∀ g∈r,zgy g f=false)/\z98 ps S rs l0 f
theorem pN.nil (ps:P9)(S:Nat->Nat)(rs:List zS):pN ps S rs []:=⟨by simp,by simp⟩
theorem zts {x y:zP}(h:zgy x y=true):jD y x=false:=by
 rw[zcj] at h;unfold jD
 by_cases h1:y.s=x.s
 ·rw[if_neg (by simp[h1])];rw[if_pos (by simp;omega)];simp;omega
 ·rw[if_pos (by simpa using h1)];simp;omega
variable {s n:Nat} {l:List zP} {rs:List zS} {S:Nat->Nat} {ps:P9}
theorem pN.more {out:List zP}(h:pN ps S rs l)(hb:∀ f∈l,f.s<s\/(f.s=s/\f.h<n))(hr:BN ps S rs l s n out)(hl:l.length+out.length<=50):pN ps S rs (l++out)/\∀ f∈l++out,f.s<s\/(f.s=s/\f.h<n+1):=by
 have hf:∀ f∈out,z98 ps S rs l f/\f.s=s/\f.h=n:=λ f hf=>z63 hr hf
 have hs:out.Pairwise λ x y=>jD y x=false:=by
  rcases hr with⟨h1,rfl⟩ | ⟨_,h2,_⟩
  ·have:=RU _ _ h1;omega
  ·exact h2
 have hu:∀ g∈l,∀ f∈out,zgy g f=true:=λ g hg f hf'=>by
  obtain⟨_,e1,e2⟩:=hf f hf';rw[zcj,e1,e2];exact hb g hg
 refine⟨⟨List.pairwise_append.2 ⟨h.Vb,hs,λ x hx y hy=>zts (hu x hx y hy)⟩,λ f hf'=>?_⟩,λ f hf'=>?_⟩
 ·rcases List.mem_append.1 hf' with h1 | h1
  ·obtain⟨l0,r,rfl,h2,h3,h4,h5⟩:=h.each f h1;refine⟨l0,r++out,by rw[List.append_assoc],List.mem_append.2 (.inl h2),h3,λ g hg=>?_,h5⟩;rcases List.mem_append.1 hg with hg | hg
   ·exact h4 g hg
   ·have:=hu f h1 g hg;rw[zcj] at this;rw[zta];omega
  ·obtain⟨h2,e1,e2⟩:=hf f h1;refine⟨l,out,rfl,h1,λ g hg=>hu g hg f h1,λ g hg=>?_,h2⟩;obtain⟨_,e3,e4⟩:=hf g hg;rw[zta];omega
 ·rcases List.mem_append.1 hf' with h1 | h1
  ·have:=hb f h1;omega
  ·obtain⟨_,e1,e2⟩:=hf f h1;omega
variable {r:Option (List zP)} {limit:Nat}
theorem zxz (hl:limit<=50)(h:zbr ps S rs limit s n l r):pN ps S rs l->(∀ f∈l,f.s<s\/(f.s=s/\f.h<n))->∀ l',r=some l'->pN ps S rs l'/\∀ f∈l',f.s<s+1:=by
 induction h with
 | fG _ _=>intro _ _ l' e;cases e
 | done _ _=>intro ht hb l' e;cases e;exact⟨ht,λ f hf=>by have:=hb f hf;omega⟩
 | more hr _ hle _ ih=>
  intro ht hb l' e;obtain⟨h1,h2⟩:=ht.more hb hr (by omega);exact ih h1 h2 l' e
theorem zw9 {di:Nat}(hl:limit<=50)(h:zka ps S rs limit di s l r):pN ps S rs l->(∀ f∈l,f.s<s)->∀ l',r=some l'->pN ps S rs l':=by
 induction h with
 | ends _=>intro ht _ l' e;cases e;exact ht
 | gX _ _=>intro _ _ l' e;cases e
 | next _ hc _ ih=>
  intro ht hb l' e;obtain⟨h1,h2⟩:=zxz hl hc ht (λ f hf=>.inl (hb f hf)) _ rfl;exact ih h1 h2 l' e
structure z0i (rs:List zS)(rp:List PR):Prop where
 len:rs.length=rp.length
 at_:∀ (i:Nat) (h:i<rs.length) (h':i<rp.length),ue rs[i] rp[i]
variable {K:List (Th × Nat)}
theorem gu.take {l0 r:List zP}(h:gu ps K (l0++r)):gu ps (l0.map λ f=>(bN f.aj,f.h)) l0:=by
 have hn:=h.EM;rw[List.map_append] at hn;have Cf:=(List.nodup_append.1 hn).1;refine⟨λ t n=>?_,?_,Cf,λ f hf=>h.dM f (List.mem_append.2 (.inl hf)),λ f hf=>h.text f (List.mem_append.2 (.inl hf))⟩
 ·rw[List.mem_map]
  constructor
  ·rintro⟨f,hf,e⟩;injection e with e1 e2
   exact⟨f,hf,e1,e2⟩
  ·rintro⟨f,hf,rfl,rfl⟩;exact⟨f,hf,rfl⟩
 ·rw[List.map_map];exact Cf
structure E0 (N:List (Th × Nat))(rp:List PR)(t:Th)(i:Nat)(row:List Nat):Prop where
 low:∀ j (h:j<rp.length),j<i->zfr N rp[j] t=[]
 lt:i<rp.length
 mem:row∈zfr N rp[i] t
 least:∀ DF∈zfr N rp[i] t,zes DF row=false
variable {rp:List PR}
theorem E0.uniq {N:List (Th × Nat)}{t:Th}{i j:Nat}{x y:List Nat}(h:E0 N rp t i x)(k:E0 N rp t j y):i=j/\x=y:=by
 have e:i=j:=by
  rcases Nat.lt_trichotomy i j with h1 | h1 | h1
  ·have:=h.mem;rw[k.low i h.lt h1] at this;cases this
  ·exact h1
  ·have:=k.mem;rw[h.low j k.lt h1] at this;cases this
 subst e;exact⟨rfl,z24 (k.least _ h.mem) (h.least _ k.mem)⟩
theorem pN.least (hR:zax ps rs rp)(hI:z0i rs rp)(hS:gu ps K l)(hT:pN ps S rs l)(hf:f∈l):∃ l0 r,l=l0++r/\(∀ g∈l0,zgy g f=true)/\(∀ g∈r,zgy g f=false)/\E0 (zb6 l0) rp (bN f.aj) f.r f.fr/\f.s=S (zM ps f.aj.pred).toNat/\f.fr.length<=3/\∀ x∈f.fr,x<l0.length:=by
 obtain⟨l0,r,rfl,h1,h2,h3,hF⟩:=hT.each f hf;have oC:=hS.take;have oO:=hS.dM f hf;obtain⟨R,Py,hs,⟨y,hy,LP,UJ⟩,hle⟩:=hF.has;obtain⟨aH,rfl⟩:=List.getElem?_eq_some_iff.1 Py;have mS:f.r<rp.length:=by rw[<-hI.len];exact aH
 have hrel:=hI.at_ f.r aH mS;have hg:=hR.dM _ (List.getElem_mem mS);have jk:rs[f.r].head.pred=f.aj.pred:=by rw[<-UJ];rfl
 have aB:=zqh oC hrel hg hy;refine⟨l0,r,rfl,h2,h3,⟨λ j hj Na=>?_,mS,?_,λ DF re=>?_⟩,by rw[<-jk];exact hs.symm,?_,λ x hx=>aB.2 x (by rw[LP];exact hx)⟩
 ·refine List.eq_nil_iff_forall_not_mem.2 λ row aB=>?_
  have vg:j<rs.length:=by rw[hI.len];exact hj
  obtain⟨z,hz,aY,_⟩:=(zp3 oC (hI.at_ j vg hj) (hR.dM _ (List.getElem_mem hj)) oO row).1 aB;have Eu:rs[j].head.pred=f.aj.pred:=congrArg Prod.fst aY;refine hF.low j rs[j] Na (List.getElem?_eq_getElem vg) (by rw[Eu,<-jk];exact hs) z hz ?_;rw[DO,aY,hF.tx,DO]
 ·refine (zp3 oC hrel hg oO _).2 ⟨y,hy,by rw[UJ],LP⟩
 ·obtain⟨z,hz,aY,rfl⟩:=(zp3 oC hrel hg oO _).1 re;exact hle z hz (by rw[DO,aY,hF.tx,DO])
 ·rw[<-LP,aB.1];unfold qK;rw[List.length_map];exact Nat.le_trans (z4i _) hg.l3
end
section
open Go.RowKit Go.Maps
theorem zih {K:List (Th × Nat)}{Vs:List B8}:∀ (pos:List jZ) (e x:yR),vZ Vs e->(∀ a∈pos,∀ t∈a.ts,t.1=true->t.2∈Vs)->x∈yD K pos e->vZ Vs x
 | [],e,x,h,_,hx=>by
  rw[yD] at hx;rw[List.mem_singleton.1 hx];exact h
 | a::r,e,x,h,hv,hx=>by
  rw[yD] at hx;obtain⟨p,hp,hx⟩:=List.mem_flatMap.1 hx
  cases hm:xG e a p.1 with
  | none=>rw[hm] at hx;cases hx
  | some e1=>
   rw[hm] at hx;exact zih r e1 x (h.matched (hv a List.mem_cons_self) hm) (λ y hy=>hv y (List.mem_cons_of_mem _ hy)) hx
variable {N:List (Th × Nat)} {nb:Nat} {w:W8}
theorem z23 {ps:P9}{base:Nat}{r:PR}{t:Th}(hr:uh w base r)(hm:qR w nb N)(hg:nP ps r)(hN:∀ p∈N,iD ps p.1)(ht:iD ps t):zvk w nb base r N t:=by
 have Ux:∀ s,xG [] (gw r) t=some s->vZ (zhl r.bs) s:=λ s hs=>(vZ.nil _).matched (λ u hu hv=>by
  obtain⟨a,ha,YM⟩:=hg.Bf u hu hv
  exact zhm ha YM) hs
 have xh:∀ s,xG [] (gw r) t=some s->∀ e∈yD N (yP r.bs) s,oo e/\∀ a∈yP r.bs,Dom e a:=λ s hs e he=>by
  have h1:=(zge hg.hd ht NU hs).1.w;obtain⟨g,b⟩:=zfm hN (yP r.bs) s e hg.pos h1 he;exact⟨g.w,λ a ha u hu hv=>b a ha u hu hv⟩
 refine⟨hr,hm,hg.l3,λ x hx=>(hg.ls x hx).w.eJ,hg.hd.w.eJ,ht.ok,λ s hs e he x hx=>?_,λ s hs e he x hx=>?_,Ux,λ s hs e he=>?_⟩
 ·obtain⟨h1,h2⟩:=xh s hs e he;exact (zh6 (hg.neg x hx) h1 (hg.FJ h2 x hx)).ok
 ·obtain⟨h1,h2⟩:=xh s hs e he;exact (zh6 (hg.pos x hx) h1 (h2 x hx)).ok
 ·have h1:=(zih (yP r.bs) s e (Ux s hs) (λ a ha u hu _=>zhm ha hu) he).len;have h2:=zmj hg.l3 (λ x hx=>(hg.ls x hx).w.eJ);omega
def zxr (w:W8)(rs:List PR)(N:List (Th × Nat))(t:Th)(e:Ending)(w':W8):Prop:=
 Below w.heap.size w w'/\∃ (i:Nat) (row:List Nat) (a:O8) (c:Nat),e=.returned (.agg #[.int .i64 (i:Nat),.slice a row.length c])/\w'.ownsRow w.heap.size 3 1 (.slice a row.length c) row.length (ew row)/\(E0 N rs t i row\/∀ r∈rs,zfr N r t=[])
structure Mf (w:W8)(p:Pl)(nb:Nat)(N:List (Th × Nat))(wr:W8):Prop where
 pb:wr.heap[w.heap.size]?=some (.cells (ez p).toArray 148 (0,0))
 rb:wr.heap[w.heap.size+1]?=some (.cells #[.int .i64 0,.slice none 0 0] 150 (0,0))
 m:qR wr nb N
 k:Below w.heap.size w wr
theorem Mf.below {p:Pl}{wr w':W8}(h:Mf w p nb N wr)(k:Below wr.heap.size wr w'):Mf w p nb N w':=
 ⟨(k.block _ (Array.getElem?_eq_some_iff.1 h.pb).1).trans h.pb,(k.block _ (Array.getElem?_eq_some_iff.1 h.rb).1).trans h.rb,h.m.block (k.block _ h.m.lt),h.k.trans (k.mono h.k.size)⟩
theorem zzc (ps:P9)(w:W8)(base bo:Nat)(ar ao:O8)(cr co:Nat)(rs:List PR)(O:List Pl)(p:Pl)(hr:iq w base (.slice ar rs.length cr) rs)(ho:w.ownsRow bo 148 7 (.slice ao O.length co) O.length (O.flatMap ez))(hg:∀ r∈rs,nP ps r)(hO:∀ q∈O,iD ps q.t)(ht:iD ps p.t)(mT:(O.map (·.t)).Nodup)(hl:O.length<=1000):
  Calls Tryz.prog 69 #[.slice ar rs.length cr,.slice ao O.length co,plV p] w (zxr w rs (ze2 p O 0) p.t):=by
 have HR:=zC hr;have HO:=zC ho;have HG:=zC hg;have Ss:=zC hO;have HT:=zC ht;have B2:=zC mT;have Nh:=yU hr.row;unfold maxLen at Nh;clear hr ho hg hO ht mT;unfold plV ez;go_enter Tryz.func69,Tryz.ntmps69;go_upto_region 1 with fail;generalize bC:World.alloc (World.alloc w _) _=w0;have k0:Below w.heap.size w w0:=by
  rw[<-bC];exact ((Below.refl w.heap.size w).alloc L9 _).alloc (by simp) _
 have x0:w0.heap[w.heap.size]?=some (.cells (ez p).toArray 148 (0,0)):=by
  rw[<-bC,Below.heap_alloc _ _ _ (by simp)];exact heap_alloc_new w _
 have x1:w0.heap[w.heap.size+1]?=some (.cells #[.int .i64 0,.slice none 0 0] 150 (0,0)):=by
  rw[<-bC];have:=heap_alloc_new (w.alloc (.cells (ez p).toArray 148)) (.cells #[.int .i64 0,.slice none 0 0] 150);rw[World.size_alloc] at this;exact this
 clear bC;have c0:=(zB x0 0).1;have c1:=(zB x0 1).1;have c2:=(zB x0 2).1;have c3:=(zB x0 3).1;have c4:=(zB x0 4).1;have c5:=(zB x0 5).1;have c6:=(zB x0 6).1;simp only[ez,List.getElem?_toArray,List.getElem?_cons_zero,List.getElem?_cons_succ] at c0 c1 c2 c3 c4 c5 c6;have HU:=zC (ycm w0 bo ao co O p (zJ (zA HO) k0 (λ g e=>((zA HO).lt g e).2)) (λ q hq=>(zA Ss q hq).ok) (zA B2) hl);have dr:=zC k0;have rT:=zC x0;have yp:=zC x1;clear k0 x0 x1;go_wp2_with (go_at_call 108;refine (zA HU).mono ?_;rintro en w1 ⟨nb,rfl,eY,dH,aL⟩;have iu:=zC dH;have fN:=zC aL;clear dH aL);have H0:=zC (show Mf w p nb (ze2 p O 0) w1 from ⟨((zA fN).block _ (Array.getElem?_eq_some_iff.1 (zA rT)).1).trans (zA rT),((zA fN).block _ (Array.getElem?_eq_some_iff.1 (zA yp)).1).trans (zA yp),zA iu,(zA dr).trans ((zA fN).mono (zA dr).size)⟩)
 have HN:=zC (show ∀ q∈ze2 p O 0,iD ps q.1 from λ q hq=>by
  obtain⟨y,hy,e⟩:=zkk O 0 hq
  rw[<-e];exact zA Ss y hy)
 generalize ze2 p O 0=N at *;clear c0 c1 c2 c3 c4 c5 c6 HU
 go_loopg [17] rs.length (λ gg i wr=>∃ k:Nat,k<=rs.length/\gg=rs.length-k/\i=.int .i64 k/\Mf w p nb N wr/\∀ (j:Nat) (h:j<rs.length),j<k->zfr N rs[j] p.t=[])
 exact⟨0,Nat.zero_le _,rfl,rfl,zA H0,λ j _ h=>by omega⟩
 case round=>
  clear H0;obtain⟨k,hk,eD,rfl,ax,bc⟩:=hrel;have Fq:=zC bc;clear bc
  by_cases aF:k<rs.length
  ·obtain⟨r,ny⟩:∃ r,r=rs[k]:=⟨_,rfl⟩;have cg:r∈rs:=(by rw[ny];exact List.getElem_mem aF);have rZ:=(zA HR).each r cg;obtain⟨ah,ch,sJ⟩:=zD rZ.hd;obtain⟨ab,cb,sI⟩:=zD rZ.bo.row;obtain⟨g,cap,hv,iF,aZ,bO,bQ,hc⟩:=vX zut (zA HR).row k aF;injection hv with h1 h2 h3
   subst h1 h3;have eo:=ax.k;have e0:wr.cell? ⟨g,k*3,none⟩=some (.string r.R.pd):=(by rw[ny];exact (eo.cell (p:=⟨g,k*3,none⟩) aZ).trans (hc 0 (by omega)));have e1:wr.cell? ⟨g,k*3+1,none⟩=some (.slice ah r.R.ts.length ch):=(by rw[<-sJ,ny];exact (eo.cell (p:=⟨g,k*3+1,none⟩) aZ).trans (hc 1 (by omega)));have e2:wr.cell? ⟨g,k*3+2,none⟩=some (.slice ab r.bs.length cb):=(by rw[<-sI,ny];exact (eo.cell (p:=⟨g,k*3+2,none⟩) aZ).trans (hc 2 (by omega)));have nu:(k:Int)<rs.length:=(by omega);have kO:=ax.below ((Below.refl wr.heap.size wr).alloc L9 (.cells #[.string r.R.pd,.slice ah r.R.ts.length ch,.slice ab r.bs.length cb] 123));have b0:=(zB kO.pb 0).1;have b1:=(zB kO.pb 1).1;have b2:=(zB kO.pb 2).1;have b3:=(zB kO.pb 3).1;have b4:=(zB kO.pb 4).1;simp only[ez,List.getElem?_toArray,List.getElem?_cons_zero,List.getElem?_cons_succ] at b0 b1 b2 b3 b4;have HA:=zC (z22 (wr.alloc (.cells #[.string r.R.pd,.slice ah r.R.ts.length ch,.slice ab r.bs.length cb] 123)) nb base r N p.t (z23 (ps:=ps) ⟨zJ rZ.hd kO.k (λ g e=>(rZ.hd.lt g e).2),rZ.bo.below kO.k,rZ.eq⟩ kO.m (zA HG r cg) (zA HN) (zA HT)));rw[sJ,sI] at HA;have Mx:=zC kO;have wZ:=zC ny;have xq:=(Array.getElem?_eq_some_iff.1 ax.rb).1;have xr:(wr.alloc (.cells #[.string r.R.pd,.slice ah r.R.ts.length ch,.slice ab r.bs.length cb] 123)).heap.size=wr.heap.size+1:=(by simp);have SC:=zC xr;clear hc eo ax kO rZ cg h2 ny sJ sI xr;go_wp2_with (go_at_call 109;refine (zA HA).mono ?_;rintro en w2 ⟨aK,(⟨Df,rfl⟩ | ⟨row,a2,c2,It,hle,rfl,ay⟩)⟩ <;> (have ir:=zC aK;have i2:=(zA Mx).below aK;have eA:=zC i2;obtain⟨r0,f0⟩:=zB i2.rb 0;obtain⟨r1,f1⟩:=zB i2.rb 1;simp only[List.getElem?_toArray,List.getElem?_cons_zero,List.getElem?_cons_succ] at r0 r1;clear aK i2))
   ·go_roundg (rs.length-(k+1))
    case measure=>omega
    case rel=>
     refine⟨k+1,by omega,rfl,by go_num,zA eA,λ j h hj=>?_⟩
     by_cases e:j=k
     ·subst e;rw[<-zA wZ];exact Df
     ·exact zA Fq j h (by omega)
   ·obtain⟨q0,q1⟩:=zj8 r0 r1 (.int .i64 (k:Nat)) (.slice a2 row.length c2);refine bodyPost_ret (v:=.agg #[.int .i64 (k:Nat),.slice a2 row.length c2]) (by simp[results,Tryz.results69,go_sem,q0,q1]) rfl ?_;have i2:=zA eA;have bg:=(zA ir).size;rw[zA SC] at bg;refine⟨zY i2.k (zby _ (w.heap.size+1) _ _) i2.k.size (by simp),k,row,a2,c2,rfl,?_,.inl ⟨zA Fq,aF,by rw[<-zA wZ];exact It,λ x hx=>hle x (by rw[zA wZ];exact hx)⟩⟩;rw[zA SC] at ay;exact zG (j8 ay (zby _ (w.heap.size+1) _ _) (λ g hg=>by have:=(ay.lt g hg).1;omega)) (by have:=i2.k.size;omega)
  ·have bT:=zC ax;obtain⟨r0,f0⟩:=zB ax.rb 0;obtain⟨r1,f1⟩:=zB ax.rb 1;simp only[List.getElem?_toArray,List.getElem?_cons_zero,List.getElem?_cons_succ] at r0 r1;clear ax;go_wp2_with fail;obtain⟨q0,q1⟩:=zj8 r0 r1 (.int .i64 0) (.slice none 0 0);refine bodyPost_ret (v:=.agg #[.int .i64 0,.slice none 0 0]) (by simp[results,Tryz.results69,go_sem,q0,q1]) rfl ?_;have ax:=zA bT;refine⟨zY ax.k (zby _ (w.heap.size+1) _ _) ax.k.size (by simp),0,[],none,0,rfl,World.ownsRow_nil _ _ _ _,.inr λ r hr=>?_⟩;obtain⟨j,hj,rfl⟩:=List.mem_iff_getElem.1 hr;exact zA Fq j hj (by omega)
end
end Go.Proofs.YtldkpahaocjdpaaGreat
