/-
  Plain: height by height, stratum by stratum: the reference and the program come to the same.
-/
import Derived.Test.YtldkpahaocjdpaaGreatE36
set_option maxHeartbeats 16000000
set_option maxRecDepth 1000000
namespace Go.Proofs.YtldkpahaocjdpaaGreat
section
structure zax (ps:P9)(rs:List zS)(rp:List PR):Prop where
 fwd:∀ R∈rs,∃ r∈rp,ue R r
 bwd:∀ r∈rp,∃ R∈rs,ue R r
 dM:∀ r∈rp,nP ps r
theorem zf6 {ps:P9}{S:Nat->Nat}{l:List zP}{s n:Nat}{f:zP}:∀ (rs:List zS) (i:Nat),f∈j4 ps S l s n rs i->f.h=n/\f.text=xK (bN f.aj)/\∃ R∈rs,S (zM ps R.head.pred).toNat=s/\∃ y∈ze4 R l,bN f.aj=xV y.1 (pa R.head)
 | [],_,h=>by simp[j4] at h
 | R::r,i,h=>by
  rw[j4] at h;rcases List.mem_append.1 h with h | h
  ·split at h
   ·rename_i hs;obtain⟨y,hy,rfl⟩:=List.mem_map.1 h;exact⟨rfl,DO _,R,List.mem_cons_self,hs,y,hy,IP _ _⟩
   ·simp at h
  ·obtain⟨h1,h2,Q,hQ,h3⟩:=zf6 r (i+1) h;exact⟨h1,h2,Q,List.mem_cons_of_mem _ hQ,h3⟩
theorem z1l {ps:P9}{S:Nat->Nat}{l:List zP}{s n:Nat}{R:zS}{y:Way}:∀ (rs:List zS) (i:Nat),R∈rs->S (zM ps R.head.pred).toNat=s->y∈ze4 R l->∃ f∈j4 ps S l s n rs i,bN f.aj=xV y.1 (pa R.head)
 | [],_,h,_,_=>by cases h
 | Q::r,i,h,hs,hy=>by
  rw[j4];rcases List.mem_cons.1 h with rfl | h
  ·refine⟨zcq R s n i y,List.mem_append.2 (.inl ?_),IP _ _⟩;rw[if_pos hs];exact List.mem_map.2 ⟨y,hy,rfl⟩
  ·obtain⟨f,hf,e⟩:=z1l (n:=n) r (i+1) h hs hy;exact⟨f,List.mem_append.2 (.inr hf),e⟩
variable {S:Nat->Nat} {Sp:B8->Nat} {rp:List PR} {rs:List zS} {l:List zP} {K:List (Th × Nat)} {ps:P9}
theorem z3s (hS:gu ps K l)(hR:zax ps rs rp)(hs:∀ R∈rs,Sp R.head.pred=S (zM ps R.head.pred).toNat)(s n:Nat)(t:Th):ztm (rp.filter (zc2 Sp s)) K t↔yS K t=none/\∃ f∈j4 ps S l s n rs 0,bN f.aj=t:=by
 unfold ztm;refine and_congr_right λ _=>⟨?_,?_⟩
 ·rintro⟨r,hr,e,he,rfl⟩;obtain⟨hr,hi⟩:=List.mem_filter.1 hr;obtain⟨R,uY,hrel⟩:=hR.bwd r hr;obtain⟨y,hy,rfl⟩:=(zfs hS hrel (hR.dM r hr) e).2 he;unfold zc2 at hi;have ve:S (zM ps R.head.pred).toNat=s:=by
   rw[<-hs R uY];rw[hrel.eq] at hi;simpa[yO] using hi
  obtain⟨f,hf,e⟩:=z1l (n:=n) rs 0 uY ve hy;exact⟨f,hf,by rw[e,hrel.hd]⟩
 ·rintro⟨f,hf,rfl⟩;obtain⟨_,_,R,uY,hi,y,hy,e⟩:=zf6 rs 0 hf;obtain⟨r,hr,hrel⟩:=hR.fwd R uY;refine⟨r,List.mem_filter.2 ⟨hr,?_⟩,y.1,(zfs hS hrel (hR.dM r hr) y.1).1 ⟨y,hy,rfl⟩,by rw[e,hrel.hd]⟩;unfold zc2;rw[hrel.eq]
  show (Sp R.head.pred==s)=true
  rw[hs R uY,hi];simp
variable {s n:Nat}
theorem zra (hS:gu ps K l)(hR:zax ps rs rp){f:zP}(hf:f∈j4 ps S l s n rs 0):iD ps (bN f.aj):=by
 obtain⟨_,_,R,uY,_,y,hy,e⟩:=zf6 rs 0 hf;obtain⟨r,hr,hrel⟩:=hR.fwd R uY;have he:=(zfs hS hrel (hR.dM r hr) y.1).1 ⟨y,hy,rfl⟩;rw[e,<-hrel.hd];exact ((hR.dM r hr).Hf hS.ti (List.mem_filter.1 he).1).hd
structure zq2 (l C out:List zP):Prop where
 nd:(out.map (·.text)).Nodup
 mem:∀ f∈out,f∈C/\jE l f.text<0
variable {out:List zP}
theorem yam {C:List zP}{f:zP}(h:zq2 l C out)(hf:f∈C):zq2 l C (ztq l out f):=by
 unfold ztq
 split
 ·rename_i c;refine⟨?_,λ g hg=>?_⟩
  ·rw[List.map_append,List.nodup_append];refine⟨h.nd,by simp,λ a ha b hb e=>?_⟩;obtain⟨g,hg,rfl⟩:=List.mem_map.1 ha;rw[List.map_cons,List.map_nil,List.mem_singleton] at hb;exact (zlw out f.text).1 c.2 g hg (by rw[e,hb])
  ·rcases List.mem_append.1 hg with hg | hg
   ·exact h.mem g hg
   ·rw[List.mem_singleton.1 hg];exact⟨hf,c.1⟩
 ·exact h
theorem zxc {l C:List zP}:∀ (cs out:List zP),(∀ f∈cs,f∈C)->zq2 l C out->zq2 l C (vC l cs out).1
 | [],_,_,h=>h
 | f::r,out,hc,h=>by
  rw[vC]
  split
  ·exact h
  ·exact zxc r _ (λ g hg=>hc g (List.mem_cons_of_mem _ hg)) (yam h (hc f List.mem_cons_self))
theorem RU {l:List zP}:∀ (cs out:List zP),(vC l cs out).2=true->50<l.length+(vC l cs out).1.length
 | [],_,h=>by cases h
 | f::r,out,h=>by
  rw[vC] at h ⊢
  split at h
  ·rename_i c;rw[if_pos c];exact c
  ·rename_i c;rw[if_neg c];exact RU r _ h
theorem zq3 {f g:zP}(h:g∈out):g∈ztq l out f:=by
 unfold ztq
 split
 ·exact List.mem_append.2 (.inl h)
 ·exact h
theorem Vu {l:List zP}{g:zP}:∀ (cs out:List zP),g∈out->g∈(vC l cs out).1
 | [],_,h=>h
 | f::r,out,h=>by
  rw[vC]
  split
  ·exact h
  ·exact Vu r _ (zq3 h)
theorem zvn {f:zP}(h:jE l f.text<0):∃ g∈ztq l out f,g.text=f.text:=by
 unfold ztq
 split
 ·exact⟨f,List.mem_append.2 (.inr (List.mem_singleton.2 rfl)),rfl⟩
 ·rename_i c;have:¬ jE out f.text<0:=λ h2=>c ⟨h,h2⟩
  rw[zlw] at this;simpa using this
theorem zs4 {l:List zP}:∀ (cs out:List zP),(vC l cs out).2=false->∀ f∈cs,jE l f.text<0->∃ g∈(vC l cs out).1,g.text=f.text
 | [],_,_,f,hf,_=>by cases hf
 | x::r,out,h,f,hf,hn=>by
  rw[vC] at h ⊢
  split at h
  ·cases h
  ·rename_i c;rw[if_neg c];rcases List.mem_cons.1 hf with rfl | hf
   ·obtain⟨g,hg,e⟩:=zvn (out:=out) hn;exact⟨g,Vu r _ hg,e⟩
   ·exact zs4 r _ h f hf hn
structure yag (ps:P9)(S:Nat->Nat)(rs:List zS)(l:List zP)(s n:Nat)(out:List zP):Prop where
 tk:zq2 l (j4 ps S l s n rs 0) out
 all:l.length+out.length<=50->∀ f∈j4 ps S l s n rs 0,jE l f.text<0->∃ g∈out,g.text=f.text
theorem zw1 (h:BN ps S rs l s n out):yag ps S rs l s n out:=by
 have ax:=zxc (l:=l) (C:=j4 ps S l s n rs 0) (j4 ps S l s n rs 0) [] (λ _ h=>h) ⟨by simp,by simp⟩;rcases h with⟨h1,rfl⟩ | ⟨h1,_,hp⟩
 ·exact⟨ax,λ h2=>by have:=RU _ _ h1;omega⟩
 ·refine⟨⟨(hp.map _).nodup_iff.2 ax.nd,λ f hf=>ax.mem f (hp.mem_iff.1 hf)⟩,λ _ f hf hn=>?_⟩;obtain⟨g,hg,e⟩:=zs4 _ _ h1 f hf hn;exact⟨g,hp.mem_iff.2 hg,e⟩
structure z0y (ps:P9)(rp:List PR)(K:List (Th × Nat))(l:List zP)(n:Nat)(out:List zP):Prop where
 nd:(out.map λ f=>bN f.aj).Nodup
 new:∀ f∈out,ztm rp K (bN f.aj)
 h:∀ f∈out,f.h=n
 dM:∀ f∈out,iD ps (bN f.aj)
 text:∀ f∈out,f.text=xK (bN f.aj)
 all:l.length+out.length<=50->∀ t,ztm rp K t->∃ f∈out,bN f.aj=t
theorem zp1 (hS:gu ps K l)(hR:zax ps rs rp)(hs:∀ R∈rs,Sp R.head.pred=S (zM ps R.head.pred).toNat)(h:BN ps S rs l s n out):z0y ps (rp.filter (zc2 Sp s)) K l n out:=by
 have hr:=zw1 h;have hg:∀ f∈out,iD ps (bN f.aj):=λ f hf=>zra hS hR (hr.tk.mem f hf).1
 have ht:∀ f∈out,f.text=xK (bN f.aj):=λ f hf=>(zf6 rs 0 (hr.tk.mem f hf).1).2.1
 have nW:∀ t:Th,iD ps t->(jE l (xK t)<0↔yS K t=none):=λ t h=>by
  rw[hS.find h]
  cases yS K t <;> simp
 refine⟨?_,λ f hf=>?_,λ f hf=>(zf6 rs 0 (hr.tk.mem f hf).1).1,hg,ht,λ hb t hn=>?_⟩
 ·have h1:=hr.tk.nd;have e:out.map (·.text)=(out.map λ f=>bN f.aj).map xK:=by
   rw[List.map_map];exact List.map_congr_left λ f hf=>ht f hf
  rw[e] at h1;unfold List.Nodup at h1 ⊢;rw[List.pairwise_map] at h1;exact h1.imp λ h2 e=>h2 (by rw[e])
 ·rw[z3s hS hR hs s n];refine⟨?_,f,(hr.tk.mem f hf).1,rfl⟩;have:=(hr.tk.mem f hf).2;rw[ht f hf,nW _ (hg f hf)] at this;exact this
 ·rw[z3s hS hR hs s n] at hn;obtain⟨h1,f,hf,rfl⟩:=hn;have PX:=zra hS hR hf;have Ut:=(zf6 rs 0 hf).2.1;obtain⟨g,jg,e⟩:=hr.all hb f hf (by rw[Ut,nW _ PX];exact h1);refine⟨g,jg,zea (hg g jg).w PX.w ?_⟩;rw[<-ht g jg,e,Ut]
theorem gu.more {L:List (Th × Nat)}(hS:gu ps K l)(hr:z0y ps rp K l n out)(hb:l.length+out.length<=50)(mT:(L.map (·.1)).Nodup)(hh:∀ p∈L,p.2=n)(F4:∀ t,(∃ m,(t,m)∈L)↔ztm rp K t):gu ps (K++L) (l++out):=by
 refine⟨λ t m=>?_,?_,?_,λ f hf=>?_,λ f hf=>?_⟩
 ·rw[List.mem_append,hS.mem t m]
  constructor
  ·rintro (⟨f,hf,h⟩ | h)
   ·exact⟨f,List.mem_append.2 (.inl hf),h⟩
   ·obtain⟨f,hf,e⟩:=hr.all hb t ((F4 t).1 ⟨m,h⟩);exact⟨f,List.mem_append.2 (.inr hf),e,by rw[hr.h f hf];exact (hh _ h).symm⟩
  ·rintro⟨f,hf,e,hm⟩;rcases List.mem_append.1 hf with hf | hf
   ·exact .inl ⟨f,hf,e,hm⟩
   ·obtain⟨k,hk⟩:=(F4 t).2 (by rw[<-e];exact hr.new f hf);refine .inr ?_;have h1:=hh _ hk;simp only at h1;rw[<-hm,hr.h f hf,<-h1];exact hk
 ·rw[List.map_append,List.nodup_append];refine⟨hS.NC,mT,λ a ha b hb e=>?_⟩;obtain⟨p,hp,rfl⟩:=List.mem_map.1 hb;obtain⟨q,hq,rfl⟩:=List.mem_map.1 ha;have:=((F4 p.1).1 ⟨p.2,hp⟩).1;rw[<-e] at this;exact qV this q.2 hq
 ·rw[List.map_append,List.nodup_append];refine⟨hS.EM,hr.nd,λ a ha b hb e=>?_⟩;obtain⟨f,hf,rfl⟩:=List.mem_map.1 hb;obtain⟨g,hg,rfl⟩:=List.mem_map.1 ha;have h1:=(hr.new f hf).1;have h2:=(hS.look (bN f.aj)).2 ⟨g,hg,e⟩;rw[h1] at h2
  cases h2
 ·rcases List.mem_append.1 hf with hf | hf
  ·exact hS.dM f hf
  ·exact hr.dM f hf
 ·rcases List.mem_append.1 hf with hf | hf
  ·exact hS.text f hf
  ·exact hr.text f hf
def ztp (ps:P9)(limit:Nat)(r:Option (List zP))(r':Option (List (Th × Nat))):Prop:=(r=none/\r'=none)\/∃ l' K',r=some l'/\r'=some K'/\gu ps K' l'/\l'.length<=limit
variable {r:Option (List zP)} {limit:Nat}
theorem zo7 (hR:zax ps rs rp)(hs:∀ R∈rs,Sp R.head.pred=S (zM ps R.head.pred).toNat)(hl:limit<=50)(h:zbr ps S rs limit s n l r):∀ (K:List (Th × Nat)) (r':Option (List (Th × Nat))),gu ps K l->l.length<=limit->zgn (rp.filter (zc2 Sp s)) limit n K r'->ztp ps limit r r':=by
 induction h with
 | @fG n l out hr hb=>
  intro K r' hS hZ hp;have hq:=zp1 hS hR hs hr;have bF:out≠[]:=λ e=>by rw[e] at hb;simp at hb;omega
  obtain⟨f,hf⟩:=List.exists_mem_of_ne_nil _ bF
  cases hp with
  | fG L _ _ _=>exact .inl ⟨rfl,rfl⟩
  | done hn=>exact absurd (hq.new f hf) (hn _)
  | @more _ _ L _ h1 h2 h3 h4 h5 h6=>
   exfalso
   have:=zic (out.map λ f=>bN f.aj) (L.map (·.1)) hq.nd (λ t ht=>by
    obtain⟨g,hg,rfl⟩:=List.mem_map.1 ht;obtain⟨m,hm⟩:=(h4 _).2 (hq.new g hg)
    exact List.mem_map.2 ⟨_,hm,rfl⟩)
   have hlen:=hS.len;simp only[List.length_map] at this;omega
 | @done n l hr hb=>
  intro K r' hS hZ hp;have hq:=zp1 hS hR hs hr;have aX:∀ t,¬ ztm (rp.filter (zc2 Sp s)) K t:=λ t ht=>by
   obtain⟨f,hf,_⟩:=hq.all (by simp;omega) t ht
   cases hf
  cases hp with
  | fG L h1 h2 h3=>
   exfalso
   cases L with
   | nil=>have:=hS.len;simp at h3;omega
   | cons t q=>exact aX t (h2 t List.mem_cons_self)
  | done hn=>exact .inr ⟨l,K,rfl,rfl,hS,hZ⟩
  | @more _ _ L _ h1 h2 h3 h4 h5 h6=>
   exfalso
   obtain⟨p,hp⟩:=List.exists_mem_of_ne_nil _ h1;exact aX p.1 ((h4 p.1).1 ⟨p.2,hp⟩)
 | @more n l out r hr bF hb n9 ih=>
  intro K r' hS hZ hp;have hq:=zp1 hS hR hs hr;have Pj:l.length+out.length<=50:=by omega
  obtain⟨f,hf⟩:=List.exists_mem_of_ne_nil _ bF;have hlen:=hS.len
  cases hp with
  | fG L h1 h2 h3=>
   exfalso
   have:=zic L (out.map λ f=>bN f.aj) h1 (λ t ht=>by
    obtain⟨g,hg,e⟩:=hq.all Pj t (h2 t ht)
    exact List.mem_map.2 ⟨g,hg,e⟩)
   simp only[List.length_map] at this;omega
  | done hn=>exact absurd (hq.new f hf) (hn _)
  | @more _ _ L _ h1 h2 h3 h4 h5 h6=>
   exact ih (K++L) r' (hS.more hq Pj h2 h3 h4) (by rw[List.length_append];exact hb) h6
theorem ydw (hR:zax ps rs rp)(hs:∀ R∈rs,Sp R.head.pred=S (zM ps R.head.pred).toNat){di:Nat}(hl:limit<=50)(h:zka ps S rs limit di s l r):∀ (K:List (Th × Nat)) (r':Option (List (Th × Nat))),gu ps K l->l.length<=limit->zdx rp Sp limit (di+1) s K r'->ztp ps limit r r':=by
 induction h with
 | @ends s l h1=>
  intro K r' hS hZ hp
  cases hp with
  | ends _=>exact .inr ⟨l,K,rfl,rfl,hS,hZ⟩
  | gX h2 _=>omega
  | next h2 _ _=>omega
 | @gX s l h1 hc=>
  intro K r' hS hZ hp
  cases hp with
  | ends h2=>omega
  | gX _ gY=>exact .inl ⟨rfl,rfl⟩
  | next _ gY _=>
   rcases zo7 hR hs hl hc K _ hS hZ gY with⟨_,e⟩ | ⟨_,_,e,_⟩ <;> cases e
 | @next s l l' r h1 hc _ ih=>
  intro K r' hS hZ hp
  cases hp with
  | ends h2=>omega
  | gX _ gY=>
   rcases zo7 hR hs hl hc K _ hS hZ gY with⟨e,_⟩ | ⟨_,_,_,e,_⟩ <;> cases e
  | next _ gY hn=>
   rcases zo7 hR hs hl hc K _ hS hZ gY with⟨e,_⟩ | ⟨l1,K1,e1,e2,J7,rW⟩
   ·cases e
   ·obtain rfl:=Option.some.inj e1;obtain rfl:=Option.some.inj e2;exact ih _ r' J7 rW hn
end
section
open Go.RowKit
def zN (s:B8):zL:=⟨(tok s 0).text,(zH s 0 (-1)).1,false,(tok s 0).at_,0⟩
def zhw (s:B8):Bool:=decide ((zH s 0 (-1)).2.2<0)&&(tok s (zH s 0 (-1)).2.1).kind==46
def zcn (ps:P9)(s:B8):Bool:=zhw s&&iJ ps (tok s 0).text (zH s 0 (-1)).1.length
structure ycw (w:W8)(s:B8)(v:Value)(w':W8):Prop where
 below:Below w.heap.size w w'
 row:w'.ownsRow w.heap.size 317 3 v (zN s).ae.length (cellsOf (zN s).ae)
def z6f (w:W8)(ps:P9)(s:B8)(e:Ending)(w':W8):Prop:=
 ∃ v,e=.returned (.tuple #[(zN s).val v,.bool (zcn ps s)])/\ycw w s v w'
variable {w:W8} {s:B8}
theorem z08 {w1:W8}(aL:Below (w.alloc (Obj.cells #[.string s,.int .u8 0,.string { data:=#[] },.int .i64 0,.int .i64 0,.int .i64 (-1)] 235)).heap.size (w.alloc (Obj.cells #[.string s,.int .u8 0,.string { data:=#[] },.int .i64 0,.int .i64 0,.int .i64 (-1)] 235)) w1):
  dS ((((w1.setCell ⟨w.heap.size,1,none⟩ (.int .u8 (tok s 0).kind)).setCell ⟨w.heap.size,2,none⟩ (.string (tok s 0).text)).setCell ⟨w.heap.size,3,none⟩ (.int .i64 (tok s 0).at_)).setCell ⟨w.heap.size,4,none⟩ (.int .i64 (tok s 0).to)) w.heap.size s 0 (-1)/\Below w.heap.size w ((((w1.setCell ⟨w.heap.size,1,none⟩ (.int .u8 (tok s 0).kind)).setCell ⟨w.heap.size,2,none⟩ (.string (tok s 0).text)).setCell ⟨w.heap.size,3,none⟩ (.int .i64 (tok s 0).at_)).setCell ⟨w.heap.size,4,none⟩ (.int .i64 (tok s 0).to)):=by
 have hz:=aL.size;simp at hz;have x:∀ j,w1.cell? ⟨w.heap.size,j,none⟩=#[.string s,.int .u8 0,.string { data:=#[] },.int .i64 0,.int .i64 0,.int .i64 (-1)][j]?:=λ j=>(aL.cell (p:=⟨w.heap.size,j,none⟩) (by simp)).trans (by rw[World.cell?_alloc_at _ _ _ _ rfl])
 have xf:∀ j,w1.frozen? ⟨w.heap.size,j,none⟩=false:=λ j=>(aL.frozen (p:=⟨w.heap.size,j,none⟩) (by simp)).trans (by rw[World.frozen?_alloc_at _ _ _ _ rfl])
 have x0:w1.cell? ⟨w.heap.size,0,none⟩=some (.string s):=x 0;have x1:w1.cell? ⟨w.heap.size,1,none⟩=some (.int .u8 0):=x 1;have x2:w1.cell? ⟨w.heap.size,2,none⟩=some (.string { data:=#[] }):=x 2;have x3:w1.cell? ⟨w.heap.size,3,none⟩=some (.int .i64 0):=x 3;have x4:w1.cell? ⟨w.heap.size,4,none⟩=some (.int .i64 0):=x 4;have x5:w1.cell? ⟨w.heap.size,5,none⟩=some (.int .i64 (-1)):=x 5;clear x;have kk:=zl0 w1 w.heap.size (.int .u8 (tok s 0).kind) (.string (tok s 0).text) (.int .i64 (tok s 0).at_) (.int .i64 (tok s 0).to);have mu:Below w.heap.size w w1:=(B9.alloc L9 _).trans (aL.mono (by simp));refine⟨?_,zY mu kk mu.size (λ b hm=>by simp at hm;omega)⟩;refine⟨by simp;omega,?_,?_,?_,?_,?_,?_,?_⟩
 all_goals go_simp
theorem yap {w2 w':W8}{v:Value}{n:Nat}(hn:w.heap.size<n)(ay:w2.ownsRow n 317 3 v (zN s).ae.length (cellsOf (zN s).ae))(hb:Below w.heap.size w w2)(k:zK [w.heap.size] w2 w'):ycw w s v w':=by
 refine⟨zY hb k hb.size (λ b hm=>by simp at hm;omega),?_⟩;refine⟨ay.1,?_⟩;rcases ay.2 with hn | ⟨g,cap,cur,rfl,gj,bS,rest⟩
 ·exact .inl hn
 ·refine .inr ⟨g,cap,cur,rfl,by omega,?_,rest⟩;rw[k.block g (Array.getElem?_eq_some_iff.1 bS).1 (by simp;omega)];exact bS
theorem yao (w:W8)(o:Nat)(rs:List RR)(ps:P9)(rv pv tv sv:Value)(h:znv w o rs ps rv pv tv sv)(s:B8)(bM:s.size<=maxLen):
  Calls Tryz.prog 130 #[.pointer (some ⟨o,0,none⟩),.string s] w (z6f w ps s):=by
 have QF:=h.lt;have F2:∀ {ix g cap:Nat},ix<ps.length->tv=.slice (some ⟨g,0,none⟩) ps.length cap->g<w.heap.size:=λ hi he=>by subst he;exact (h.ae.lt _ rfl).2
 have H:=zC h;clear h;go_enter Tryz.func130,Tryz.ntmps130;go_wp2_with fail;refine (zo8 s 0 (Nat.zero_le _) bM _).mono ?_;rintro e w1 ⟨rfl,aL⟩;obtain⟨r1,r2⟩:=zmc aL;have hz:w.heap.size<w1.heap.size:=by have:=aL.size;simp at this;omega
 have aP:=z08 aL;rw[show (w.alloc (Obj.cells #[.string { data:=#[] },.slice none 0 0,.bool false,.int .i64 0,.int .i64 0] 243)).heap.size=w.heap.size+1 by simp] at aP;have dB:=zC aP.1;have B5:=zC (((Below.refl w.heap.size w).alloc L9 _).trans (aP.2.mono (Nat.le_succ _)));have Fv:=zC aP.2;clear aP;go_wp2_with fail;clear r1 r2 aL;generalize hW:(((w1.setCell ⟨w.heap.size+1,1,none⟩ (.int .u8 (tok s 0).kind)).setCell ⟨w.heap.size+1,2,none⟩ (.string (tok s 0).text)).setCell ⟨w.heap.size+1,3,none⟩ (.int .i64 (tok s 0).at_)).setCell ⟨w.heap.size+1,4,none⟩ (.int .i64 (tok s 0).to)=W at *;clear hW;refine (Mn s 0 (-1) (w.heap.size+1) W (zA dB) (Nat.zero_le _) bM).mono ?_;rintro e w2 ⟨v,rfl,bn,eZ,lh,ep⟩;have xr:=(zA B5).size;have dK:Below w.heap.size w w2:=zY (zA B5) bn xr (λ b hm=>by simp at hm;omega);have ay:=zG ep xr;obtain⟨av,cv,rfl⟩:=zD ay;have dg:=(zA H).kept ((zK.refl [] _).ak dK) (by simp);obtain⟨KX,c0,c1,c2,c3,c4,c5,fz⟩:=eZ;have hA:∀ j,w2.cell? ⟨w.heap.size,j,none⟩=#[.string { data:=#[] },.slice none 0 0,.bool false,.int .i64 0,.int .i64 0][j]?:=λ j=>((bn.cell (p:=⟨w.heap.size,j,none⟩) (by show w.heap.size<_;have:=(zA dB).lt;omega) (by simp)).trans ((zA Fv).cell (p:=⟨w.heap.size,j,none⟩) (by simp))).trans (by rw[World.cell?_alloc_at _ _ _ _ rfl])
 have fA:∀ j,w2.frozen? ⟨w.heap.size,j,none⟩=false:=λ j=>((bn.frozen (p:=⟨w.heap.size,j,none⟩) (by show w.heap.size<_;have:=(zA dB).lt;omega) (by simp)).trans ((zA Fv).frozen (p:=⟨w.heap.size,j,none⟩) (by simp))).trans (by rw[World.frozen?_alloc_at _ _ _ _ rfl])
 have a0:=hA 0;have a1:=hA 1;have a2:=hA 2;have a3:=hA 3;have a4:=hA 4;have aE:=λ (w':W8) (k:zK [w.heap.size] w2 w')=>yap (s:=s) (show w.heap.size<W.heap.size by have:=(zA dB).lt;omega) ep dK k
 have Cw:=zC aE;have HP:=zC dg;have aH:w.heap.size<w2.heap.size:=by omega
 have ni:=zC (λ (nm:B8) (wr:W8) (hb:Below w2.heap.size w2 wr)=>zcd wr o rs ps _ _ _ _ nm (dg.kept ((zK.refl [] _).ak hb) (by simp)));clear hA ay ep dg dK bn Fv B5 dB c0 c2 c3 c4 fz xr aE H;simp only[List.getElem?_toArray,List.getElem?_cons_zero,List.getElem?_cons_succ] at a0 a1 a2 a3 a4
 by_cases hbad:0<=(zH s 0 (-1)).2.2
 ·have iN:=zC (show zcn ps s=false by unfold zcn zhw;simp;omega);go_wp2_with fail;obtain⟨q0,q1,q2,q3,q4⟩:=z8l a0 a1 a2 a3 a4 (.string (tok s 0).text) (.slice av (zH s 0 (-1)).fst.length cv) (.bool false) (.int .i64 (tok s 0).at_) (.int .i64 0);have k5:=zpi w2 w.heap.size (.string (tok s 0).text) (.slice av (zH s 0 (-1)).fst.length cv) (.bool false) (.int .i64 (tok s 0).at_) (.int .i64 0);have q0:=qY q0;have q1:=qY q1;have q2:=qY q2;have q3:=qY q3;have q4:=qY q4;refine bodyPost_ret (v:=.tuple #[(zN s).val (.slice av (zH s 0 (-1)).fst.length cv),.bool false]) (by simp[results,Tryz.results130,go_sem,zN,zL.val,q0,q1,q2,q3,q4]) rfl ⟨_,by rw[zA iN],zA Cw _ (k5.alloc _)⟩
 ·cases hk:(tok s (zH s 0 (-1)).2.1).kind==46 with
  | false=>
   have iN:=zC (show zcn ps s=false by unfold zcn zhw;simp[hk]);have bn:((tok s (zH s 0 (-1)).2.1).kind != 46)=true:=(by simp[bne,hk]);go_wp2_with fail;obtain⟨q0,q1,q2,q3,q4⟩:=z8l a0 a1 a2 a3 a4 (.string (tok s 0).text) (.slice av (zH s 0 (-1)).fst.length cv) (.bool false) (.int .i64 (tok s 0).at_) (.int .i64 0);have k5:=zpi w2 w.heap.size (.string (tok s 0).text) (.slice av (zH s 0 (-1)).fst.length cv) (.bool false) (.int .i64 (tok s 0).at_) (.int .i64 0);have q0:=qY q0;have q1:=qY q1;have q2:=qY q2;have q3:=qY q3;have q4:=qY q4;refine bodyPost_ret (v:=.tuple #[(zN s).val (.slice av (zH s 0 (-1)).fst.length cv),.bool false]) (by simp[results,Tryz.results130,go_sem,zN,zL.val,q0,q1,q2,q3,q4]) rfl ⟨_,by rw[zA iN],zA Cw _ (k5.alloc _)⟩
  | true=>
   have bn:((tok s (zH s 0 (-1)).2.1).kind != 46)=false:=(by simp[bne,hk]);have iN:=zC (show zcn ps s=iJ ps (tok s 0).text (zH s 0 (-1)).1.length by unfold zcn zhw;simp[hk];omega);go_wp2_with fail;refine (zA ni (tok s 0).text _ (B9.alloc L9 _)).mono ?_;rintro e w3 ⟨rfl,xo⟩;subst xo;have k3:=(zK.refl [] w2).alloc (.cells #[.string (tok s 0).text,.slice av (zH s 0 (-1)).fst.length cv,.bool false,.int .i64 (tok s 0).at_,.int .i64 0] 243);have sD:=zC ((zA HP).kept k3 (by simp));have DT:=zC (λ (w':W8) (k:zK [w.heap.size] (w2.alloc (.cells #[.string (tok s 0).text,.slice av (zH s 0 (-1)).fst.length cv,.bool false,.int .i64 (tok s 0).at_,.int .i64 0] 243)) w')=>zA Cw w' ((k3.mono (by simp)).trans k));have b0:=λ j=>vM w2 (.string (tok s 0).text) (.slice av (zH s 0 (-1)).fst.length cv) (.bool false) (.int .i64 (tok s 0).at_) (.int .i64 0) 243 j
   have a0:=(k3.cell (p:=⟨w.heap.size,0,none⟩) aH (by simp)).trans a0;have a1:=(k3.cell (p:=⟨w.heap.size,1,none⟩) aH (by simp)).trans a1;have a2:=(k3.cell (p:=⟨w.heap.size,2,none⟩) aH (by simp)).trans a2;have a3:=(k3.cell (p:=⟨w.heap.size,3,none⟩) aH (by simp)).trans a3;have a4:=(k3.cell (p:=⟨w.heap.size,4,none⟩) aH (by simp)).trans a4;have fA:=λ j=>(k3.frozen (p:=⟨w.heap.size,j,none⟩) aH (by simp)).trans (fA j)
   have bj:w2.heap.size<(w2.alloc (.cells #[.string (tok s 0).text,.slice av (zH s 0 (-1)).fst.length cv,.bool false,.int .i64 (tok s 0).at_,.int .i64 0] 243)).heap.size:=(by simp);generalize w2.alloc (.cells #[.string (tok s 0).text,.slice av (zH s 0 (-1)).fst.length cv,.bool false,.int .i64 (tok s 0).at_,.int .i64 0] 243)=wr at *;have b00:wr.cell? ⟨w2.heap.size,0,none⟩=some (.string (tok s 0).text):=b0 0;have b01:wr.cell? ⟨w2.heap.size,1,none⟩=some (.slice av (zH s 0 (-1)).fst.length cv):=b0 1;have b02:wr.cell? ⟨w2.heap.size,2,none⟩=some (.bool false):=b0 2;have JL:wr.cell? ⟨w2.heap.size,3,none⟩=some (.int .i64 (tok s 0).at_):=b0 3;have b04:wr.cell? ⟨w2.heap.size,4,none⟩=some (.int .i64 0):=b0 4;have hoW:o<w.heap.size:=QF;clear b0 k3 HP Cw c1 c5
   by_cases np:zM ps (tok s 0).text<0
   ·have HM:=zC (show iJ ps (tok s 0).text (zH s 0 (-1)).1.length=true by simp[iJ,np]);clear ni sD F2;go_wp2_with fail
    go_region
    go_wp2_with fail;obtain⟨q0,q1,q2,q3,q4⟩:=z8l a0 a1 a2 a3 a4 (.string (tok s 0).text) (.slice av (zH s 0 (-1)).fst.length cv) (.bool false) (.int .i64 (tok s 0).at_) (.int .i64 0);have k5:=zpi wr w.heap.size (.string (tok s 0).text) (.slice av (zH s 0 (-1)).fst.length cv) (.bool false) (.int .i64 (tok s 0).at_) (.int .i64 0);refine bodyPost_ret (v:=.tuple #[(zN s).val (.slice av (zH s 0 (-1)).fst.length cv),.bool true]) (by simp[results,Tryz.results130,go_sem,zN,zL.val,q0,q1,q2,q3,q4]) rfl ⟨_,by rw[zA iN,zA HM],zA DT _ k5.drew⟩
   ·obtain⟨ix,F8⟩:∃ ix:Nat,zM ps (tok s 0).text=(ix:Int):=⟨_,(Int.toNat_of_nonneg (by omega)).symm⟩;have vf:ix<ps.length:=(by have:=vP (show 0<=zM ps (tok s 0).text by omega);rw[F8] at this;simpa using this);have HM:=zC (show iJ ps (tok s 0).text (zH s 0 (-1)).1.length=((ps[ix].2:Int)==(zH s 0 (-1)).1.length) by unfold iJ;rw[if_neg np,F8];simp[List.getD_eq_getElem?_getD,vf]);rw[F8];have nS:=(zA sD).c2;obtain⟨g,cap,hv,XR,bO,bQ,hc⟩:=zce (zA sD).ae (by omega);have Ca:=hc ix vf;rw[List.getElem?_map,List.getElem?_eq_getElem vf] at Ca;simp only[Option.map_some] at Ca;have aZ:=World.block_lt_of_cell? wr _ Ca;simp only at aZ;have C8:g<w.heap.size:=F2 vf hv;clear F2;subst hv;have Yg:(ix:Int)<ps.length:=(by omega);unfold maxLen at bQ;clear ni sD hc;go_wp2_with fail;have n1:w.heap.size≠o:=(by omega);have n2:w.heap.size≠g:=(by omega);have n3:w.heap.size≠w2.heap.size:=by omega
    go_region_held3 (λ w'=>w'.cell? ⟨o,2,none⟩=some (.slice (some ⟨g,0,none⟩) ps.length cap)/\w'.cell? ⟨g,ix,none⟩=some (.int .i64 (ps[ix].2:Nat))/\w'.cell? ⟨w2.heap.size,0,none⟩=some (.string (tok s 0).text)/\w'.cell? ⟨w2.heap.size,1,none⟩=some (.slice av (zH s 0 (-1)).fst.length cv)/\w'.cell? ⟨w2.heap.size,2,none⟩=some (.bool false)/\w'.cell? ⟨w2.heap.size,3,none⟩=some (.int .i64 (tok s 0).at_)/\w'.cell? ⟨w2.heap.size,4,none⟩=some (.int .i64 0)) (go_keep) (fail)
    go_wp2_with fail;obtain⟨q0,q1,q2,q3,q4⟩:=z8l a0 a1 a2 a3 a4 (.string (tok s 0).text) (.slice av (zH s 0 (-1)).fst.length cv) (.bool false) (.int .i64 (tok s 0).at_) (.int .i64 0);have k5:=zpi wr w.heap.size (.string (tok s 0).text) (.slice av (zH s 0 (-1)).fst.length cv) (.bool false) (.int .i64 (tok s 0).at_) (.int .i64 0);refine bodyPost_ret (v:=.tuple #[(zN s).val (.slice av (zH s 0 (-1)).fst.length cv),.bool ((ps[ix].2:Int)==(zH s 0 (-1)).1.length)]) (by simp[results,Tryz.results130,go_sem,zN,zL.val,q0,q1,q2,q3,q4];intro h;omega) rfl ⟨_,by rw[zA iN,zA HM],zA DT _ k5.drew⟩
end
end Go.Proofs.YtldkpahaocjdpaaGreat
