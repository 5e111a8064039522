/-
  Plain: height by height, stratum by stratum: the reference and the program come to the same.
-/
import Derived.Test.YtldkpahaocjdpaaGreatE36
set_option maxHeartbeats 16000000
set_option maxRecDepth 1000000
namespace Go.Proofs.YtldkpahaocjdpaaGreat
section
structure za0 (ps:P9)(rs:List zS)(rp:List PR):Prop where
 fwd:∀ R∈rs,∃ r∈rp,sW R r
 bwd:∀ r∈rp,∃ R∈rs,sW R r
 dQ:∀ r∈rp,nL ps r
theorem zf9 {ps:P9}{S:Nat->Nat}{l:List zP}{s n:Nat}{f:zP}:∀ (rs:List zS) (i:Nat),f∈j1 ps S l s n rs i->f.h=n/\f.text=xF (bM f.aj)/\∃ R∈rs,S (zM ps R.head.pred).toNat=s/\∃ y∈ze3 R l,bM f.aj=xV y.1 (pa R.head)
 | [],_,h=>by simp[j1] at h
 | R::r,i,h=>by
  rw[j1] at h;rcases List.mem_append.1 h with h | h
  ·split at h
   ·rename_i hs;obtain⟨y,hy,rfl⟩:=List.mem_map.1 h;exact⟨rfl,DQ _,R,List.mem_cons_self,hs,y,hy,Ho _ _⟩
   ·simp at h
  ·obtain⟨h1,h2,Q,hQ,h3⟩:=zf9 r (i+1) h;exact⟨h1,h2,Q,List.mem_cons_of_mem _ hQ,h3⟩
theorem z06 {ps:P9}{S:Nat->Nat}{l:List zP}{s n:Nat}{R:zS}{y:Way}:∀ (rs:List zS) (i:Nat),R∈rs->S (zM ps R.head.pred).toNat=s->y∈ze3 R l->∃ f∈j1 ps S l s n rs i,bM f.aj=xV y.1 (pa R.head)
 | [],_,h,_,_=>by cases h
 | Q::r,i,h,hs,hy=>by
  rw[j1];rcases List.mem_cons.1 h with rfl | h
  ·refine⟨zcs R s n i y,List.mem_append.2 (.inl ?_),Ho _ _⟩;rw[if_pos hs];exact List.mem_map.2 ⟨y,hy,rfl⟩
  ·obtain⟨f,hf,e⟩:=z06 (n:=n) r (i+1) h hs hy;exact⟨f,List.mem_append.2 (.inr hf),e⟩
variable {S:Nat->Nat} {Sp:B8->Nat} {rp:List PR} {rs:List zS} {l:List zP} {K:List (Th × Nat)} {ps:P9}
theorem z07 (hS:gp ps K l)(hR:za0 ps rs rp)(hs:∀ R∈rs,Sp R.head.pred=S (zM ps R.head.pred).toNat)(s n:Nat)(t:Th):zu3 (rp.filter (zc3 Sp s)) K t↔yS K t=none/\∃ f∈j1 ps S l s n rs 0,bM f.aj=t:=by
 unfold zu3;refine and_congr_right λ _=>⟨?_,?_⟩
 ·rintro⟨r,hr,e,he,rfl⟩;obtain⟨hr,hi⟩:=List.mem_filter.1 hr;obtain⟨R,vd,hrel⟩:=hR.bwd r hr;obtain⟨y,hy,rfl⟩:=(zfl hS hrel (hR.dQ r hr) e).2 he;unfold zc3 at hi;have wD:S (zM ps R.head.pred).toNat=s:=by
   rw[<-hs R vd];rw[hrel.eq] at hi;simpa[yN] using hi
  obtain⟨f,hf,e⟩:=z06 (n:=n) rs 0 vd wD hy;exact⟨f,hf,by rw[e,hrel.hd]⟩
 ·rintro⟨f,hf,rfl⟩;obtain⟨_,_,R,vd,hi,y,hy,e⟩:=zf9 rs 0 hf;obtain⟨r,hr,hrel⟩:=hR.fwd R vd;refine⟨r,List.mem_filter.2 ⟨hr,?_⟩,y.1,(zfl hS hrel (hR.dQ r hr) y.1).1 ⟨y,hy,rfl⟩,by rw[e,hrel.hd]⟩;unfold zc3;rw[hrel.eq]
  show (Sp R.head.pred==s)=true
  rw[hs R vd,hi];simp
variable {f:zP} {s n:Nat}
theorem ztb (hS:gp ps K l)(hR:za0 ps rs rp)(hf:f∈j1 ps S l s n rs 0):iC ps (bM f.aj):=by
 obtain⟨_,_,R,vd,_,y,hy,e⟩:=zf9 rs 0 hf;obtain⟨r,hr,hrel⟩:=hR.fwd R vd;have he:=(zfl hS hrel (hR.dQ r hr) y.1).1 ⟨y,hy,rfl⟩;rw[e,<-hrel.hd];exact ((hR.dQ r hr).Gr hS.ti (List.mem_filter.1 he).1).hd
structure zqy (l C out:List zP):Prop where
 nd:(out.map (·.text)).Nodup
 mem:∀ f∈out,f∈C/\jE l f.text<0
variable {out:List zP}
theorem yb4 {C:List zP}(h:zqy l C out)(hf:f∈C):zqy l C (zue l out f):=by
 unfold zue
 split
 ·rename_i c;refine⟨?_,λ g hg=>?_⟩
  ·rw[List.map_append,List.nodup_append];refine⟨h.nd,by simp,λ a ha b hb e=>?_⟩;obtain⟨g,hg,rfl⟩:=List.mem_map.1 ha;rw[List.map_cons,List.map_nil,List.mem_singleton] at hb;exact (zll out f.text).1 c.2 g hg (by rw[e,hb])
  ·rcases List.mem_append.1 hg with hg | hg
   ·exact h.mem g hg
   ·rw[List.mem_singleton.1 hg];exact⟨hf,c.1⟩
 ·exact h
theorem zwa {l C:List zP}:∀ (cs out:List zP),(∀ f∈cs,f∈C)->zqy l C out->zqy l C (vB l cs out).1
 | [],_,_,h=>h
 | f::r,out,hc,h=>by
  rw[vB]
  split
  ·exact h
  ·exact zwa r _ (λ g hg=>hc g (List.mem_cons_of_mem _ hg)) (yb4 h (hc f List.mem_cons_self))
theorem PO {l:List zP}:∀ (cs out:List zP),(vB l cs out).2=true->50<l.length+(vB l cs out).1.length
 | [],_,h=>by cases h
 | f::r,out,h=>by
  rw[vB] at h ⊢
  split at h
  ·rename_i c;rw[if_pos c];exact c
  ·rename_i c;rw[if_neg c];exact PO r _ h
theorem zqt {g:zP}(h:g∈out):g∈zue l out f:=by
 unfold zue
 split
 ·exact List.mem_append.2 (.inl h)
 ·exact h
theorem SU {l:List zP}{g:zP}:∀ (cs out:List zP),g∈out->g∈(vB l cs out).1
 | [],_,h=>h
 | f::r,out,h=>by
  rw[vB]
  split
  ·exact h
  ·exact SU r _ (zqt h)
theorem zwx (h:jE l f.text<0):∃ g∈zue l out f,g.text=f.text:=by
 unfold zue
 split
 ·exact⟨f,List.mem_append.2 (.inr (List.mem_singleton.2 rfl)),rfl⟩
 ·rename_i c;have:¬ jE out f.text<0:=λ h2=>c ⟨h,h2⟩
  rw[zll] at this;simpa using this
theorem zsw {l:List zP}:∀ (cs out:List zP),(vB l cs out).2=false->∀ f∈cs,jE l f.text<0->∃ g∈(vB l cs out).1,g.text=f.text
 | [],_,_,f,hf,_=>by cases hf
 | x::r,out,h,f,hf,hn=>by
  rw[vB] at h ⊢
  split at h
  ·cases h
  ·rename_i c;rw[if_neg c];rcases List.mem_cons.1 hf with rfl | hf
   ·obtain⟨g,hg,e⟩:=zwx (out:=out) hn;exact⟨g,SU r _ hg,e⟩
   ·exact zsw r _ h f hf hn
structure ycm (ps:P9)(S:Nat->Nat)(rs:List zS)(l:List zP)(s n:Nat)(out:List zP):Prop where
 tk:zqy l (j1 ps S l s n rs 0) out
 all:l.length+out.length<=50->∀ f∈j1 ps S l s n rs 0,jE l f.text<0->∃ g∈out,g.text=f.text
theorem zv5 (h:zy ps S rs l s n out):ycm ps S rs l s n out:=by
 have ax:=zwa (l:=l) (C:=j1 ps S l s n rs 0) (j1 ps S l s n rs 0) [] (λ _ h=>h) ⟨by simp,by simp⟩;rcases h with⟨h1,rfl⟩ | ⟨h1,_,hp⟩
 ·exact⟨ax,λ h2=>by have:=PO _ _ h1;omega⟩
 ·refine⟨⟨(hp.map _).nodup_iff.2 ax.nd,λ f hf=>ax.mem f (hp.mem_iff.1 hf)⟩,λ _ f hf hn=>?_⟩;obtain⟨g,hg,e⟩:=zsw _ _ h1 f hf hn;exact⟨g,hp.mem_iff.2 hg,e⟩
structure z2b (ps:P9)(rp:List PR)(K:List (Th × Nat))(l:List zP)(n:Nat)(out:List zP):Prop where
 nd:(out.map λ f=>bM f.aj).Nodup
 new:∀ f∈out,zu3 rp K (bM f.aj)
 h:∀ f∈out,f.h=n
 dQ:∀ f∈out,iC ps (bM f.aj)
 text:∀ f∈out,f.text=xF (bM f.aj)
 all:l.length+out.length<=50->∀ t,zu3 rp K t->∃ f∈out,bM f.aj=t
theorem zp8 (hS:gp ps K l)(hR:za0 ps rs rp)(hs:∀ R∈rs,Sp R.head.pred=S (zM ps R.head.pred).toNat)(h:zy ps S rs l s n out):z2b ps (rp.filter (zc3 Sp s)) K l n out:=by
 have hr:=zv5 h;have hg:∀ f∈out,iC ps (bM f.aj):=λ f hf=>ztb hS hR (hr.tk.mem f hf).1
 have ht:∀ f∈out,f.text=xF (bM f.aj):=λ f hf=>(zf9 rs 0 (hr.tk.mem f hf).1).2.1
 have nU:∀ t:Th,iC ps t->(jE l (xF t)<0↔yS K t=none):=λ t h=>by
  rw[hS.find h]
  cases yS K t <;> simp
 refine⟨?_,λ f hf=>?_,λ f hf=>(zf9 rs 0 (hr.tk.mem f hf).1).1,hg,ht,λ hb t hn=>?_⟩
 ·have h1:=hr.tk.nd;have e:out.map (·.text)=(out.map λ f=>bM f.aj).map xF:=by
   rw[List.map_map];exact List.map_congr_left λ f hf=>ht f hf
  rw[e] at h1;unfold List.Nodup at h1 ⊢;rw[List.pairwise_map] at h1;exact h1.imp λ h2 e=>h2 (by rw[e])
 ·rw[z07 hS hR hs s n];refine⟨?_,f,(hr.tk.mem f hf).1,rfl⟩;have:=(hr.tk.mem f hf).2;rw[ht f hf,nU _ (hg f hf)] at this;exact this
 ·rw[z07 hS hR hs s n] at hn;obtain⟨h1,f,hf,rfl⟩:=hn;have RM:=ztb hS hR hf;have Sx:=(zf9 rs 0 hf).2.1;obtain⟨g,iS,e⟩:=hr.all hb f hf (by rw[Sx,nU _ RM];exact h1);refine⟨g,iS,zd6 (hg g iS).w RM.w ?_⟩;rw[<-ht g iS,e,Sx]
theorem gp.more {L:List (Th × Nat)}(hS:gp ps K l)(hr:z2b ps rp K l n out)(hb:l.length+out.length<=50)(mS:(L.map (·.1)).Nodup)(hh:∀ p∈L,p.2=n)(Ff:∀ t,(∃ m,(t,m)∈L)↔zu3 rp K t):gp ps (K++L) (l++out):=by
 refine⟨λ t m=>?_,?_,?_,λ f hf=>?_,λ f hf=>?_⟩
 ·rw[List.mem_append,hS.mem t m]
  constructor
  ·rintro (⟨f,hf,h⟩ | h)
   ·exact⟨f,List.mem_append.2 (.inl hf),h⟩
   ·obtain⟨f,hf,e⟩:=hr.all hb t ((Ff t).1 ⟨m,h⟩);exact⟨f,List.mem_append.2 (.inr hf),e,by rw[hr.h f hf];exact (hh _ h).symm⟩
  ·rintro⟨f,hf,e,hm⟩;rcases List.mem_append.1 hf with hf | hf
   ·exact .inl ⟨f,hf,e,hm⟩
   ·obtain⟨k,hk⟩:=(Ff t).2 (by rw[<-e];exact hr.new f hf);refine .inr ?_;have h1:=hh _ hk;simp only at h1;rw[<-hm,hr.h f hf,<-h1];exact hk
 ·rw[List.map_append,List.nodup_append];refine⟨hS.Nw,mS,λ a ha b hb e=>?_⟩;obtain⟨p,hp,rfl⟩:=List.mem_map.1 hb;obtain⟨q,hq,rfl⟩:=List.mem_map.1 ha;have:=((Ff p.1).1 ⟨p.2,hp⟩).1;rw[<-e] at this;exact qS this q.2 hq
 ·rw[List.map_append,List.nodup_append];refine⟨hS.DU,hr.nd,λ a ha b hb e=>?_⟩;obtain⟨f,hf,rfl⟩:=List.mem_map.1 hb;obtain⟨g,hg,rfl⟩:=List.mem_map.1 ha;have h1:=(hr.new f hf).1;have h2:=(hS.look (bM f.aj)).2 ⟨g,hg,e⟩;rw[h1] at h2
  cases h2
 ·rcases List.mem_append.1 hf with hf | hf
  ·exact hS.dQ f hf
  ·exact hr.dQ f hf
 ·rcases List.mem_append.1 hf with hf | hf
  ·exact hS.text f hf
  ·exact hr.text f hf
def zt5 (ps:P9)(limit:Nat)(r:Option (List zP))(r':Option (List (Th × Nat))):Prop:=(r=none/\r'=none)\/∃ l' K',r=some l'/\r'=some K'/\gp ps K' l'/\l'.length<=limit
variable {r:Option (List zP)} {limit:Nat}
theorem zpz (hR:za0 ps rs rp)(hs:∀ R∈rs,Sp R.head.pred=S (zM ps R.head.pred).toNat)(hl:limit<=50)(h:zbx ps S rs limit s n l r):∀ (K:List (Th × Nat)) (r':Option (List (Th × Nat))),gp ps K l->l.length<=limit->zgw (rp.filter (zc3 Sp s)) limit n K r'->zt5 ps limit r r':=by
 induction h with
 | @fF n l out hr hb=>
  intro K r' hS gY hp;have hq:=zp8 hS hR hs hr;have bF:out≠[]:=λ e=>by rw[e] at hb;simp at hb;omega
  obtain⟨f,hf⟩:=List.exists_mem_of_ne_nil _ bF
  cases hp with
  | fF L _ _ _=>exact .inl ⟨rfl,rfl⟩
  | done hn=>exact absurd (hq.new f hf) (hn _)
  | @more _ _ L _ h1 h2 h3 h4 h5 h6=>
   exfalso
   have:=zh7 (out.map λ f=>bM f.aj) (L.map (·.1)) hq.nd (λ t ht=>by
    obtain⟨g,hg,rfl⟩:=List.mem_map.1 ht;obtain⟨m,hm⟩:=(h4 _).2 (hq.new g hg)
    exact List.mem_map.2 ⟨_,hm,rfl⟩)
   have hlen:=hS.len;simp only[List.length_map] at this;omega
 | @done n l hr hb=>
  intro K r' hS gY hp;have hq:=zp8 hS hR hs hr;have aW:∀ t,¬ zu3 (rp.filter (zc3 Sp s)) K t:=λ t ht=>by
   obtain⟨f,hf,_⟩:=hq.all (by simp;omega) t ht
   cases hf
  cases hp with
  | fF L h1 h2 h3=>
   exfalso
   cases L with
   | nil=>have:=hS.len;simp at h3;omega
   | cons t q=>exact aW t (h2 t List.mem_cons_self)
  | done hn=>exact .inr ⟨l,K,rfl,rfl,hS,gY⟩
  | @more _ _ L _ h1 h2 h3 h4 h5 h6=>
   exfalso
   obtain⟨p,hp⟩:=List.exists_mem_of_ne_nil _ h1;exact aW p.1 ((h4 p.1).1 ⟨p.2,hp⟩)
 | @more n l out r hr bF hb om ih=>
  intro K r' hS gY hp;have hq:=zp8 hS hR hs hr;have Q7:l.length+out.length<=50:=by omega
  obtain⟨f,hf⟩:=List.exists_mem_of_ne_nil _ bF;have hlen:=hS.len
  cases hp with
  | fF L h1 h2 h3=>
   exfalso
   have:=zh7 L (out.map λ f=>bM f.aj) h1 (λ t ht=>by
    obtain⟨g,hg,e⟩:=hq.all Q7 t (h2 t ht)
    exact List.mem_map.2 ⟨g,hg,e⟩)
   simp only[List.length_map] at this;omega
  | done hn=>exact absurd (hq.new f hf) (hn _)
  | @more _ _ L _ h1 h2 h3 h4 h5 h6=>
   exact ih (K++L) r' (hS.more hq Q7 h2 h3 h4) (by rw[List.length_append];exact hb) h6
theorem yc5 (hR:za0 ps rs rp)(hs:∀ R∈rs,Sp R.head.pred=S (zM ps R.head.pred).toNat){dh:Nat}(hl:limit<=50)(h:zkk ps S rs limit dh s l r):∀ (K:List (Th × Nat)) (r':Option (List (Th × Nat))),gp ps K l->l.length<=limit->zd9 rp Sp limit (dh+1) s K r'->zt5 ps limit r r':=by
 induction h with
 | @ends s l h1=>
  intro K r' hS gY hp
  cases hp with
  | ends _=>exact .inr ⟨l,K,rfl,rfl,hS,gY⟩
  | ia h2 _=>omega
  | next h2 _ _=>omega
 | @ia s l h1 hc=>
  intro K r' hS gY hp
  cases hp with
  | ends h2=>omega
  | ia _ gX=>exact .inl ⟨rfl,rfl⟩
  | next _ gX _=>
   rcases zpz hR hs hl hc K _ hS gY gX with⟨_,e⟩ | ⟨_,_,e,_⟩ <;> cases e
 | @next s l l' r h1 hc _ ih=>
  intro K r' hS gY hp
  cases hp with
  | ends h2=>omega
  | ia _ gX=>
   rcases zpz hR hs hl hc K _ hS gY gX with⟨e,_⟩ | ⟨_,_,_,e,_⟩ <;> cases e
  | next _ gX hn=>
   rcases zpz hR hs hl hc K _ hS gY gX with⟨e,_⟩ | ⟨l1,K1,e1,e2,LV,sg⟩
   ·cases e
   ·obtain rfl:=Option.some.inj e1;obtain rfl:=Option.some.inj e2;exact ih _ r' LV sg hn
end
section
open Go.RowKit
def zN (s:B8):zL:=⟨(tok s 0).text,(zH s 0 (-1)).1,false,(tok s 0).at_,0⟩
def zic (s:B8):Bool:=decide ((zH s 0 (-1)).2.2<0)&&(tok s (zH s 0 (-1)).2.1).kind==46
def zcr (ps:P9)(s:B8):Bool:=zic s&&iD ps (tok s 0).text (zH s 0 (-1)).1.length
structure ycx (w:W8)(s:B8)(v:Value)(w':W8):Prop where
 below:Below w.heap.size w w'
 row:w'.ownsRow w.heap.size 317 3 v (zN s).ae.length (cellsOf (zN s).ae)
def z6w (w:W8)(ps:P9)(s:B8)(e:Ending)(w':W8):Prop:=
 ∃ v,e=.returned (.tuple #[(zN s).val v,.bool (zcr ps s)])/\ycx w s v w'
variable {w:W8} {s:B8}
theorem z3p {w1:W8}(aL:Below (w.alloc (Obj.cells #[.string s,.int .u8 0,.string { data:=#[] },.int .i64 0,.int .i64 0,.int .i64 (-1)] 235)).heap.size (w.alloc (Obj.cells #[.string s,.int .u8 0,.string { data:=#[] },.int .i64 0,.int .i64 0,.int .i64 (-1)] 235)) w1):
  dR ((((w1.setCell ⟨w.heap.size,1,none⟩ (.int .u8 (tok s 0).kind)).setCell ⟨w.heap.size,2,none⟩ (.string (tok s 0).text)).setCell ⟨w.heap.size,3,none⟩ (.int .i64 (tok s 0).at_)).setCell ⟨w.heap.size,4,none⟩ (.int .i64 (tok s 0).to)) w.heap.size s 0 (-1)/\Below w.heap.size w ((((w1.setCell ⟨w.heap.size,1,none⟩ (.int .u8 (tok s 0).kind)).setCell ⟨w.heap.size,2,none⟩ (.string (tok s 0).text)).setCell ⟨w.heap.size,3,none⟩ (.int .i64 (tok s 0).at_)).setCell ⟨w.heap.size,4,none⟩ (.int .i64 (tok s 0).to)):=by
 have hz:=aL.size;simp at hz;have x:∀ j,w1.cell? ⟨w.heap.size,j,none⟩=#[.string s,.int .u8 0,.string { data:=#[] },.int .i64 0,.int .i64 0,.int .i64 (-1)][j]?:=λ j=>(aL.cell (p:=⟨w.heap.size,j,none⟩) (by simp)).trans (by rw[World.cell?_alloc_at _ _ _ _ rfl])
 have xf:∀ j,w1.frozen? ⟨w.heap.size,j,none⟩=false:=λ j=>(aL.frozen (p:=⟨w.heap.size,j,none⟩) (by simp)).trans (by rw[World.frozen?_alloc_at _ _ _ _ rfl])
 have x0:w1.cell? ⟨w.heap.size,0,none⟩=some (.string s):=x 0;have x1:w1.cell? ⟨w.heap.size,1,none⟩=some (.int .u8 0):=x 1;have x2:w1.cell? ⟨w.heap.size,2,none⟩=some (.string { data:=#[] }):=x 2;have x3:w1.cell? ⟨w.heap.size,3,none⟩=some (.int .i64 0):=x 3;have x4:w1.cell? ⟨w.heap.size,4,none⟩=some (.int .i64 0):=x 4;have x5:w1.cell? ⟨w.heap.size,5,none⟩=some (.int .i64 (-1)):=x 5;clear x;have kk:=zmn w1 w.heap.size (.int .u8 (tok s 0).kind) (.string (tok s 0).text) (.int .i64 (tok s 0).at_) (.int .i64 (tok s 0).to);have my:Below w.heap.size w w1:=(B9.alloc L9 _).trans (aL.mono (by simp));refine⟨?_,zY my kk my.size (λ b hm=>by simp at hm;omega)⟩;refine⟨by simp;omega,?_,?_,?_,?_,?_,?_,?_⟩
 all_goals go_simp
theorem ybq {w2 w':W8}{v:Value}{n:Nat}(hn:w.heap.size<n)(ay:w2.ownsRow n 317 3 v (zN s).ae.length (cellsOf (zN s).ae))(hb:Below w.heap.size w w2)(k:zK [w.heap.size] w2 w'):ycx w s v w':=by
 refine⟨zY hb k hb.size (λ b hm=>by simp at hm;omega),?_⟩;refine⟨ay.1,?_⟩;rcases ay.2 with hn | ⟨g,cap,cur,rfl,fW,bS,rest⟩
 ·exact .inl hn
 ·refine .inr ⟨g,cap,cur,rfl,by omega,?_,rest⟩;rw[k.block g (Array.getElem?_eq_some_iff.1 bS).1 (by simp;omega)];exact bS
theorem ybp (w:W8)(o:Nat)(rs:List RR)(ps:P9)(rv pv tv sv:Value)(h:zok w o rs ps rv pv tv sv)(s:B8)(bN:s.size<=maxLen):
  Calls Tryz.prog 130 #[.pointer (some ⟨o,0,none⟩),.string s] w (z6w w ps s):=by
 have RK:=h.lt;have Fz:∀ {ix g cap:Nat},ix<ps.length->tv=.slice (some ⟨g,0,none⟩) ps.length cap->g<w.heap.size:=λ hi he=>by subst he;exact (h.ae.lt _ rfl).2
 have H:=zC h;clear h;go_enter Tryz.func130,Tryz.ntmps130;go_wp2_with fail;refine (zpt s 0 (Nat.zero_le _) bN _).mono ?_;rintro e w1 ⟨rfl,aL⟩;obtain⟨r1,r2⟩:=zmi aL;have hz:w.heap.size<w1.heap.size:=by have:=aL.size;simp at this;omega
 have aO:=z3p aL;rw[show (w.alloc (Obj.cells #[.string { data:=#[] },.slice none 0 0,.bool false,.int .i64 0,.int .i64 0] 243)).heap.size=w.heap.size+1 by simp] at aO;have dD:=zC aO.1;have BW:=zC (((Below.refl w.heap.size w).alloc L9 _).trans (aO.2.mono (Nat.le_succ _)));have FQ:=zC aO.2;clear aO;go_wp2_with fail;clear r1 r2 aL;generalize hW:(((w1.setCell ⟨w.heap.size+1,1,none⟩ (.int .u8 (tok s 0).kind)).setCell ⟨w.heap.size+1,2,none⟩ (.string (tok s 0).text)).setCell ⟨w.heap.size+1,3,none⟩ (.int .i64 (tok s 0).at_)).setCell ⟨w.heap.size+1,4,none⟩ (.int .i64 (tok s 0).to)=W at *;clear hW;refine (I6 s 0 (-1) (w.heap.size+1) W (zA dD) (Nat.zero_le _) bN).mono ?_;rintro e w2 ⟨v,rfl,bn,eM,lg,ei⟩;have xz:=(zA BW).size;have dK:Below w.heap.size w w2:=zY (zA BW) bn xz (λ b hm=>by simp at hm;omega);have ay:=zG ei xz;obtain⟨av,cv,rfl⟩:=zD ay;have cY:=(zA H).kept ((zK.refl [] _).ak dK) (by simp);obtain⟨La,c0,c1,c2,c3,c4,c5,fz⟩:=eM;have hA:∀ j,w2.cell? ⟨w.heap.size,j,none⟩=#[.string { data:=#[] },.slice none 0 0,.bool false,.int .i64 0,.int .i64 0][j]?:=λ j=>((bn.cell (p:=⟨w.heap.size,j,none⟩) (by show w.heap.size<_;have:=(zA dD).lt;omega) (by simp)).trans ((zA FQ).cell (p:=⟨w.heap.size,j,none⟩) (by simp))).trans (by rw[World.cell?_alloc_at _ _ _ _ rfl])
 have fA:∀ j,w2.frozen? ⟨w.heap.size,j,none⟩=false:=λ j=>((bn.frozen (p:=⟨w.heap.size,j,none⟩) (by show w.heap.size<_;have:=(zA dD).lt;omega) (by simp)).trans ((zA FQ).frozen (p:=⟨w.heap.size,j,none⟩) (by simp))).trans (by rw[World.frozen?_alloc_at _ _ _ _ rfl])
 have a0:=hA 0;have a1:=hA 1;have a2:=hA 2;have a3:=hA 3;have a4:=hA 4;have aE:=λ (w':W8) (k:zK [w.heap.size] w2 w')=>ybq (s:=s) (show w.heap.size<W.heap.size by have:=(zA dD).lt;omega) ei dK k
 have Dj:=zC aE;have HP:=zC cY;have aH:w.heap.size<w2.heap.size:=by omega
 have nx:=zC (λ (nm:B8) (wr:W8) (hb:Below w2.heap.size w2 wr)=>zcc wr o rs ps _ _ _ _ nm (cY.kept ((zK.refl [] _).ak hb) (by simp)));clear hA ay ei cY dK bn FQ BW dD c0 c2 c3 c4 fz xz aE H;simp only[List.getElem?_toArray,List.getElem?_cons_zero,List.getElem?_cons_succ] at a0 a1 a2 a3 a4
 by_cases hbad:0<=(zH s 0 (-1)).2.2
 ·have iX:=zC (show zcr ps s=false by unfold zcr zic;simp;omega);go_wp2_with fail;obtain⟨q0,q1,q2,q3,q4⟩:=z8p a0 a1 a2 a3 a4 (.string (tok s 0).text) (.slice av (zH s 0 (-1)).fst.length cv) (.bool false) (.int .i64 (tok s 0).at_) (.int .i64 0);have k5:=zpc w2 w.heap.size (.string (tok s 0).text) (.slice av (zH s 0 (-1)).fst.length cv) (.bool false) (.int .i64 (tok s 0).at_) (.int .i64 0);have q0:=qX q0;have q1:=qX q1;have q2:=qX q2;have q3:=qX q3;have q4:=qX q4;refine bodyPost_ret (v:=.tuple #[(zN s).val (.slice av (zH s 0 (-1)).fst.length cv),.bool false]) (by simp[results,Tryz.results130,go_sem,zN,zL.val,q0,q1,q2,q3,q4]) rfl ⟨_,by rw[zA iX],zA Dj _ (k5.alloc _)⟩
 ·cases hk:(tok s (zH s 0 (-1)).2.1).kind==46 with
  | false=>
   have iX:=zC (show zcr ps s=false by unfold zcr zic;simp[hk]);have bn:((tok s (zH s 0 (-1)).2.1).kind != 46)=true:=(by simp[bne,hk]);go_wp2_with fail;obtain⟨q0,q1,q2,q3,q4⟩:=z8p a0 a1 a2 a3 a4 (.string (tok s 0).text) (.slice av (zH s 0 (-1)).fst.length cv) (.bool false) (.int .i64 (tok s 0).at_) (.int .i64 0);have k5:=zpc w2 w.heap.size (.string (tok s 0).text) (.slice av (zH s 0 (-1)).fst.length cv) (.bool false) (.int .i64 (tok s 0).at_) (.int .i64 0);have q0:=qX q0;have q1:=qX q1;have q2:=qX q2;have q3:=qX q3;have q4:=qX q4;refine bodyPost_ret (v:=.tuple #[(zN s).val (.slice av (zH s 0 (-1)).fst.length cv),.bool false]) (by simp[results,Tryz.results130,go_sem,zN,zL.val,q0,q1,q2,q3,q4]) rfl ⟨_,by rw[zA iX],zA Dj _ (k5.alloc _)⟩
  | true=>
   have bn:((tok s (zH s 0 (-1)).2.1).kind != 46)=false:=(by simp[bne,hk]);have iX:=zC (show zcr ps s=iD ps (tok s 0).text (zH s 0 (-1)).1.length by unfold zcr zic;simp[hk];omega);go_wp2_with fail;refine (zA nx (tok s 0).text _ (B9.alloc L9 _)).mono ?_;rintro e w3 ⟨rfl,xq⟩;subst xq;have k3:=(zK.refl [] w2).alloc (.cells #[.string (tok s 0).text,.slice av (zH s 0 (-1)).fst.length cv,.bool false,.int .i64 (tok s 0).at_,.int .i64 0] 243);have tH:=zC ((zA HP).kept k3 (by simp));have Ef:=zC (λ (w':W8) (k:zK [w.heap.size] (w2.alloc (.cells #[.string (tok s 0).text,.slice av (zH s 0 (-1)).fst.length cv,.bool false,.int .i64 (tok s 0).at_,.int .i64 0] 243)) w')=>zA Dj w' ((k3.mono (by simp)).trans k));have b0:=λ j=>vN w2 (.string (tok s 0).text) (.slice av (zH s 0 (-1)).fst.length cv) (.bool false) (.int .i64 (tok s 0).at_) (.int .i64 0) 243 j
   have a0:=(k3.cell (p:=⟨w.heap.size,0,none⟩) aH (by simp)).trans a0;have a1:=(k3.cell (p:=⟨w.heap.size,1,none⟩) aH (by simp)).trans a1;have a2:=(k3.cell (p:=⟨w.heap.size,2,none⟩) aH (by simp)).trans a2;have a3:=(k3.cell (p:=⟨w.heap.size,3,none⟩) aH (by simp)).trans a3;have a4:=(k3.cell (p:=⟨w.heap.size,4,none⟩) aH (by simp)).trans a4;have fA:=λ j=>(k3.frozen (p:=⟨w.heap.size,j,none⟩) aH (by simp)).trans (fA j)
   have bj:w2.heap.size<(w2.alloc (.cells #[.string (tok s 0).text,.slice av (zH s 0 (-1)).fst.length cv,.bool false,.int .i64 (tok s 0).at_,.int .i64 0] 243)).heap.size:=(by simp);generalize w2.alloc (.cells #[.string (tok s 0).text,.slice av (zH s 0 (-1)).fst.length cv,.bool false,.int .i64 (tok s 0).at_,.int .i64 0] 243)=wr at *;have b00:wr.cell? ⟨w2.heap.size,0,none⟩=some (.string (tok s 0).text):=b0 0;have b01:wr.cell? ⟨w2.heap.size,1,none⟩=some (.slice av (zH s 0 (-1)).fst.length cv):=b0 1;have b02:wr.cell? ⟨w2.heap.size,2,none⟩=some (.bool false):=b0 2;have KB:wr.cell? ⟨w2.heap.size,3,none⟩=some (.int .i64 (tok s 0).at_):=b0 3;have b04:wr.cell? ⟨w2.heap.size,4,none⟩=some (.int .i64 0):=b0 4;have hoW:o<w.heap.size:=RK;clear b0 k3 HP Dj c1 c5
   by_cases nj:zM ps (tok s 0).text<0
   ·have HM:=zC (show iD ps (tok s 0).text (zH s 0 (-1)).1.length=true by simp[iD,nj]);clear nx tH Fz;go_wp2_with fail
    go_region
    go_wp2_with fail;obtain⟨q0,q1,q2,q3,q4⟩:=z8p a0 a1 a2 a3 a4 (.string (tok s 0).text) (.slice av (zH s 0 (-1)).fst.length cv) (.bool false) (.int .i64 (tok s 0).at_) (.int .i64 0);have k5:=zpc wr w.heap.size (.string (tok s 0).text) (.slice av (zH s 0 (-1)).fst.length cv) (.bool false) (.int .i64 (tok s 0).at_) (.int .i64 0);refine bodyPost_ret (v:=.tuple #[(zN s).val (.slice av (zH s 0 (-1)).fst.length cv),.bool true]) (by simp[results,Tryz.results130,go_sem,zN,zL.val,q0,q1,q2,q3,q4]) rfl ⟨_,by rw[zA iX,zA HM],zA Ef _ k5.drew⟩
   ·obtain⟨ix,Hi⟩:∃ ix:Nat,zM ps (tok s 0).text=(ix:Int):=⟨_,(Int.toNat_of_nonneg (by omega)).symm⟩;have uT:ix<ps.length:=(by have:=vM (show 0<=zM ps (tok s 0).text by omega);rw[Hi] at this;simpa using this);have HM:=zC (show iD ps (tok s 0).text (zH s 0 (-1)).1.length=((ps[ix].2:Int)==(zH s 0 (-1)).1.length) by unfold iD;rw[if_neg nj,Hi];simp[List.getD_eq_getElem?_getD,uT]);rw[Hi];have oh:=(zA tH).c2;obtain⟨g,cap,hv,WL,bO,bP,hc⟩:=zca (zA tH).ae (by omega);have Ce:=hc ix uT;rw[List.getElem?_map,List.getElem?_eq_getElem uT] at Ce;simp only[Option.map_some] at Ce;have aZ:=World.block_lt_of_cell? wr _ Ce;simp only at aZ;have C5:g<w.heap.size:=Fz uT hv;clear Fz;subst hv;have VN:(ix:Int)<ps.length:=(by omega);unfold maxLen at bP;clear nx tH hc;go_wp2_with fail;have n1:w.heap.size≠o:=(by omega);have n2:w.heap.size≠g:=(by omega);have n3:w.heap.size≠w2.heap.size:=by omega
    go_region_held3 (λ w'=>w'.cell? ⟨o,2,none⟩=some (.slice (some ⟨g,0,none⟩) ps.length cap)/\w'.cell? ⟨g,ix,none⟩=some (.int .i64 (ps[ix].2:Nat))/\w'.cell? ⟨w2.heap.size,0,none⟩=some (.string (tok s 0).text)/\w'.cell? ⟨w2.heap.size,1,none⟩=some (.slice av (zH s 0 (-1)).fst.length cv)/\w'.cell? ⟨w2.heap.size,2,none⟩=some (.bool false)/\w'.cell? ⟨w2.heap.size,3,none⟩=some (.int .i64 (tok s 0).at_)/\w'.cell? ⟨w2.heap.size,4,none⟩=some (.int .i64 0)) (go_keep) (fail)
    go_wp2_with fail;obtain⟨q0,q1,q2,q3,q4⟩:=z8p a0 a1 a2 a3 a4 (.string (tok s 0).text) (.slice av (zH s 0 (-1)).fst.length cv) (.bool false) (.int .i64 (tok s 0).at_) (.int .i64 0);have k5:=zpc wr w.heap.size (.string (tok s 0).text) (.slice av (zH s 0 (-1)).fst.length cv) (.bool false) (.int .i64 (tok s 0).at_) (.int .i64 0);refine bodyPost_ret (v:=.tuple #[(zN s).val (.slice av (zH s 0 (-1)).fst.length cv),.bool ((ps[ix].2:Int)==(zH s 0 (-1)).1.length)]) (by simp[results,Tryz.results130,go_sem,zN,zL.val,q0,q1,q2,q3,q4];intro h;omega) rfl ⟨_,by rw[zA iX,zA HM],zA Ef _ k5.drew⟩
end
end Go.Proofs.YtldkpahaocjdpaaGreat
