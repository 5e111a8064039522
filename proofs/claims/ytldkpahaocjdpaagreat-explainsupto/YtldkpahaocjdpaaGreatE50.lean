/-
  What is needed of the witness: the program's closure is the reference's.
-/
import Derived.Test.YtldkpahaocjdpaaGreatE49
set_option maxHeartbeats 16000000
set_option maxRecDepth 1000000
namespace Go.Proofs.YtldkpahaocjdpaaGreat
section
open Go.RowKit Go.Maps
theorem zct (j:Nat):∀ (fr:List Nat) (B:Nat->Bool),vR B fr j=(B j||decide (j∈fr))
 | [],B=>by simp[vR]
 | x::r,B=>by
  have h:=zct j r (zbg B x true)
  show vR (zbg B x true) r j=_
  rw[h];unfold zbg
  by_cases e:j=x
  ·simp[e]
  ·simp[e]
theorem ydf (l:List zP)(i:Nat):lF l i=(zip l i).2:=by
 unfold lF zip
 cases l[i]? <;> rfl
theorem z9y {l:List zP}{i:Nat}(h:i<l.length)(k:Nat)(t:Th):yd5 (l.map plF) k t i=(decide (lS l i<k)||decide (bN l[i].aj=t)):=by
 unfold yd5 lS;rw[List.getElem?_map,List.getElem?_eq_getElem h];rfl
theorem zr5 {l:List zP}{k:Nat}{t:Th}(aX:∀ (i:Nat) (h:i<l.length),bN l[i].aj≠t)(hle:∀ (i:Nat),i<l.length->∀ x∈(zip l i).2,x<l.length/\lS l x<=lS l i):∀ (d m:Nat),m+d=(l.map plF).length->∀ j,j<l.length->(qX (l.map plF) k t (zip l) (qI (l.map plF).length m) j=true->lS l j<k)/\(m<=j->lS l j<k->qX (l.map plF) k t (zip l) (qI (l.map plF).length m) j=true)
 | 0,m,hm,j,hj=>by
  rw[Nat.add_zero] at hm;subst hm;rw[NT];refine⟨λ h=>(by cases h),λ h=>?_⟩;rw[List.length_map] at h;omega
 | d+1,m,hm,j,hj=>by
  have aH:m<(l.map plF).length:=by omega
  have mS:m<l.length:=by rw[List.length_map] at aH;exact aH
  have ih:=zr5 (k:=k) aX hle d (m+1) (by omega);rw[zfz aH,zgc]
  show (zal _ _ _ _ _ m j=true->_)/\(_->_->zal _ _ _ _ _ m j=true)
  rw[zcu];have ho:=z9y mS k t;rw[show decide (bN l[m].aj=t)=false from decide_eq_false (aX m mS),Bool.or_false] at ho;have hn:∀ q,zdr (l.map plF) k t (qX (l.map plF) k t (zip l) (qI (l.map plF).length (m+1))) m q=(qX (l.map plF) k t (zip l) (qI (l.map plF).length (m+1)) q||(decide (q=m)&&decide (lS l m<k))):=λ q=>by
   unfold zdr;rw[ho]
   by_cases h1:lS l m<k
   ·rw[if_pos (by simpa using h1)];unfold zbg
    by_cases h2:q=m
    ·simp[h2,h1]
    ·simp[h2]
   ·rw[if_neg (by simpa using h1)];simp[h1]
  have ia:∀ q,q<l.length->zdr (l.map plF) k t (qX (l.map plF) k t (zip l) (qI (l.map plF).length (m+1))) m q=true->lS l q<k:=λ q hq h=>by
   rw[hn q] at h;simp only[Bool.or_eq_true,Bool.and_eq_true,decide_eq_true_eq] at h;rcases h with h | ⟨rfl,h⟩
   ·exact (ih q hq).1 h
   ·exact h
  have oI:m<=j->lS l j<k->zdr (l.map plF) k t (qX (l.map plF) k t (zip l) (qI (l.map plF).length (m+1))) m j=true:=λ h1 h2=>by
   rw[hn j]
   by_cases e:j=m
   ·subst e;simp[h2]
   ·rw[(ih j hj).2 (by omega) h2];rfl
  split
  ·rename_i hc;rw[zct];refine⟨λ h=>?_,λ h1 h2=>by rw[oI h1 h2];rfl⟩;simp only[Bool.or_eq_true,decide_eq_true_eq] at h;rcases h with h | h
   ·exact ia j hj h
   ·have h3:=ia m mS hc;have:=(hle m mS j h).2;omega
  ·exact⟨ia j hj,oI⟩
theorem zwp {l:List zP}{k f:Nat}{t:Th}(hf:f<l.length)(oO:∀ (i:Nat) (h:i<l.length),bN l[i].aj=t↔i=f):∀ (d m:Nat),m+d=(l.map plF).length->∃ Br,zh7 l k (l.map plF).length (zbg (λ _=>false) f true)=zh7 l k m Br/\(∀ j,Br j=(qX (l.map plF) k t (zip l) (qI (l.map plF).length m) j||decide (j=f)))/\(m<=f->qX (l.map plF) k t (zip l) (qI (l.map plF).length m) f=true)
 | 0,m,hm=>by
  rw[Nat.add_zero] at hm;subst hm;refine⟨_,rfl,λ j=>?_,λ h=>by rw[List.length_map] at h;omega⟩;rw[NT];unfold zbg
  by_cases e:j=f <;> simp[e,qX]
 | d+1,m,hm=>by
  have aH:m<(l.map plF).length:=by omega
  have mS:m<l.length:=by rw[List.length_map] at aH;exact aH
  obtain⟨Br,h1,h2,h3⟩:=zwp hf oO d (m+1) (by omega);refine⟨IM l k Br m,h1,?_⟩;rw[zfz aH,zgc]
  show (∀ j,IM l k Br m j=(zal _ _ _ _ _ m j||_))/\(_->zal _ _ _ _ _ m f=true)
  rw[zcu];generalize qX (l.map plF) k t (zip l) (qI (l.map plF).length (m+1))=Bp at *;have ho:=z9y mS k t;rw[show decide (bN l[m].aj=t)=decide (m=f) by rw[decide_eq_decide];exact oO m mS] at ho;have hn:∀ q,zdr (l.map plF) k t Bp m q=(Bp q||(decide (q=m)&&(decide (lS l m<k)||decide (m=f)))):=λ q=>by
   unfold zdr;rw[ho]
   cases hc:(decide (lS l m<k)||decide (m=f)) with
   | true=>
    rw[if_pos rfl];unfold zbg
    by_cases e:q=m <;> simp[e]
   | false=>
    rw[if_neg (by simp)];simp
  have hc:(Br m||decide (lS l m<k))=zdr (l.map plF) k t Bp m m:=by
   rw[hn m,h2 m];simp
   cases Bp m <;> cases decide (m=f) <;> cases decide (lS l m<k) <;> rfl
  unfold IM;rw[hc,ydf]
  cases hb:zdr (l.map plF) k t Bp m m with
  | true=>
   simp only[if_pos];refine⟨λ j=>?_,λ h=>?_⟩
   ·rw[zct,zct];unfold zbg
    by_cases e:j=m
    ·subst e;simp[hb]
    ·simp only[if_neg e];rw[h2 j,hn j];simp[e]
     cases Bp j <;> cases decide (j=f) <;> simp
   ·rw[zct]
    by_cases e:f=m
    ·subst e;rw[hb];rfl
    ·rw[hn f,h3 (by omega)];rfl
  | false=>
   simp only[Bool.false_eq_true,if_false];refine⟨λ j=>?_,λ h=>?_⟩
   ·unfold zbg
    by_cases e:j=m
    ·subst e;rw[if_pos rfl,hb];rw[hn j] at hb;simp at hb;simp[hb]
    ·rw[if_neg e,h2 j,hn j];simp[e]
   ·by_cases e:f=m
    ·subst e;rw[hn f] at hb;simp at hb
    ·rw[hn f,h3 (by omega)];rfl
end
section
open Go.RowKit Go.Maps
variable {i:Nat}
theorem zwq {β:Type}{l:List β}(h:l.Nodup){j:Nat}(hi:i<l.length)(hj:j<l.length)(e:l[i]=l[j]):i=j:=by
 unfold List.Nodup at h;rw[List.pairwise_iff_getElem] at h;rcases Nat.lt_trichotomy i j with h1 | h1 | h1
 ·exact absurd e (h i j hi hj h1)
 ·exact h1
 ·exact absurd e.symm (h j i hj hi h1)
theorem z3t {α β:Type}{f:α->β}{l:List α}(h:(l.map f).Nodup){x y:α}(hx:x∈l)(hy:y∈l)(e:f x=f y):x=y:=by
 obtain⟨i,hi,rfl⟩:=List.mem_iff_getElem.1 hx;obtain⟨j,hj,rfl⟩:=List.mem_iff_getElem.1 hy;have:=zwq h (i:=i) (j:=j) (by simpa using hi) (by simpa using hj) (by simpa using e);subst this;rfl
variable {l:List zP}
theorem z2z (h:i<l.length):lS l i=l[i].s:=by unfold lS;rw[List.getElem?_eq_getElem h];rfl
variable {K:List (Th × Nat)} {rp:List PR} {rs:List zS} {S:Nat->Nat} {ps:P9}
theorem z5l (hR:zax ps rs rp)(hI:z0i rs rp)(hS:gu ps K l)(hT:pN ps S rs l):∀ (i:Nat),i<l.length->∀ x∈(zip l i).2,x<l.length/\lS l x<=lS l i:=λ i h x hx=>by
 obtain⟨l0,r,e1,h1,h2,h3,_,h5,h6⟩:=hT.least hR hI hS (List.getElem_mem h);rw[zmm h] at hx;have EJ:=h6 x hx;have EK:x<l.length:=by rw[e1,List.length_append];omega
 refine⟨EK,?_⟩;rw[z2z EK,z2z h];have hm:l[x]∈l0:=by
  have:l[x]=l0[x]:=by simp only[e1];exact List.getElem_append_left EJ
  rw[this];exact List.getElem_mem EJ
 have:=h1 _ hm;rw[zcj] at this;omega
variable {t:Th} {Sp:B8->Nat}
theorem z61 (hR:zax ps rs rp)(hI:z0i rs rp)(hS:gu ps K l)(hT:pN ps S rs l)(aX:yS K t=none):zd3 ps Sp K t (zip l) (l.map plF)=znp (jO ps Sp K t) l (λ i=>decide (lS l i<jO ps Sp K t)):=by
 have oJ:∀ (i:Nat) (h:i<l.length),bN l[i].aj≠t:=λ i h e=>by
  have hm:(t,l[i].h)∈K:=(hS.mem _ _).2 ⟨l[i],List.getElem_mem h,e,rfl⟩;have:=(zep K t).2 ⟨_,hm⟩;rw[aX] at this
  cases this
 have hq:=zr5 (k:=jO ps Sp K t) oJ (z5l hR hI hS hT) (l.map plF).length 0 (by omega);unfold zd3 z9o;generalize qX (l.map plF) (jO ps Sp K t) t (zip l) (qI (l.map plF).length 0)=B at *;rw[List.length_map,zf5];refine zon λ j hj=>?_
 have:=hq j hj;rw[Bool.eq_iff_iff,decide_eq_true_eq];exact⟨this.1,this.2 (Nat.zero_le _)⟩
theorem ya5 (hS:gu ps K l)(hs:∀ f∈l,f.s=Sp (bN f.aj).1){f:Nat}(hf:f<l.length)(ht:bN l[f].aj=t):jO ps Sp K t=lS l f/\yS K t=some l[f].h/\zd3 ps Sp K t (zip l) (l.map plF)=znp (lS l f) l (zh7 l (lS l f) l.length (zbg (λ _=>false) f true)):=by
 have hm:(t,l[f].h)∈K:=(hS.mem _ _).2 ⟨l[f],List.getElem_mem hf,ht,rfl⟩;have aF:yS K t=some l[f].h:=by
  have h1:=(zep K t).2 ⟨_,hm⟩
  cases hq:yS K t with
  | none=>rw[hq] at h1;cases h1
  | some n=>
   have pD:(t,n)∈K:=jV hq;obtain⟨g,hg,e1,e2⟩:=(hS.mem t n).1 pD;have hn:=hS.EM;have:g=l[f]:=z3t hn hg (List.getElem_mem hf) (by rw[e1,ht]);rw[<-e2,this]
 have lC:(yX ps t.1).isSome=true:=by
  have:=(hS.dM _ (List.getElem_mem hf)).num;rw[ht] at this;rw[this];rfl
 have hk:jO ps Sp K t=lS l f:=by
  unfold jO;rw[if_pos lC,aF,z2z hf,hs _ (List.getElem_mem hf),ht];rfl
 refine⟨hk,aF,?_⟩;have oO:∀ (i:Nat) (h:i<l.length),bN l[i].aj=t↔i=f:=λ i h=>by
  constructor
  ·intro e;have hn:=hS.EM;have h1:(l.map λ f=>bN f.aj)[i]'(by simpa using h)=(l.map λ f=>bN f.aj)[f]'(by simpa using hf):=(by simp[e,ht]);exact zwq hn _ _ h1
  ·rintro rfl;exact ht
 obtain⟨Br,h1,h2,h3⟩:=zwp (k:=lS l f) hf oO (l.map plF).length 0 (by omega);unfold zd3 z9o;rw[hk];generalize qX (l.map plF) (lS l f) t (zip l) (qI (l.map plF).length 0)=B at *;rw[List.length_map] at h1 ⊢;rw[zf5,h1];refine zon λ j _=>?_
 show _=Br j
 rw[h2 j]
 by_cases e:j=f
 ·subst e;rw[h3 (Nat.zero_le _)];rfl
 ·simp[e]
end
section
open Go.Sort
variable {q:B8} {ps:P9}
theorem zkc (h:(zcn ps q&&qE (zN q))=true):D3 (bN (zN q))/\(bN (zN q)).2.length<=4:=by
 have mN:zhw q=true:=by
  unfold zcn at h;simp only[Bool.and_eq_true] at h;exact h.1.1
 have hw:zkq (pa (zN q)).p (pa (zN q)).ts:=z33 (q:=q) (by rw[z32,if_pos mN]);refine⟨⟨hw.pd,λ x hx=>?_⟩,by have:=hw.eJ;simpa[pa,bN] using this⟩;obtain⟨t,ht,rfl⟩:=List.mem_map.1 hx;exact hw.ts (ed t) (List.mem_map.2 ⟨t,ht,rfl⟩)
variable {t:Th}
theorem ydz (h:D3 t)(hf:t.2.length<=4):zdu t:=
 ⟨by have:=h.pd.le;show t.1.size<=_;omega,hf,λ x hx=>by have:=(h.ts x hx).le;omega,λ x hx=>(h.ts x hx).ne⟩
theorem z6n (t:Th)(h:zeb ps q=some t):zdu t:=by
 rw[zxe] at h
 split at h
 ·rename_i bR;obtain rfl:=Option.some.inj h;exact ydz (zkc bR).1 (zkc bR).2
 ·cases h
theorem z07 (h:(zcn ps q&&qE (zN q))=true):(jH (zN q)).length<=1000000000:=by
 obtain⟨hw,h3⟩:=zkc h;have e:(jH (zN q)).length=(zau (bN (zN q)).1 (xB (bN (zN q)))).length:=by
  have:=congrArg (λ x:B8=>x.data.toList.length) (DO (zN q));simpa[xP,xK] using this
 generalize bN (zN q)=t at *;have h1:=zew (xB t) 0 (λ x hx=>by have:=(hw.ae x hx).le;omega);have h2:(xB t).length=t.2.length:=by unfold xB;simp
 have h4:=hw.pd.le;have h5:=jI t.1;rw[e];unfold zau;rw[List.length_append,List.length_append];have h6:(if (xB t).length=0 then ([]:List UInt8) else [41]).length<=1:=by split <;> simp
 have h7:(xB t).length*1001<=4*1001:=Nat.mul_le_mul_right _ (by omega);omega
theorem zvo {x:B8}(h:x.data.toList=jH (zN q)):x=xK (bN (zN q)):=by
 rw[<-DO];unfold xP;rw[<-h]
variable {rp:List PR} {s:B8}
theorem z2w (h:(yY s).1=true)(oN:rp.map (·.R)=(yL s).2.2.1)(ly:∀ r∈rp,r.bs.map (·.1)=r.R.body):z0i (yG s).1 rp:=by
 have g:=zha h;have e:rp.map (·.R)=(yG s).1.map yO:=by rw[oN,g.rules]
 have hl:(yG s).1.length=rp.length:=by have:=congrArg List.length e;simpa using this.symm
 refine⟨hl,λ i h1 h2=>⟨?_,ly _ (List.getElem_mem h2)⟩⟩;have:=congrArg (λ l:List vY=>l[i]?) e;simp only[List.getElem?_map,List.getElem?_eq_getElem h1,List.getElem?_eq_getElem h2,Option.map_some,Option.some.injEq] at this;exact this
theorem zqe {l:List zP}:∀ (b:List zL) (now:List Way) (m:Nat),(∀ x∈now,x.2.length<=m/\∀ z∈x.2,z<l.length)->∀ y∈ziq l b now,y.2.length<=m+b.length/\∀ z∈y.2,z<l.length
 | [],_,_,h,y,hy=>by simpa using h y hy
 | a::r,now,m,h,y,hy=>by
  rw[ziq] at hy
  split at hy
  ·have:=zqe r now m h y hy;exact⟨by have:=this.1;simp;omega,this.2⟩
  ·have:=zqe r (zgl a l now) (m+1) (λ x hx=>by
    obtain⟨u,hu,hx⟩:=List.mem_flatMap.1 hx;obtain⟨k,hk,e,_,rfl⟩:=zhr l 0 hx;have hu:=h u hu;refine⟨by simp;exact hu.1,λ z hz=>?_⟩;rcases List.mem_append.1 hz with hz | hz
    ·exact hu.2 z hz
    ·rw[List.mem_singleton] at hz
     omega) y hy
   exact⟨by have:=this.1;simp;omega,this.2⟩
variable {l:List zP} {limit:Nat} {S:Nat->Nat}
theorem ycj (h:(yY s).1=true)(hl:limit<=50)(aP:zka (zT s).2 S (yG s).1 limit (lQ S (zT s).2.length) 0 [] (some l)):∀ f∈l,f.fr.length<=3/\∀ x∈f.fr,x<l.length:=by
 have g:=zha h;have hT:=zw9 hl aP (pN.nil _ _ _) (by simp) l rfl;intro f hf;obtain⟨l0,r,e,_,_,_,hF⟩:=hT.each f hf;obtain⟨R,Py,_,⟨y,hy,LP,_⟩,_⟩:=hF.has;have hb:R.body.length<=3:=by
  have:=g.body (yO R) (by rw[g.rules];exact List.mem_map_of_mem (List.mem_of_getElem? Py));simpa[yO] using this
 obtain⟨h1,h2⟩:=zqe R.body [([],[])] 0 (by simp) y (List.mem_filter.1 hy).1;rw[LP] at h1 h2;refine⟨by omega,λ x hx=>?_⟩;have:=h2 x hx;rw[e,List.length_append];omega
noncomputable def ycv (ps:P9)(rp:List PR)(Sp:B8->Nat)(K:List (Th × Nat))(O:List Pl):Nat->Nat × List Nat:=open Classical in λ i=>if h:(∃ r,ztn ps Sp rp K O r)/\i<O.length then h.1.choose i else (0,[])
variable {K:List (Th × Nat)} {Sp:B8->Nat}
theorem zuz (h:ztn ps Sp rp K (l.map plF) (zip l)):ycv ps rp Sp K (l.map plF)=zip l:=by
 funext i
 unfold ycv
 split
 ·rename_i hx;have h1:=hx.1.choose_spec.least i hx.2;have h2:=h.least i hx.2;obtain⟨e1,e2⟩:=h1.uniq h2;exact Prod.ext e1 e2
 ·rename_i hx;have:¬ i<l.length:=λ c=>hx ⟨⟨_,h⟩,by simpa using c⟩
  unfold zip;rw[List.getElem?_eq_none (by omega)]
theorem yb5 (h:ztn ps Sp rp K (l.map plF) (zip l)):ztn ps Sp rp K (l.map plF) (ycv ps rp Sp K (l.map plF)):=by rw[zuz h];exact h
theorem zim (h:(yY s).1=true)(oN:rp.map (·.R)=(yL s).2.2.1)(ly:∀ r∈rp,r.bs.map (·.1)=r.R.body)(hv:zef (zT s).2 (yG s).1 S)(bc:Low (zT s).2 (yG s).1 S)(h1:zd0 (rp.map (·.R)) Sp)(h2:z52 (rp.map (·.R)) Sp){m:Nat}(hl:limit<=50)(hc:ze6 (zT s).2 Sp m){r:Option (List zP)}(aP:zka (zT s).2 S (yG s).1 limit (lQ S (zT s).2.length) 0 [] r)(mX:zdx rp Sp limit m 0 [] (some K)):(∀ k,0<=zM (zT s).2 k->Sp k=S (qJ (zT s).2 k))/\∃ l,r=some l/\l.length<=50/\gu (zT s).2 K l/\pN (zT s).2 S (yG s).1 l/\∀ f∈l,f.s=Sp (bN f.aj).1:=by
 have g:=zha h;have hR:=zmr h oN ly;have hI:=z2w h oN ly;have aS:∀ R∈(yG s).1,0<=zM (zT s).2 R.head.pred:=λ R hR=>g.all _ (List.mem_flatMap.2 ⟨R,hR,List.mem_cons_self⟩)
 have gS:∀ k,0<=zM (zT s).2 k->Sp k=S (qJ (zT s).2 k):=λ k hk=>by
  rw[oN,g.rules] at h1 h2;exact zs0 g.all hv bc h1 h2 k hk
 rcases zu8 hR g.once aS gS hl hc aP mX with⟨_,e⟩ | ⟨l,K1,rfl,e2,hS,hle⟩
 ·cases e
 ·obtain rfl:=Option.some.inj e2;have hT:=zw9 hl aP (pN.nil _ _ _) (by simp) l rfl;refine⟨gS,l,rfl,by omega,hS,hT,λ f hf=>?_⟩;obtain⟨_,_,_,_,_,_,hs,_⟩:=hT.least hR hI hS hf
  have hn:0<=zM (zT s).2 f.aj.pred:=zid.1 (by
   have:yX (zT s).2 f.aj.pred=some (bN f.aj).2.length:=(hS.dM f hf).num
   rw[this];rfl)
  rw[hs];exact (gS _ hn).symm
theorem ybk (n:Nat × List Nat):(uB n).length=1+n.2.length:=by unfold uB;simp;omega
theorem zwn {m:Nat}:∀ (ns:List (Nat × List Nat)),(∀ x∈ns,x.2.length<=m)->(ns.flatMap uB).length<=ns.length*(1+m)
 | [],_=>by simp
 | x::r,h=>by
  have h1:=zwn r (λ y hy=>h y (List.mem_cons_of_mem _ hy));have h2:=h x List.mem_cons_self;rw[List.flatMap_cons,List.length_append,ybk,List.length_cons,Nat.succ_mul];omega
theorem zv5 {S:B8->Nat}{rea:Nat->Nat × List Nat}{O:List Pl}(h:∀ i,i<O.length->(rea i).2.length<=3)(hO:O.length<=50):(zd3 ps S K t rea O).length<=1000:=by
 have h1:=zv6 ps S K t rea O;have h2:=zwn (m:=3) (z9o ps S K t rea O) (z14 h);unfold zd3 zfb;simp only[List.length_cons];omega
inductive IQ (w w' wr Cl:W8):Ending->Value->Nat->Prop
 | mk {v h:Int} {n:Nat} {bs:List Nat} {a b:O8} {c d:Nat}:bs.length<=1000->w'.ownsRow w.heap.size 5 1 (.slice a bs.length c) bs.length (bs.map u8c)->Cl.ownsRow wr.heap.size 5 1 (.slice b bs.length d) bs.length (bs.map u8c)->IQ w w' wr Cl (.returned (.tuple #[.agg #[.int .i64 v,.int .i64 h,.slice a bs.length c],.int .i64 (n:Nat)])) (zir v h (.slice b bs.length d)) n
theorem IQ.no (w w' wr Cl:W8)(n:Nat):IQ w w' wr Cl (.returned (.tuple #[.agg #[.int .i64 0,.int .i64 0,.slice none 0 0],.int .i64 (n:Nat)])) (zir 0 0 (.slice none 0 0)) n:=
 .mk (bs:=[]) (by simp) (World.ownsRow_nil _ _ _ _) (World.ownsRow_nil _ _ _ _)
theorem z15 (h:(yY s).1=true)(oN:rp.map (·.R)=(yL s).2.2.1)(ly:∀ r∈rp,r.bs.map (·.1)=r.R.body)(hv:zef (zT s).2 (yG s).1 S)(bc:Low (zT s).2 (yG s).1 S){limit:Int}{w w' wr Cl:W8}{e:Ending}{v:Value}{n:Nat}(hP:BT w rp (zT s).2 q limit (ycv (zT s).2 rp) w' e)(hQ:wJ wr (zT s).2 S (yG s).1 q limit Cl v n):IQ w w' wr Cl e v n:=by
 have g:=zha h;have hR:=zmr h oN ly;have hI:=z2w h oN ly;have oD:=zxe (zT s).2 q;have hl:∀ {l:Int},uG l=true->1<=l/\l<=50:=λ h=>zpl h
 have nU:∀ {l:Int},uG l=false->¬ (1<=l/\l<=50):=λ h c=>by
  unfold uG at h;simp at h;omega
 cases hP with
 | arg h1=>
  have:=nU h1
  cases hQ with
  | arg _=>exact .no _ _ _ _ 8
  | ask a b _=>exact absurd ⟨a,b⟩ this
  | fG a b _ _=>exact absurd ⟨a,b⟩ this
  | out a b _ _ _ _ _ _ _=>exact absurd ⟨a,b⟩ this
  | yes a b _ _ _ _ _ _ _=>exact absurd ⟨a,b⟩ this
 | ask h1 h2=>
  have:=hl h1;rw[oD] at h2
  cases hQ with
  | arg a=>omega
  | ask _ _ _=>exact .no _ _ _ _ 6
  | fG _ _ c _=>rw[if_pos c] at h2;cases h2
  | out _ _ c _ _ _ _ _ _=>rw[if_pos c] at h2;cases h2
  | yes _ _ c _ _ _ _ _ _=>rw[if_pos c] at h2;cases h2
 | fG h1 h2 Dt nG hc aP=>
  have:=hl h1;rw[oD] at h2;have aS:∀ R∈(yG s).1,0<=zM (zT s).2 R.head.pred:=λ R hR=>g.all _ (List.mem_flatMap.2 ⟨R,hR,List.mem_cons_self⟩)
  have gS:=λ k hk=>by
   have h3:=Dt;have h4:=nG;rw[oN,g.rules] at h3 h4;exact zs0 g.all hv bc h3 h4 k hk
  cases hQ with
  | arg a=>omega
  | ask _ _ c=>rw[c] at h2;cases h2
  | fG _ _ _ _=>exact .no _ _ _ _ 7
  | out _ _ _ mX _ _ _ _ _=>
   rcases zu8 hR g.once aS gS (by omega) hc mX aP with⟨e,_⟩ | ⟨_,_,_,e,_⟩ <;> cases e
  | yes _ _ _ mX _ _ _ _ _=>
   rcases zu8 hR g.once aS gS (by omega) hc mX aP with⟨e,_⟩ | ⟨_,_,_,e,_⟩ <;> cases e
 | @yes t Sp m K O a c h1 h2 Dt nG hc aP mT hO oa aB=>
  have:=hl h1;rw[oD] at h2
  cases hQ with
  | arg a=>omega
  | ask _ _ c=>rw[c] at h2;cases h2
  | fG _ _ _ mX=>
   obtain⟨_,l,e,_⟩:=zim h oN ly hv bc Dt nG (by omega) hc mX aP
   cases e
  | @out l k x b d _ _ bR mX An hx hneg hk re=>
   obtain⟨gS,l1,e1,-,hS,hT,hs⟩:=zim h oN ly hv bc Dt nG (by omega) hc mX aP;obtain rfl:=Option.some.inj e1;rw[if_pos bR] at h2;obtain rfl:=Option.some.inj h2;obtain⟨rfl,FO⟩:=zqb hR hI hS hT hs hO oa;rw[zuz FO] at aB ⊢;have nW:yS K (bN (zN q))=none:=by
    cases hL:yS K (bN (zN q)) with
    | none=>rfl
    | some n=>
     obtain⟨f,hf,XP⟩:=(hS.look _).1 (by rw[hL];rfl);refine absurd ?_ ((zlw l x).1 hneg f hf);rw[hS.text f hf,XP,zvo hx]
   have EI:jO (zT s).2 Sp K (bN (zN q))=k:=by
    unfold jO;rw[hk,nW,show (bN (zN q)).1=(zN q).pred from rfl]
    by_cases hp:0<=zM (zT s).2 (zN q).pred
    ·rw[if_pos (zid.2 hp),if_pos hp];exact congrArg (·+1) (gS _ hp)
    ·rw[if_neg (λ c=>hp (zid.1 c)),if_neg hp]
   have he:=z61 hR hI hS hT (Sp:=Sp) nW;rw[EI] at he;rw[nW];have hle:=zv5 (ps:=(zT s).2) (S:=Sp) (K:=K) (t:=bN (zN q)) (λ i hi=>FO.len i hi) (by simpa using An);rw[he] at aB hle ⊢;exact .mk (v:=2) (h:=0) (n:=0) hle aB re
  | @yes l f x b d _ _ bR mX An hx Eg hf re=>
   obtain⟨gS,l1,e1,-,hS,hT,hs⟩:=zim h oN ly hv bc Dt nG (by omega) hc mX aP;obtain rfl:=Option.some.inj e1;rw[if_pos bR] at h2;obtain rfl:=Option.some.inj h2;obtain⟨rfl,FO⟩:=zqb hR hI hS hT hs hO oa;rw[zuz FO] at aB ⊢;have ht:bN l[f].aj=bN (zN q):=by
    obtain⟨_,h5⟩:=z2b Eg;rw[hS.text _ (List.getElem_mem hf),zvo hx] at h5;exact zea (hS.dM _ (List.getElem_mem hf)).w (zkc bR).1 h5
   obtain⟨EI,aF,he⟩:=ya5 hS hs hf ht;have Ng:lH l f=l[f].h:=(by unfold lH;rw[List.getElem?_eq_getElem hf];rfl);have hle:=zv5 (ps:=(zT s).2) (S:=Sp) (K:=K) (t:=bN (zN q)) (λ i hi=>FO.len i hi) (by simpa using An);rw[aF];rw[he] at aB hle ⊢;rw[Ng];exact .mk (v:=1) (h:=(l[f].h:Nat)) (n:=0) hle aB re
end
section
open Go.RowKit Go.Maps
def yc3 (s:B8)(w:W8)(q:B8)(limit:Int):Ending->W8->Prop:=λ e w'=>∃ rp:List PR,rp.map (·.R)=(yL s).2.2.1/\(∀ r∈rp,r.bs.map (·.1)=r.R.body)/\BT w rp (zT s).2 q limit (ycv (zT s).2 rp) w' e/\Below w.heap.size w w'
def yc4 (s:B8)(w:W8)(q:B8)(limit:Int):Ending->W8->Prop:=λ e w'=>∃ (S:Nat->Nat) (v:Value) (n:Nat),e=.returned (.tuple #[v,.int .i64 (n:Nat)])/\zef (zT s).2 (yG s).1 S/\Low (zT s).2 (yG s).1 S/\wJ w (zT s).2 S (yG s).1 q limit w' v n/\Below w.heap.size w w'
variable {w:W8}
theorem Calls.some_ {P:Program}{f:FuncId}{args:Array Value}{R:Ending->W8->Prop}(h:Calls P f args w R):∃ e w',R e w':=by
 obtain⟨e,w',_,h1,_⟩:=h [];exact⟨e,w',h1⟩
variable {lo xb yb:Nat} {s:B8}
theorem yay (h:pt s xb yb w lo)(k:Nat)(hk:k<=50):∃ (S:Nat->Nat) (r:Option (List zP)),zef (zT s).2 (yG s).1 S/\Low (zT s).2 (yG s).1 S/\zka (zT s).2 S (yG s).1 k (lQ S (zT s).2.length) 0 [] r:=by
 obtain⟨rs,rv,pv,tv,gs,S,hC,h7,h5,h6,hS⟩:=z12 h;obtain⟨e,w',v,b,_,hO⟩:=Calls.some_ (zr4 w yb rs (zT s).2 rv pv tv gs S hC (λ i _=>hS i) k hk);rw[h7] at hO
 cases hO with
 | no _ hN=>exact⟨S,none,h5,h6,hN⟩
 | yes _ _ hY=>exact⟨S,_,h5,h6,hY⟩
theorem zk9 (h:pt s xb yb w lo)(q:B8)(hq:q.size<=2000000)(limit:Int):Calls Tryz.prog 26 #[.pointer (some ⟨xb,0,none⟩),.string q,.int .i64 limit] w (yc3 s w q limit):=by
 obtain⟨rs,hp,hr⟩:=h.x;have hg:=zha h.ok;obtain⟨f0,uw,me⟩:=hg.some_;have ax:∀ r∈rs,r.R∈(yL s).2.2.1:=λ r oK=>by rw[<-hr];exact List.mem_map_of_mem oK
 have iz:∀ r∈rs,r.bs.map (·.1)=r.R.body:=λ r oK=>by
  obtain⟨a,c,_,_,ny⟩:=hp;exact (ny.each r oK).eq
 have M6:∀ r∈rs,∀ x∈r.bs,x.1∈r.R.body:=λ r oK x hx=>by rw[<-iz r oK];exact List.mem_map_of_mem hx
 have hl:rs.length<=30:=by have:=hg.len;rw[<-hr,List.length_map] at this;exact this
 have hR:=zmr h.ok hr iz;have hI:=z2w h.ok hr iz;refine (z71 w lo xb rs (zT s).2 q limit (ycv (zT s).2 rs) hq hp hl (λ r oK=>by have:=hg.body r.R (ax r oK);rw[<-iz r oK,List.length_map] at this;exact this) (λ r oK=>hg.pd r.R (ax r oK)) (λ r oK x hx=>hg.UT r.R (ax r oK) x.1 (M6 r oK x hx)) (by rw[hr];exact hg.agree) (by rw[hr];exact hg.met) (by have:=hg.eJ;omega) (λ r oK=>⟨(hg.named r.R (ax r oK)).1,λ x hx=>(hg.named r.R (ax r oK)).2 x.1 (M6 r oK x hx)⟩) f0 (by rw[hr];exact uw) me (z1s hR.dM) hR.dM z6n ?_).mono ?_
 ·intro hL Sp m K Dt nG hc aP O hO oa;have An:=zpl hL;obtain⟨S,r,hv,bc,QW⟩:=yay h limit.toNat (by omega);obtain⟨_,l,_,_,hS,hT,hs⟩:=zim h.ok hr iz hv bc Dt nG (by omega) hc QW aP;obtain⟨rfl,FO⟩:=zqb hR hI hS hT hs hO oa;exact yb5 FO
 ·rintro e w' ⟨h1,h2⟩;exact⟨rs,hr,iz,h1,h2⟩
theorem zre (h:pt s xb yb w lo)(q:B8)(hq:q.size<=2000000)(limit:Int):Calls Tryz.prog 91 #[.pointer (some ⟨yb,0,none⟩),.string q,.int .i64 limit] w (yc4 s w q limit):=by
 obtain⟨rs,rv,pv,tv,gs,S,hC,h7,h5,h6,hS⟩:=z12 h
 by_cases hl:limit.toNat<=50
 ·refine (zv7 w yb rs (zT s).2 rv pv tv gs S hC (λ i _=>hS i) q (by unfold maxLen;omega) limit z07 (λ _ _ l aP=>by rw[h7] at aP;exact ycj h.ok hl aP)).mono ?_;rintro e w' ⟨v,n,rfl,h1,h2⟩;rw[h7] at h1;exact⟨S,v,n,rfl,h5,h6,h1,h2⟩
 ·refine (zv7 w yb rs (zT s).2 rv pv tv gs S hC (λ i _=>hS i) q (by unfold maxLen;omega) limit z07 (λ _ Pj=>by omega)).mono ?_;rintro e w' ⟨v,n,rfl,h1,h2⟩;rw[h7] at h1;exact⟨S,v,n,rfl,h5,h6,h1,h2⟩
variable {w':W8} {limit:Int} {ps:P9}
theorem BT.shape {rs:List PR}{rea:(B8->Nat)->List (Th × Nat)->List Pl->Nat->Nat × List Nat}{e:Ending}(h:BT w rs ps s limit rea w' e):∃ (v d:Int) (a:O8) (m c k:Nat),e=.returned (.tuple #[.agg #[.int .i64 v,.int .i64 d,.slice a m c],.int .i64 (k:Nat)]):=by
 cases h with
 | arg _=>exact⟨0,0,none,0,0,8,rfl⟩
 | ask _ _=>exact⟨0,0,none,0,0,6,rfl⟩
 | fG _ _ _ _ _ _=>exact⟨0,0,none,0,0,7,rfl⟩
 | yes _ _ _ _ _ _ _ _ _ _=>exact⟨_,_,_,_,_,0,rfl⟩
variable {n:Nat}
theorem wJ.shape {S:Nat->Nat}{rs:List zS}{v:Value}(h:wJ w ps S rs s limit w' v n):∃ (x d:Int) (a:O8) (m c:Nat),v=zir x d (.slice a m c):=by
 cases h with
 | arg _=>exact⟨_,_,_,_,_,rfl⟩
 | ask _ _ _=>exact⟨_,_,_,_,_,rfl⟩
 | fG _ _ _ _=>exact⟨_,_,_,_,_,rfl⟩
 | out _ _ _ _ _ _ _ _ _=>exact⟨_,_,_,_,_,rfl⟩
 | yes _ _ _ _ _ _ _ _ _=>exact⟨_,_,_,_,_,rfl⟩
theorem IQ.both {wr Cl:W8}{v d x y:Int}{a b:O8}{m c k m' c':Nat}(h:IQ w w' wr Cl (.returned (.tuple #[.agg #[.int .i64 v,.int .i64 d,.slice a m c],.int .i64 (k:Nat)])) (zir x y (.slice b m' c')) n):k=n/\v=x/\d=y/\∃ bs:List Nat,bs.length<=1000/\m=bs.length/\m'=bs.length/\w'.ownsRow w.heap.size 5 1 (.slice a m c) m (bs.map u8c)/\Cl.ownsRow wr.heap.size 5 1 (.slice b m' c') m' (bs.map u8c):=by
 generalize he:Ending.returned (.tuple #[.agg #[.int .i64 v,.int .i64 d,.slice a m c],.int .i64 (k:Nat)])=e at h;generalize hv:zir x y (.slice b m' c')=u at h
 cases h with
 | @mk v0 d0 n0 bs a0 b0 c0 e0 hl h1 h2=>
  simp only[Ending.returned.injEq,Value.tuple.injEq,Value.agg.injEq,Array.mk.injEq,List.cons.injEq,Value.slice.injEq,Value.int.injEq,true_and,and_true] at he;unfold zir at hv;simp only[Value.agg.injEq,Array.mk.injEq,List.cons.injEq,Value.slice.injEq,Value.int.injEq,true_and,and_true] at hv;obtain⟨⟨rfl,rfl,rfl,rfl,rfl⟩,hk⟩:=he;obtain⟨rfl,rfl,rfl,rfl,rfl⟩:=hv;exact⟨by omega,rfl,rfl,bs,hl,rfl,rfl,h1,h2⟩
end
end Go.Proofs.YtldkpahaocjdpaaGreat
