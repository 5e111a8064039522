/-
  Plain: the tokens of a text that is known byte by byte.
-/
import Derived.Test.YtldkpahaocjdpaaGreatD28
set_option maxHeartbeats 16000000
set_option maxRecDepth 1000000
namespace Go.Proofs.YtldkpahaocjdpaaGreat
section
def yF (s:B8):List UInt8:=s.data.toList
theorem zfn (s:B8):(yF s).length=s.size:=by unfold yF;rw[Array.length_toList];rfl
variable {i:Nat} {s:B8}
theorem zxc (h:i<s.size):(yF s)[i]?=some s[i]:=by
 unfold yF;rw[Array.getElem?_toList];have:s.data[i]?=some s.data[i]:=Array.getElem?_eq_getElem h;exact this
variable {r:List UInt8}
theorem zo5 {c:UInt8}(h:(yF s).drop i=c::r):∃ hi:i<s.size,s[i]=c/\(yF s).drop (i+1)=r:=by
 have hi:i<s.size:=by
  rw[<-zfn];apply Nat.lt_of_not_le;intro hl;rw[List.drop_eq_nil_of_le hl] at h;cases h
 have h1:=zxc hi;have h2:((yF s).drop i)[0]?=some c:=by rw[h];rfl
 rw[List.getElem?_drop,Nat.add_zero,h1] at h2;refine⟨hi,Option.some.inj h2,?_⟩;have:(yF s).drop (i+1)=((yF s).drop i).drop 1:=by rw[List.drop_drop]
 rw[this,h];rfl
theorem zfi (q:Int->Bool){s:B8}:∀ (w:List UInt8) (i:Nat) (r:List UInt8),(yF s).drop i=w++r->(∀ c∈w,q c.toNat=true)->(∀ c r',r=c::r'->q c.toNat=false)->skip q s i=i+w.length
 | [],i,r,h,_,hr=>by
  cases r with
  | nil=>
   have:¬ i<s.size:=λ hi=>by
    rw[<-zfn] at hi;have:=List.length_drop (i:=i) (l:=yF s);rw[h] at this;simp at this;omega
   rw[zd6 _ _ _ this];rfl
  | cons c r'=>
   obtain⟨hi,hc,_⟩:=zo5 (c:=c) (r:=r') h;rw[zba q s i hi (by rw[hc];exact hr c r' rfl)];rfl
 | c::w,i,r,h,hw,hr=>by
  obtain⟨hi,hc,hd⟩:=zo5 (c:=c) (r:=w++r) h;rw[za9 q s i hi (by rw[hc];exact hw c List.mem_cons_self),zfi q w (i+1) r hd (λ x hx=>hw x (List.mem_cons_of_mem _ hx)) hr,List.length_cons];omega
variable {w:List UInt8}
theorem zet (h:(yF s).drop i=w++r):s.extract i (i+w.length)=⟨w.toArray⟩:=by
 apply ByteArray.ext;apply Array.toList_inj.1
 show (s.extract i (i+w.length)).data.toList=w
 rw[ByteArray.data_extract,Array.toList_extract,List.extract_eq_take_drop]
 show ((yF s).drop i).take (i+w.length-i)=w
 rw[h,show i+w.length-i=w.length by omega,List.take_left' rfl]
structure ztf (s:B8)(p:Nat)(k:Int)(w:List UInt8)(q:Nat):Prop where
 kind:(zD s p).1=k
 word:yT s p=⟨w.toArray⟩
 stop:(zD s p).2.2=q
inductive jH:Int->List UInt8->Prop
 | name {w:List UInt8}:w≠[]->w.length<=8->(∀ c∈w,jJ c.toNat=true)->w≠[110,111,116]->jH 2 w
 | var {w:List UInt8}:w≠[]->w.length<=8->(∀ c∈w,yZ c.toNat=true)->jH 3 w
 | rA:jH 4 [110,111,116]
 | open_:jH 5 [40]
 | shut:jH 6 [41]
 | comma:jH 7 [44]
 | dot:jH 8 [46]
 | mR:jH 9 [58,45]
def ydw (k:Int)(r:List UInt8):Prop:=∀ c r',r=c::r'->((k=2\/k=4)->jJ c.toNat=false)/\(k=3->yZ c.toNat=false)
theorem z12 {a:Nat}(k:Int)(n p:Nat)(hp:skip yH s p=a)(h:qL (s.extract a s.size)=(k,n)):(zD s p).1=k/\(zD s p).2.1=a/\(zD s p).2.2=a+n:=by
 unfold zD;rw[hp,h];exact⟨rfl,rfl,rfl⟩
theorem zvt (s:B8)(a:Nat):yF (s.extract a s.size)=(yF s).drop a:=by
 unfold yF;rw[ByteArray.data_extract,Array.toList_extract,List.extract_eq_take_drop,List.take_of_length_le];rw[List.length_drop,Array.length_toList];exact Nat.le_refl _
theorem zcc (w:List UInt8):(⟨w.toArray⟩:B8).toList=w:=by rw[ByteArray.toList_eq]
variable {k:Int}
theorem z6p {r:B8}{rest:List UInt8}(hk:jH k w)(h:yF r=w++rest)(he:ydw k rest):qL r=(k,w.length):=by
 have h0:(yF r).drop 0=w++rest:=h;have hsz:r.size=w.length+rest.length:=by rw[<-zfn,h,List.length_append]
 have lV:r.extract 0 w.length=⟨w.toArray⟩:=by have:=zet h0;rwa [Nat.zero_add] at this
 have first:∀ c w',w=c::w'->∃ hi:0<r.size,r[0]=c:=λ c w' e=>by
  rw[e] at h0;obtain⟨hi,hc,_⟩:=zo5 h0;exact⟨hi,hc⟩
 have aX:(∀ c∈w,jJ c.toNat=true)->(k=2\/k=4)->skip jJ r 0=w.length:=λ hw hk=>by
  have:=zfi jJ w 0 rest h0 hw (λ c r' e=>(he c r' e).1 hk)
  rwa [Nat.zero_add] at this
 cases hk with
 | name bG hl hw hn=>
  obtain⟨c,w',e⟩:=List.exists_cons_of_ne_nil bG;obtain⟨hi,hc⟩:=first c w' e;have gD:jJ (r[0].toNat:Int)=true:=by rw[hc];exact hw c (by rw[e];exact List.mem_cons_self)
  unfold qL;rw[dif_pos hi,if_pos gD];unfold zhr;rw[aX hw (.inl rfl),if_neg (by omega),lV,zcc,if_neg hn]
 | var bG hl hw=>
  obtain⟨c,w',e⟩:=List.exists_cons_of_ne_nil bG;obtain⟨hi,hc⟩:=first c w' e;have Jc:=hw c (by rw[e];exact List.mem_cons_self);have mC:yZ (r[0].toNat:Int)=true:=by rw[hc];exact Jc
  have nA:¬ jJ (r[0].toNat:Int)=true:=by
   unfold yZ at mC;unfold jJ;simp at mC ⊢;omega
  have nJ:skip yZ r 0=w.length:=by
   have:=zfi yZ w 0 rest h0 hw (λ c r' e=>(he c r' e).2 rfl)
   rwa [Nat.zero_add] at this
  unfold qL;rw[dif_pos hi,if_neg nA,if_pos mC];unfold z4l;rw[nJ,if_neg (by omega)]
 | rA=>
  obtain⟨hi,hc⟩:=first 110 [111,116] rfl;have gD:jJ (r[0].toNat:Int)=true:=by rw[hc];decide
  unfold qL;rw[dif_pos hi,if_pos gD];unfold zhr;rw[aX (by decide) (.inr rfl),if_neg (by decide),lV,zcc,if_pos rfl]
 | open_=>
  obtain⟨hi,hc⟩:=first 40 [] rfl;have h1:(r.extract 0 1).toList=[40]:=by have:r.extract 0 1=_:=lV;rw[this,zcc]
  unfold qL;rw[dif_pos hi,if_neg (by rw[hc];decide),if_neg (by rw[hc];decide)];unfold zdc;rw[if_pos ⟨by omega,h1⟩];rfl
 | shut=>
  obtain⟨hi,hc⟩:=first 41 [] rfl;have h1:(r.extract 0 1).toList=[41]:=by have:r.extract 0 1=_:=lV;rw[this,zcc]
  unfold qL;rw[dif_pos hi,if_neg (by rw[hc];decide),if_neg (by rw[hc];decide)];unfold zdc;rw[h1,if_neg (λ x=>by cases x.2),if_pos ⟨by omega,rfl⟩];rfl
 | comma=>
  obtain⟨hi,hc⟩:=first 44 [] rfl;have h1:(r.extract 0 1).toList=[44]:=by have:r.extract 0 1=_:=lV;rw[this,zcc]
  unfold qL;rw[dif_pos hi,if_neg (by rw[hc];decide),if_neg (by rw[hc];decide)];unfold zdc;rw[h1,if_neg (λ x=>by cases x.2),if_neg (λ x=>by cases x.2),if_pos ⟨by omega,rfl⟩];rfl
 | dot=>
  obtain⟨hi,hc⟩:=first 46 [] rfl;have h1:(r.extract 0 1).toList=[46]:=by have:r.extract 0 1=_:=lV;rw[this,zcc]
  unfold qL;rw[dif_pos hi,if_neg (by rw[hc];decide),if_neg (by rw[hc];decide)];unfold zdc;rw[h1,if_neg (λ x=>by cases x.2),if_neg (λ x=>by cases x.2),if_neg (λ x=>by cases x.2),if_pos ⟨by omega,rfl⟩];rfl
 | mR=>
  obtain⟨hi,hc⟩:=first 58 [45] rfl;have h2:(r.extract 0 2).toList=[58,45]:=by have:r.extract 0 2=_:=lV;rw[this,zcc]
  have h1:(r.extract 0 1).toList=[58]:=by
   have:=zet (s:=r) (i:=0) (w:=[58]) (r:=45::rest) h0;rw[show r.extract 0 1=_ from this,zcc]
  have h3:2<=r.size:=by rw[hsz];simp
  unfold qL;rw[dif_pos hi,if_neg (by rw[hc];decide),if_neg (by rw[hc];decide)];unfold zdc;rw[h1,h2,if_neg (λ x=>by cases x.2),if_neg (λ x=>by cases x.2),if_neg (λ x=>by cases x.2),if_neg (λ x=>by cases x.2),if_pos ⟨h3,rfl⟩];rfl
variable {b:List UInt8} {p:Nat}
theorem ydf (h:(yF s).drop p=b++(w++r))(hb:∀ c∈b,yH c.toNat=true)(hk:jH k w)(he:ydw k r):ztf s p k w (p+b.length+w.length)/\(yF s).drop (p+b.length+w.length)=r:=by
 have dJ:∀ c r',w++r=c::r'->yH c.toNat=false:=λ c r' e=>by
  have low:∀ x:UInt8,jJ x.toNat=true->yH x.toNat=false:=λ x hx=>by
   unfold jJ at hx;unfold yH;simp at hx ⊢;omega
  have high:∀ x:UInt8,yZ x.toNat=true->yH x.toNat=false:=λ x hx=>by
   unfold yZ at hx;unfold yH;simp at hx ⊢;omega
  cases hk with
  | name bG _ hw _=>
   obtain⟨d,w',e'⟩:=List.exists_cons_of_ne_nil bG;rw[e'] at e hw;injection e with e1
   rw[<-e1];exact low _ (hw d List.mem_cons_self)
  | var bG _ hw=>
   obtain⟨d,w',e'⟩:=List.exists_cons_of_ne_nil bG;rw[e'] at e hw;injection e with e1
   rw[<-e1];exact high _ (hw d List.mem_cons_self)
  | rA=>injection e with e1;rw[<-e1];decide
  | open_=>injection e with e1;rw[<-e1];decide
  | shut=>injection e with e1;rw[<-e1];decide
  | comma=>injection e with e1;rw[<-e1];decide
  | dot=>injection e with e1;rw[<-e1];decide
  | mR=>injection e with e1;rw[<-e1];decide
 have nJ:=zfi yH b p (w++r) h hb dJ;have hd:(yF s).drop (p+b.length)=w++r:=by rw[<-List.drop_drop,h,List.drop_left' rfl]
 have hm:=z6p (r:=s.extract (p+b.length) s.size) hk (by rw[zvt];exact hd) he;obtain⟨h1,h2,h3⟩:=z12 k w.length p nJ hm;refine⟨⟨h1,?_,h3⟩,by rw[<-List.drop_drop,hd,List.drop_left' rfl]⟩;unfold yT;rw[h2,h3];exact zet hd
theorem zn5 (h:(yF s).drop p=b)(hb:∀ c∈b,yH c.toNat=true):(zD s p).1=0:=by
 have nJ:=zfi yH b p [] (by rw[List.append_nil];exact h) hb (λ c r' e=>by cases e);have hz:¬ 0<(s.extract (p+b.length) s.size).size:=by
  rw[<-zfn,zvt,<-List.drop_drop,h,List.drop_length];exact Nat.lt_irrefl 0
 have hm:qL (s.extract (p+b.length) s.size)=(0,0):=by unfold qL;rw[dif_neg hz]
 exact (z12 0 0 p nJ hm).1
end
section
abbrev TkL:=List (Int × List UInt8)
inductive aH (s:B8):Nat->TkL->Nat->Prop
 | nil (p:Nat):aH s p [] p
 | cons {p q r:Nat} {k:Int} {w:List UInt8} {l:TkL}:ztf s p k w q->aH s q l r->aH s p ((k,w)::l) r
theorem aH.split {s:B8}{b:TkL}{r:Nat}:∀ {a:TkL} {p:Nat},aH s p (a++b) r->∃ q,aH s p a q/\aH s q b r
 | [],p,h=>⟨p,.nil p,h⟩
 | x::a,p,h=>by
  cases h with
  | cons h1 h2=>
   obtain⟨q,h3,h4⟩:=aH.split h2;exact⟨q,.cons h1 h3,h4⟩
variable {w:List UInt8} {k:Int} {p r:Nat} {s:B8}
theorem aH.head {l:TkL}(h:aH s p ((k,w)::l) r):∃ q,ztf s p k w q/\aH s q l r:=by
 cases h with
 | cons h1 h2=>exact⟨_,h1,h2⟩
theorem aH.last (h:aH s p [(k,w)] r):ztf s p k w r:=by
 obtain⟨q,h1,h2⟩:=h.head
 cases h2
 exact h1
theorem zj5 (n:B8):(⟨(yF n).toArray⟩:B8)=n:=by unfold yF;rw[Array.toArray_toList]
def zbe (t:Bool × B8):Int × List UInt8:=(if t.1 then 3 else 2,yF t.2)
def zg7:List (Bool × B8)->TkL
 | []=>[]
 | [t]=>[zbe t,(6,[41])]
 | t::u::r=>zbe t::(7,[44])::zg7 (u::r)
def zks (pd:B8)(ts:List (Bool × B8)):TkL:=match ts with
 | []=>[(2,yF pd)]
 | t::r=>(2,yF pd)::(5,[40])::zg7 (t::r)
def zrk (l:yX):TkL:=(if l.neg then [(4,[110,111,116])] else [])++zks l.pd l.ts
def zjf:List yX->TkL
 | []=>[]
 | [l]=>zrk l++[(8,[46])]
 | l::m::r=>zrk l++(7,[44])::zjf (m::r)
def zju (R:yG):TkL:=zks R.pd R.ts++match R.body with
 | []=>[(8,[46])]
 | l::r=>(9,[58,45])::zjf (l::r)
variable {q:Nat}
theorem zwx {t:Bool × B8}(h:ztf s p (zbe t).1 (zbe t).2 q):((zD s p).1=2\/(zD s p).1=3)/\(decide ((zD s p).1=3),yT s p)=t:=by
 obtain⟨b,n⟩:=t;have hk:=h.kind;have hw:=h.word;unfold zbe at hk hw;simp only at hk hw;rw[zj5] at hw
 cases b with
 | true=>simp only[if_true] at hk;exact⟨.inr hk,by rw[hk,hw];rfl⟩
 | false=>simp only[Bool.false_eq_true,if_false] at hk;exact⟨.inl hk,by rw[hk,hw];rfl⟩
theorem zly {s:B8}:∀ (ts:List (Bool × B8)) (f p q:Nat) (l:List (Bool × B8)) (pl:Nat->Nat),ts≠[]->ts.length<=f->aH s p (zg7 ts) q->∃ DL,zR s f p l pl=(true,q,l++ts,DL)
 | [],_,_,_,_,_,h,_,_=>absurd rfl h
 | [t],f,p,q,l,pl,_,hf,h=>by
  obtain⟨f,rfl⟩:∃ g,f=g+1:=⟨f-1,by simp at hf;omega⟩;obtain⟨p1,h1,h2⟩:=aH.head (l:=[(6,[41])]) (k:=(zbe t).1) (w:=(zbe t).2) h;have h3:=h2.last;obtain⟨e1,e2⟩:=zwx h1;have e3:(zD s p1).1=6:=h3.kind;refine⟨dL pl l.length (zD s p).2.1,?_⟩;rw[zR,if_pos e1,h1.stop,e2,e3,if_neg (by decide)];unfold yB;rw[e3,h3.stop];rfl
 | t::u::r,f,p,q,l,pl,_,hf,h=>by
  obtain⟨f,rfl⟩:∃ g,f=g+1:=⟨f-1,by simp at hf;omega⟩;obtain⟨p1,h1,h2⟩:=aH.head (l:=(7,[44])::zg7 (u::r)) (k:=(zbe t).1) (w:=(zbe t).2) h;obtain⟨p2,h3,h4⟩:=h2.head;obtain⟨e1,e2⟩:=zwx h1;obtain⟨DL,ih⟩:=zly (u::r) f p2 q (l++[t]) (dL pl l.length (zD s p).2.1) (by simp) (by simp at hf ⊢;omega) h4;refine⟨DL,?_⟩;rw[zR,if_pos e1,h1.stop,e2,h3.kind,if_pos rfl,h3.stop,ih,List.append_assoc];rfl
theorem zc5 {pd:B8}{ts:List (Bool × B8)}(h4:ts.length<=4)(h:aH s p (zks pd ts) q)(hq:ts=[]->(zD s q).1≠5):(zD s p).1=2/\∃ pl,yV s p=.yes q pd ts pl:=by
 cases ts with
 | nil=>
  have h1:ztf s p 2 (yF pd) q:=aH.last h;refine⟨h1.kind,λ _=>0,?_⟩;unfold yV;rw[if_pos h1.kind,h1.stop,if_neg (hq rfl),h1.word,zj5]
 | cons t r=>
  obtain⟨p1,h1,h2⟩:=aH.head (k:=2) (w:=yF pd) (l:=(5,[40])::zg7 (t::r)) h;obtain⟨p2,h3,h5⟩:=h2.head;obtain⟨pl,h6⟩:=zly (t::r) 4 p2 q [] (λ _=>0) (by simp) h4 h5;refine⟨h1.kind,pl,?_⟩;unfold yV;rw[if_pos h1.kind,h1.stop,h3.kind,if_pos rfl,h3.stop,h6,if_pos rfl,h1.word,zj5];rfl
def zgf (M:yU):Nat × Bool × B8 × List (Bool × B8):=(M.num,M.neg,M.pd,M.ts)
def zjo (n:Nat)(l:yX):Nat × Bool × B8 × List (Bool × B8):=(n,l.neg,l.pd,l.ts)
def zgw:Nat->List yG->List (Nat × Bool × B8 × List (Bool × B8))
 | _,[]=>[]
 | n,R::r=>(n,false,R.pd,R.ts)::(R.body.map (zjo n)++zgw (n+1) r)
theorem zr7 {l:yX}(h4:l.ts.length<=4)(h:aH s p (zrk l) q)(hq:l.ts=[]->(zD s q).1≠5):∃ pl,yV s (yB s p 4)=.yes q l.pd l.ts pl/\dM s p l.pd l.ts=l/\∀ num,zgf (dO s num p l.pd l.ts pl)=zjo num l:=by
 obtain⟨neg,pd,ts⟩:=l;unfold zrk at h
 cases neg with
 | false=>
  have h':aH s p (zks pd ts) q:=h;obtain⟨hk,pl,he⟩:=zc5 h4 h' hq;have hb:((zD s p).1==4)=false:=by rw[hk];rfl
  refine⟨pl,?_,?_,λ num=>?_⟩
  ·unfold yB;rw[hb];exact he
  ·unfold dM;rw[hb]
  ·unfold zgf dO zjo;simp only[hb]
 | true=>
  have h':aH s p ((4,[110,111,116])::zks pd ts) q:=h;obtain⟨p1,h1,h2⟩:=h'.head;obtain⟨hk,pl,he⟩:=zc5 h4 h2 hq;have hb:((zD s p).1==4)=true:=by rw[h1.kind];rfl
  refine⟨pl,?_,?_,λ num=>?_⟩
  ·unfold yB;rw[hb,h1.stop];exact he
  ·unfold dM;rw[hb]
  ·unfold zgf dO zjo;simp only[hb]
theorem znm {s:B8}{num:Nat}:∀ (b:List yX) (f p q:Nat) (l:List yX) (ms:List yU),b≠[]->b.length<=f->(∀ x∈b,x.ts.length<=4)->aH s p (zjf b) q->∃ ms',vB s num f p l ms=(true,q,l++b,ms++ms')/\ms'.map zgf=b.map (zjo num)
 | [],_,_,_,_,_,h,_,_,_=>absurd rfl h
 | [x],f,p,q,l,ms,_,hf,h4,h=>by
  obtain⟨f,rfl⟩:∃ g,f=g+1:=⟨f-1,by simp at hf;omega⟩;obtain⟨p1,h1,h2⟩:=aH.split (a:=zrk x) (b:=[(8,[46])]) h;have h3:=h2.last;have hk:(zD s p1).1=8:=h3.kind;obtain⟨pl,e1,e2,e3⟩:=zr7 (h4 x List.mem_cons_self) h1 (λ _=>by rw[hk];decide);refine⟨[dO s num p x.pd x.ts pl],?_,by rw[List.map_cons,e3];rfl⟩;rw[vB,e1];simp only;rw[hk,if_neg (by decide),e2];unfold yB;rw[hk,h3.stop];rfl
 | x::y::r,f,p,q,l,ms,_,hf,h4,h=>by
  obtain⟨f,rfl⟩:∃ g,f=g+1:=⟨f-1,by simp at hf;omega⟩;obtain⟨p1,h1,h2⟩:=aH.split (a:=zrk x) (b:=(7,[44])::zjf (y::r)) h;obtain⟨p2,h3,h5⟩:=h2.head;have hk:(zD s p1).1=7:=h3.kind;obtain⟨pl,e1,e2,e3⟩:=zr7 (h4 x List.mem_cons_self) h1 (λ _=>by rw[hk];decide);obtain⟨ms',Ku,Kv⟩:=znm (num:=num) (y::r) f p2 q (l++[x]) (ms++[dO s num p x.pd x.ts pl]) (by simp) (by simp at hf ⊢;omega) (λ z hz=>h4 z (List.mem_cons_of_mem _ hz)) h5;refine⟨dO s num p x.pd x.ts pl::ms',?_,by rw[List.map_cons,e3,Kv];rfl⟩;rw[vB,e1];simp only;rw[hk,if_pos rfl,e2,h3.stop,Ku,List.append_assoc,List.append_assoc];rfl
structure z5c (R:yG):Prop where
 ts:R.ts.length<=4
 body:R.body.length<=3
 DJ:∀ x∈R.body,x.ts.length<=4
theorem zyp {num:Nat}{R:yG}(hR:z5c R)(ms:List yU)(h:aH s p (zju R) q):(zD s p).1=2/\∃ ms',xG s num p ms=(true,q,R,ms++ms')/\ms'.map zgf=(num,false,R.pd,R.ts)::R.body.map (zjo num):=by
 obtain⟨pd,ts,body⟩:=R;unfold zju at h;obtain⟨p1,h1,h2⟩:=aH.split h
 cases body with
 | nil=>
  have h3:ztf s p1 8 [46] q:=aH.last h2;obtain⟨hk,pl,he⟩:=zc5 hR.ts h1 (λ _=>by rw[h3.kind];decide);refine⟨hk,[dc s num p pd ts pl],?_,rfl⟩;unfold xG;rw[he];simp only;rw[h3.kind,if_pos rfl,h3.stop]
 | cons x r=>
  obtain⟨p2,h3,h5⟩:=aH.head (k:=9) (w:=[58,45]) (l:=zjf (x::r)) h2;obtain⟨hk,pl,he⟩:=zc5 hR.ts h1 (λ _=>by rw[h3.kind];decide);obtain⟨ms',e1,e2⟩:=znm (num:=num) (x::r) 3 p2 q [] (ms++[dc s num p pd ts pl]) (by simp) hR.body hR.DJ h5;refine⟨hk,dc s num p pd ts pl::ms',?_,by rw[List.map_cons,e2];rfl⟩;unfold xG;rw[he];simp only;rw[h3.kind,if_neg (by decide),if_pos rfl,h3.stop,e1,List.append_assoc];rfl
theorem zlx {s:B8}{q:Nat}(hq:(zD s q).1=0):∀ (rules:List yG) (rs:List yG) (ms:List yU) (p f:Nat),(∀ R∈rules,z5c R)->rs.length+rules.length<=30->rules.length<f->aH s p (rules.flatMap zju) q->∃ ms',vG s f p rs ms=(true,q,rs++rules,ms++ms')/\ms'.map zgf=zgw rs.length rules
 | [],rs,ms,p,f,_,_,hf,h=>by
  obtain⟨f,rfl⟩:∃ g,f=g+1:=⟨f-1,by simp at hf;omega⟩
  cases h
  refine⟨[],?_,rfl⟩;rw[vG,if_pos hq,List.append_nil,List.append_nil]
 | R::r,rs,ms,p,f,hR,hl,hf,h=>by
  obtain⟨f,rfl⟩:∃ g,f=g+1:=⟨f-1,by simp at hf;omega⟩;rw[List.flatMap_cons] at h;obtain⟨p1,h1,h2⟩:=aH.split h;obtain⟨hk,Gz,e1,e2⟩:=zyp (num:=rs.length) (hR R List.mem_cons_self) ms h1;simp only[List.length_cons] at hl hf;obtain⟨KE,e3,e4⟩:=zlx hq r (rs++[R]) (ms++Gz) p1 f (λ x hx=>hR x (List.mem_cons_of_mem _ hx)) (by rw[List.length_append,List.length_singleton];omega) (by omega) h2;refine⟨Gz++KE,?_,?_⟩
  ·rw[vG,if_neg (by rw[hk];decide),if_neg (by omega),e1,if_pos rfl];simp only;rw[e3,List.append_assoc,List.append_assoc];rfl
  ·rw[List.map_append,e2,e4,List.length_append,List.length_singleton];rfl
theorem zsb {rules:List yG}(hq:(zD s q).1=0)(hR:∀ R∈rules,z5c R)(hl:rules.length<=30)(h:aH s 0 (rules.flatMap zju) q):(zO s).1=true/\(zO s).2.2.1=rules/\(zO s).2.2.2.map zgf=zgw 0 rules:=by
 obtain⟨ms,e1,e2⟩:=zlx hq rules [] [] 0 31 hR (by simpa using hl) (by omega) h;unfold zO;rw[e1];exact⟨rfl,rfl,e2⟩
end
section
structure qE (ar lv:B8->Nat)(R:yG):Prop where
 f:z5c R
 hd:R.ts.length=ar R.pd
 ls:∀ l∈R.body,l.ts.length=ar l.pd
 safe:∀ t∈R.ts,t.1=true->∃ l∈R.body,l.neg=false/\t∈l.ts
 mQ:∀ l∈R.body,l.neg=true->∀ t∈l.ts,t.1=true->∃ m∈R.body,m.neg=false/\t∈m.ts
 pos:∀ l∈R.body,lv l.pd<=lv R.pd
 neg:∀ l∈R.body,l.neg=true->lv l.pd<lv R.pd
theorem zlg {x:Nat × Bool × B8 × List (Bool × B8)}:∀ {rules:List yG} {n:Nat},x∈zgw n rules->∃ i R,rules[i]?=some R/\(x=(n+i,false,R.pd,R.ts)\/∃ l∈R.body,x=zjo (n+i) l)
 | [],_,h=>by cases h
 | R::r,n,h=>by
  rw[zgw] at h;rcases List.mem_cons.1 h with h | h
  ·exact⟨0,R,rfl,.inl h⟩
  ·rcases List.mem_append.1 h with h | h
   ·obtain⟨l,hl,e⟩:=List.mem_map.1 h;exact⟨0,R,rfl,.inr ⟨l,hl,e.symm⟩⟩
   ·obtain⟨i,Q,h1,h2⟩:=zlg h;refine⟨i+1,Q,by rw[List.getElem?_cons_succ];exact h1,?_⟩;rw[show n+(i+1)=n+1+i by omega];exact h2
theorem zr3 {ar:B8->Nat}:∀ (ms:List yU) (ps:P9),(∀ M∈ms,M.ts.length=ar M.pd)->(∀ k n,zZ ps k=some n->n=ar k)->zaq ms ps=-1
 | [],_,_,_=>rfl
 | M::r,ps,h,hp=>by
  have hM:=h M List.mem_cons_self;have hb:zdu ps M.pd M.ts.length=true:=by
   rw[qM]
   cases hn:zZ ps M.pd with
   | none=>rfl
   | some m=>simp only[beq_iff_eq];rw[hp _ _ hn,hM]
  rw[zaq,if_pos hb];refine zr3 r _ (λ N hN=>h N (List.mem_cons_of_mem _ hN)) λ k n hk=>?_
  unfold zao at hk
  split at hk
  ·rw[zfq] at hk
   cases hn:zZ ps k with
   | some m=>rw[hn] at hk;rw[<-Option.some.inj hk];exact hp _ _ hn
   | none=>
    rw[hn] at hk;simp only at hk
    split at hk
    ·rename_i he;rw[<-Option.some.inj hk,hM,zU.1 he]
    ·cases hk
  ·exact hp _ _ hk
theorem zni {ls:List yX}:∀ (ts:List (Bool × B8)) (k:Nat),(∀ t∈ts,t.1=true->zeo t.2 ls=true)->xH ls ts k=none
 | [],_,_=>rfl
 | t::r,k,h=>by
  rw[xH,if_neg]
  ·exact zni r (k+1) (λ u hu=>h u (List.mem_cons_of_mem _ hu))
  ·intro hx;simp only[Bool.and_eq_true,Bool.not_eq_true'] at hx;rw[h t List.mem_cons_self hx.1] at hx
   cases hx.2
theorem zoh {ls:List yX}{t:Bool × B8}(ht:t.1=true){l:yX}(hl:l∈ls)(hn:l.neg=false)(hm:t∈l.ts):zeo t.2 ls=true:=by
 unfold zeo;rw[List.any_eq_true];refine⟨l,List.mem_filter.2 ⟨hl,by rw[hn];rfl⟩,?_⟩;unfold zk7;rw[List.any_eq_true];exact⟨t,hm,by simp[ht]⟩
variable {lv:B8->Nat} {rules:List yG}
theorem z7k (h:∀ R∈rules,∀ l∈R.body,lv l.pd<=lv R.pd){a b:B8}(hr:zdj (xS rules) a b):lv b<=lv a:=by
 have one:∀ {a b},(a,b)∈xS rules->lv b<=lv a:=λ he=>by
  obtain⟨R,hR,he⟩:=List.mem_flatMap.1 he;obtain⟨l,hl,e⟩:=List.mem_map.1 he;injection e with e1 e2
  rw[<-e1,<-e2];exact h R hR l hl
 induction hr with
 | one he=>exact one he
 | next _ he ih=>exact Nat.le_trans (one he) ih
variable {ar:B8->Nat}
theorem zxx {ms:List yU}(hR:∀ R∈rules,qE ar lv R)(hk:ms.map zgf=zgw 0 rules):zcz rules ms=(0,0):=by
 have key:∀ M∈ms,∃ R,rules[M.num]?=some R/\R∈rules/\((M.neg=false/\M.pd=R.pd/\M.ts=R.ts)\/∃ l∈R.body,M.neg=l.neg/\M.pd=l.pd/\M.ts=l.ts):=λ M hM=>by
  have:zgf M∈zgw 0 rules:=by rw[<-hk];exact List.mem_map_of_mem hM
  obtain⟨i,R,h1,h2⟩:=zlg this;unfold zgf zjo at h2;simp only[Prod.mk.injEq,Nat.zero_add] at h2;have hm:R∈rules:=List.mem_of_getElem? h1;rcases h2 with⟨e1,e2,e3,e4⟩ | ⟨l,hl,e1,e2,e3,e4⟩
  ·exact⟨R,by rw[e1];exact h1,hm,.inl ⟨e2,e3,e4⟩⟩
  ·exact⟨R,by rw[e1];exact h1,hm,.inr ⟨l,hl,e2,e3,e4⟩⟩
 have p1:zaq ms []=-1:=zr3 (ar:=ar) ms [] (λ M hM=>by
  obtain⟨R,_,hm,⟨_,e1,e2⟩ | ⟨l,hl,_,e1,e2⟩⟩:=key M hM
  ·rw[e1,e2];exact (hR R hm).hd
  ·rw[e1,e2];exact (hR R hm).ls l hl) (λ k n h=>by cases h)
 have p2:∀ (l:List yU),(∀ M∈l,M∈ms)->vI rules l=-1:=by
  intro l
  induction l with
  | nil=>intro _;rfl
  | cons M r ih=>
   intro hl;obtain⟨R,h1,hm,h2⟩:=key M (hl M List.mem_cons_self);have hb:zep rules M.num=R.body:=(by unfold zep;rw[h1]);have hn:xH (zep rules M.num) M.ts 0=none:=by
    rw[hb];refine zni M.ts 0 λ t ht hv=>?_
    rcases h2 with⟨_,_,e⟩ | ⟨x,hx,e0,_,e⟩
    ·rw[e] at ht;obtain⟨x,hx,h3,h4⟩:=(hR R hm).safe t ht hv;exact zoh hv hx h3 h4
    ·rw[e] at ht
     cases hxn:x.neg with
     | false=>exact zoh hv hx hxn ht
     | true=>
      obtain⟨y,hy,h3,h4⟩:=(hR R hm).mQ x hx hxn t ht hv;exact zoh hv hy h3 h4
   rw[vI,hn];exact ih (λ N hN=>hl N (List.mem_cons_of_mem _ hN))
 have p3:∀ (l:List yU),(∀ M∈l,M∈ms)->j0 rules l=-1:=by
  intro l
  induction l with
  | nil=>intro _;rfl
  | cons M r ih=>
   intro hl;obtain⟨R,h1,hm,h2⟩:=key M (hl M List.mem_cons_self);have hh:zjn rules M.num=R.pd:=(by unfold zjn;rw[h1]);have hc:¬ z4x rules M=true:=λ hx=>by
    unfold z4x at hx;simp only[Bool.and_eq_true,Bool.or_eq_true,hh] at hx;obtain⟨eH,hx⟩:=hx;rcases h2 with⟨e,_,_⟩ | ⟨x,uZ,e0,e1,_⟩
    ·rw[e] at eH;cases eH
    ·rw[e0] at eH;have bP:=(hR R hm).neg x uZ eH;rw[e1] at hx;rcases hx with hx | hx
     ·rw[zU.1 hx] at bP;omega
     ·have J2:zdj (xS rules) x.pd R.pd:=by
       classical
       unfold zeu at hx;simpa using hx
      have:=z7k (lv:=lv) (λ Q hQ l hl=>(hR Q hQ).pos l hl) J2;omega
   rw[j0,if_neg hc];exact ih (λ N hN=>hl N (List.mem_cons_of_mem _ hN))
 unfold zcz;rw[p1,p2 ms (λ _ h=>h),p3 ms (λ _ h=>h)];rfl
theorem ybm {s:B8}{q:Nat}(hs:s.size<=800)(hq:(zD s q).1=0)(hR:∀ R∈rules,qE ar lv R)(hl:rules.length<=30)(h:aH s 0 (rules.flatMap zju) q):xJ s=(true,0,0)/\(zO s).2.2.1=rules:=by
 obtain⟨h1,h2,h3⟩:=zsb hq (λ R hr=>(hR R hr).f) hl h;refine⟨?_,h2⟩;rw[<-zt0];unfold zyl;rw[if_neg (by omega),h1,if_neg (by decide),h2,zxx hR h3,if_neg (by decide)]
end
section
abbrev zmq:=List UInt8 × Int × List UInt8
def zg9 (l:List zmq):List UInt8:=l.flatMap λ x=>x.1++x.2.2
theorem zsi (x:zmq)(l:List zmq):zg9 (x::l)=x.1++(x.2.2++zg9 l):=by unfold zg9;rw[List.flatMap_cons,List.append_assoc]
theorem zuk (a b:List zmq):zg9 (a++b)=zg9 a++zg9 b:=by unfold zg9;rw[List.flatMap_append]
def zbs (k:Int):List zmq->Prop
 | []=>k≠2/\k≠3/\k≠4
 | y::_=>y.1≠[]\/(¬ ((k=2\/k=4)/\(y.2.1=2\/y.2.1=4))/\¬ (k=3/\y.2.1=3))
def zqn:List zmq->Prop
 | []=>True
 | x::r=>(∀ c∈x.1,yH c.toNat=true)/\jH x.2.1 x.2.2/\zbs x.2.1 r/\zqn r
variable {k:Int}
theorem z4e {w:List UInt8}(h:jH k w):∃ c r,w=c::r/\(jJ c.toNat=true->k=2\/k=4)/\(yZ c.toNat=true->k=3):=by
 cases h with
 | name bG _ hw _=>
  obtain⟨c,r,rfl⟩:=List.exists_cons_of_ne_nil bG;refine⟨c,r,rfl,λ _=>.inl rfl,λ hh=>?_⟩;have:=hw c List.mem_cons_self;unfold jJ at this;unfold yZ at hh;simp at this hh;omega
 | var bG _ hw=>
  obtain⟨c,r,rfl⟩:=List.exists_cons_of_ne_nil bG;refine⟨c,r,rfl,λ hh=>?_,λ _=>rfl⟩;have:=hw c List.mem_cons_self;unfold yZ at this;unfold jJ at hh;simp at this hh;omega
 | rA=>exact⟨_,_,rfl,λ _=>.inr rfl,λ h=>absurd h (by decide)⟩
 | open_=>exact⟨_,_,rfl,λ h=>absurd h (by decide),λ h=>absurd h (by decide)⟩
 | shut=>exact⟨_,_,rfl,λ h=>absurd h (by decide),λ h=>absurd h (by decide)⟩
 | comma=>exact⟨_,_,rfl,λ h=>absurd h (by decide),λ h=>absurd h (by decide)⟩
 | dot=>exact⟨_,_,rfl,λ h=>absurd h (by decide),λ h=>absurd h (by decide)⟩
 | mR=>exact⟨_,_,rfl,λ h=>absurd h (by decide),λ h=>absurd h (by decide)⟩
theorem z99 {l:List zmq}{rest:List UInt8}(ha:zbs k l)(ho:zqn l):ydw k (zg9 l++rest):=by
 intro c r' e
 cases l with
 | nil=>exact⟨λ h=>by rcases h with h | h;exact absurd h ha.1;exact absurd h ha.2.2,λ h=>absurd h ha.2.1⟩
 | cons y l=>
  obtain⟨hb,ht,_,_⟩:=ho;rw[zsi,List.append_assoc] at e;rcases ha with bG | ⟨h1,h2⟩
  ·obtain⟨d,b,hd⟩:=List.exists_cons_of_ne_nil bG;rw[hd] at e hb;injection e with e1
   have:=hb d List.mem_cons_self;rw[e1] at this;unfold yH at this;simp at this
   constructor
   ·intro _;unfold jJ;simp;omega
   ·intro _;unfold yZ;simp;omega
  ·by_cases hyb:y.1=[]
   ·rw[hyb,List.nil_append] at e;obtain⟨d,w,hw,hl,hh⟩:=z4e ht;rw[hw] at e;injection e with e1
    rw[<-e1]
    constructor
    ·intro hk
     cases hx:jJ d.toNat with
     | false=>rfl
     | true=>exact absurd ⟨hk,hl hx⟩ h1
    ·intro hk
     cases hx:yZ d.toNat with
     | false=>rfl
     | true=>exact absurd ⟨hk,hh hx⟩ h2
   ·obtain⟨d,b,hd⟩:=List.exists_cons_of_ne_nil hyb;rw[hd] at e hb;injection e with e1
    have:=hb d List.mem_cons_self;rw[e1] at this;unfold yH at this;simp at this
    constructor
    ·intro _;unfold jJ;simp;omega
    ·intro _;unfold yZ;simp;omega
theorem zmg {s:B8}{rest:List UInt8}:∀ (l:List zmq) (p:Nat),zqn l->(yF s).drop p=zg9 l++rest->∃ q,aH s p (l.map (·.2)) q/\(yF s).drop q=rest
 | [],p,_,h=>⟨p,.nil p,h⟩
 | x::l,p,ho,h=>by
  obtain⟨hb,ht,ha,FT⟩:=ho;rw[zsi,List.append_assoc,List.append_assoc] at h;obtain⟨h1,h2⟩:=ydf h hb ht (z99 ha FT);obtain⟨q,h3,h4⟩:=zmg l _ FT h2;exact⟨q,.cons h1 h3,h4⟩
def qF:List (Bool × B8)->List zmq
 | []=>[]
 | [t]=>[([],zbe t),([],6,[41])]
 | t::u::r=>([],zbe t)::([],7,[44])::qF (u::r)
def qI (b:List UInt8)(pd:B8)(ts:List (Bool × B8)):List zmq:=match ts with
 | []=>[(b,2,yF pd)]
 | t::r=>(b,2,yF pd)::([],5,[40])::qF (t::r)
def zj0 (b:List UInt8)(l:yX):List zmq:=if l.neg then (b,4,[110,111,116])::qI [32] l.pd l.ts else qI b l.pd l.ts
def zbg:List yX->List zmq
 | []=>[]
 | [l]=>zj0 [32] l++[([],8,[46])]
 | l::m::r=>zj0 [32] l++([],7,[44])::zbg (m::r)
def zah (b:List UInt8)(R:yG):List zmq:=qI b R.pd R.ts++match R.body with
 | []=>[([],8,[46])]
 | l::r=>([32],9,[58,45])::zbg (l::r)
def zay (sep b:List UInt8):List yG->List zmq
 | []=>[]
 | R::r=>zah b R++zay sep sep r
theorem zn0:∀ ts,(qF ts).map (·.2)=zg7 ts
 | []=>rfl
 | [_]=>rfl
 | t::u::r=>by rw[qF,zg7,List.map_cons,List.map_cons,zn0 (u::r)]
theorem zhe (b:List UInt8)(pd:B8)(ts:List (Bool × B8)):(qI b pd ts).map (·.2)=zks pd ts:=by
 cases ts with
 | nil=>rfl
 | cons t r=>unfold qI zks;simp only[List.map_cons,zn0]
theorem zv5 (b:List UInt8)(l:yX):(zj0 b l).map (·.2)=zrk l:=by
 unfold zj0 zrk
 cases l.neg with
 | true=>simp only[if_true,List.map_cons,zhe];rfl
 | false=>simp only[Bool.false_eq_true,if_false,zhe];rfl
theorem zqs:∀ ls,(zbg ls).map (·.2)=zjf ls
 | []=>rfl
 | [l]=>by rw[zbg,zjf,List.map_append,zv5];rfl
 | l::m::r=>by rw[zbg,zjf,List.map_append,zv5,List.map_cons,zqs (m::r)]
theorem z3h (b:List UInt8)(R:yG):(zah b R).map (·.2)=zju R:=by
 unfold zah zju;rw[List.map_append,zhe]
 congr 1
 cases R.body with
 | nil=>rfl
 | cons l r=>simp only[List.map_cons,zqs]
theorem znt (sep:List UInt8):∀ (rules:List yG) (b:List UInt8),(zay sep b rules).map (·.2)=rules.flatMap zju
 | [],_=>rfl
 | R::r,b=>by rw[zay,List.map_append,z3h,znt sep r sep,List.flatMap_cons]
structure zbb (R:yG):Prop where
 pd:jH 2 (yF R.pd)
 ts:∀ t∈R.ts,jH (zbe t).1 (zbe t).2
 JY:∀ l∈R.body,jH 2 (yF l.pd)
 DJ:∀ l∈R.body,∀ t∈l.ts,jH (zbe t).1 (zbe t).2
theorem zln:∀ (a b:List zmq),zqn a->zqn b->(a=[]\/∃ a' x,a=a'++[x]/\zbs x.2.1 b)->zqn (a++b)
 | [],b,_,hb,_=>hb
 | [x],b,ha,hb,h=>by
  rcases h with h | ⟨a',y,e,hy⟩
  ·cases h
  ·have km:x=y:=by
    cases a' with
    | nil=>injection e
    | cons z a'=>injection e with _ e;cases a' <;> cases e
   subst km;exact⟨ha.1,ha.2.1,hy,hb⟩
 | x::y::r,b,ha,hb,h=>by
  refine⟨ha.1,ha.2.1,ha.2.2.1,zln (y::r) b ha.2.2.2 hb (.inr ?_)⟩;rcases h with h | ⟨a',z,e,hz⟩
  ·cases h
  ·cases a' with
   | nil=>injection e with _ e;cases e
   | cons u a'=>injection e with _ e;exact⟨a',z,e,hz⟩
theorem zi9:∀ (ts:List (Bool × B8)),ts≠[]->(∀ t∈ts,jH (zbe t).1 (zbe t).2)->zqn (qF ts)/\∃ a,qF ts=a++[([],6,[41])]
 | [],h,_=>absurd rfl h
 | [t],_,h=>⟨⟨by simp,h t List.mem_cons_self,.inr ⟨by simp,by simp⟩,by simp,.shut,by simp[zbs],trivial⟩,[([],zbe t)],rfl⟩
 | t::u::r,_,h=>by
  obtain⟨h1,a,h2⟩:=zi9 (u::r) (by simp) (λ x hx=>h x (List.mem_cons_of_mem _ hx));have ha:zbs 7 (qF (u::r)):=by
   cases r with
   | nil=>exact .inr ⟨by simp,by simp⟩
   | cons v r=>exact .inr ⟨by simp,by simp⟩
  refine⟨⟨by simp,h t List.mem_cons_self,.inr ⟨by simp,by simp⟩,by simp,.comma,ha,h1⟩,([],zbe t)::([],7,[44])::a,?_⟩;rw[qF,h2];rfl
theorem zqq (c:UInt8)(h:c=32\/c=10):yH c.toNat=true:=by rcases h with rfl | rfl <;> decide
variable {r:List zmq} {b:List UInt8}
theorem ML (hb:∀ c∈b,yH c.toNat=true){pd:B8}(hp:jH 2 (yF pd)){ts:List (Bool × B8)}(ht:∀ t∈ts,jH (zbe t).1 (zbe t).2)(hr:zqn r)(ez:zbs 2 r)(fc:zbs 6 r):zqn (qI b pd ts++r):=by
 cases ts with
 | nil=>exact⟨hb,hp,ez,hr⟩
 | cons t q=>
  obtain⟨h1,a,h2⟩:=zi9 (t::q) (by simp) ht;have ha:zbs 5 (qF (t::q)++r):=by
   cases q with
   | nil=>exact .inr ⟨by simp,by simp⟩
   | cons v q=>exact .inr ⟨by simp,by simp⟩
  exact⟨hb,hp,.inr ⟨by simp,by simp⟩,by simp,.open_,ha,zln _ r h1 hr (.inr ⟨a,_,h2,fc⟩)⟩
theorem zv4 {l:yX}(hp:jH 2 (yF l.pd))(ht:∀ t∈l.ts,jH (zbe t).1 (zbe t).2)(hr:zqn r)(ez:zbs 2 r)(fc:zbs 6 r):zqn (zj0 [32] l++r)/\∀ k,zbs k (zj0 [32] l++r):=by
 have hb:∀ c∈[(32:UInt8)],yH c.toNat=true:=λ c hc=>zqq c (.inl (List.mem_singleton.1 hc))
 unfold zj0
 cases l.neg with
 | true=>
  simp only[if_true];refine⟨⟨hb,.rA,?_,ML hb hp ht hr ez fc⟩,λ k=>.inl (by simp)⟩;unfold qI
  split <;> exact .inl (by simp)
 | false=>
  simp only[Bool.false_eq_true,if_false];refine⟨ML hb hp ht hr ez fc,λ k=>?_⟩;unfold qI
  split <;> exact .inl (by simp)
theorem zqr:∀ (ls:List yX),ls≠[]->(∀ l∈ls,jH 2 (yF l.pd))->(∀ l∈ls,∀ t∈l.ts,jH (zbe t).1 (zbe t).2)->∀ {r:List zmq},zqn r->zbs 8 r->zqn (zbg ls++r)/\∀ k,zbs k (zbg ls++r)
 | [],h,_,_,_,_,_=>absurd rfl h
 | [l],_,hp,ht,r,hr,ha=>by
  rw[zbg,List.append_assoc];exact zv4 (hp l List.mem_cons_self) (ht l List.mem_cons_self) (r:=[([],8,[46])]++r) ⟨by simp,.dot,ha,hr⟩ (.inr ⟨by simp,by simp⟩) (.inr ⟨by simp,by simp⟩)
 | l::m::q,_,hp,ht,r,hr,ha=>by
  obtain⟨h1,h2⟩:=zqr (m::q) (by simp) (λ x hx=>hp x (List.mem_cons_of_mem _ hx)) (λ x hx=>ht x (List.mem_cons_of_mem _ hx)) hr ha;rw[zbg,List.append_assoc];exact zv4 (hp l List.mem_cons_self) (ht l List.mem_cons_self) (r:=([],7,[44])::zbg (m::q)++r) ⟨by simp,.comma,h2 7,h1⟩ (.inr ⟨by simp,by simp⟩) (.inr ⟨by simp,by simp⟩)
theorem z3g (hb:∀ c∈b,yH c.toNat=true){R:yG}(hw:zbb R)(hr:zqn r)(ha:zbs 8 r):zqn (zah b R++r):=by
 unfold zah;rw[List.append_assoc]
 cases cU:R.body with
 | nil=>exact ML hb hw.pd hw.ts (r:=[([],8,[46])]++r) ⟨by simp,.dot,ha,hr⟩ (.inr ⟨by simp,by simp⟩) (.inr ⟨by simp,by simp⟩)
 | cons l q=>
  obtain⟨h1,h2⟩:=zqr (l::q) (by simp) (by rw[<-cU];exact hw.JY) (by rw[<-cU];exact hw.DJ) hr ha;exact ML hb hw.pd hw.ts (r:=([32],9,[58,45])::zbg (l::q)++r) ⟨λ c hc=>zqq c (.inl (List.mem_singleton.1 hc)),.mR,h2 9,h1⟩ (.inl (by simp)) (.inl (by simp))
theorem zns {sep:List UInt8}(hs:∀ c∈sep,yH c.toNat=true)(bG:sep≠[]):∀ (rules:List yG) (b:List UInt8),(∀ c∈b,yH c.toNat=true)->(∀ R∈rules,zbb R)->zqn (zay sep b rules)
 | [],_,_,_=>trivial
 | R::r,b,hb,hw=>by
  refine z3g hb (hw R List.mem_cons_self) (zns hs bG r sep hs (λ x hx=>hw x (List.mem_cons_of_mem _ hx))) ?_
  cases r with
  | nil=>exact⟨by decide,by decide,by decide⟩
  | cons Q r=>
   rw[zay];unfold zah qI
   cases Q.ts <;> exact .inl bG
theorem zjc {s:B8}{sep tail:List UInt8}(hs:∀ c∈sep,yH c.toNat=true)(bG:sep≠[])(fZ:∀ c∈tail,yH c.toNat=true){rules:List yG}{ar lv:B8->Nat}(hsz:s.size<=800)(hR:∀ R∈rules,qE ar lv R)(hw:∀ R∈rules,zbb R)(hl:rules.length<=30)(h:yF s=zg9 (zay sep [] rules)++tail):xJ s=(true,0,0)/\(zO s).2.2.1=rules:=by
 obtain⟨q,h1,h2⟩:=zmg (s:=s) (rest:=tail) (zay sep [] rules) 0 (zns hs bG rules [] (by simp) hw) h;rw[znt] at h1;exact ybm hsz (zn5 h2 fZ) hR hl h1
end
end Go.Proofs.YtldkpahaocjdpaaGreat
