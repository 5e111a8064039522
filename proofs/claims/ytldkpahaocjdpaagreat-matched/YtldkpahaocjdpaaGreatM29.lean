/-
  Plain: the tokens of a text that is known byte by byte.
-/
import Derived.Test.YtldkpahaocjdpaaGreatM28
set_option maxHeartbeats 16000000
set_option maxRecDepth 1000000
namespace Go.Proofs.YtldkpahaocjdpaaGreat
section
def zT (s:B8):List UInt8:=s.data.toList
theorem zff (s:B8):(zT s).length=s.size:=by unfold zT;rw[Array.length_toList];rfl
variable {i:Nat} {s:B8}
theorem zwo (h:i<s.size):(zT s)[i]?=some s[i]:=by
 unfold zT;rw[Array.getElem?_toList];have:s.data[i]?=some s.data[i]:=Array.getElem?_eq_getElem h;exact this
variable {r:List UInt8}
theorem zos {c:UInt8}(h:(zT s).drop i=c::r):∃ hi:i<s.size,s[i]=c/\(zT s).drop (i+1)=r:=by
 have hi:i<s.size:=by
  rw[<-zff];apply Nat.lt_of_not_le;intro hl;rw[List.drop_eq_nil_of_le hl] at h;cases h
 have h1:=zwo hi;have h2:((zT s).drop i)[0]?=some c:=by rw[h];rfl
 rw[List.getElem?_drop,Nat.add_zero,h1] at h2;refine⟨hi,Option.some.inj h2,?_⟩;have:(zT s).drop (i+1)=((zT s).drop i).drop 1:=by rw[List.drop_drop]
 rw[this,h];rfl
theorem zfb (q:Int->Bool){s:B8}:∀ (w:List UInt8) (i:Nat) (r:List UInt8),(zT s).drop i=w++r->(∀ c∈w,q c.toNat=true)->(∀ c r',r=c::r'->q c.toNat=false)->xB q s i=i+w.length
 | [],i,r,h,_,hr=>by
  cases r with
  | nil=>
   have:¬ i<s.size:=λ hi=>by
    rw[<-zff] at hi;have:=List.length_drop (i:=i) (l:=zT s);rw[h] at this;simp at this;omega
   rw[zd1 _ _ _ this];rfl
  | cons c r'=>
   obtain⟨hi,hc,_⟩:=zos (c:=c) (r:=r') h;rw[za1 q s i hi (by rw[hc];exact hr c r' rfl)];rfl
 | c::w,i,r,h,hw,hr=>by
  obtain⟨hi,hc,hd⟩:=zos (c:=c) (r:=w++r) h;rw[za0 q s i hi (by rw[hc];exact hw c List.mem_cons_self),zfb q w (i+1) r hd (λ x hx=>hw x (List.mem_cons_of_mem _ hx)) hr,List.length_cons];omega
variable {w:List UInt8}
theorem zem (h:(zT s).drop i=w++r):s.extract i (i+w.length)=⟨w.toArray⟩:=by
 apply ByteArray.ext;apply Array.toList_inj.1
 show (s.extract i (i+w.length)).data.toList=w
 rw[ByteArray.data_extract,Array.toList_extract,List.extract_eq_take_drop]
 show ((zT s).drop i).take (i+w.length-i)=w
 rw[h,show i+w.length-i=w.length by omega,List.take_left' rfl]
structure zsw (s:B8)(p:Nat)(k:Int)(w:List UInt8)(q:Nat):Prop where
 kind:(zD s p).1=k
 word:yS s p=⟨w.toArray⟩
 stop:(zD s p).2.2=q
inductive jP:Int->List UInt8->Prop
 | name {w:List UInt8}:w≠[]->w.length<=8->(∀ c∈w,jG c.toNat=true)->w≠[110,111,116]->jP 2 w
 | var {w:List UInt8}:w≠[]->w.length<=8->(∀ c∈w,xD c.toNat=true)->jP 3 w
 | rA:jP 4 [110,111,116]
 | open_:jP 5 [40]
 | shut:jP 6 [41]
 | comma:jP 7 [44]
 | dot:jP 8 [46]
 | mR:jP 9 [58,45]
def ycl (k:Int)(r:List UInt8):Prop:=∀ c r',r=c::r'->((k=2\/k=4)->jG c.toNat=false)/\(k=3->xD c.toNat=false)
theorem z06 {a:Nat}(k:Int)(n p:Nat)(hp:xB yF s p=a)(h:qE (s.extract a s.size)=(k,n)):(zD s p).1=k/\(zD s p).2.1=a/\(zD s p).2.2=a+n:=by
 unfold zD;rw[hp,h];exact⟨rfl,rfl,rfl⟩
theorem zvb (s:B8)(a:Nat):zT (s.extract a s.size)=(zT s).drop a:=by
 unfold zT;rw[ByteArray.data_extract,Array.toList_extract,List.extract_eq_take_drop,List.take_of_length_le];rw[List.length_drop,Array.length_toList];exact Nat.le_refl _
theorem zb5 (w:List UInt8):(⟨w.toArray⟩:B8).toList=w:=by rw[ByteArray.toList_eq]
variable {k:Int}
theorem z5d {r:B8}{rest:List UInt8}(hk:jP k w)(h:zT r=w++rest)(he:ycl k rest):qE r=(k,w.length):=by
 have h0:(zT r).drop 0=w++rest:=h;have hsz:r.size=w.length+rest.length:=by rw[<-zff,h,List.length_append]
 have lV:r.extract 0 w.length=⟨w.toArray⟩:=by have:=zem h0;rwa [Nat.zero_add] at this
 have first:∀ c w',w=c::w'->∃ hi:0<r.size,r[0]=c:=λ c w' e=>by
  rw[e] at h0;obtain⟨hi,hc,_⟩:=zos h0;exact⟨hi,hc⟩
 have aX:(∀ c∈w,jG c.toNat=true)->(k=2\/k=4)->xB jG r 0=w.length:=λ hw hk=>by
  have:=zfb jG w 0 rest h0 hw (λ c r' e=>(he c r' e).1 hk)
  rwa [Nat.zero_add] at this
 cases hk with
 | name bG hl hw hn=>
  obtain⟨c,w',e⟩:=List.exists_cons_of_ne_nil bG;obtain⟨hi,hc⟩:=first c w' e;have gD:jG (r[0].toNat:Int)=true:=by rw[hc];exact hw c (by rw[e];exact List.mem_cons_self)
  unfold qE;rw[dif_pos hi,if_pos gD];unfold zhe;rw[aX hw (.inl rfl),if_neg (by omega),lV,zb5,if_neg hn]
 | var bG hl hw=>
  obtain⟨c,w',e⟩:=List.exists_cons_of_ne_nil bG;obtain⟨hi,hc⟩:=first c w' e;have Jc:=hw c (by rw[e];exact List.mem_cons_self);have mC:xD (r[0].toNat:Int)=true:=by rw[hc];exact Jc
  have nA:¬ jG (r[0].toNat:Int)=true:=by
   unfold xD at mC;unfold jG;simp at mC ⊢;omega
  have nJ:xB xD r 0=w.length:=by
   have:=zfb xD w 0 rest h0 hw (λ c r' e=>(he c r' e).2 rfl)
   rwa [Nat.zero_add] at this
  unfold qE;rw[dif_pos hi,if_neg nA,if_pos mC];unfold z3l;rw[nJ,if_neg (by omega)]
 | rA=>
  obtain⟨hi,hc⟩:=first 110 [111,116] rfl;have gD:jG (r[0].toNat:Int)=true:=by rw[hc];decide
  unfold qE;rw[dif_pos hi,if_pos gD];unfold zhe;rw[aX (by decide) (.inr rfl),if_neg (by decide),lV,zb5,if_pos rfl]
 | open_=>
  obtain⟨hi,hc⟩:=first 40 [] rfl;have h1:(r.extract 0 1).toList=[40]:=by have:r.extract 0 1=_:=lV;rw[this,zb5]
  unfold qE;rw[dif_pos hi,if_neg (by rw[hc];decide),if_neg (by rw[hc];decide)];unfold zc8;rw[if_pos ⟨by omega,h1⟩];rfl
 | shut=>
  obtain⟨hi,hc⟩:=first 41 [] rfl;have h1:(r.extract 0 1).toList=[41]:=by have:r.extract 0 1=_:=lV;rw[this,zb5]
  unfold qE;rw[dif_pos hi,if_neg (by rw[hc];decide),if_neg (by rw[hc];decide)];unfold zc8;rw[h1,if_neg (λ x=>by cases x.2),if_pos ⟨by omega,rfl⟩];rfl
 | comma=>
  obtain⟨hi,hc⟩:=first 44 [] rfl;have h1:(r.extract 0 1).toList=[44]:=by have:r.extract 0 1=_:=lV;rw[this,zb5]
  unfold qE;rw[dif_pos hi,if_neg (by rw[hc];decide),if_neg (by rw[hc];decide)];unfold zc8;rw[h1,if_neg (λ x=>by cases x.2),if_neg (λ x=>by cases x.2),if_pos ⟨by omega,rfl⟩];rfl
 | dot=>
  obtain⟨hi,hc⟩:=first 46 [] rfl;have h1:(r.extract 0 1).toList=[46]:=by have:r.extract 0 1=_:=lV;rw[this,zb5]
  unfold qE;rw[dif_pos hi,if_neg (by rw[hc];decide),if_neg (by rw[hc];decide)];unfold zc8;rw[h1,if_neg (λ x=>by cases x.2),if_neg (λ x=>by cases x.2),if_neg (λ x=>by cases x.2),if_pos ⟨by omega,rfl⟩];rfl
 | mR=>
  obtain⟨hi,hc⟩:=first 58 [45] rfl;have h2:(r.extract 0 2).toList=[58,45]:=by have:r.extract 0 2=_:=lV;rw[this,zb5]
  have h1:(r.extract 0 1).toList=[58]:=by
   have:=zem (s:=r) (i:=0) (w:=[58]) (r:=45::rest) h0;rw[show r.extract 0 1=_ from this,zb5]
  have h3:2<=r.size:=by rw[hsz];simp
  unfold qE;rw[dif_pos hi,if_neg (by rw[hc];decide),if_neg (by rw[hc];decide)];unfold zc8;rw[h1,h2,if_neg (λ x=>by cases x.2),if_neg (λ x=>by cases x.2),if_neg (λ x=>by cases x.2),if_neg (λ x=>by cases x.2),if_pos ⟨h3,rfl⟩];rfl
variable {b:List UInt8} {p:Nat}
theorem yb2 (h:(zT s).drop p=b++(w++r))(hb:∀ c∈b,yF c.toNat=true)(hk:jP k w)(he:ycl k r):zsw s p k w (p+b.length+w.length)/\(zT s).drop (p+b.length+w.length)=r:=by
 have dJ:∀ c r',w++r=c::r'->yF c.toNat=false:=λ c r' e=>by
  have low:∀ x:UInt8,jG x.toNat=true->yF x.toNat=false:=λ x hx=>by
   unfold jG at hx;unfold yF;simp at hx ⊢;omega
  have high:∀ x:UInt8,xD x.toNat=true->yF x.toNat=false:=λ x hx=>by
   unfold xD at hx;unfold yF;simp at hx ⊢;omega
  cases hk with
  | name bG _ hw _=>
   obtain⟨d,w',e'⟩:=List.exists_cons_of_ne_nil bG;rw[e'] at e hw;injection e with e1
   rw[<-e1];exact low _ (hw d List.mem_cons_self)
  | var bG _ hw=>
   obtain⟨d,w',e'⟩:=List.exists_cons_of_ne_nil bG;rw[e'] at e hw;injection e with e1
   rw[<-e1];exact high _ (hw d List.mem_cons_self)
  | rA=>injection e with e1;rw[<-e1];decide
  | open_=>injection e with e1;rw[<-e1];decide
  | shut=>injection e with e1;rw[<-e1];decide
  | comma=>injection e with e1;rw[<-e1];decide
  | dot=>injection e with e1;rw[<-e1];decide
  | mR=>injection e with e1;rw[<-e1];decide
 have nJ:=zfb yF b p (w++r) h hb dJ;have hd:(zT s).drop (p+b.length)=w++r:=by rw[<-List.drop_drop,h,List.drop_left' rfl]
 have hm:=z5d (r:=s.extract (p+b.length) s.size) hk (by rw[zvb];exact hd) he;obtain⟨h1,h2,h3⟩:=z06 k w.length p nJ hm;refine⟨⟨h1,?_,h3⟩,by rw[<-List.drop_drop,hd,List.drop_left' rfl]⟩;unfold yS;rw[h2,h3];exact zem hd
theorem zoe (h:(zT s).drop p=b)(hb:∀ c∈b,yF c.toNat=true):(zD s p).1=0:=by
 have nJ:=zfb yF b p [] (by rw[List.append_nil];exact h) hb (λ c r' e=>by cases e);have hz:¬ 0<(s.extract (p+b.length) s.size).size:=by
  rw[<-zff,zvb,<-List.drop_drop,h,List.drop_length];exact Nat.lt_irrefl 0
 have hm:qE (s.extract (p+b.length) s.size)=(0,0):=by unfold qE;rw[dif_neg hz]
 exact (z06 0 0 p nJ hm).1
end
section
abbrev TkL:=List (Int × List UInt8)
inductive aD (s:B8):Nat->TkL->Nat->Prop
 | nil (p:Nat):aD s p [] p
 | cons {p q r:Nat} {k:Int} {w:List UInt8} {l:TkL}:zsw s p k w q->aD s q l r->aD s p ((k,w)::l) r
theorem aD.split {s:B8}{b:TkL}{r:Nat}:∀ {a:TkL} {p:Nat},aD s p (a++b) r->∃ q,aD s p a q/\aD s q b r
 | [],p,h=>⟨p,.nil p,h⟩
 | x::a,p,h=>by
  cases h with
  | cons h1 h2=>
   obtain⟨q,h3,h4⟩:=aD.split h2;exact⟨q,.cons h1 h3,h4⟩
variable {w:List UInt8} {k:Int} {p r:Nat} {s:B8}
theorem aD.head {l:TkL}(h:aD s p ((k,w)::l) r):∃ q,zsw s p k w q/\aD s q l r:=by
 cases h with
 | cons h1 h2=>exact⟨_,h1,h2⟩
theorem aD.last (h:aD s p [(k,w)] r):zsw s p k w r:=by
 obtain⟨q,h1,h2⟩:=h.head
 cases h2
 exact h1
theorem zdj (n:B8):(⟨(zT n).toArray⟩:B8)=n:=by unfold zT;rw[Array.toArray_toList]
def zbe (t:Bool × B8):Int × List UInt8:=(if t.1 then 3 else 2,zT t.2)
def zgs:List (Bool × B8)->TkL
 | []=>[]
 | [t]=>[zbe t,(6,[41])]
 | t::u::r=>zbe t::(7,[44])::zgs (u::r)
def zki (pd:B8)(ts:List (Bool × B8)):TkL:=match ts with
 | []=>[(2,zT pd)]
 | t::r=>(2,zT pd)::(5,[40])::zgs (t::r)
def zq1 (l:yX):TkL:=(if l.neg then [(4,[110,111,116])] else [])++zki l.pd l.ts
def zi5:List yX->TkL
 | []=>[]
 | [l]=>zq1 l++[(8,[46])]
 | l::m::r=>zq1 l++(7,[44])::zi5 (m::r)
def zjk (R:yK):TkL:=zki R.pd R.ts++match R.body with
 | []=>[(8,[46])]
 | l::r=>(9,[58,45])::zi5 (l::r)
variable {q:Nat}
theorem zwa {t:Bool × B8}(h:zsw s p (zbe t).1 (zbe t).2 q):((zD s p).1=2\/(zD s p).1=3)/\(decide ((zD s p).1=3),yS s p)=t:=by
 obtain⟨b,n⟩:=t;have hk:=h.kind;have hw:=h.word;unfold zbe at hk hw;simp only at hk hw;rw[zdj] at hw
 cases b with
 | true=>simp only[if_true] at hk;exact⟨.inr hk,by rw[hk,hw];rfl⟩
 | false=>simp only[Bool.false_eq_true,if_false] at hk;exact⟨.inl hk,by rw[hk,hw];rfl⟩
theorem zlr {s:B8}:∀ (ts:List (Bool × B8)) (f p q:Nat) (l:List (Bool × B8)) (pl:Nat->Nat),ts≠[]->ts.length<=f->aD s p (zgs ts) q->∃ DL,zQ s f p l pl=(true,q,l++ts,DL)
 | [],_,_,_,_,_,h,_,_=>absurd rfl h
 | [t],f,p,q,l,pl,_,hf,h=>by
  obtain⟨f,rfl⟩:∃ g,f=g+1:=⟨f-1,by simp at hf;omega⟩;obtain⟨p1,h1,h2⟩:=aD.head (l:=[(6,[41])]) (k:=(zbe t).1) (w:=(zbe t).2) h;have h3:=h2.last;obtain⟨e1,e2⟩:=zwa h1;have e3:(zD s p1).1=6:=h3.kind;refine⟨dL pl l.length (zD s p).2.1,?_⟩;rw[zQ,if_pos e1,h1.stop,e2,e3,if_neg (by decide)];unfold zZ;rw[e3,h3.stop];rfl
 | t::u::r,f,p,q,l,pl,_,hf,h=>by
  obtain⟨f,rfl⟩:∃ g,f=g+1:=⟨f-1,by simp at hf;omega⟩;obtain⟨p1,h1,h2⟩:=aD.head (l:=(7,[44])::zgs (u::r)) (k:=(zbe t).1) (w:=(zbe t).2) h;obtain⟨p2,h3,h4⟩:=h2.head;obtain⟨e1,e2⟩:=zwa h1;obtain⟨DL,ih⟩:=zlr (u::r) f p2 q (l++[t]) (dL pl l.length (zD s p).2.1) (by simp) (by simp at hf ⊢;omega) h4;refine⟨DL,?_⟩;rw[zQ,if_pos e1,h1.stop,e2,h3.kind,if_pos rfl,h3.stop,ih,List.append_assoc];rfl
theorem zc2 {pd:B8}{ts:List (Bool × B8)}(h4:ts.length<=4)(h:aD s p (zki pd ts) q)(hq:ts=[]->(zD s q).1≠5):(zD s p).1=2/\∃ pl,yV s p=.yes q pd ts pl:=by
 cases ts with
 | nil=>
  have h1:zsw s p 2 (zT pd) q:=aD.last h;refine⟨h1.kind,λ _=>0,?_⟩;unfold yV;rw[if_pos h1.kind,h1.stop,if_neg (hq rfl),h1.word,zdj]
 | cons t r=>
  obtain⟨p1,h1,h2⟩:=aD.head (k:=2) (w:=zT pd) (l:=(5,[40])::zgs (t::r)) h;obtain⟨p2,h3,h5⟩:=h2.head;obtain⟨pl,h6⟩:=zlr (t::r) 4 p2 q [] (λ _=>0) (by simp) h4 h5;refine⟨h1.kind,pl,?_⟩;unfold yV;rw[if_pos h1.kind,h1.stop,h3.kind,if_pos rfl,h3.stop,h6,if_pos rfl,h1.word,zdj];rfl
def zf5 (M:yT):Nat × Bool × B8 × List (Bool × B8):=(M.num,M.neg,M.pd,M.ts)
def zje (n:Nat)(l:yX):Nat × Bool × B8 × List (Bool × B8):=(n,l.neg,l.pd,l.ts)
def zgk:Nat->List yK->List (Nat × Bool × B8 × List (Bool × B8))
 | _,[]=>[]
 | n,R::r=>(n,false,R.pd,R.ts)::(R.body.map (zje n)++zgk (n+1) r)
theorem zrn {l:yX}(h4:l.ts.length<=4)(h:aD s p (zq1 l) q)(hq:l.ts=[]->(zD s q).1≠5):∃ pl,yV s (zZ s p 4)=.yes q l.pd l.ts pl/\dc s p l.pd l.ts=l/\∀ num,zf5 (dm s num p l.pd l.ts pl)=zje num l:=by
 obtain⟨neg,pd,ts⟩:=l;unfold zq1 at h
 cases neg with
 | false=>
  have h':aD s p (zki pd ts) q:=h;obtain⟨hk,pl,he⟩:=zc2 h4 h' hq;have hb:((zD s p).1==4)=false:=by rw[hk];rfl
  refine⟨pl,?_,?_,λ num=>?_⟩
  ·unfold zZ;rw[hb];exact he
  ·unfold dc;rw[hb]
  ·unfold zf5 dm zje;simp only[hb]
 | true=>
  have h':aD s p ((4,[110,111,116])::zki pd ts) q:=h;obtain⟨p1,h1,h2⟩:=h'.head;obtain⟨hk,pl,he⟩:=zc2 h4 h2 hq;have hb:((zD s p).1==4)=true:=by rw[h1.kind];rfl
  refine⟨pl,?_,?_,λ num=>?_⟩
  ·unfold zZ;rw[hb,h1.stop];exact he
  ·unfold dc;rw[hb]
  ·unfold zf5 dm zje;simp only[hb]
theorem znu {s:B8}{num:Nat}:∀ (b:List yX) (f p q:Nat) (l:List yX) (ms:List yT),b≠[]->b.length<=f->(∀ x∈b,x.ts.length<=4)->aD s p (zi5 b) q->∃ ms',vB s num f p l ms=(true,q,l++b,ms++ms')/\ms'.map zf5=b.map (zje num)
 | [],_,_,_,_,_,h,_,_,_=>absurd rfl h
 | [x],f,p,q,l,ms,_,hf,h4,h=>by
  obtain⟨f,rfl⟩:∃ g,f=g+1:=⟨f-1,by simp at hf;omega⟩;obtain⟨p1,h1,h2⟩:=aD.split (a:=zq1 x) (b:=[(8,[46])]) h;have h3:=h2.last;have hk:(zD s p1).1=8:=h3.kind;obtain⟨pl,e1,e2,e3⟩:=zrn (h4 x List.mem_cons_self) h1 (λ _=>by rw[hk];decide);refine⟨[dm s num p x.pd x.ts pl],?_,by rw[List.map_cons,e3];rfl⟩;rw[vB,e1];simp only;rw[hk,if_neg (by decide),e2];unfold zZ;rw[hk,h3.stop];rfl
 | x::y::r,f,p,q,l,ms,_,hf,h4,h=>by
  obtain⟨f,rfl⟩:∃ g,f=g+1:=⟨f-1,by simp at hf;omega⟩;obtain⟨p1,h1,h2⟩:=aD.split (a:=zq1 x) (b:=(7,[44])::zi5 (y::r)) h;obtain⟨p2,h3,h5⟩:=h2.head;have hk:(zD s p1).1=7:=h3.kind;obtain⟨pl,e1,e2,e3⟩:=zrn (h4 x List.mem_cons_self) h1 (λ _=>by rw[hk];decide);obtain⟨ms',Ku,Kv⟩:=znu (num:=num) (y::r) f p2 q (l++[x]) (ms++[dm s num p x.pd x.ts pl]) (by simp) (by simp at hf ⊢;omega) (λ z hz=>h4 z (List.mem_cons_of_mem _ hz)) h5;refine⟨dm s num p x.pd x.ts pl::ms',?_,by rw[List.map_cons,e3,Kv];rfl⟩;rw[vB,e1];simp only;rw[hk,if_pos rfl,e2,h3.stop,Ku,List.append_assoc,List.append_assoc];rfl
structure z35 (R:yK):Prop where
 ts:R.ts.length<=4
 body:R.body.length<=3
 DJ:∀ x∈R.body,x.ts.length<=4
theorem zxz {num:Nat}{R:yK}(hR:z35 R)(ms:List yT)(h:aD s p (zjk R) q):(zD s p).1=2/\∃ ms',xF s num p ms=(true,q,R,ms++ms')/\ms'.map zf5=(num,false,R.pd,R.ts)::R.body.map (zje num):=by
 obtain⟨pd,ts,body⟩:=R;unfold zjk at h;obtain⟨p1,h1,h2⟩:=aD.split h
 cases body with
 | nil=>
  have h3:zsw s p1 8 [46] q:=aD.last h2;obtain⟨hk,pl,he⟩:=zc2 hR.ts h1 (λ _=>by rw[h3.kind];decide);refine⟨hk,[cL s num p pd ts pl],?_,rfl⟩;unfold xF;rw[he];simp only;rw[h3.kind,if_pos rfl,h3.stop]
 | cons x r=>
  obtain⟨p2,h3,h5⟩:=aD.head (k:=9) (w:=[58,45]) (l:=zi5 (x::r)) h2;obtain⟨hk,pl,he⟩:=zc2 hR.ts h1 (λ _=>by rw[h3.kind];decide);obtain⟨ms',e1,e2⟩:=znu (num:=num) (x::r) 3 p2 q [] (ms++[cL s num p pd ts pl]) (by simp) hR.body hR.DJ h5;refine⟨hk,cL s num p pd ts pl::ms',?_,by rw[List.map_cons,e2];rfl⟩;unfold xF;rw[he];simp only;rw[h3.kind,if_neg (by decide),if_pos rfl,h3.stop,e1,List.append_assoc];rfl
theorem zlq {s:B8}{q:Nat}(hq:(zD s q).1=0):∀ (rules:List yK) (rs:List yK) (ms:List yT) (p f:Nat),(∀ R∈rules,z35 R)->rs.length+rules.length<=30->rules.length<f->aD s p (rules.flatMap zjk) q->∃ ms',vF s f p rs ms=(true,q,rs++rules,ms++ms')/\ms'.map zf5=zgk rs.length rules
 | [],rs,ms,p,f,_,_,hf,h=>by
  obtain⟨f,rfl⟩:∃ g,f=g+1:=⟨f-1,by simp at hf;omega⟩
  cases h
  refine⟨[],?_,rfl⟩;rw[vF,if_pos hq,List.append_nil,List.append_nil]
 | R::r,rs,ms,p,f,hR,hl,hf,h=>by
  obtain⟨f,rfl⟩:∃ g,f=g+1:=⟨f-1,by simp at hf;omega⟩;rw[List.flatMap_cons] at h;obtain⟨p1,h1,h2⟩:=aD.split h;obtain⟨hk,Gz,e1,e2⟩:=zxz (num:=rs.length) (hR R List.mem_cons_self) ms h1;simp only[List.length_cons] at hl hf;obtain⟨KE,e3,e4⟩:=zlq hq r (rs++[R]) (ms++Gz) p1 f (λ x hx=>hR x (List.mem_cons_of_mem _ hx)) (by rw[List.length_append,List.length_singleton];omega) (by omega) h2;refine⟨Gz++KE,?_,?_⟩
  ·rw[vF,if_neg (by rw[hk];decide),if_neg (by omega),e1,if_pos rfl];simp only;rw[e3,List.append_assoc,List.append_assoc];rfl
  ·rw[List.map_append,e2,e4,List.length_append,List.length_singleton];rfl
theorem zrr {rules:List yK}(hq:(zD s q).1=0)(hR:∀ R∈rules,z35 R)(hl:rules.length<=30)(h:aD s 0 (rules.flatMap zjk) q):(zN s).1=true/\(zN s).2.2.1=rules/\(zN s).2.2.2.map zf5=zgk 0 rules:=by
 obtain⟨ms,e1,e2⟩:=zlq hq rules [] [] 0 31 hR (by simpa using hl) (by omega) h;unfold zN;rw[e1];exact⟨rfl,rfl,e2⟩
end
section
structure zga (ar lv:B8->Nat)(R:yK):Prop where
 f:z35 R
 hd:R.ts.length=ar R.pd
 ls:∀ l∈R.body,l.ts.length=ar l.pd
 safe:∀ t∈R.ts,t.1=true->∃ l∈R.body,l.neg=false/\t∈l.ts
 mQ:∀ l∈R.body,l.neg=true->∀ t∈l.ts,t.1=true->∃ m∈R.body,m.neg=false/\t∈m.ts
 pos:∀ l∈R.body,lv l.pd<=lv R.pd
 neg:∀ l∈R.body,l.neg=true->lv l.pd<lv R.pd
theorem zk8 {x:Nat × Bool × B8 × List (Bool × B8)}:∀ {rules:List yK} {n:Nat},x∈zgk n rules->∃ i R,rules[i]?=some R/\(x=(n+i,false,R.pd,R.ts)\/∃ l∈R.body,x=zje (n+i) l)
 | [],_,h=>by cases h
 | R::r,n,h=>by
  rw[zgk] at h;rcases List.mem_cons.1 h with h | h
  ·exact⟨0,R,rfl,.inl h⟩
  ·rcases List.mem_append.1 h with h | h
   ·obtain⟨l,hl,e⟩:=List.mem_map.1 h;exact⟨0,R,rfl,.inr ⟨l,hl,e.symm⟩⟩
   ·obtain⟨i,Q,h1,h2⟩:=zk8 h;refine⟨i+1,Q,by rw[List.getElem?_cons_succ];exact h1,?_⟩;rw[show n+(i+1)=n+1+i by omega];exact h2
theorem zrk {ar:B8->Nat}:∀ (ms:List yT) (ps:P9),(∀ M∈ms,M.ts.length=ar M.pd)->(∀ k n,z6 ps k=some n->n=ar k)->zae ms ps=-1
 | [],_,_,_=>rfl
 | M::r,ps,h,hp=>by
  have hM:=h M List.mem_cons_self;have hb:zdq ps M.pd M.ts.length=true:=by
   rw[qF]
   cases hn:z6 ps M.pd with
   | none=>rfl
   | some m=>simp only[beq_iff_eq];rw[hp _ _ hn,hM]
  rw[zae,if_pos hb];refine zrk r _ (λ N hN=>h N (List.mem_cons_of_mem _ hN)) λ k n hk=>?_
  unfold zac at hk
  split at hk
  ·rw[zfh] at hk
   cases hn:z6 ps k with
   | some m=>rw[hn] at hk;rw[<-Option.some.inj hk];exact hp _ _ hn
   | none=>
    rw[hn] at hk;simp only at hk
    split at hk
    ·rename_i he;rw[<-Option.some.inj hk,hM,yD.1 he]
    ·cases hk
  ·exact hp _ _ hk
theorem znp {ls:List yX}:∀ (ts:List (Bool × B8)) (k:Nat),(∀ t∈ts,t.1=true->zeh t.2 ls=true)->xH ls ts k=none
 | [],_,_=>rfl
 | t::r,k,h=>by
  rw[xH,if_neg]
  ·exact znp r (k+1) (λ u hu=>h u (List.mem_cons_of_mem _ hu))
  ·intro hx;simp only[Bool.and_eq_true,Bool.not_eq_true'] at hx;rw[h t List.mem_cons_self hx.1] at hx
   cases hx.2
theorem zop {ls:List yX}{t:Bool × B8}(ht:t.1=true){l:yX}(hl:l∈ls)(hn:l.neg=false)(hm:t∈l.ts):zeh t.2 ls=true:=by
 unfold zeh;rw[List.any_eq_true];refine⟨l,List.mem_filter.2 ⟨hl,by rw[hn];rfl⟩,?_⟩;unfold zkx;rw[List.any_eq_true];exact⟨t,hm,by simp[ht]⟩
variable {lv:B8->Nat} {rules:List yK}
theorem z59 (h:∀ R∈rules,∀ l∈R.body,lv l.pd<=lv R.pd){a b:B8}(hr:zdf (xR rules) a b):lv b<=lv a:=by
 have one:∀ {a b},(a,b)∈xR rules->lv b<=lv a:=λ he=>by
  obtain⟨R,hR,he⟩:=List.mem_flatMap.1 he;obtain⟨l,hl,e⟩:=List.mem_map.1 he;injection e with e1 e2
  rw[<-e1,<-e2];exact h R hR l hl
 induction hr with
 | one he=>exact one he
 | next _ he ih=>exact Nat.le_trans (one he) ih
variable {ar:B8->Nat}
theorem zw8 {ms:List yT}(hR:∀ R∈rules,zga ar lv R)(hk:ms.map zf5=zgk 0 rules):zcu rules ms=(0,0):=by
 have key:∀ M∈ms,∃ R,rules[M.num]?=some R/\R∈rules/\((M.neg=false/\M.pd=R.pd/\M.ts=R.ts)\/∃ l∈R.body,M.neg=l.neg/\M.pd=l.pd/\M.ts=l.ts):=λ M hM=>by
  have:zf5 M∈zgk 0 rules:=by rw[<-hk];exact List.mem_map_of_mem hM
  obtain⟨i,R,h1,h2⟩:=zk8 this;unfold zf5 zje at h2;simp only[Prod.mk.injEq,Nat.zero_add] at h2;have hm:R∈rules:=List.mem_of_getElem? h1;rcases h2 with⟨e1,e2,e3,e4⟩ | ⟨l,hl,e1,e2,e3,e4⟩
  ·exact⟨R,by rw[e1];exact h1,hm,.inl ⟨e2,e3,e4⟩⟩
  ·exact⟨R,by rw[e1];exact h1,hm,.inr ⟨l,hl,e2,e3,e4⟩⟩
 have p1:zae ms []=-1:=zrk (ar:=ar) ms [] (λ M hM=>by
  obtain⟨R,_,hm,⟨_,e1,e2⟩ | ⟨l,hl,_,e1,e2⟩⟩:=key M hM
  ·rw[e1,e2];exact (hR R hm).hd
  ·rw[e1,e2];exact (hR R hm).ls l hl) (λ k n h=>by cases h)
 have p2:∀ (l:List yT),(∀ M∈l,M∈ms)->vH rules l=-1:=by
  intro l
  induction l with
  | nil=>intro _;rfl
  | cons M r ih=>
   intro hl;obtain⟨R,h1,hm,h2⟩:=key M (hl M List.mem_cons_self);have hb:zei rules M.num=R.body:=(by unfold zei;rw[h1]);have hn:xH (zei rules M.num) M.ts 0=none:=by
    rw[hb];refine znp M.ts 0 λ t ht hv=>?_
    rcases h2 with⟨_,_,e⟩ | ⟨x,hx,e0,_,e⟩
    ·rw[e] at ht;obtain⟨x,hx,h3,h4⟩:=(hR R hm).safe t ht hv;exact zop hv hx h3 h4
    ·rw[e] at ht
     cases hxn:x.neg with
     | false=>exact zop hv hx hxn ht
     | true=>
      obtain⟨y,hy,h3,h4⟩:=(hR R hm).mQ x hx hxn t ht hv;exact zop hv hy h3 h4
   rw[vH,hn];exact ih (λ N hN=>hl N (List.mem_cons_of_mem _ hN))
 have p3:∀ (l:List yT),(∀ M∈l,M∈ms)->jX rules l=-1:=by
  intro l
  induction l with
  | nil=>intro _;rfl
  | cons M r ih=>
   intro hl;obtain⟨R,h1,hm,h2⟩:=key M (hl M List.mem_cons_self);have hh:zjd rules M.num=R.pd:=(by unfold zjd;rw[h1]);have hc:¬ z3r rules M=true:=λ hx=>by
    unfold z3r at hx;simp only[Bool.and_eq_true,Bool.or_eq_true,hh] at hx;obtain⟨eH,hx⟩:=hx;rcases h2 with⟨e,_,_⟩ | ⟨x,uZ,e0,e1,_⟩
    ·rw[e] at eH;cases eH
    ·rw[e0] at eH;have bP:=(hR R hm).neg x uZ eH;rw[e1] at hx;rcases hx with hx | hx
     ·rw[yD.1 hx] at bP;omega
     ·have J2:zdf (xR rules) x.pd R.pd:=by
       classical
       unfold zeo at hx;simpa using hx
      have:=z59 (lv:=lv) (λ Q hQ l hl=>(hR Q hQ).pos l hl) J2;omega
   rw[jX,if_neg hc];exact ih (λ N hN=>hl N (List.mem_cons_of_mem _ hN))
 unfold zcu;rw[p1,p2 ms (λ _ h=>h),p3 ms (λ _ h=>h)];rfl
theorem yad {s:B8}{q:Nat}(hs:s.size<=800)(hq:(zD s q).1=0)(hR:∀ R∈rules,zga ar lv R)(hl:rules.length<=30)(h:aD s 0 (rules.flatMap zjk) q):xY s=(true,0,0)/\(zN s).2.2.1=rules:=by
 obtain⟨h1,h2,h3⟩:=zrr hq (λ R hr=>(hR R hr).f) hl h;refine⟨?_,h2⟩;rw[<-zth];unfold zxw;rw[if_neg (by omega),h1,if_neg (by decide),h2,zw8 hR h3,if_neg (by decide)]
end
section
abbrev zme:=List UInt8 × Int × List UInt8
def zhp (l:List zme):List UInt8:=l.flatMap λ x=>x.1++x.2.2
theorem zry (x:zme)(l:List zme):zhp (x::l)=x.1++(x.2.2++zhp l):=by unfold zhp;rw[List.flatMap_cons,List.append_assoc]
theorem zt1 (a b:List zme):zhp (a++b)=zhp a++zhp b:=by unfold zhp;rw[List.flatMap_append]
def zbi (k:Int):List zme->Prop
 | []=>k≠2/\k≠3/\k≠4
 | y::_=>y.1≠[]\/(¬ ((k=2\/k=4)/\(y.2.1=2\/y.2.1=4))/\¬ (k=3/\y.2.1=3))
def zqd:List zme->Prop
 | []=>True
 | x::r=>(∀ c∈x.1,yF c.toNat=true)/\jP x.2.1 x.2.2/\zbi x.2.1 r/\zqd r
variable {k:Int}
theorem z3e {w:List UInt8}(h:jP k w):∃ c r,w=c::r/\(jG c.toNat=true->k=2\/k=4)/\(xD c.toNat=true->k=3):=by
 cases h with
 | name bG _ hw _=>
  obtain⟨c,r,rfl⟩:=List.exists_cons_of_ne_nil bG;refine⟨c,r,rfl,λ _=>.inl rfl,λ hh=>?_⟩;have:=hw c List.mem_cons_self;unfold jG at this;unfold xD at hh;simp at this hh;omega
 | var bG _ hw=>
  obtain⟨c,r,rfl⟩:=List.exists_cons_of_ne_nil bG;refine⟨c,r,rfl,λ hh=>?_,λ _=>rfl⟩;have:=hw c List.mem_cons_self;unfold xD at this;unfold jG at hh;simp at this hh;omega
 | rA=>exact⟨_,_,rfl,λ _=>.inr rfl,λ h=>absurd h (by decide)⟩
 | open_=>exact⟨_,_,rfl,λ h=>absurd h (by decide),λ h=>absurd h (by decide)⟩
 | shut=>exact⟨_,_,rfl,λ h=>absurd h (by decide),λ h=>absurd h (by decide)⟩
 | comma=>exact⟨_,_,rfl,λ h=>absurd h (by decide),λ h=>absurd h (by decide)⟩
 | dot=>exact⟨_,_,rfl,λ h=>absurd h (by decide),λ h=>absurd h (by decide)⟩
 | mR=>exact⟨_,_,rfl,λ h=>absurd h (by decide),λ h=>absurd h (by decide)⟩
theorem z82 {l:List zme}{rest:List UInt8}(ha:zbi k l)(ho:zqd l):ycl k (zhp l++rest):=by
 intro c r' e
 cases l with
 | nil=>exact⟨λ h=>by rcases h with h | h;exact absurd h ha.1;exact absurd h ha.2.2,λ h=>absurd h ha.2.1⟩
 | cons y l=>
  obtain⟨hb,ht,_,_⟩:=ho;rw[zry,List.append_assoc] at e;rcases ha with bG | ⟨h1,h2⟩
  ·obtain⟨d,b,hd⟩:=List.exists_cons_of_ne_nil bG;rw[hd] at e hb;injection e with e1
   have:=hb d List.mem_cons_self;rw[e1] at this;unfold yF at this;simp at this
   constructor
   ·intro _;unfold jG;simp;omega
   ·intro _;unfold xD;simp;omega
  ·by_cases hyb:y.1=[]
   ·rw[hyb,List.nil_append] at e;obtain⟨d,w,hw,hl,hh⟩:=z3e ht;rw[hw] at e;injection e with e1
    rw[<-e1]
    constructor
    ·intro hk
     cases hx:jG d.toNat with
     | false=>rfl
     | true=>exact absurd ⟨hk,hl hx⟩ h1
    ·intro hk
     cases hx:xD d.toNat with
     | false=>rfl
     | true=>exact absurd ⟨hk,hh hx⟩ h2
   ·obtain⟨d,b,hd⟩:=List.exists_cons_of_ne_nil hyb;rw[hd] at e hb;injection e with e1
    have:=hb d List.mem_cons_self;rw[e1] at this;unfold yF at this;simp at this
    constructor
    ·intro _;unfold jG;simp;omega
    ·intro _;unfold xD;simp;omega
theorem zl5 {s:B8}{rest:List UInt8}:∀ (l:List zme) (p:Nat),zqd l->(zT s).drop p=zhp l++rest->∃ q,aD s p (l.map (·.2)) q/\(zT s).drop q=rest
 | [],p,_,h=>⟨p,.nil p,h⟩
 | x::l,p,ho,h=>by
  obtain⟨hb,ht,ha,FT⟩:=ho;rw[zry,List.append_assoc,List.append_assoc] at h;obtain⟨h1,h2⟩:=yb2 h hb ht (z82 ha FT);obtain⟨q,h3,h4⟩:=zl5 l _ FT h2;exact⟨q,.cons h1 h3,h4⟩
def qA:List (Bool × B8)->List zme
 | []=>[]
 | [t]=>[([],zbe t),([],6,[41])]
 | t::u::r=>([],zbe t)::([],7,[44])::qA (u::r)
def j9 (b:List UInt8)(pd:B8)(ts:List (Bool × B8)):List zme:=match ts with
 | []=>[(b,2,zT pd)]
 | t::r=>(b,2,zT pd)::([],5,[40])::qA (t::r)
def zjt (b:List UInt8)(l:yX):List zme:=if l.neg then (b,4,[110,111,116])::j9 [32] l.pd l.ts else j9 b l.pd l.ts
def za7:List yX->List zme
 | []=>[]
 | [l]=>zjt [32] l++[([],8,[46])]
 | l::m::r=>zjt [32] l++([],7,[44])::za7 (m::r)
def zaz (b:List UInt8)(R:yK):List zme:=j9 b R.pd R.ts++match R.body with
 | []=>[([],8,[46])]
 | l::r=>([32],9,[58,45])::za7 (l::r)
def zap (sep b:List UInt8):List yK->List zme
 | []=>[]
 | R::r=>zaz b R++zap sep sep r
theorem zn9:∀ ts,(qA ts).map (·.2)=zgs ts
 | []=>rfl
 | [_]=>rfl
 | t::u::r=>by rw[qA,zgs,List.map_cons,List.map_cons,zn9 (u::r)]
theorem zgy (b:List UInt8)(pd:B8)(ts:List (Bool × B8)):(j9 b pd ts).map (·.2)=zki pd ts:=by
 cases ts with
 | nil=>rfl
 | cons t r=>unfold j9 zki;simp only[List.map_cons,zn9]
theorem zvn (b:List UInt8)(l:yX):(zjt b l).map (·.2)=zq1 l:=by
 unfold zjt zq1
 cases l.neg with
 | true=>simp only[if_true,List.map_cons,zgy];rfl
 | false=>simp only[Bool.false_eq_true,if_false,zgy];rfl
theorem zqj:∀ ls,(za7 ls).map (·.2)=zi5 ls
 | []=>rfl
 | [l]=>by rw[za7,zi5,List.map_append,zvn];rfl
 | l::m::r=>by rw[za7,zi5,List.map_append,zvn,List.map_cons,zqj (m::r)]
theorem z2h (b:List UInt8)(R:yK):(zaz b R).map (·.2)=zjk R:=by
 unfold zaz zjk;rw[List.map_append,zgy]
 congr 1
 cases R.body with
 | nil=>rfl
 | cons l r=>simp only[List.map_cons,zqj]
theorem zn2 (sep:List UInt8):∀ (rules:List yK) (b:List UInt8),(zap sep b rules).map (·.2)=rules.flatMap zjk
 | [],_=>rfl
 | R::r,b=>by rw[zap,List.map_append,z2h,zn2 sep r sep,List.flatMap_cons]
structure zh6 (R:yK):Prop where
 pd:jP 2 (zT R.pd)
 ts:∀ t∈R.ts,jP (zbe t).1 (zbe t).2
 uP:∀ l∈R.body,jP 2 (zT l.pd)
 DJ:∀ l∈R.body,∀ t∈l.ts,jP (zbe t).1 (zbe t).2
theorem zlg:∀ (a b:List zme),zqd a->zqd b->(a=[]\/∃ a' x,a=a'++[x]/\zbi x.2.1 b)->zqd (a++b)
 | [],b,_,hb,_=>hb
 | [x],b,ha,hb,h=>by
  rcases h with h | ⟨a',y,e,hy⟩
  ·cases h
  ·have km:x=y:=by
    cases a' with
    | nil=>injection e
    | cons z a'=>injection e with _ e;cases a' <;> cases e
   subst km;exact⟨ha.1,ha.2.1,hy,hb⟩
 | x::y::r,b,ha,hb,h=>by
  refine⟨ha.1,ha.2.1,ha.2.2.1,zlg (y::r) b ha.2.2.2 hb (.inr ?_)⟩;rcases h with h | ⟨a',z,e,hz⟩
  ·cases h
  ·cases a' with
   | nil=>injection e with _ e;cases e
   | cons u a'=>injection e with _ e;exact⟨a',z,e,hz⟩
theorem zi1:∀ (ts:List (Bool × B8)),ts≠[]->(∀ t∈ts,jP (zbe t).1 (zbe t).2)->zqd (qA ts)/\∃ a,qA ts=a++[([],6,[41])]
 | [],h,_=>absurd rfl h
 | [t],_,h=>⟨⟨by simp,h t List.mem_cons_self,.inr ⟨by simp,by simp⟩,by simp,.shut,by simp[zbi],trivial⟩,[([],zbe t)],rfl⟩
 | t::u::r,_,h=>by
  obtain⟨h1,a,h2⟩:=zi1 (u::r) (by simp) (λ x hx=>h x (List.mem_cons_of_mem _ hx));have ha:zbi 7 (qA (u::r)):=by
   cases r with
   | nil=>exact .inr ⟨by simp,by simp⟩
   | cons v r=>exact .inr ⟨by simp,by simp⟩
  refine⟨⟨by simp,h t List.mem_cons_self,.inr ⟨by simp,by simp⟩,by simp,.comma,ha,h1⟩,([],zbe t)::([],7,[44])::a,?_⟩;rw[qA,h2];rfl
theorem zuz (c:UInt8)(h:c=32\/c=10):yF c.toNat=true:=by rcases h with rfl | rfl <;> decide
variable {r:List zme} {b:List UInt8}
theorem Mf (hb:∀ c∈b,yF c.toNat=true){pd:B8}(hp:jP 2 (zT pd)){ts:List (Bool × B8)}(ht:∀ t∈ts,jP (zbe t).1 (zbe t).2)(hr:zqd r)(ez:zbi 2 r)(fc:zbi 6 r):zqd (j9 b pd ts++r):=by
 cases ts with
 | nil=>exact⟨hb,hp,ez,hr⟩
 | cons t q=>
  obtain⟨h1,a,h2⟩:=zi1 (t::q) (by simp) ht;have ha:zbi 5 (qA (t::q)++r):=by
   cases q with
   | nil=>exact .inr ⟨by simp,by simp⟩
   | cons v q=>exact .inr ⟨by simp,by simp⟩
  exact⟨hb,hp,.inr ⟨by simp,by simp⟩,by simp,.open_,ha,zlg _ r h1 hr (.inr ⟨a,_,h2,fc⟩)⟩
theorem zvm {l:yX}(hp:jP 2 (zT l.pd))(ht:∀ t∈l.ts,jP (zbe t).1 (zbe t).2)(hr:zqd r)(ez:zbi 2 r)(fc:zbi 6 r):zqd (zjt [32] l++r)/\∀ k,zbi k (zjt [32] l++r):=by
 have hb:∀ c∈[(32:UInt8)],yF c.toNat=true:=λ c hc=>zuz c (.inl (List.mem_singleton.1 hc))
 unfold zjt
 cases l.neg with
 | true=>
  simp only[if_true];refine⟨⟨hb,.rA,?_,Mf hb hp ht hr ez fc⟩,λ k=>.inl (by simp)⟩;unfold j9
  split <;> exact .inl (by simp)
 | false=>
  simp only[Bool.false_eq_true,if_false];refine⟨Mf hb hp ht hr ez fc,λ k=>?_⟩;unfold j9
  split <;> exact .inl (by simp)
theorem zqi:∀ (ls:List yX),ls≠[]->(∀ l∈ls,jP 2 (zT l.pd))->(∀ l∈ls,∀ t∈l.ts,jP (zbe t).1 (zbe t).2)->∀ {r:List zme},zqd r->zbi 8 r->zqd (za7 ls++r)/\∀ k,zbi k (za7 ls++r)
 | [],h,_,_,_,_,_=>absurd rfl h
 | [l],_,hp,ht,r,hr,ha=>by
  rw[za7,List.append_assoc];exact zvm (hp l List.mem_cons_self) (ht l List.mem_cons_self) (r:=[([],8,[46])]++r) ⟨by simp,.dot,ha,hr⟩ (.inr ⟨by simp,by simp⟩) (.inr ⟨by simp,by simp⟩)
 | l::m::q,_,hp,ht,r,hr,ha=>by
  obtain⟨h1,h2⟩:=zqi (m::q) (by simp) (λ x hx=>hp x (List.mem_cons_of_mem _ hx)) (λ x hx=>ht x (List.mem_cons_of_mem _ hx)) hr ha;rw[za7,List.append_assoc];exact zvm (hp l List.mem_cons_self) (ht l List.mem_cons_self) (r:=([],7,[44])::za7 (m::q)++r) ⟨by simp,.comma,h2 7,h1⟩ (.inr ⟨by simp,by simp⟩) (.inr ⟨by simp,by simp⟩)
theorem z2g (hb:∀ c∈b,yF c.toNat=true){R:yK}(hw:zh6 R)(hr:zqd r)(ha:zbi 8 r):zqd (zaz b R++r):=by
 unfold zaz;rw[List.append_assoc]
 cases cU:R.body with
 | nil=>exact Mf hb hw.pd hw.ts (r:=[([],8,[46])]++r) ⟨by simp,.dot,ha,hr⟩ (.inr ⟨by simp,by simp⟩) (.inr ⟨by simp,by simp⟩)
 | cons l q=>
  obtain⟨h1,h2⟩:=zqi (l::q) (by simp) (by rw[<-cU];exact hw.uP) (by rw[<-cU];exact hw.DJ) hr ha;exact Mf hb hw.pd hw.ts (r:=([32],9,[58,45])::za7 (l::q)++r) ⟨λ c hc=>zuz c (.inl (List.mem_singleton.1 hc)),.mR,h2 9,h1⟩ (.inl (by simp)) (.inl (by simp))
theorem zn1 {sep:List UInt8}(hs:∀ c∈sep,yF c.toNat=true)(bG:sep≠[]):∀ (rules:List yK) (b:List UInt8),(∀ c∈b,yF c.toNat=true)->(∀ R∈rules,zh6 R)->zqd (zap sep b rules)
 | [],_,_,_=>trivial
 | R::r,b,hb,hw=>by
  refine z2g hb (hw R List.mem_cons_self) (zn1 hs bG r sep hs (λ x hx=>hw x (List.mem_cons_of_mem _ hx))) ?_
  cases r with
  | nil=>exact⟨by decide,by decide,by decide⟩
  | cons Q r=>
   rw[zap];unfold zaz j9
   cases Q.ts <;> exact .inl bG
theorem zog {s:B8}{sep tail:List UInt8}(hs:∀ c∈sep,yF c.toNat=true)(bG:sep≠[])(fZ:∀ c∈tail,yF c.toNat=true){rules:List yK}{ar lv:B8->Nat}(hsz:s.size<=800)(hR:∀ R∈rules,zga ar lv R)(hw:∀ R∈rules,zh6 R)(hl:rules.length<=30)(h:zT s=zhp (zap sep [] rules)++tail):xY s=(true,0,0)/\(zN s).2.2.1=rules:=by
 obtain⟨q,h1,h2⟩:=zl5 (s:=s) (rest:=tail) (zap sep [] rules) 0 (zn1 hs bG rules [] (by simp) hw) h;rw[zn2] at h1;exact yad hsz (zoe h2 fZ) hR hl h1
end
end Go.Proofs.YtldkpahaocjdpaaGreat
