/-
  affidavitkeep: the text of lines.
-/
import Derived.Test.YtldkpahaocjdpaaGreatD30
import Derived.Test.YtldkpahaocjdpaaGreatD46
import Derived.Laws.BytesArg
set_option maxHeartbeats 16000000
set_option maxRecDepth 1000000
namespace Go.Proofs.YtldkpahaocjdpaaGreat
section
open Go.RowKit
abbrev Raw:=Int × Int × Int × Int
def inR (x:Int):Prop:=-9223372036854775808<=x/\x<=9223372036854775807
structure z5a (r:Raw):Prop where
 k:inR r.1
 a:inR r.2.1
 b:inR r.2.2.1
 c:inR r.2.2.2
def j7 (r:Raw):KL:=zrh r.1 r.2.1 r.2.2.1 r.2.2.2
theorem yd8 (w:W8)(r:Raw)(h:z5a r):Calls Tryz.prog 24 #[.agg #[.int .i64 r.1,.int .i64 r.2.1,.int .i64 r.2.2.1,.int .i64 r.2.2.2]] w (zfl w (j7 r)):=by
 have hp:=(yM r.1 (n:=8) (by decide)).1;unfold j7 zrh
 by_cases h1:zF r.1 8<4
 ·rw[if_pos h1];exact zx4 w _ _ _ _ h.k h.a h.b h1
 rw[if_neg h1]
 by_cases h2:zF r.1 8=4
 ·rw[if_pos h2];exact z1o w _ _ _ _ h.k h.a h.b h.c h2
 rw[if_neg h2]
 by_cases h3:zF r.1 8=5
 ·rw[if_pos h3];exact zx5 w _ _ _ _ h.k h.a h.b h.c h3
 rw[if_neg h3]
 by_cases h4:zF r.1 8=6
 ·rw[if_pos h4];exact zty w _ _ _ _ h.k h.a h.b h.c h4
 rw[if_neg h4];exact z1n w _ _ _ _ h.k h.a h.b h.c (by omega)
theorem zlc (L:KL):(dZ L).length<=40:=by
 cases L <;> simp[dZ,KL.rule,zah,qI,qF,zbg,zj0,zg9,zbe,tN,tV,fl,yF,yA]
structure wW (w:W8)(la:O8)(n:Nat)(R:Nat->Raw):Prop where
 el:∀ i,i<n->∃ g off,la=some ⟨g,off,none⟩/\g<w.heap.size/\w.cell? ⟨g,off+i*4,none⟩=some (.int .i64 (R i).1)/\w.cell? ⟨g,off+i*4+1,none⟩=some (.int .i64 (R i).2.1)/\w.cell? ⟨g,off+i*4+2,none⟩=some (.int .i64 (R i).2.2.1)/\w.cell? ⟨g,off+i*4+3,none⟩=some (.int .i64 (R i).2.2.2)/\z5a (R i)
theorem wW.below {w w':W8}{la:O8}{n:Nat}{R:Nat->Raw}(h:wW w la n R)(k:Below w.heap.size w w'):wW w' la n R:=
 ⟨λ i hi=>by
  obtain⟨g,off,h1,h2,c0,c1,c2,c3,h3⟩:=h.el i hi;have hz:=k.size;refine⟨g,off,h1,by omega,?_,?_,?_,?_,h3⟩
  all_goals (rw[k.cell (by simpa using h2)];assumption)⟩
def z84:List UInt8:=[101,40,97,44,98,41,46,32]
def qC (L:Nat->KL)(n:Nat):List UInt8:=z84++(List.range n).flatMap λ i=>dZ (L i)
theorem zn2 (L:Nat->KL)(n:Nat):qC L (n+1)=qC L n++dZ (L n):=by
 unfold qC;rw[List.range_succ,List.flatMap_append,<-List.append_assoc];simp
theorem zdf (L:Nat->KL):∀ n,(qC L n).length<=8+40*n
 | 0=>by simp[qC,z84]
 | n+1=>by
  rw[zn2,List.length_append];have:=zdf L n;have:=zlc (L n);omega
def aj (l:List UInt8):B8:=⟨l.toArray⟩
theorem lP (l:List UInt8):(aj l).size=l.length:=by unfold aj;rfl
theorem zmi (a b:List UInt8):aj a++aj b=aj (a++b):=ByteArray.mk_append_mk a b
theorem yd9 (w:W8)(la:O8)(n c:Nat)(R:Nat->Raw)(h:wW w la n R)(dG:n<=c)(hc:c<=maxLen)(jm:Nat)(hm:jm<=20):Calls Tryz.prog 17 #[.slice la n c,.int .i64 (jm:Nat)] w λ e w'=>e=.returned (.string (aj (qC (λ i=>j7 (R i)) (min n jm))))/\Below w.heap.size w w':=by
 have H:=zC h;have oa:aj (qC (λ i=>j7 (R i)) 0)={ data:=#[101,40,97,44,98,41,46,32] }:=rfl;have HL:=zC (λ k=>(show (aj (qC (λ i=>j7 (R i)) k)).size<=8+40*k from by rw[lP];exact zdf _ k));have HS:=zC (λ k=>(show aj (qC (λ i=>j7 (R i)) k)++aj (dZ (j7 (R k)))=aj (qC (λ i=>j7 (R i)) (k+1)) from by rw[zmi,zn2]));have iI:=zC oa;unfold maxLen at hc;clear h oa;go_enter Tryz.func17,Tryz.ntmps17;go_wp2_with fail
 go_loopg [5,6] (min n jm) (λ gg v i wr=>∃ k:Nat,k<=min n jm/\gg=min n jm-k/\v=.string (aj (qC (λ i=>j7 (R i)) k))/\i=.int .i64 (k:Nat)/\Below w.heap.size w wr)
 exact⟨0,Nat.zero_le _,rfl,by rw[zA iI],rfl,Below.refl _ _⟩
 case round=>
  clear iI;obtain⟨k,hk,fM,rfl,rfl,hB⟩:=hrel
  by_cases aN:k<min n jm
  ·obtain⟨g,off,rfl,hg,c0,c1,c2,c3,hr⟩:=((zA H).below hB).el k (by omega);have CK:(k:Int)<n:=(by omega);have Aw:(k:Int)<jm:=(by omega);have HC:=zC (yd8 wr (R k) hr);have HB:=zC hB;have js:=zA HL k;have lj:(aj (dZ (j7 (R k)))).size<=40:=(by rw[lP];exact zlc _);have gM:=zC (zA HS k);obtain⟨t1,iN⟩:∃ t1,t1=aj (qC (λ i=>j7 (R i)) k):=⟨_,rfl⟩;obtain⟨t2,gK⟩:∃ t2,t2=aj (dZ (j7 (R k))):=⟨_,rfl⟩;have ks:Hid (Calls Tryz.prog 24 #[.agg #[.int .i64 (R k).1,.int .i64 (R k).2.1,.int .i64 (R k).2.2.1,.int .i64 (R k).2.2.2]] wr λ e w'=>e=.returned (.string t2)/\Below wr.heap.size wr w'):=(by rw[gK];exact HC);rw[<-iN] at js gM;rw[<-gK] at lj gM;have Cm:¬ (9223372036854775807<t1.size+t2.size):=(by omega);have Af:=zC iN;rw[<-iN];clear hB hr iN gK HC;go_wp2_with (go_at_call 24;refine (zA ks).mono ?_;rintro e w1 ⟨rfl,aT⟩;have cR:=zC aT;clear aT);go_roundg (min n jm-(k+1));exact⟨k+1,by omega,rfl,by rw[zA gM],by go_num,(zA HB).trans ((zA cR).mono (zA HB).size)⟩;omega
  ·have kg:k=min n jm:=(by omega);have HB:=zC hB;clear hB
   by_cases CK:k<n
   ·have Aw:¬ (k:Int)<jm:=(by omega);have CL:(k:Int)<n:=(by omega);go_wp2_with fail;go_ret;exact⟨rfl,zA HB⟩
   ·have CL:¬ (k:Int)<n:=(by omega);go_wp2_with fail;go_ret;exact⟨rfl,zA HB⟩
end
section
def KL.Ok:KL->Prop
 | .fact i j=>i<4/\j<4
 | .rev h q x y=>1<=h/\h<4/\q<=h/\x<3/\y<3
 | .join h q r x y z=>1<=h/\h<4/\q<=h/\r<=h/\x<3/\y<3/\z<3
 | .minus h q r x y=>1<=h/\h<4/\q<=h/\r<h/\x<3/\y<3
 | .sX h q r x y n m=>1<=h/\h<4/\q<=h/\r<h/\x<3/\y<3/\n<4/\m<4
theorem zri (k a b c:Int):(zrh k a b c).Ok:=by
 have pa:=(yM a (n:=3) (by decide)).1;have pq:=(yM (b.tdiv 9) (n:=1+zF a 3+1) (by omega)).1;have px:=(yM b (n:=3) (by decide)).1;have py:=(yM (b.tdiv 3) (n:=3) (by decide)).1;unfold zrh
 split
 ·exact⟨(yM a (by decide)).1,(yM b (by decide)).1⟩
 split
 ·exact⟨by omega,by omega,by omega,px,py⟩
 split
 ·have pr:=(yM (c.tdiv 3) (n:=1+zF a 3+1) (by omega)).1;exact⟨by omega,by omega,by omega,by omega,px,py,(yM c (by decide)).1⟩
 split
 ·have pr:=(yM c (n:=1+zF a 3) (by omega)).1;exact⟨by omega,by omega,by omega,pr,px,py⟩
 ·have pr:=(yM (c.tdiv 4) (n:=1+zF a 3) (by omega)).1;exact⟨by omega,by omega,by omega,pr,px,py,(yM c (by decide)).1,(yM (c.tdiv 12) (by decide)).1⟩
theorem yda (k:Nat):pdU k=101\/pdU k=102\/pdU k=103\/pdU k=104:=by
 match k with
 | 0=>decide
 | 1=>decide
 | 2=>decide
 | 3=>decide
 | k+4=>exact .inl rfl
theorem z9b (k:Nat):ae k=97\/ae k=98\/ae k=99\/ae k=100:=by
 match k with
 | 0=>decide
 | 1=>decide
 | 2=>decide
 | 3=>decide
 | k+4=>exact .inl rfl
theorem ydg (k:Nat):vrU k=88\/vrU k=89\/vrU k=90:=by
 match k with
 | 0=>decide
 | 1=>decide
 | 2=>decide
 | k+3=>exact .inl rfl
variable {c:UInt8}
theorem z4f (h:jJ c.toNat=true):jH 2 [c]:=.name (by simp) (by simp) (λ x hx=>by rw[List.mem_singleton.1 hx];exact h) (by simp)
theorem zea (h:yZ c.toNat=true):jH 3 [c]:=.var (by simp) (by simp) (λ x hx=>by rw[List.mem_singleton.1 hx];exact h)
theorem qY (k:Nat):jH 2 (yF (fl k)):=z4f (by rcases yda k with h | h | h | h <;> rw[h] <;> decide)
theorem zn6 (k:Nat):jH (zbe (tN k)).1 (zbe (tN k)).2:=z4f (by rcases z9b k with h | h | h | h <;> rw[h] <;> decide)
theorem qZ (k:Nat):jH (zbe (tV k)).1 (zbe (tV k)).2:=zea (by rcases ydg k with h | h | h <;> rw[h] <;> decide)
variable {Ty:Type}
theorem zN {P:Ty->Prop}{a b:Ty}(ha:P a)(hb:P b):∀ t∈[a,b],P t:=λ t ht=>by
 rcases List.mem_cons.1 ht with rfl | ht
 ·exact ha
 ·rw[List.mem_singleton.1 ht];exact hb
theorem vN {P:Ty->Prop}{a:Ty}(ha:P a):∀ t∈[a],P t:=λ t ht=>by rw[List.mem_singleton.1 ht];exact ha
theorem KL.words (L:KL):zbb L.rule:=by
 cases L with
 | fact i j=>exact⟨qY _,zN (zn6 _) (zn6 _),by simp[KL.rule],by simp[KL.rule]⟩
 | rev h q x y=>exact⟨qY _,zN (qZ _) (qZ _),vN (qY _),vN (zN (qZ _) (qZ _))⟩
 | join h q r x y z=>exact⟨qY _,zN (qZ _) (qZ _),zN (qY _) (qY _),zN (zN (qZ _) (qZ _)) (zN (qZ _) (qZ _))⟩
 | minus h q r x y=>exact⟨qY _,zN (qZ _) (qZ _),zN (qY _) (qY _),zN (zN (qZ _) (qZ _)) (zN (qZ _) (qZ _))⟩
 | sX h q r x y n m=>exact⟨qY _,zN (qZ _) (zn6 _),zN (qY _) (qY _),zN (zN (qZ _) (qZ _)) (zN (qZ _) (zn6 _))⟩
def pT (p:B8):Nat:=if p=fl 1 then 1 else if p=fl 2 then 2 else if p=fl 3 then 3 else 0
theorem za2 {k:Nat}(h:k<4):pT (fl k)=k:=by
 match k,h with
 | 0,_=>decide
 | 1,_=>decide
 | 2,_=>decide
 | 3,_=>decide
theorem KL.ic {L:KL}(h:L.Ok):qE (λ _=>2) pT L.rule:=by
 cases L with
 | fact i j=>exact⟨⟨by simp[KL.rule],by simp[KL.rule],by simp[KL.rule]⟩,rfl,by simp[KL.rule],by simp[KL.rule,tN],by simp[KL.rule],by simp[KL.rule],by simp[KL.rule]⟩
 | rev h' q x y=>
  obtain⟨h1,h2,h3,_,_⟩:=h;refine⟨⟨by simp[KL.rule],by simp[KL.rule],by simp[KL.rule]⟩,rfl,by simp[KL.rule],by simp[KL.rule],by simp[KL.rule],?_,by simp[KL.rule]⟩;simp only[KL.rule,List.mem_singleton,forall_eq];rw[za2 (k:=q) (by omega),za2 h2];exact h3
 | join h' q r x y z=>
  obtain⟨h1,h2,h3,h4,_,_,_⟩:=h;refine⟨⟨by simp[KL.rule],by simp[KL.rule],by simp[KL.rule]⟩,rfl,by simp[KL.rule],by simp[KL.rule],by simp[KL.rule],?_,by simp[KL.rule]⟩;simp only[KL.rule,List.mem_cons,List.not_mem_nil,or_false,forall_eq_or_imp,forall_eq];rw[za2 (k:=q) (by omega),za2 (k:=r) (by omega),za2 h2];exact⟨h3,h4⟩
 | minus h' q r x y=>
  obtain⟨h1,h2,h3,h4,_,_⟩:=h;refine⟨⟨by simp[KL.rule],by simp[KL.rule],by simp[KL.rule]⟩,rfl,by simp[KL.rule],by simp[KL.rule],by simp only[KL.rule];exact zN (λ h=>by cases h) (λ _ t ht hv=>⟨_,List.mem_cons_self,rfl,by rcases List.mem_cons.1 ht with rfl | ht;exact List.mem_cons_of_mem _ List.mem_cons_self;rw[List.mem_singleton.1 ht];exact List.mem_cons_self⟩),?_,?_⟩
  ·simp only[KL.rule,List.mem_cons,List.not_mem_nil,or_false,forall_eq_or_imp,forall_eq];rw[za2 (k:=q) (by omega),za2 (k:=r) (by omega),za2 h2];exact⟨h3,by omega⟩
  ·simp only[KL.rule,List.mem_cons,List.not_mem_nil,or_false,forall_eq_or_imp,forall_eq];rw[za2 (k:=q) (by omega),za2 (k:=r) (by omega),za2 h2];exact⟨by simp,λ _=>h4⟩
 | sX h' q r x y n m=>
  obtain⟨h1,h2,h3,h4,_,_,_,_⟩:=h;refine⟨⟨by simp[KL.rule],by simp[KL.rule],by simp[KL.rule]⟩,rfl,by simp[KL.rule],by simp[KL.rule,tN],by simp only[KL.rule];exact zN (λ h=>by cases h) (λ _ t ht hv=>⟨_,List.mem_cons_self,rfl,by rcases List.mem_cons.1 ht with rfl | ht;exact List.mem_cons_self;rw[List.mem_singleton.1 ht] at hv;cases hv⟩),?_,?_⟩
  ·simp only[KL.rule,List.mem_cons,List.not_mem_nil,or_false,forall_eq_or_imp,forall_eq];rw[za2 (k:=q) (by omega),za2 (k:=r) (by omega),za2 h2];exact⟨h3,by omega⟩
  ·simp only[KL.rule,List.mem_cons,List.not_mem_nil,or_false,forall_eq_or_imp,forall_eq];rw[za2 (k:=q) (by omega),za2 (k:=r) (by omega),za2 h2];exact⟨by simp,λ _=>h4⟩
theorem z5r (b:List UInt8)(pd:B8)(ts:List (Bool × B8))(r:List zmq):zg9 (qI b pd ts++r)=b++zg9 (qI [] pd ts++r):=by
 cases ts <;> simp[qI,zg9]
theorem zwp (b:List UInt8)(R:yG)(r:List zmq):zg9 (zah b R++r)=b++zg9 (zah [] R++r):=by
 unfold zah;rw[List.append_assoc,List.append_assoc,z5r]
theorem zft (sep:List UInt8):∀ (rules:List yG) (b:List UInt8),zg9 (zay sep b rules)++sep=(match rules with | []=>[] | _=>b)++(rules.flatMap λ R=>zg9 (zah [] R)++sep)++(match rules with | []=>sep | _=>[])
 | [],b=>by simp[zay,zg9]
 | [R],b=>by
  have h:=zwp b R [];rw[List.append_nil,List.append_nil] at h;simp[zay,h]
 | R::Q::r,b=>by
  have ih:=zft sep (Q::r) sep;rw[zay,zuk,List.append_assoc,ih];have h:=zwp b R [];rw[List.append_nil,List.append_nil] at h;simp only[h,List.flatMap_cons,List.append_assoc,List.append_nil]
def znu (L:Nat->KL)(n:Nat):List yG:=(KL.fact 0 1).rule::(List.range n).map λ i=>(L i).rule
theorem zy8 (L:Nat->KL)(n:Nat):qC L n=zg9 (zay [32] [] (znu L n))++[32]:=by
 rw[zft [32] (znu L n) []];unfold znu qC;simp only[List.nil_append,List.append_nil,List.flatMap_cons,List.flatMap_map];rfl
theorem zp5 (L:Nat->KL)(n:Nat)(hn:n<=14)(hL:∀ i,i<n->(L i).Ok):xJ (aj (qC L n))=(true,0,0)/\(zO (aj (qC L n))).2.2.1=znu L n:=by
 have hb:∀ c∈[(32:UInt8)],yH c.toNat=true:=λ c hc=>zqq c (.inl (List.mem_singleton.1 hc))
 have ad:∀ R∈znu L n,qE (λ _=>2) pT R/\zbb R:=λ R hR=>by
  rcases List.mem_cons.1 hR with rfl | hR
  ·exact⟨KL.ic ⟨by decide,by decide⟩,KL.words _⟩
  ·obtain⟨i,hi,rfl⟩:=List.mem_map.1 hR;exact⟨KL.ic (hL i (List.mem_range.1 hi)),KL.words _⟩
 refine zjc hb (by simp) hb (ar:=λ _=>2) (lv:=pT) ?_ (λ R hR=>(ad R hR).1) (λ R hR=>(ad R hR).2) ?_ (zy8 L n)
 ·rw[lP];have:=zdf L n;omega
 ·unfold znu;rw[List.length_cons,List.length_map,List.length_range];omega
end
section
structure xR (rs rp:List PR):Prop where
 mem:∀ R,R∈rs.map (·.R)↔R∈rp.map (·.R)
 a:∀ r∈rs,r.bs.map (·.1)=r.R.body
 b:∀ r∈rp,r.bs.map (·.1)=r.R.body
variable {rs rp:List PR}
theorem xR.symm (h:xR rs rp):xR rp rs:=⟨λ R=>(h.mem R).symm,h.b,h.a⟩
theorem z1x (b:Bool){xs ys:List (yX × Value)}(h:xs.map (·.1)=ys.map (·.1)):(zY b xs).map (·.1)=(zY b ys).map (·.1):=by
 have key:∀ zs:List (yX × Value),(zY b zs).map (·.1)=((zs.map (·.1)).filter λ l=>l.neg==b).map λ l=>(⟨l.pd,l.ts⟩:yY):=λ zs=>by
  unfold zY
  induction zs with
  | nil=>rfl
  | cons z r ih=>
   rw[List.filter_cons,List.map_cons,List.filter_cons]
   by_cases hz:yW b z=true
   ·rw[if_pos hz,if_pos (show (z.1.neg==b)=true from hz),List.map_cons,List.map_cons,List.map_cons,ih];rfl
   ·rw[if_neg hz,if_neg (show ¬ (z.1.neg==b)=true from hz)];exact ih
 rw[key,key,h]
variable {r q:PR}
theorem zwn (hr:r.bs.map (·.1)=r.R.body)(hq:q.bs.map (·.1)=q.R.body)(h:r.R=q.R):zK r.bs=zK q.bs:=z1x false (by rw[hr,hq,h])
theorem zwb (hr:r.bs.map (·.1)=r.R.body)(hq:q.bs.map (·.1)=q.R.body)(h:r.R=q.R):xU r.bs=xU q.bs:=z1x true (by rw[hr,hq,h])
theorem z6f (h:r.R=q.R):vJ r=vJ q:=by unfold vJ;rw[h]
theorem xR.get (h:xR rs rp)(hr:r∈rs):∃ q∈rp,r.R=q.R/\zK r.bs=zK q.bs/\xU r.bs=xU q.bs/\vJ r=vJ q:=by
 obtain⟨q,hq,e⟩:=List.mem_map.1 ((h.mem r.R).1 (List.mem_map_of_mem hr));exact⟨q,hq,e.symm,zwn (h.a r hr) (h.b q hq) e.symm,zwb (h.a r hr) (h.b q hq) e.symm,z6f e.symm⟩
theorem xR.filter {rs rp:List PR}(h:xR rs rp)(S:B8->Nat)(s:Nat):xR (rs.filter (qK S s)) (rp.filter (qK S s)):=by
 refine⟨λ R=>?_,λ r hr=>h.a r (List.mem_filter.1 hr).1,λ r hr=>h.b r (List.mem_filter.1 hr).1⟩;have one:∀ {xs ys:List PR},(∀ R,R∈xs.map (·.R)->R∈ys.map (·.R))->R∈(xs.filter (qK S s)).map (·.R)->R∈(ys.filter (qK S s)).map (·.R):=λ hx hR=>by
  obtain⟨r,hr,rfl⟩:=List.mem_map.1 hR;obtain⟨h1,h2⟩:=List.mem_filter.1 hr;obtain⟨q,hq,e⟩:=List.mem_map.1 (hx r.R (List.mem_map_of_mem h1));refine List.mem_map.2 ⟨q,List.mem_filter.2 ⟨hq,?_⟩,e⟩;unfold qK at h2 ⊢;rw[e];exact h2
 exact⟨one λ R=>(h.mem R).1,one λ R=>(h.mem R).2⟩
variable {K L:List (Th × Nat)}
theorem qN (h:xR rs rp)(hk:qQ K L){t:Th}:zmn rs K t->zmn rp L t:=λ ⟨h1,r,hr,e,he,hf⟩=>by
 obtain⟨q,hq,_,e1,e2,e3⟩:=h.get hr;refine⟨?_,q,hq,e,?_,by rw[<-e3];exact hf⟩
 ·have:=hk.look t;rw[h1] at this
  cases hl:z7 L t with
  | none=>rfl
  | some n=>rw[hl] at this;cases this
 ·rw[<-e1,<-e2];exact (hk.ways _ _ _ _).1 he
variable {limit n:Nat}
theorem zkw (h:xR rs rp){r:Option (List (Th × Nat))}(hc:za0 rs limit n K r):za0 rp limit n K r:=by
 have hk:∀ K:List (Th × Nat),qQ K K:=λ K _=>Iff.rfl
 induction hc with
 | fk L h1 h2 h3=>exact .fk L h1 (λ t ht=>qN h (hk _) (h2 t ht)) h3
 | done h1=>exact .done λ t ht=>h1 t (qN h.symm (hk _) ht)
 | more h1 h2 h3 h4 h5 _ ih=>exact .more h1 h2 h3 (λ t=>(h4 t).trans ⟨qN h (hk _),qN h.symm (hk _)⟩) h5 ih
variable {count s:Nat} {S:B8->Nat}
theorem M7 (h:xR rs rp){r:Option (List (Th × Nat))}(hc:qD rs S limit count s K r):qD rp S limit count s K r:=by
 induction hc with
 | ends h1=>exact .ends h1
 | fK h1 h2=>exact .fK h1 (zkw (h.filter S _) h2)
 | next h1 h2 _ ih=>exact .next h1 (zkw (h.filter S _) h2) ih
theorem zc7 (h:K.Perm L):qQ K L:=λ _=>⟨λ ⟨n,hn⟩=>⟨n,h.mem_iff.1 hn⟩,λ ⟨n,hn⟩=>⟨n,h.mem_iff.2 hn⟩⟩
theorem zwg {M:List Th}(hM:M.Nodup)(E2:∀ t∈M,zmn rs K t)(hL:∀ t,(∃ n,(t,n)∈L)↔zmn rs K t):M.length<=L.length:=by
 have hs:∀ t∈M,t∈L.map (·.1):=λ t ht=>by
  obtain⟨n,hn⟩:=(hL t).2 (E2 t ht);exact List.mem_map.2 ⟨_,hn,rfl⟩
 have:=zlk M (L.map (·.1)) hM hs
 rwa [List.length_map] at this
theorem z6v (hK:(K.map (·.1)).Nodup)(hL:(L.map (·.1)).Nodup)(h1:∀ p∈K,p.2=n)(h2:∀ p∈L,p.2=n)(h:∀ t,(∃ n,(t,n)∈K)↔∃ n,(t,n)∈L):K.Perm L:=by
 have hn:∀ {X:List (Th × Nat)},(X.map (·.1)).Nodup->X.Nodup:=λ hX=>(List.pairwise_map.1 hX).imp λ bG e=>bG (by rw[e])
 have one:∀ {X Y:List (Th × Nat)},(∀ p∈X,p.2=n)->(∀ p∈Y,p.2=n)->(∀ t,(∃ n,(t,n)∈X)->∃ n,(t,n)∈Y)->∀ p∈X,p∈Y:=λ hX hY hXY p hp=>by
  obtain⟨m,hm⟩:=hXY p.1 ⟨p.2,hp⟩;have e1:=hX p hp;have e2:=hY _ hm;have:p=(p.1,m):=Prod.ext rfl (e1.trans e2.symm);rw[this];exact hm
 refine (List.perm_ext_iff_of_nodup (hn hK) (hn hL)).2 λ p=>⟨one h1 h2 (λ t=>(h t).1) p,one h2 h1 (λ t=>(h t).2) p⟩
theorem zkx (h:xR rs rp){r:Option (List (Th × Nat))}(hc:za0 rs limit n K r):∀ {L:List (Th × Nat)} {r':Option (List (Th × Nat))},K.Perm L->K.length<=limit->za0 rp limit n L r'->(r=none/\r'=none)\/∃ K' L',r=some K'/\r'=some L'/\K'.Perm L'/\K'.length<=limit:=by
 induction hc with
 | @fk n K M h1 h2 h3=>
  intro L r' hp hl hd;have hM:∀ t∈M,zmn rp L t:=λ t ht=>qN h (zc7 hp) (h2 t ht)
  have hlen:=hp.length_eq
  cases hd with
  | fk _ _ _ _=>exact .inl ⟨rfl,rfl⟩
  | done hn=>
   exfalso
   cases M with
   | nil=>simp at h3;omega
   | cons t q=>exact hn t (hM t List.mem_cons_self)
  | more _ _ _ h7 h8 _=>
   exfalso
   have:=zwg h1 hM h7;omega
 | @done n K hn=>
  intro L r' hp hl hd;have qk:∀ t,¬ zmn rp L t:=λ t ht=>hn t (qN h.symm (zc7 hp.symm) ht)
  have hlen:=hp.length_eq
  cases hd with
  | fk M _ h2 h3=>
   exfalso
   cases M with
   | nil=>simp at h3;omega
   | cons t q=>exact qk t (h2 t List.mem_cons_self)
  | done _=>exact .inr ⟨_,_,rfl,rfl,hp,hl⟩
  | @more _ _ L1 _ h1 _ _ h4 _ _=>
   exfalso
   cases L1 with
   | nil=>exact h1 rfl
   | cons p q=>exact qk p.1 ((h4 p.1).1 ⟨p.2,List.mem_cons_self⟩)
 | @more n K L0 r h1 h2 h3 h4 h5 hc ih=>
  intro L r' hp hl hd;have hlen:=hp.length_eq
  cases hd with
  | fk M fa eG ey=>
   exfalso
   have:=zwg fa (λ t ht=>qN h.symm (zc7 hp.symm) (eG t ht)) h4;omega
  | done hn=>
   exfalso
   cases L0 with
   | nil=>exact h1 rfl
   | cons p q=>exact hn p.1 (qN h (zc7 hp) ((h4 p.1).1 ⟨p.2,List.mem_cons_self⟩))
  | more g1 g2 g3 g4 g5 gc=>
   refine ih (hp.append (z6v h2 g2 h3 g3 λ t=>?_)) (by rw[List.length_append];exact h5) gc;rw[h4 t,g4 t];exact⟨qN h (zc7 hp),qN h.symm (zc7 hp.symm)⟩
theorem z3x (h:xR rs rp){r:Option (List (Th × Nat))}(hc:qD rs S limit count s K r):∀ {L:List (Th × Nat)} {r':Option (List (Th × Nat))},K.Perm L->K.length<=limit->qD rp S limit count s L r'->(r=none/\r'=none)\/∃ K' L',r=some K'/\r'=some L'/\K'.Perm L'/\K'.length<=limit:=by
 induction hc with
 | ends h1=>
  intro L r' hp hl hd
  cases hd with
  | ends _=>exact .inr ⟨_,_,rfl,rfl,hp,hl⟩
  | fK h2 _=>omega
  | next h2 _ _=>omega
 | fK h1 h2=>
  intro L r' hp hl hd
  cases hd with
  | ends _=>omega
  | fK _ _=>exact .inl ⟨rfl,rfl⟩
  | next _ h3 _=>
   rcases zkx (h.filter S _) h2 hp hl h3 with⟨_,e⟩ | ⟨_,_,e,_⟩
   ·cases e
   ·cases e
 | next h1 h2 _ ih=>
  intro L r' hp hl hd
  cases hd with
  | ends _=>omega
  | fK _ h3=>
   rcases zkx (h.filter S _) h2 hp hl h3 with⟨e,_⟩ | ⟨_,_,_,e,_⟩
   ·cases e
   ·cases e
  | next _ h3 h4=>
   rcases zkx (h.filter S _) h2 hp hl h3 with⟨e,_⟩ | ⟨_,_,e1,e2,e3,e4⟩
   ·cases e
   ·obtain rfl:=Option.some.inj e1;obtain rfl:=Option.some.inj e2;exact ih e3 e4 h4
theorem zpl {rs rp:List yG}(h:∀ R,R∈rs↔R∈rp){T:B8->Nat}(h1:qH rs S)(h2:ztd rs S)(h3:qH rp T)(h4:ztd rp T):S=T:=by
 funext k
 have a:=h2 T (λ R hR=>h3 R ((h R).1 hR)) k;have b:=h4 S (λ R hR=>h1 R ((h R).2 hR)) k;omega
end
section
open Go.RowKit Go.Maps
structure bp (s:B8)(xb:Nat)(w:W8)(lo:Nat)(rs:List PR):Prop where
 ok:(xJ s).1=true
 prog:zm3 w lo xb rs
 rules:rs.map (·.R)=(zO s).2.2.1
variable {rs:List PR} {lo xb:Nat} {w:W8} {s:B8}
theorem bp.cg (h:bp s xb w lo rs):∀ r∈rs,r.bs.map (·.1)=r.R.body:=λ r hr=>by
 obtain⟨a,c,_,_,eI⟩:=h.prog;exact (eI.each r hr).eq
theorem bp.below {w':W8}(h:bp s xb w lo rs)(k:Below w.heap.size w w'):bp s xb w' lo rs:=by
 obtain⟨a,c,h1,h2,h3⟩:=h.prog;exact⟨h.ok,⟨a,c,(k.block _ (Array.getElem?_eq_some_iff.1 h1).1).trans h1,h2,h3.iY k L9⟩,h.rules⟩
theorem bp.dh (h:bp s xb w lo rs):∀ r∈rs,jZ (zH s).2 r:=(zh3 h.ok h.rules h.cg).dh
variable {r:Option (List (Th × Nat))} {K:List (Th × Nat)} {limit:Nat} {TI:Th->Prop}
theorem z5v (hc:eT rs TI){n:Nat}(h:za0 rs limit n K r):(∀ p∈K,TI p.1)->∀ K',r=some K'->∀ p∈K',TI p.1:=by
 induction h with
 | fk _ _ _ _=>intro _ K' e;cases e
 | done _=>intro hK K' e;obtain rfl:=Option.some.inj e;exact hK
 | more _ _ _ h4 _ _ ih=>
  intro hK;refine ih λ p hp=>?_
  rcases List.mem_append.1 hp with hp | hp
  ·exact hK p hp
  ·exact hc.new hK ((h4 p.1).1 ⟨p.2,hp⟩)
variable {S:B8->Nat}
theorem zwu (hc:eT rs TI){count s:Nat}(h:qD rs S limit count s K r):(∀ p∈K,TI p.1)->∀ K',r=some K'->∀ p∈K',TI p.1:=by
 induction h with
 | ends _=>intro hK K' e;obtain rfl:=Option.some.inj e;exact hK
 | fK _ _=>intro _ K' e;cases e
 | next _ h2 _ ih=>exact λ hK=>ih (z5v (hc.filter _) h2 hK _ rfl)
noncomputable def zzg (ps:P9)(rp:List PR)(Sp:B8->Nat)(K:List (Th × Nat))(O:List Pl):Nat->Nat × List Nat:=open Classical in if h:∃ r,zki ps Sp rp K O r then h.choose else λ _=>(0,[])
variable {O:List Pl} {rp:List PR} {ps:P9}
theorem ybb {Sp:B8->Nat}(h:∃ r,zki ps Sp rp K O r):zki ps Sp rp K O (zzg ps rp Sp K O):=by
 unfold zzg;rw[dif_pos h];exact h.choose_spec
structure Mod (s:B8)(rs:List PR)(limit:Nat)(S:B8->Nat)(m:Nat)(r:Option (List (Th × Nat))):Prop where
 valid:qH (rs.map (·.R)) S
 low:ztd (rs.map (·.R)) S
 count:jS (zH s).2 S m
 gJ:qD rs S limit m 0 [] r
variable {m:Nat}
theorem Mod.GO (cT:∀ r∈rs,r.bs.map (·.1)=r.R.body)(h:Mod s rs limit S m (some K)):∃ n,m<=n/\zvb rs S n 1 K:=z3y (λ r hr=>h.valid r.R (List.mem_map_of_mem hr)) cT h.gJ (ybv _ _) K rfl
theorem Mod.ti (hg:∀ r∈rs,jZ (zH s).2 r)(h:Mod s rs limit S m (some K)):∀ p∈K,eE (zH s).2 p.1:=zwu (zeq hg) h.gJ (by simp) K rfl
theorem Mod.cY (cT:∀ r∈rs,r.bs.map (·.1)=r.R.body)(hg:∀ r∈rs,jZ (zH s).2 r)(h:Mod s rs limit S m (some K))(hO:O.Perm (K.map (zh9 S)))(ca:O.Pairwise λ p q=>vK p q=true):zki (zH s).2 S rs K O (zzg (zH s).2 rs S K O):=by
 obtain⟨n,_,hw⟩:=h.GO cT;exact ybb (ybu hg (h.ti hg) hw hO ca)
theorem zbr (h:bp s xb w lo rs)(q:B8)(hq:q.size<=2000000)(limit:Int):Calls Tryz.prog 20 #[.pointer (some ⟨xb,0,none⟩),.string q,.int .i64 limit] w λ e w'=>zms w rs (zH s).2 q limit w' e/\Below w.heap.size w w':=by
 have hg:=zdo h.ok;have hr:=h.rules;have eL:=h.cg;obtain⟨f0,bR,jd⟩:=hg.some_;have ak:∀ r∈rs,r.R∈(zO s).2.2.1:=λ r dH=>by rw[<-hr];exact List.mem_map_of_mem dH
 have oi:∀ r∈rs,∀ x∈r.bs,x.1∈r.R.body:=λ r dH x hx=>by rw[<-eL r dH];exact List.mem_map_of_mem hx
 have hl:rs.length<=30:=by have:=hg.len;rw[<-hr,List.length_map] at this;exact this
 exact zyn w lo xb rs (zH s).2 q limit (eE (zH s).2) hq h.prog hl (λ r dH=>by have:=hg.body r.R (ak r dH);rw[<-eL r dH,List.length_map] at this;exact this) (λ r dH=>hg.pd r.R (ak r dH)) (λ r dH x hx=>hg.JY r.R (ak r dH) x.1 (oi r dH x hx)) (by rw[hr];exact hg.agree) (by rw[hr];exact hg.met) (by have:=hg.ft;omega) (λ r dH=>⟨(hg.named r.R (ak r dH)).1,λ x hx=>(hg.named r.R (ak r dH)).2 x.1 (oi r dH x hx)⟩) f0 (by rw[hr];exact bR) jd (zeq h.dh) (λ t ht=>z9j ht)
theorem zjr (h:bp s xb w lo rs)(q:B8)(hq:q.size<=2000000)(limit:Int):Calls Tryz.prog 26 #[.pointer (some ⟨xb,0,none⟩),.string q,.int .i64 limit] w λ e w'=>zmr w rs (zH s).2 q limit (zzg (zH s).2 rs) w' e/\Below w.heap.size w w':=by
 have hg:=zdo h.ok;have hr:=h.rules;have eL:=h.cg;obtain⟨f0,bR,jd⟩:=hg.some_;have ak:∀ r∈rs,r.R∈(zO s).2.2.1:=λ r dH=>by rw[<-hr];exact List.mem_map_of_mem dH
 have oi:∀ r∈rs,∀ x∈r.bs,x.1∈r.R.body:=λ r dH x hx=>by rw[<-eL r dH];exact List.mem_map_of_mem hx
 have hl:rs.length<=30:=by have:=hg.len;rw[<-hr,List.length_map] at this;exact this
 exact z68 w lo xb rs (zH s).2 q limit (zzg (zH s).2 rs) hq h.prog hl (λ r dH=>by have:=hg.body r.R (ak r dH);rw[<-eL r dH,List.length_map] at this;exact this) (λ r dH=>hg.pd r.R (ak r dH)) (λ r dH x hx=>hg.JY r.R (ak r dH) x.1 (oi r dH x hx)) (by rw[hr];exact hg.agree) (by rw[hr];exact hg.met) (by have:=hg.ft;omega) (λ r dH=>⟨(hg.named r.R (ak r dH)).1,λ x hx=>(hg.named r.R (ak r dH)).2 x.1 (oi r dH x hx)⟩) f0 (by rw[hr];exact bR) jd (zeq h.dh) h.dh zvf (λ _ Sp m K sS uB hc dj O hO ca=>Mod.cY eL h.dh ⟨sS,uB,hc,dj⟩ hO ca)
variable {e:Ending} {t:Th} {q:B8}
theorem z0n (h:bp s xb w lo rs)(hM:Mod s rs limit S m (some K))(ht:vM (zH s).2 q=some t){bs:List Nat}(hE:z49 s q bs e):∃ v:Nat,e=.returned (.int .i64 (v:Nat))/\(v=1\/v=2\/v=3)/\(v=1->t∈K.map (·.1))/\(v=2->t∉K.map (·.1)):=by
 rcases hE with⟨hn,_⟩ | ⟨_,rp,aO,cT,hE⟩
 ·rw[h.ok] at hn;cases hn
 ·rcases hE with⟨hn,_⟩ | ⟨t',Sp,sN,sS,uB,hE⟩
  ·rw[ht] at hn;cases hn
  ·rw[ht] at sN;obtain rfl:=Option.some.inj sN;have jg:xR rs rp:=⟨λ R=>by rw[h.rules,aO],h.cg,cT⟩;obtain rfl:S=Sp:=zpl jg.mem hM.valid hM.low sS uB;rcases hE with⟨m',k,st,lY,hR,rfl⟩ | ⟨_,rfl⟩
   ·obtain rfl:=zfo hM.count lY;have hg:=(zh3 h.ok aO cT).dh;obtain⟨h1,h2⟩:=zul sS cT hg lY hR (M7 jg hM.gJ);refine⟨_,rfl,?_,λ e=>?_,λ e=>?_⟩
    ·unfold zf6;split
     ·exact .inl rfl
     ·split
      ·exact .inr (.inr rfl)
      ·exact .inr (.inl rfl)
    ·unfold zf6 at e
     split at e
     ·rename_i ak;exact h1 t ak
     ·split at e <;> cases e
    ·unfold zf6 at e
     split at e
     ·cases e
     ·rename_i l6
      split at e
      ·cases e
      ·rename_i hk;intro ak;refine l6 (h2 t ak ?_);obtain⟨p,hp,rfl⟩:=List.mem_map.1 ak;have hn:=(hM.ti h.dh p hp).num;have qk:(zZ (zH s).2 p.1.p).isSome=true:=(by rw[show p.1.p=p.1.1 from rfl,hn];rfl);exact Nat.lt_of_not_le λ hle=>hk ⟨qk,hle⟩
   ·exact⟨3,rfl,.inr (.inr rfl),(λ e=>by cases e),(λ e=>by cases e)⟩
theorem zyx {r q:PR}(h1:zK r.bs=zK q.bs)(h2:xU r.bs=xU q.bs)(h3:vJ r=vJ q)(N:List (Th × Nat))(t:Th):zar N r t=zar N q t:=by
 unfold zar;rw[h1,h2,h3]
theorem z0g (hm:rs.map (·.R)=rp.map (·.R))(ha:∀ r∈rs,r.bs.map (·.1)=r.R.body)(hb:∀ r∈rp,r.bs.map (·.1)=r.R.body){rea:Nat->Nat × List Nat}(h:zki ps S rs K O rea):zki ps S rp K O rea:=by
 have hlen:rs.length=rp.length:=by have:=congrArg List.length hm;rwa [List.length_map,List.length_map] at this
 have gT:∀ (i:Nat) (h1:i<rs.length) (h2:i<rp.length) (N:List (Th × Nat)) (t:Th),zar N rs[i] t=zar N rp[i] t:=λ i h1 h2 N t=>by
  have e:rs[i].R=rp[i].R:=by
   have:=congrArg (λ l=>l[i]?) hm;simp only[List.getElem?_map,List.getElem?_eq_getElem h1,List.getElem?_eq_getElem h2,Option.map_some] at this;exact Option.some.inj this
  exact zyx (zwn (ha _ (List.getElem_mem h1)) (hb _ (List.getElem_mem h2)) e) (zwb (ha _ (List.getElem_mem h1)) (hb _ (List.getElem_mem h2)) e) (z6f e) N t
 refine⟨h.perm,λ i hi=>?_,h.len,h.low⟩;have hl:=h.least i hi;have bP:(rea i).1<rp.length:=by have:=hl.lt;omega
 refine⟨λ j hj ER=>?_,bP,?_,λ row hr=>?_⟩
 ·rw[<-gT j (by omega) hj];exact hl.low j (by omega) ER
 ·rw[<-gT _ hl.lt bP];exact hl.mem
 ·rw[<-gT _ hl.lt bP] at hr;exact hl.least row hr
theorem zxd (h:bp s xb w lo rs)(hl:limit<=50)(hM:Mod s rs limit S m (some K))(hlen:K.length<=limit)(ht:vM (zH s).2 q=some t)(hO:O.Perm (K.map (zh9 S)))(ca:O.Pairwise λ p q=>vK p q=true)(hE:z49 s q (zdi (zH s).2 S K t (zzg (zH s).2 rs S K O) O) e):e=.returned (.int .i64 ((if (z7 K t).isSome then 1 else 2:Nat):Nat)):=by
 rcases hE with⟨hn,_⟩ | ⟨_,rp,aO,cT,hE⟩
 ·rw[h.ok] at hn;cases hn
 ·rcases hE with⟨hn,_⟩ | ⟨t',Sp,sN,sS,uB,hE⟩
  ·rw[ht] at hn;cases hn
  ·rw[ht] at sN;obtain rfl:=Option.some.inj sN;have jg:xR rs rp:=⟨λ R=>by rw[h.rules,aO],h.cg,cT⟩;obtain rfl:S=Sp:=zpl jg.mem hM.valid hM.low sS uB;have hg:=(zh3 h.ok aO cT).dh;have hA:=z0g (h.rules.trans aO.symm) h.cg cT (hM.cY h.cg h.dh hO ca);have ev:Mod s rp limit S m (some K):=⟨sS,uB,hM.count,M7 jg hM.gJ⟩;obtain⟨n,hn,hw⟩:=ev.GO cT;obtain⟨st,hR,ak,dj⟩:=z4q (λ r hr=>sS r.R (List.mem_map_of_mem hr)) cT hg hM.count hn hw (ev.ti hg) (by omega) hA t;rcases hE with⟨m',k,fF,lY,qf,rfl⟩ | ⟨cP,_⟩
   ·obtain rfl:=zfo hM.count lY;obtain⟨rfl,rfl⟩:=hR.uniq qf;have key:zf6 (zH s).2 S (xP (zH s).2 S K t) (st.map (·.t)) t=if (z7 K t).isSome then 1 else 2:=by
     by_cases hk:t∈K.map (·.1)
     ·unfold zf6;rw[if_pos (dj hk),if_pos (xB.2 hk)]
     ·have hl:¬ (z7 K t).isSome=true:=λ hx=>hk (xB.1 hx)
      have hc:¬ ((zZ (zH s).2 t.p).isSome=true/\xP (zH s).2 S K t<=S t.p):=by
       rintro⟨h1,h2⟩;have BJ:(zZ (zH s).2 t.1).isSome=true:=h1;unfold xP at h2;rw[if_pos BJ,if_neg hl] at h2;have rX:S t.1+1<=S t.1:=h2;omega
      unfold zf6;rw[if_neg (λ hx=>hk (ak t hx)),if_neg hc,if_neg hl]
    rw[key]
   ·exact absurd hR (cP _ _ _ hM.count)
end
section
open Go.RowKit Go.Maps
def zqi (w:W8)(s:B8)(e:Ending)(w':W8):Prop:=∃ (xb:Nat) (rs:List PR),e=.returned (.pointer (some ⟨xb,0,none⟩))/\bp s xb w' w.heap.size rs/\Below w.heap.size w w'
theorem yaq (w:W8)(s:B8)(hs:s.size<=maxLen)(h:xJ s=(true,0,0)):Calls Tryz.prog 18 #[.string s] w (zqi w s):=by
 have hP:=zr8 w s hs;rw[zt0,h] at hP;have bX:(xJ s).1=true:=by rw[h]
 have iS:=zC bX;clear h bX;go_enter Tryz.func18,Tryz.ntmps18;go_wp2_with fail;refine hP.mono ?_;rintro e w1 ⟨hb,_,eJ⟩;obtain⟨xb,rs,rfl,hp,hr⟩:=eJ rfl;have HX:=zC (show zqi w s (.returned (.pointer (some ⟨xb,0,none⟩))) w1 from ⟨xb,rs,rfl,⟨zA iS,hp,hr⟩,hb⟩);clear hP hb eJ hp hr;go_wp2_with fail;go_ret;exact zA HX
structure qd (w:W8)(a:O8)(c:Nat)(zs:List B8):Prop where
 cap:zs.length<=c
 max:c<=maxLen
 at_:∀ (j:Nat) (h:j<zs.length),∃ g,a=some ⟨g,0,none⟩/\g<w.heap.size/\w.cell? ⟨g,j,none⟩=some (.string zs[j])
variable {zs:List B8} {c:Nat} {a:O8} {w:W8}
theorem qd.below {w':W8}(h:qd w a c zs)(k:Below w.heap.size w w'):qd w' a c zs:=
 ⟨h.cap,h.max,λ j hj=>let ⟨g,e,hg,hc⟩:=h.at_ j hj;⟨g,e,Nat.lt_of_lt_of_le hg k.size,(k.cell (p:=⟨g,j,none⟩) hg).trans hc⟩⟩
theorem qd.ib {base:Nat}(h:w.ownsRow base 9 1 (.slice a zs.length c) zs.length (zs.map Value.string)):qd w a c zs:=by
 rcases h.2 with⟨e,h0⟩ | ⟨g,cap,cur,hv,hb,hg,dG,dx,eZ,gZ⟩
 ·injection e with e1 e2 e3
  have hz:zs=[]:=List.eq_nil_of_length_eq_zero h0;subst hz e3;exact⟨Nat.le_refl _,by unfold maxLen;omega,λ j hj=>by simp at hj⟩
 ·injection hv with e1 e2 e3
  subst e1 e3;refine⟨dG,dx,λ j hj=>⟨g,rfl,(h.lt g rfl).2,?_⟩⟩;have:=World.ownsRow.cellAt h j (by omega);rw[this,List.getElem?_map,List.getElem?_eq_getElem hj];rfl
def yJ (t:B8)(zs:List B8):Bool:=zs.any λ z=>z.toList==t.toList
theorem zcw {t:B8}:yJ t zs=true↔t∈zs:=by
 unfold yJ;rw[List.any_eq_true]
 constructor
 ·rintro⟨z,hz,e⟩;rw[<-zU.1 e];exact hz
 ·intro h;exact⟨t,h,zU.2 rfl⟩
theorem z1k (w:W8)(a:O8)(c:Nat)(zs:List B8)(t:B8)(h:qd w a c zs):Calls Tryz.prog 22 #[.slice a zs.length c,.string t] w λ e w'=>e=.returned (.bool (yJ t zs))/\w'=w:=by
 have H:=zC h;have kR:=h.cap;have kK:=h.max;unfold maxLen at kK;clear h;go_enter Tryz.func22,Tryz.ntmps22;go_wp2_with fail
 go_loopg [5] zs.length (λ gg i wr=>∃ k:Nat,k<=zs.length/\gg=zs.length-k/\i=.int .i64 (k:Nat)/\wr=w/\∀ x∈zs.take k,x≠t)
 exact⟨0,Nat.zero_le _,rfl,rfl,rfl,by simp⟩
 case round=>
  obtain⟨k,hk,fM,rfl,rfl,cP⟩:=hrel
  by_cases aN:k<zs.length
  ·obtain⟨g,rfl,hg,hc⟩:=(zA H).at_ k aN;have gW:(k:Int)<zs.length:=by omega
   by_cases he:zs[k]=t
   ·have HR:=zC (show yJ t zs=true from zcw.2 (by rw[<-he];exact List.getElem_mem aN));have NU:(zs[k].toList==t.toList)=true:=zU.2 he;generalize zs[k]=z at *;clear cP;go_wp2_with fail;go_ret;exact⟨by rw[zA HR];rfl,rfl⟩
   ·have NU:(zs[k].toList==t.toList)=false:=by
     cases hx:(zs[k].toList==t.toList) with
     | false=>rfl
     | true=>exact absurd (zU.1 hx) he
    have HN:=zC (show ∀ x∈zs.take (k+1),x≠t from λ x hx=>by
     rw[List.take_succ_eq_append_getElem aN] at hx;rcases List.mem_append.1 hx with hx | hx
     ·exact cP x hx
     ·rw[List.mem_singleton.1 hx];exact he)
    generalize zs[k]=z at *;clear cP;go_wp2_with fail;go_roundg (zs.length-(k+1));exact⟨k+1,by omega,rfl,by go_num,rfl,zA HN⟩;omega
  ·have CK:k=zs.length:=by omega
   have HR:=zC (show yJ t zs=false by
    cases hx:yJ t zs with
    | false=>rfl
    | true=>exact absurd rfl (cP t (by rw[CK,List.take_length];exact zcw.1 hx)))
   clear cP;have gW:¬ (k:Int)<zs.length:=(by omega);go_wp2_with fail;go_ret;exact⟨by rw[zA HR];rfl,rfl⟩
end
section
open Go.RowKit Go.Maps
def zm0 (p i:Nat):B8:=aj [pdU p,40,ae (i/4),44,ae (i%4),41]
theorem zls (i n:Nat):zF (i:Int) n=i%n:=by
 unfold zF;rw[if_neg (by omega)];omega
attribute [local go_sem] nQ
end
section
variable {q:List (Bool × B8)} {t:Bool × B8} {pd:B8}
theorem zxa (hp:jH 2 (yF pd))(ht:∀ x∈t::q,jH (zbe x).1 (zbe x).2):zqn (qI [] pd (t::q)):=by
 obtain⟨h1,_,_⟩:=zi9 (t::q) (by simp) ht;have ha:zbs 5 (qF (t::q)):=by
  cases q with
  | nil=>exact .inr ⟨by simp,by simp⟩
  | cons v q=>exact .inr ⟨by simp,by simp⟩
 exact⟨by simp,hp,.inr ⟨by simp,by simp⟩,by simp,.open_,ha,h1⟩
theorem zc4 {s:B8}(hp:jH 2 (yF pd))(ht:∀ x∈t::q,jH (zbe x).1 (zbe x).2)(hl:(t::q).length<=4)(h:yF s=zg9 (qI [] pd (t::q))):zc3 s=some ⟨pd,t::q⟩:=by
 obtain⟨e,h1,h2⟩:=zmg (s:=s) (rest:=[]) (qI [] pd (t::q)) 0 (zxa hp ht) (by rw[List.append_nil];exact h);rw[zhe] at h1;obtain⟨_,pl,h3⟩:=zc5 hl h1 (λ h=>by cases h);unfold zc3;rw[h3];simp only;rw[if_pos (zn5 h2 (by simp))]
theorem zkc:∀ (l ps:P9) (k:B8) (n:Nat),zZ (j5 l ps) k=some n->zZ ps k=some n\/(k,n)∈l
 | [],_,_,_,h=>.inl h
 | x::r,ps,k,n,h=>by
  rcases zkc r (zao ps x.1 x.2) k n h with h | h
  ·rw[zle] at h
   split at h
   ·rw[zfq] at h
    cases hn:zZ ps k with
    | some m=>rw[hn] at h;exact .inl (by rw[<-h])
    | none=>
     rw[hn] at h;simp only at h
     split at h
     ·rename_i e;have e1:=zU.1 e;have e2:=Option.some.inj h;refine .inr ?_;rw[<-e1,<-e2];exact List.mem_cons_self
     ·cases h
   ·exact .inl h
  ·exact .inr (List.mem_cons_of_mem _ h)
def zz8 (ps:P9):Prop:=∀ k n,zZ ps k=some n->n=2/\∃ i,i<4/\k=fl i
theorem KL.atoms {L:KL}(h:L.Ok):∀ x∈xV L.rule,x.2=2/\∃ i,i<4/\x.1=fl i:=by
 cases L with
 | fact i j=>exact vN ⟨rfl,0,by decide,rfl⟩
 | rev h' q x y=>
  obtain⟨h1,h2,h3,_,_⟩:=h;exact zN ⟨rfl,h',h2,rfl⟩ ⟨rfl,q,by omega,rfl⟩
 | join h' q r x y z=>
  obtain⟨h1,h2,h3,h4,_,_,_⟩:=h;intro u hu;rcases List.mem_cons.1 hu with rfl | hu
  ·exact⟨rfl,h',h2,rfl⟩
  ·exact zN (P:=λ x:B8 × Nat=>x.2=2/\∃ i,i<4/\x.1=fl i) ⟨rfl,q,by omega,rfl⟩ ⟨rfl,r,by omega,rfl⟩ u hu
 | minus h' q r x y=>
  obtain⟨h1,h2,h3,h4,_,_⟩:=h;intro u hu;rcases List.mem_cons.1 hu with rfl | hu
  ·exact⟨rfl,h',h2,rfl⟩
  ·exact zN (P:=λ x:B8 × Nat=>x.2=2/\∃ i,i<4/\x.1=fl i) ⟨rfl,q,by omega,rfl⟩ ⟨rfl,r,by omega,rfl⟩ u hu
 | sX h' q r x y n m=>
  obtain⟨h1,h2,h3,h4,_,_,_,_⟩:=h;intro u hu;rcases List.mem_cons.1 hu with rfl | hu
  ·exact⟨rfl,h',h2,rfl⟩
  ·exact zN (P:=λ x:B8 × Nat=>x.2=2/\∃ i,i<4/\x.1=fl i) ⟨rfl,q,by omega,rfl⟩ ⟨rfl,r,by omega,rfl⟩ u hu
theorem z8j {L:Nat->KL}{n:Nat}(hn:n<=14)(hL:∀ i,i<n->(L i).Ok):zz8 (zH (aj (qC L n))).2:=by
 obtain⟨h1,h2⟩:=zp5 L n hn hL;have hg:=zdo (s:=aj (qC L n)) (by rw[h1]);intro k m hk;rw[<-hg.met,h2] at hk;rcases zkc _ _ _ _ hk with h | h
 ·cases h
 ·obtain⟨R,hR,hx⟩:=List.mem_flatMap.1 h;rcases List.mem_cons.1 hR with rfl | hR
  ·exact KL.atoms (L:=.fact 0 1) ⟨by decide,by decide⟩ _ hx
  ·obtain⟨i,hi,rfl⟩:=List.mem_map.1 hR;exact KL.atoms (hL i (List.mem_range.1 hi)) _ hx
def thK (p i j:Nat):Th:=(fl p,[yA (ae i),yA (ae j)])
theorem z8d (p i:Nat):yI (thK p (i/4) (i%4))=zm0 p i:=rfl
variable {ps:P9}
theorem ybq (h:zz8 ps)(p i:Nat):vM ps (zm0 p i)=some (thK p (i/4) (i%4)):=by
 have hp:zc3 (zm0 p i)=some ⟨fl p,[tN (i/4),tN (i%4)]⟩:=zc4 (qY p) (zN (zn6 _) (zn6 _)) (by simp) rfl;have hs:zb6 ps ⟨fl p,[tN (i/4),tN (i%4)]⟩=true:=by
  unfold zb6
  cases hn:zZ ps (fl p) with
  | none=>rfl
  | some m=>simp only;rw[(h _ _ hn).1];rfl
 unfold vM vF;rw[hp];simp only;rw[if_pos hs];rfl
def z4w (k:Nat):yY:=⟨fl k,[(true,yA 88),(true,yA 89)]⟩
theorem z92 (h:zz8 ps)(k:Nat):vF ps (yA (pdU k)++{ data:=#[40,88,44,89,41] })=some (z4w k):=by
 have hx:jH (zbe (true,yA 88)).1 (zbe (true,yA 88)).2:=zea (by decide);have hy:jH (zbe (true,yA 89)).1 (zbe (true,yA 89)).2:=zea (by decide)
 have hp:zc3 (yA (pdU k)++{ data:=#[40,88,44,89,41] })=some (z4w k):=zc4 (qY k) (zN hx hy) (by simp) (by
  unfold yF yA;rw[ByteArray.data_append,Array.toList_append]
  rfl)
 have hs:zb6 ps (z4w k)=true:=by
  unfold zb6 z4w
  cases hn:zZ ps (fl k) with
  | none=>rfl
  | some m=>simp only;rw[(h _ _ hn).1];rfl
 unfold vF;rw[hp];simp only;rw[if_pos hs]
theorem yd4 {k:Nat}{t:Th}(h2:t.2.length=2)(n:Nat):zk8 (z4w k) (t,n)=true↔t.1=fl k:=by
 obtain⟨p,ts⟩:=t;obtain⟨a,b,rfl⟩:∃ a b,ts=[a,b]:=by
  match ts,h2 with
  | [a,b],_=>exact⟨a,b,rfl⟩
 unfold zk8 zV
 show (if (z4w k).p.toList==p.toList then zgz [] (z4w k).ts [a,b] else none).isSome=true↔p=fl k
 by_cases he:((z4w k).p.toList==p.toList)=true
 ·rw[if_pos he];have e:fl k=p:=zU.1 he;refine⟨λ _=>e.symm,λ _=>?_⟩;have h1:pmT [] (true,yA 88) a=some [(yA 88,a)]:=rfl;have hn:pAt [(yA 88,a)] (yA 89)=none:=by
   have bG:¬ ((yA 88).toList==(yA 89).toList)=true:=λ h=>by
    have:=zU.1 h;have:=congrArg yF this;simp[yF,yA] at this
   rw[pAt,if_neg bG];rfl
  have h2:pmT [(yA 88,a)] (true,yA 89) b=some [(yA 88,a),(yA 89,b)]:=by
   unfold pmT pmB;rw[if_pos rfl,hn];rfl
  show (zgz [] [(true,yA 88),(true,yA 89)] [a,b]).isSome=true
  rw[zgz];simp only[List.headD_cons,List.tail_cons,h1];rw[zgz];simp only[List.headD_cons,h2];rfl
 ·rw[if_neg he];refine⟨λ h=>by simp at h,λ e=>absurd (zU.2 e.symm) he⟩
end
end Go.Proofs.YtldkpahaocjdpaaGreat
