/-
  affidavitkeep: the text of lines.
-/
import Derived.Test.YtldkpahaocjdpaaGreatM30
import Derived.Test.YtldkpahaocjdpaaGreatM47
import Derived.Laws.BytesArg
set_option maxHeartbeats 16000000
set_option maxRecDepth 1000000
namespace Go.Proofs.YtldkpahaocjdpaaGreat
section
open Go.RowKit
abbrev Raw:=Int × Int × Int × Int
def inR (x:Int):Prop:=-9223372036854775808<=x/\x<=9223372036854775807
structure z33 (r:Raw):Prop where
 k:inR r.1
 a:inR r.2.1
 b:inR r.2.2.1
 c:inR r.2.2.2
def bW (r:Raw):KL:=zvk r.1 r.2.1 r.2.2.1 r.2.2.2
theorem ycu (w:W8)(r:Raw)(h:z33 r):Calls Tryz.prog 24 #[.agg #[.int .i64 r.1,.int .i64 r.2.1,.int .i64 r.2.2.1,.int .i64 r.2.2.2]] w (zfd w (bW r)):=by
 have hp:=(yG r.1 (n:=8) (by decide)).1;unfold bW zvk
 by_cases h1:zG r.1 8<4
 ·rw[if_pos h1];exact zxf w _ _ _ _ h.k h.a h.b h1
 rw[if_neg h1]
 by_cases h2:zG r.1 8=4
 ·rw[if_pos h2];exact z0s w _ _ _ _ h.k h.a h.b h.c h2
 rw[if_neg h2]
 by_cases h3:zG r.1 8=5
 ·rw[if_pos h3];exact zxg w _ _ _ _ h.k h.a h.b h.c h3
 rw[if_neg h3]
 by_cases h4:zG r.1 8=6
 ·rw[if_pos h4];exact ztf w _ _ _ _ h.k h.a h.b h.c h4
 rw[if_neg h4];exact z0r w _ _ _ _ h.k h.a h.b h.c (by omega)
theorem zk2 (L:KL):(dT L).length<=40:=by
 cases L <;> simp[dT,KL.rule,zaz,j9,qA,za7,zjt,zhp,zbe,tN,tV,fl,zT,yH]
structure BO (w:W8)(la:O8)(n:Nat)(R:Nat->Raw):Prop where
 el:∀ i,i<n->∃ g off,la=some ⟨g,off,none⟩/\g<w.heap.size/\w.cell? ⟨g,off+i*4,none⟩=some (.int .i64 (R i).1)/\w.cell? ⟨g,off+i*4+1,none⟩=some (.int .i64 (R i).2.1)/\w.cell? ⟨g,off+i*4+2,none⟩=some (.int .i64 (R i).2.2.1)/\w.cell? ⟨g,off+i*4+3,none⟩=some (.int .i64 (R i).2.2.2)/\z33 (R i)
theorem BO.below {w w':W8}{la:O8}{n:Nat}{R:Nat->Raw}(h:BO w la n R)(k:Below w.heap.size w w'):BO w' la n R:=
 ⟨λ i hi=>by
  obtain⟨g,off,h1,h2,c0,c1,c2,c3,h3⟩:=h.el i hi;have hz:=k.size;refine⟨g,off,h1,by omega,?_,?_,?_,?_,h3⟩
  all_goals (rw[k.cell (by simpa using h2)];assumption)⟩
def z7r:List UInt8:=[101,40,97,44,98,41,46,32]
def aL (L:Nat->KL)(n:Nat):List UInt8:=z7r++(List.range n).flatMap λ i=>dT (L i)
theorem zob (L:Nat->KL)(n:Nat):aL L (n+1)=aL L n++dT (L n):=by
 unfold aL;rw[List.range_succ,List.flatMap_append,<-List.append_assoc];simp
theorem zhu (L:Nat->KL):∀ n,(aL L n).length<=8+40*n
 | 0=>by simp[aL,z7r]
 | n+1=>by
  rw[zob,List.length_append];have:=zhu L n;have:=zk2 (L n);omega
def aB (l:List UInt8):B8:=⟨l.toArray⟩
theorem zdc (l:List UInt8):(aB l).size=l.length:=by unfold aB;rfl
theorem zui (a b:List UInt8):aB a++aB b=aB (a++b):=ByteArray.mk_append_mk a b
theorem ycv (w:W8)(la:O8)(n c:Nat)(R:Nat->Raw)(h:BO w la n R)(dG:n<=c)(hc:c<=maxLen)(jm:Nat)(hm:jm<=20):Calls Tryz.prog 17 #[.slice la n c,.int .i64 (jm:Nat)] w λ e w'=>e=.returned (.string (aB (aL (λ i=>bW (R i)) (min n jm))))/\Below w.heap.size w w':=by
 have H:=zC h;have oa:aB (aL (λ i=>bW (R i)) 0)={ data:=#[101,40,97,44,98,41,46,32] }:=rfl;have HL:=zC (λ k=>(show (aB (aL (λ i=>bW (R i)) k)).size<=8+40*k from by rw[zdc];exact zhu _ k));have HS:=zC (λ k=>(show aB (aL (λ i=>bW (R i)) k)++aB (dT (bW (R k)))=aB (aL (λ i=>bW (R i)) (k+1)) from by rw[zui,zob]));have iI:=zC oa;unfold maxLen at hc;clear h oa;go_enter Tryz.func17,Tryz.ntmps17;go_wp2_with fail
 go_loopg [5,6] (min n jm) (λ gg v i wr=>∃ k:Nat,k<=min n jm/\gg=min n jm-k/\v=.string (aB (aL (λ i=>bW (R i)) k))/\i=.int .i64 (k:Nat)/\Below w.heap.size w wr)
 exact⟨0,Nat.zero_le _,rfl,by rw[zA iI],rfl,Below.refl _ _⟩
 case round=>
  clear iI;obtain⟨k,hk,fM,rfl,rfl,hB⟩:=hrel
  by_cases aN:k<min n jm
  ·obtain⟨g,off,rfl,hg,c0,c1,c2,c3,hr⟩:=((zA H).below hB).el k (by omega);have CK:(k:Int)<n:=(by omega);have Aw:(k:Int)<jm:=(by omega);have HC:=zC (ycu wr (R k) hr);have HB:=zC hB;have js:=zA HL k;have lj:(aB (dT (bW (R k)))).size<=40:=(by rw[zdc];exact zk2 _);have gM:=zC (zA HS k);obtain⟨t1,iN⟩:∃ t1,t1=aB (aL (λ i=>bW (R i)) k):=⟨_,rfl⟩;obtain⟨t2,gK⟩:∃ t2,t2=aB (dT (bW (R k))):=⟨_,rfl⟩;have ks:Hid (Calls Tryz.prog 24 #[.agg #[.int .i64 (R k).1,.int .i64 (R k).2.1,.int .i64 (R k).2.2.1,.int .i64 (R k).2.2.2]] wr λ e w'=>e=.returned (.string t2)/\Below wr.heap.size wr w'):=(by rw[gK];exact HC);rw[<-iN] at js gM;rw[<-gK] at lj gM;have Cm:¬ (9223372036854775807<t1.size+t2.size):=(by omega);have Af:=zC iN;rw[<-iN];clear hB hr iN gK HC;go_wp2_with (go_at_call 24;refine (zA ks).mono ?_;rintro e w1 ⟨rfl,aT⟩;have cR:=zC aT;clear aT);go_roundg (min n jm-(k+1));exact⟨k+1,by omega,rfl,by rw[zA gM],by go_num,(zA HB).trans ((zA cR).mono (zA HB).size)⟩;omega
  ·have kg:k=min n jm:=(by omega);have HB:=zC hB;clear hB
   by_cases CK:k<n
   ·have Aw:¬ (k:Int)<jm:=(by omega);have CL:(k:Int)<n:=(by omega);go_wp2_with fail;go_ret;exact⟨rfl,zA HB⟩
   ·have CL:¬ (k:Int)<n:=(by omega);go_wp2_with fail;go_ret;exact⟨rfl,zA HB⟩
end
section
def KL.Ok:KL->Prop
 | .fact i j=>i<4/\j<4
 | .rev h q x y=>1<=h/\h<4/\q<=h/\x<3/\y<3
 | .join h q r x y z=>1<=h/\h<4/\q<=h/\r<=h/\x<3/\y<3/\z<3
 | .minus h q r x y=>1<=h/\h<4/\q<=h/\r<h/\x<3/\y<3
 | .sX h q r x y n m=>1<=h/\h<4/\q<=h/\r<h/\x<3/\y<3/\n<4/\m<4
theorem zk3 (k a b c:Int):(zvk k a b c).Ok:=by
 have pa:=(yG a (n:=3) (by decide)).1;have pq:=(yG (b.tdiv 9) (n:=1+zG a 3+1) (by omega)).1;have px:=(yG b (n:=3) (by decide)).1;have py:=(yG (b.tdiv 3) (n:=3) (by decide)).1;unfold zvk
 split
 ·exact⟨(yG a (by decide)).1,(yG b (by decide)).1⟩
 split
 ·exact⟨by omega,by omega,by omega,px,py⟩
 split
 ·have pr:=(yG (c.tdiv 3) (n:=1+zG a 3+1) (by omega)).1;exact⟨by omega,by omega,by omega,by omega,px,py,(yG c (by decide)).1⟩
 split
 ·have pr:=(yG c (n:=1+zG a 3) (by omega)).1;exact⟨by omega,by omega,by omega,pr,px,py⟩
 ·have pr:=(yG (c.tdiv 4) (n:=1+zG a 3) (by omega)).1;exact⟨by omega,by omega,by omega,pr,px,py,(yG c (by decide)).1,(yG (c.tdiv 12) (by decide)).1⟩
theorem yby (k:Nat):pdU k=101\/pdU k=102\/pdU k=103\/pdU k=104:=by
 match k with
 | 0=>decide
 | 1=>decide
 | 2=>decide
 | 3=>decide
 | k+4=>exact .inl rfl
theorem ybv (k:Nat):nmU k=97\/nmU k=98\/nmU k=99\/nmU k=100:=by
 match k with
 | 0=>decide
 | 1=>decide
 | 2=>decide
 | 3=>decide
 | k+4=>exact .inl rfl
theorem yb5 (k:Nat):vrU k=88\/vrU k=89\/vrU k=90:=by
 match k with
 | 0=>decide
 | 1=>decide
 | 2=>decide
 | k+3=>exact .inl rfl
variable {c:UInt8}
theorem z3f (h:jG c.toNat=true):jP 2 [c]:=.name (by simp) (by simp) (λ x hx=>by rw[List.mem_singleton.1 hx];exact h) (by simp)
theorem zhw (h:xD c.toNat=true):jP 3 [c]:=.var (by simp) (by simp) (λ x hx=>by rw[List.mem_singleton.1 hx];exact h)
theorem zbz (k:Nat):jP 2 (zT (fl k)):=z3f (by rcases yby k with h | h | h | h <;> rw[h] <;> decide)
theorem zjm (k:Nat):jP (zbe (tN k)).1 (zbe (tN k)).2:=z3f (by rcases ybv k with h | h | h | h <;> rw[h] <;> decide)
theorem qR (k:Nat):jP (zbe (tV k)).1 (zbe (tV k)).2:=zhw (by rcases yb5 k with h | h | h <;> rw[h] <;> decide)
variable {Ty:Type}
theorem yP {P:Ty->Prop}{a b:Ty}(ha:P a)(hb:P b):∀ t∈[a,b],P t:=λ t ht=>by
 rcases List.mem_cons.1 ht with rfl | ht
 ·exact ha
 ·rw[List.mem_singleton.1 ht];exact hb
theorem ztt {P:Ty->Prop}{a:Ty}(ha:P a):∀ t∈[a],P t:=λ t ht=>by rw[List.mem_singleton.1 ht];exact ha
theorem KL.words (L:KL):zh6 L.rule:=by
 cases L with
 | fact i j=>exact⟨zbz _,yP (zjm _) (zjm _),by simp[KL.rule],by simp[KL.rule]⟩
 | rev h q x y=>exact⟨zbz _,yP (qR _) (qR _),ztt (zbz _),ztt (yP (qR _) (qR _))⟩
 | join h q r x y z=>exact⟨zbz _,yP (qR _) (qR _),yP (zbz _) (zbz _),yP (yP (qR _) (qR _)) (yP (qR _) (qR _))⟩
 | minus h q r x y=>exact⟨zbz _,yP (qR _) (qR _),yP (zbz _) (zbz _),yP (yP (qR _) (qR _)) (yP (qR _) (qR _))⟩
 | sX h q r x y n m=>exact⟨zbz _,yP (qR _) (zjm _),yP (zbz _) (zbz _),yP (yP (qR _) (qR _)) (yP (qR _) (zjm _))⟩
def pT (p:B8):Nat:=if p=fl 1 then 1 else if p=fl 2 then 2 else if p=fl 3 then 3 else 0
theorem zas {k:Nat}(h:k<4):pT (fl k)=k:=by
 match k,h with
 | 0,_=>decide
 | 1,_=>decide
 | 2,_=>decide
 | 3,_=>decide
theorem KL.ic {L:KL}(h:L.Ok):zga (λ _=>2) pT L.rule:=by
 cases L with
 | fact i j=>exact⟨⟨by simp[KL.rule],by simp[KL.rule],by simp[KL.rule]⟩,rfl,by simp[KL.rule],by simp[KL.rule,tN],by simp[KL.rule],by simp[KL.rule],by simp[KL.rule]⟩
 | rev h' q x y=>
  obtain⟨h1,h2,h3,_,_⟩:=h;refine⟨⟨by simp[KL.rule],by simp[KL.rule],by simp[KL.rule]⟩,rfl,by simp[KL.rule],by simp[KL.rule],by simp[KL.rule],?_,by simp[KL.rule]⟩;simp only[KL.rule,List.mem_singleton,forall_eq];rw[zas (k:=q) (by omega),zas h2];exact h3
 | join h' q r x y z=>
  obtain⟨h1,h2,h3,h4,_,_,_⟩:=h;refine⟨⟨by simp[KL.rule],by simp[KL.rule],by simp[KL.rule]⟩,rfl,by simp[KL.rule],by simp[KL.rule],by simp[KL.rule],?_,by simp[KL.rule]⟩;simp only[KL.rule,List.mem_cons,List.not_mem_nil,or_false,forall_eq_or_imp,forall_eq];rw[zas (k:=q) (by omega),zas (k:=r) (by omega),zas h2];exact⟨h3,h4⟩
 | minus h' q r x y=>
  obtain⟨h1,h2,h3,h4,_,_⟩:=h;refine⟨⟨by simp[KL.rule],by simp[KL.rule],by simp[KL.rule]⟩,rfl,by simp[KL.rule],by simp[KL.rule],by simp only[KL.rule];exact yP (λ h=>by cases h) (λ _ t ht hv=>⟨_,List.mem_cons_self,rfl,by rcases List.mem_cons.1 ht with rfl | ht;exact List.mem_cons_of_mem _ List.mem_cons_self;rw[List.mem_singleton.1 ht];exact List.mem_cons_self⟩),?_,?_⟩
  ·simp only[KL.rule,List.mem_cons,List.not_mem_nil,or_false,forall_eq_or_imp,forall_eq];rw[zas (k:=q) (by omega),zas (k:=r) (by omega),zas h2];exact⟨h3,by omega⟩
  ·simp only[KL.rule,List.mem_cons,List.not_mem_nil,or_false,forall_eq_or_imp,forall_eq];rw[zas (k:=q) (by omega),zas (k:=r) (by omega),zas h2];exact⟨by simp,λ _=>h4⟩
 | sX h' q r x y n m=>
  obtain⟨h1,h2,h3,h4,_,_,_,_⟩:=h;refine⟨⟨by simp[KL.rule],by simp[KL.rule],by simp[KL.rule]⟩,rfl,by simp[KL.rule],by simp[KL.rule,tN],by simp only[KL.rule];exact yP (λ h=>by cases h) (λ _ t ht hv=>⟨_,List.mem_cons_self,rfl,by rcases List.mem_cons.1 ht with rfl | ht;exact List.mem_cons_self;rw[List.mem_singleton.1 ht] at hv;cases hv⟩),?_,?_⟩
  ·simp only[KL.rule,List.mem_cons,List.not_mem_nil,or_false,forall_eq_or_imp,forall_eq];rw[zas (k:=q) (by omega),zas (k:=r) (by omega),zas h2];exact⟨h3,by omega⟩
  ·simp only[KL.rule,List.mem_cons,List.not_mem_nil,or_false,forall_eq_or_imp,forall_eq];rw[zas (k:=q) (by omega),zas (k:=r) (by omega),zas h2];exact⟨by simp,λ _=>h4⟩
theorem z4i (b:List UInt8)(pd:B8)(ts:List (Bool × B8))(r:List zme):zhp (j9 b pd ts++r)=b++zhp (j9 [] pd ts++r):=by
 cases ts <;> simp[j9,zhp]
theorem zv2 (b:List UInt8)(R:yK)(r:List zme):zhp (zaz b R++r)=b++zhp (zaz [] R++r):=by
 unfold zaz;rw[List.append_assoc,List.append_assoc,z4i]
theorem zit (sep:List UInt8):∀ (rules:List yK) (b:List UInt8),zhp (zap sep b rules)++sep=(match rules with | []=>[] | _=>b)++(rules.flatMap λ R=>zhp (zaz [] R)++sep)++(match rules with | []=>sep | _=>[])
 | [],b=>by simp[zap,zhp]
 | [R],b=>by
  have h:=zv2 b R [];rw[List.append_nil,List.append_nil] at h;simp[zap,h]
 | R::Q::r,b=>by
  have ih:=zit sep (Q::r) sep;rw[zap,zt1,List.append_assoc,ih];have h:=zv2 b R [];rw[List.append_nil,List.append_nil] at h;simp only[h,List.flatMap_cons,List.append_assoc,List.append_nil]
def zn3 (L:Nat->KL)(n:Nat):List yK:=(KL.fact 0 1).rule::(List.range n).map λ i=>(L i).rule
theorem zyk (L:Nat->KL)(n:Nat):aL L n=zhp (zap [32] [] (zn3 L n))++[32]:=by
 rw[zit [32] (zn3 L n) []];unfold zn3 aL;simp only[List.nil_append,List.append_nil,List.flatMap_cons,List.flatMap_map];rfl
theorem zj7 (L:Nat->KL)(n:Nat)(hn:n<=14)(hL:∀ i,i<n->(L i).Ok):xY (aB (aL L n))=(true,0,0)/\(zN (aB (aL L n))).2.2.1=zn3 L n:=by
 have hb:∀ c∈[(32:UInt8)],yF c.toNat=true:=λ c hc=>zuz c (.inl (List.mem_singleton.1 hc))
 have bh:∀ R∈zn3 L n,zga (λ _=>2) pT R/\zh6 R:=λ R hR=>by
  rcases List.mem_cons.1 hR with rfl | hR
  ·exact⟨KL.ic ⟨by decide,by decide⟩,KL.words _⟩
  ·obtain⟨i,hi,rfl⟩:=List.mem_map.1 hR;exact⟨KL.ic (hL i (List.mem_range.1 hi)),KL.words _⟩
 refine zog hb (by simp) hb (ar:=λ _=>2) (lv:=pT) ?_ (λ R hR=>(bh R hR).1) (λ R hR=>(bh R hR).2) ?_ (zyk L n)
 ·rw[zdc];have:=zhu L n;omega
 ·unfold zn3;rw[List.length_cons,List.length_map,List.length_range];omega
end
section
open Go.RowKit Go.Maps
def zp8 (w:W8)(s:B8)(e:Ending)(w':W8):Prop:=∃ (xb:Nat) (rs:List PR),e=.returned (.pointer (some ⟨xb,0,none⟩))/\aZ s xb w' w.heap.size rs/\Below w.heap.size w w'
theorem ybq (w:W8)(s:B8)(hs:s.size<=maxLen)(h:xY s=(true,0,0)):Calls Tryz.prog 18 #[.string s] w (zp8 w s):=by
 have hP:=zro w s hs;rw[zth,h] at hP;have bX:(xY s).1=true:=by rw[h]
 have iS:=zC bX;clear h bX;go_enter Tryz.func18,Tryz.ntmps18;go_wp2_with fail;refine hP.mono ?_;rintro e w1 ⟨hb,_,eJ⟩;obtain⟨xb,rs,rfl,hp,hr⟩:=eJ rfl;have HX:=zC (show zp8 w s (.returned (.pointer (some ⟨xb,0,none⟩))) w1 from ⟨xb,rs,rfl,⟨zA iS,hp,hr⟩,hb⟩);clear hP hb eJ hp hr;go_wp2_with fail;go_ret;exact zA HX
structure qd (w:W8)(a:O8)(c:Nat)(zs:List B8):Prop where
 cap:zs.length<=c
 max:c<=maxLen
 at_:∀ (j:Nat) (h:j<zs.length),∃ g,a=some ⟨g,0,none⟩/\g<w.heap.size/\w.cell? ⟨g,j,none⟩=some (.string zs[j])
variable {zs:List B8} {c:Nat} {a:O8} {w:W8}
theorem qd.below {w':W8}(h:qd w a c zs)(k:Below w.heap.size w w'):qd w' a c zs:=
 ⟨h.cap,h.max,λ j hj=>let ⟨g,e,hg,hc⟩:=h.at_ j hj;⟨g,e,Nat.lt_of_lt_of_le hg k.size,(k.cell (p:=⟨g,j,none⟩) hg).trans hc⟩⟩
theorem qd.ib {base:Nat}(h:w.ownsRow base 9 1 (.slice a zs.length c) zs.length (zs.map Value.string)):qd w a c zs:=by
 rcases h.2 with⟨e,h0⟩ | ⟨g,cap,cur,hv,hb,hg,dG,dx,eZ,gZ⟩
 ·injection e with e1 e2 e3
  have hz:zs=[]:=List.eq_nil_of_length_eq_zero h0;subst hz e3;exact⟨Nat.le_refl _,by unfold maxLen;omega,λ j hj=>by simp at hj⟩
 ·injection hv with e1 e2 e3
  subst e1 e3;refine⟨dG,dx,λ j hj=>⟨g,rfl,(h.lt g rfl).2,?_⟩⟩;have:=World.ownsRow.cellAt h j (by omega);rw[this,List.getElem?_map,List.getElem?_eq_getElem hj];rfl
def zfv (t:B8)(zs:List B8):Bool:=zs.any λ z=>z.toList==t.toList
theorem zh7 {t:B8}:zfv t zs=true↔t∈zs:=by
 unfold zfv;rw[List.any_eq_true]
 constructor
 ·rintro⟨z,hz,e⟩;rw[<-yD.1 e];exact hz
 ·intro h;exact⟨t,h,yD.2 rfl⟩
theorem ybo (w:W8)(a:O8)(c:Nat)(zs:List B8)(t:B8)(h:qd w a c zs):Calls Tryz.prog 22 #[.slice a zs.length c,.string t] w λ e w'=>e=.returned (.bool (zfv t zs))/\w'=w:=by
 have H:=zC h;have kR:=h.cap;have iO:=h.max;unfold maxLen at iO;clear h;go_enter Tryz.func22,Tryz.ntmps22;go_wp2_with fail
 go_loopg [5] zs.length (λ gg i wr=>∃ k:Nat,k<=zs.length/\gg=zs.length-k/\i=.int .i64 (k:Nat)/\wr=w/\∀ x∈zs.take k,x≠t)
 exact⟨0,Nat.zero_le _,rfl,rfl,rfl,by simp⟩
 case round=>
  obtain⟨k,hk,fM,rfl,rfl,cP⟩:=hrel
  by_cases aN:k<zs.length
  ·obtain⟨g,rfl,hg,hc⟩:=(zA H).at_ k aN;have gW:(k:Int)<zs.length:=by omega
   by_cases he:zs[k]=t
   ·have HR:=zC (show zfv t zs=true from zh7.2 (by rw[<-he];exact List.getElem_mem aN));have M9:(zs[k].toList==t.toList)=true:=yD.2 he;generalize zs[k]=z at *;clear cP;go_wp2_with fail;go_ret;exact⟨by rw[zA HR];rfl,rfl⟩
   ·have M9:(zs[k].toList==t.toList)=false:=by
     cases hx:(zs[k].toList==t.toList) with
     | false=>rfl
     | true=>exact absurd (yD.1 hx) he
    have HN:=zC (show ∀ x∈zs.take (k+1),x≠t from λ x hx=>by
     rw[List.take_succ_eq_append_getElem aN] at hx;rcases List.mem_append.1 hx with hx | hx
     ·exact cP x hx
     ·rw[List.mem_singleton.1 hx];exact he)
    generalize zs[k]=z at *;clear cP;go_wp2_with fail;go_roundg (zs.length-(k+1));exact⟨k+1,by omega,rfl,by go_num,rfl,zA HN⟩;omega
  ·have CK:k=zs.length:=by omega
   have HR:=zC (show zfv t zs=false by
    cases hx:zfv t zs with
    | false=>rfl
    | true=>exact absurd rfl (cP t (by rw[CK,List.take_length];exact zh7.1 hx)))
   clear cP;have gW:¬ (k:Int)<zs.length:=(by omega);go_wp2_with fail;go_ret;exact⟨by rw[zA HR];rfl,rfl⟩
end
section
open Go.RowKit Go.Maps
def zmc (p i:Nat):B8:=aB [pdU p,40,nmU (i/4),44,nmU (i%4),41]
theorem z1v (i n:Nat):zG (i:Int) n=i%n:=by
 unfold zG;rw[if_neg (by omega)];omega
attribute [local go_sem] zat
end
section
variable {q:List (Bool × B8)} {t:Bool × B8} {pd:B8}
theorem zwm (hp:jP 2 (zT pd))(ht:∀ x∈t::q,jP (zbe x).1 (zbe x).2):zqd (j9 [] pd (t::q)):=by
 obtain⟨h1,_,_⟩:=zi1 (t::q) (by simp) ht;have ha:zbi 5 (qA (t::q)):=by
  cases q with
  | nil=>exact .inr ⟨by simp,by simp⟩
  | cons v q=>exact .inr ⟨by simp,by simp⟩
 exact⟨by simp,hp,.inr ⟨by simp,by simp⟩,by simp,.open_,ha,h1⟩
theorem zlj {s:B8}(hp:jP 2 (zT pd))(ht:∀ x∈t::q,jP (zbe x).1 (zbe x).2)(hl:(t::q).length<=4)(h:zT s=zhp (j9 [] pd (t::q))):zc1 s=some ⟨pd,t::q⟩:=by
 obtain⟨e,h1,h2⟩:=zl5 (s:=s) (rest:=[]) (j9 [] pd (t::q)) 0 (zwm hp ht) (by rw[List.append_nil];exact h);rw[zgy] at h1;obtain⟨_,pl,h3⟩:=zc2 hl h1 (λ h=>by cases h);unfold zc1;rw[h3];simp only;rw[if_pos (zoe h2 (by simp))]
theorem zpk:∀ (l ps:P9) (k:B8) (n:Nat),z6 (j2 l ps) k=some n->z6 ps k=some n\/(k,n)∈l
 | [],_,_,_,h=>.inl h
 | x::r,ps,k,n,h=>by
  rcases zpk r (zac ps x.1 x.2) k n h with h | h
  ·rw[zk6] at h
   split at h
   ·rw[zfh] at h
    cases hn:z6 ps k with
    | some m=>rw[hn] at h;exact .inl (by rw[<-h])
    | none=>
     rw[hn] at h;simp only at h
     split at h
     ·rename_i e;have e1:=yD.1 e;have e2:=Option.some.inj h;refine .inr ?_;rw[<-e1,<-e2];exact List.mem_cons_self
     ·cases h
   ·exact .inl h
  ·exact .inr (List.mem_cons_of_mem _ h)
def zqf (ps:P9):Prop:=∀ k n,z6 ps k=some n->n=2/\∃ i,i<4/\k=fl i
theorem KL.atoms {L:KL}(h:L.Ok):∀ x∈xT L.rule,x.2=2/\∃ i,i<4/\x.1=fl i:=by
 cases L with
 | fact i j=>exact ztt ⟨rfl,0,by decide,rfl⟩
 | rev h' q x y=>
  obtain⟨h1,h2,h3,_,_⟩:=h;exact yP ⟨rfl,h',h2,rfl⟩ ⟨rfl,q,by omega,rfl⟩
 | join h' q r x y z=>
  obtain⟨h1,h2,h3,h4,_,_,_⟩:=h;intro u hu;rcases List.mem_cons.1 hu with rfl | hu
  ·exact⟨rfl,h',h2,rfl⟩
  ·exact yP (P:=λ x:B8 × Nat=>x.2=2/\∃ i,i<4/\x.1=fl i) ⟨rfl,q,by omega,rfl⟩ ⟨rfl,r,by omega,rfl⟩ u hu
 | minus h' q r x y=>
  obtain⟨h1,h2,h3,h4,_,_⟩:=h;intro u hu;rcases List.mem_cons.1 hu with rfl | hu
  ·exact⟨rfl,h',h2,rfl⟩
  ·exact yP (P:=λ x:B8 × Nat=>x.2=2/\∃ i,i<4/\x.1=fl i) ⟨rfl,q,by omega,rfl⟩ ⟨rfl,r,by omega,rfl⟩ u hu
 | sX h' q r x y n m=>
  obtain⟨h1,h2,h3,h4,_,_,_,_⟩:=h;intro u hu;rcases List.mem_cons.1 hu with rfl | hu
  ·exact⟨rfl,h',h2,rfl⟩
  ·exact yP (P:=λ x:B8 × Nat=>x.2=2/\∃ i,i<4/\x.1=fl i) ⟨rfl,q,by omega,rfl⟩ ⟨rfl,r,by omega,rfl⟩ u hu
theorem z65 {L:Nat->KL}{n:Nat}(hn:n<=14)(hL:∀ i,i<n->(L i).Ok):zqf (zH (aB (aL L n))).2:=by
 obtain⟨h1,h2⟩:=zj7 L n hn hL;have hg:=zen (s:=aB (aL L n)) (by rw[h1]);intro k m hk;rw[<-hg.met,h2] at hk;rcases zpk _ _ _ _ hk with h | h
 ·cases h
 ·obtain⟨R,hR,hx⟩:=List.mem_flatMap.1 h;rcases List.mem_cons.1 hR with rfl | hR
  ·exact KL.atoms (L:=.fact 0 1) ⟨by decide,by decide⟩ _ hx
  ·obtain⟨i,hi,rfl⟩:=List.mem_map.1 hR;exact KL.atoms (hL i (List.mem_range.1 hi)) _ hx
def thK (p i j:Nat):Th:=(fl p,[yH (nmU i),yH (nmU j)])
theorem z6z (p i:Nat):yE (thK p (i/4) (i%4))=zmc p i:=rfl
variable {ps:P9}
theorem yag (h:zqf ps)(p i:Nat):vK ps (zmc p i)=some (thK p (i/4) (i%4)):=by
 have hp:zc1 (zmc p i)=some ⟨fl p,[tN (i/4),tN (i%4)]⟩:=zlj (zbz p) (yP (zjm _) (zjm _)) (by simp) rfl;have hs:zbx ps ⟨fl p,[tN (i/4),tN (i%4)]⟩=true:=by
  unfold zbx
  cases hn:z6 ps (fl p) with
  | none=>rfl
  | some m=>simp only;rw[(h _ _ hn).1];rfl
 unfold vK xZ;rw[hp];simp only;rw[if_pos hs];rfl
def zwk (k:Nat):xG:=⟨fl k,[(true,yH 88),(true,yH 89)]⟩
theorem z8v (h:zqf ps)(k:Nat):xZ ps (yH (pdU k)++{ data:=#[40,88,44,89,41] })=some (zwk k):=by
 have hx:jP (zbe (true,yH 88)).1 (zbe (true,yH 88)).2:=zhw (by decide);have hy:jP (zbe (true,yH 89)).1 (zbe (true,yH 89)).2:=zhw (by decide)
 have hp:zc1 (yH (pdU k)++{ data:=#[40,88,44,89,41] })=some (zwk k):=zlj (zbz k) (yP hx hy) (by simp) (by
  unfold zT yH;rw[ByteArray.data_append,Array.toList_append]
  rfl)
 have hs:zbx ps (zwk k)=true:=by
  unfold zbx zwk
  cases hn:z6 ps (fl k) with
  | none=>rfl
  | some m=>simp only;rw[(h _ _ hn).1];rfl
 unfold xZ;rw[hp];simp only;rw[if_pos hs]
theorem ybn {k:Nat}{t:Th}(h2:t.2.length=2)(n:Nat):zgh (zwk k) (t,n)=true↔t.1=fl k:=by
 obtain⟨p,ts⟩:=t;obtain⟨a,b,rfl⟩:∃ a b,ts=[a,b]:=by
  match ts,h2 with
  | [a,b],_=>exact⟨a,b,rfl⟩
 unfold zgh yA
 show (if (zwk k).p.toList==p.toList then zd9 [] (zwk k).ts [a,b] else none).isSome=true↔p=fl k
 by_cases he:((zwk k).p.toList==p.toList)=true
 ·rw[if_pos he];have e:fl k=p:=yD.1 he;refine⟨λ _=>e.symm,λ _=>?_⟩;have h1:pmT [] (true,yH 88) a=some [(yH 88,a)]:=rfl;have hn:pAt [(yH 88,a)] (yH 89)=none:=by
   have bG:¬ ((yH 88).toList==(yH 89).toList)=true:=λ h=>by
    have:=yD.1 h;have:=congrArg zT this;simp[zT,yH] at this
   rw[pAt,if_neg bG];rfl
  have h2:pmT [(yH 88,a)] (true,yH 89) b=some [(yH 88,a),(yH 89,b)]:=by
   unfold pmT pmB;rw[if_pos rfl,hn];rfl
  show (zd9 [] [(true,yH 88),(true,yH 89)] [a,b]).isSome=true
  rw[zd9];simp only[List.headD_cons,List.tail_cons,h1];rw[zd9];simp only[List.headD_cons,h2];rfl
 ·rw[if_neg he];refine⟨λ h=>by simp at h,λ e=>absurd (yD.2 e.symm) he⟩
end
end Go.Proofs.YtldkpahaocjdpaaGreat
