/-
  affidavitkeep: the text of lines.
-/
import Derived.Test.YtldkpahaocjdpaaGreatO31
import Derived.Test.YtldkpahaocjdpaaGreatO48
import Derived.Laws.BytesArg
set_option maxHeartbeats 16000000
set_option maxRecDepth 1000000
namespace Go.Proofs.YtldkpahaocjdpaaGreat
section
open Go.RowKit
abbrev Raw:=Int × Int × Int × Int
def inR (x:Int):Prop:=-9223372036854775808<=x/\x<=9223372036854775807
structure RawOk (r:Raw):Prop where
 k:inR r.1
 a:inR r.2.1
 b:inR r.2.2.1
 c:inR r.2.2.2
def bf (r:Raw):KL:=lineOf r.1 r.2.1 r.2.2.1 r.2.2.2
theorem kline (w:W8)(r:Raw)(h:RawOk r):Calls Tryz.prog 24 #[.agg #[.int .i64 r.1,.int .i64 r.2.1,.int .i64 r.2.2.1,.int .i64 r.2.2.2]] w (LinePost w (bf r)):=by
 have hp:=(pickN_is r.1 (n:=8) (by decide)).1;unfold bf lineOf
 by_cases h1:ag r.1 8<4
 ·rw[if_pos h1];exact kline_fact w _ _ _ _ h.k h.a h.b h1
 rw[if_neg h1]
 by_cases h2:ag r.1 8=4
 ·rw[if_pos h2];exact kline_rev w _ _ _ _ h.k h.a h.b h.c h2
 rw[if_neg h2]
 by_cases h3:ag r.1 8=5
 ·rw[if_pos h3];exact kline_join w _ _ _ _ h.k h.a h.b h.c h3
 rw[if_neg h3]
 by_cases h4:ag r.1 8=6
 ·rw[if_pos h4];exact kline_minus w _ _ _ _ h.k h.a h.b h.c h4
 rw[if_neg h4];exact kline_pin w _ _ _ _ h.k h.a h.b h.c (by omega)
theorem lineB_len (L:KL):(cH L).length<=40:=by
 cases L <;> simp[cH,KL.rule,ruleIt,atomIt,termsIt,bodyIt,litIt,rend,tmTk,tN,tV,fl,bytesL,one8]
structure fo (w:W8)(la:O8)(n:Nat)(R:Nat->Raw):Prop where
 el:∀ i,i<n->∃ g off,la=some ⟨g,off,none⟩/\g<w.heap.size/\w.cell? ⟨g,off+i*4,none⟩=some (.int .i64 (R i).1)/\w.cell? ⟨g,off+i*4+1,none⟩=some (.int .i64 (R i).2.1)/\w.cell? ⟨g,off+i*4+2,none⟩=some (.int .i64 (R i).2.2.1)/\w.cell? ⟨g,off+i*4+3,none⟩=some (.int .i64 (R i).2.2.2)/\RawOk (R i)
theorem fo.below {w w':W8}{la:O8}{n:Nat}{R:Nat->Raw}(h:fo w la n R)(k:Below w.heap.size w w'):fo w' la n R:=
 ⟨λ i hi=>by
  obtain⟨g,off,h1,h2,c0,c1,c2,c3,h3⟩:=h.el i hi;have hz:=k.size;refine⟨g,off,h1,by omega,?_,?_,?_,?_,h3⟩
  all_goals (rw[k.cell (by simpa using h2)];assumption)⟩
def firstB:List UInt8:=[101,40,97,44,98,41,46,32]
def cw (L:Nat->KL)(n:Nat):List UInt8:=firstB++(List.range n).flatMap λ i=>cH (L i)
theorem textB_step (L:Nat->KL)(n:Nat):cw L (n+1)=cw L n++cH (L n):=by
 unfold cw;rw[List.range_succ,List.flatMap_append,<-List.append_assoc];simp
theorem textB_len (L:Nat->KL):∀ n,(cw L n).length<=8+40*n
 | 0=>by simp[cw,firstB]
 | n+1=>by
  rw[textB_step,List.length_append];have:=textB_len L n;have:=lineB_len (L n);omega
def bk (l:List UInt8):B8:=⟨l.toArray⟩
theorem txt8_size (l:List UInt8):(bk l).size=l.length:=by unfold bk;rfl
theorem txt8_append (a b:List UInt8):bk a++bk b=bk (a++b):=ByteArray.mk_append_mk a b
theorem ktext (w:W8)(la:O8)(n c:Nat)(R:Nat->Raw)(h:fo w la n R)(dG:n<=c)(hc:c<=maxLen)(jm:Nat)(hm:jm<=20):Calls Tryz.prog 17 #[.slice la n c,.int .i64 (jm:Nat)] w λ e w'=>e=.returned (.string (bk (cw (λ i=>bf (R i)) (min n jm))))/\Below w.heap.size w w':=by
 have H:=hide h;have oa:bk (cw (λ i=>bf (R i)) 0)={ data:=#[101,40,97,44,98,41,46,32] }:=rfl;have HL:=hide (λ k=>(show (bk (cw (λ i=>bf (R i)) k)).size<=8+40*k from by rw[txt8_size];exact textB_len _ k));have HS:=hide (λ k=>(show bk (cw (λ i=>bf (R i)) k)++bk (cH (bf (R k)))=bk (cw (λ i=>bf (R i)) (k+1)) from by rw[txt8_append,textB_step]));have iI:=hide oa;unfold maxLen at hc;clear h oa;go_enter Tryz.func17,Tryz.ntmps17;go_wp2_with fail
 go_loopg [5,6] (min n jm) (λ gg v i wr=>∃ k:Nat,k<=min n jm/\gg=min n jm-k/\v=.string (bk (cw (λ i=>bf (R i)) k))/\i=.int .i64 (k:Nat)/\Below w.heap.size w wr)
 exact⟨0,Nat.zero_le _,rfl,by rw[ad iI],rfl,Below.refl _ _⟩
 case round=>
  clear iI;obtain⟨k,hk,fM,rfl,rfl,hB⟩:=hrel
  by_cases aN:k<min n jm
  ·obtain⟨g,off,rfl,hg,c0,c1,c2,c3,hr⟩:=((ad H).below hB).el k (by omega);have CK:(k:Int)<n:=(by omega);have Aw:(k:Int)<jm:=(by omega);have HC:=hide (kline wr (R k) hr);have HB:=hide hB;have js:=ad HL k;have lj:(bk (cH (bf (R k)))).size<=40:=(by rw[txt8_size];exact lineB_len _);have gM:=hide (ad HS k);obtain⟨t1,iN⟩:∃ t1,t1=bk (cw (λ i=>bf (R i)) k):=⟨_,rfl⟩;obtain⟨t2,gK⟩:∃ t2,t2=bk (cH (bf (R k))):=⟨_,rfl⟩;have ks:Hid (Calls Tryz.prog 24 #[.agg #[.int .i64 (R k).1,.int .i64 (R k).2.1,.int .i64 (R k).2.2.1,.int .i64 (R k).2.2.2]] wr λ e w'=>e=.returned (.string t2)/\Below wr.heap.size wr w'):=(by rw[gK];exact HC);rw[<-iN] at js gM;rw[<-gK] at lj gM;have Cm:¬ (9223372036854775807<t1.size+t2.size):=(by omega);have Af:=hide iN;rw[<-iN];clear hB hr iN gK HC;go_wp2_with (go_at_call 24;refine (ad ks).mono ?_;rintro e w1 ⟨rfl,aT⟩;have cR:=hide aT;clear aT);go_roundg (min n jm-(k+1));exact⟨k+1,by omega,rfl,by rw[ad gM],by go_num,(ad HB).trans ((ad cR).mono (ad HB).size)⟩;omega
  ·have kg:k=min n jm:=(by omega);have HB:=hide hB;clear hB
   by_cases CK:k<n
   ·have Aw:¬ (k:Int)<jm:=(by omega);have CL:(k:Int)<n:=(by omega);go_wp2_with fail;go_ret;exact⟨rfl,ad HB⟩
   ·have CL:¬ (k:Int)<n:=(by omega);go_wp2_with fail;go_ret;exact⟨rfl,ad HB⟩
end
section
def KL.Ok:KL->Prop
 | .fact i j=>i<4/\j<4
 | .rev h q x y=>1<=h/\h<4/\q<=h/\x<3/\y<3
 | .join h q r x y z=>1<=h/\h<4/\q<=h/\r<=h/\x<3/\y<3/\z<3
 | .minus h q r x y=>1<=h/\h<4/\q<=h/\r<h/\x<3/\y<3
 | .sX h q r x y n m=>1<=h/\h<4/\q<=h/\r<h/\x<3/\y<3/\n<4/\m<4
theorem lineOf_ok (k a b c:Int):(lineOf k a b c).Ok:=by
 have pa:=(pickN_is a (n:=3) (by decide)).1;have pq:=(pickN_is (b.tdiv 9) (n:=1+ag a 3+1) (by omega)).1;have px:=(pickN_is b (n:=3) (by decide)).1;have py:=(pickN_is (b.tdiv 3) (n:=3) (by decide)).1;unfold lineOf
 split
 ·exact⟨(pickN_is a (by decide)).1,(pickN_is b (by decide)).1⟩
 split
 ·exact⟨by omega,by omega,by omega,px,py⟩
 split
 ·have pr:=(pickN_is (c.tdiv 3) (n:=1+ag a 3+1) (by omega)).1;exact⟨by omega,by omega,by omega,by omega,px,py,(pickN_is c (by decide)).1⟩
 split
 ·have pr:=(pickN_is c (n:=1+ag a 3) (by omega)).1;exact⟨by omega,by omega,by omega,pr,px,py⟩
 ·have pr:=(pickN_is (c.tdiv 4) (n:=1+ag a 3) (by omega)).1;exact⟨by omega,by omega,by omega,pr,px,py,(pickN_is c (by decide)).1,(pickN_is (c.tdiv 12) (by decide)).1⟩
theorem pdU_is (k:Nat):pdU k=101\/pdU k=102\/pdU k=103\/pdU k=104:=by
 match k with
 | 0=>decide
 | 1=>decide
 | 2=>decide
 | 3=>decide
 | k+4=>exact .inl rfl
theorem nmU_is (k:Nat):nmU k=97\/nmU k=98\/nmU k=99\/nmU k=100:=by
 match k with
 | 0=>decide
 | 1=>decide
 | 2=>decide
 | 3=>decide
 | k+4=>exact .inl rfl
theorem vrU_is (k:Nat):vrU k=88\/vrU k=89\/vrU k=90:=by
 match k with
 | 0=>decide
 | 1=>decide
 | 2=>decide
 | k+3=>exact .inl rfl
variable {c:UInt8}
theorem tok_low (h:aP c.toNat=true):IsTok 2 [c]:=.name (by simp) (by simp) (λ x hx=>by rw[List.mem_singleton.1 hx];exact h) (by simp)
theorem tok_high (h:aL c.toNat=true):IsTok 3 [c]:=.var (by simp) (by simp) (λ x hx=>by rw[List.mem_singleton.1 hx];exact h)
theorem tok_pd (k:Nat):IsTok 2 (bytesL (fl k)):=tok_low (by rcases pdU_is k with h | h | h | h <;> rw[h] <;> decide)
theorem tok_tN (k:Nat):IsTok (tmTk (tN k)).1 (tmTk (tN k)).2:=tok_low (by rcases nmU_is k with h | h | h | h <;> rw[h] <;> decide)
theorem tok_tV (k:Nat):IsTok (tmTk (tV k)).1 (tmTk (tV k)).2:=tok_high (by rcases vrU_is k with h | h | h <;> rw[h] <;> decide)
variable {Ty:Type}
theorem two_mem {P:Ty->Prop}{a b:Ty}(ha:P a)(hb:P b):∀ t∈[a,b],P t:=λ t ht=>by
 rcases List.mem_cons.1 ht with rfl | ht
 ·exact ha
 ·rw[List.mem_singleton.1 ht];exact hb
theorem one_mem {P:Ty->Prop}{a:Ty}(ha:P a):∀ t∈[a],P t:=λ t ht=>by rw[List.mem_singleton.1 ht];exact ha
theorem KL.words (L:KL):WordsOk L.rule:=by
 cases L with
 | fact i j=>exact⟨tok_pd _,two_mem (tok_tN _) (tok_tN _),by simp[KL.rule],by simp[KL.rule]⟩
 | rev h q x y=>exact⟨tok_pd _,two_mem (tok_tV _) (tok_tV _),one_mem (tok_pd _),one_mem (two_mem (tok_tV _) (tok_tV _))⟩
 | join h q r x y z=>exact⟨tok_pd _,two_mem (tok_tV _) (tok_tV _),two_mem (tok_pd _) (tok_pd _),two_mem (two_mem (tok_tV _) (tok_tV _)) (two_mem (tok_tV _) (tok_tV _))⟩
 | minus h q r x y=>exact⟨tok_pd _,two_mem (tok_tV _) (tok_tV _),two_mem (tok_pd _) (tok_pd _),two_mem (two_mem (tok_tV _) (tok_tV _)) (two_mem (tok_tV _) (tok_tV _))⟩
 | sX h q r x y n m=>exact⟨tok_pd _,two_mem (tok_tV _) (tok_tN _),two_mem (tok_pd _) (tok_pd _),two_mem (two_mem (tok_tV _) (tok_tV _)) (two_mem (tok_tV _) (tok_tN _))⟩
def pT (p:B8):Nat:=if p=fl 1 then 1 else if p=fl 2 then 2 else if p=fl 3 then 3 else 0
theorem lvK_pd {k:Nat}(h:k<4):pT (fl k)=k:=by
 match k,h with
 | 0,_=>decide
 | 1,_=>decide
 | 2,_=>decide
 | 3,_=>decide
theorem KL.ic {L:KL}(h:L.Ok):RuleOkK (λ _=>2) pT L.rule:=by
 cases L with
 | fact i j=>exact⟨⟨by simp[KL.rule],by simp[KL.rule],by simp[KL.rule]⟩,rfl,by simp[KL.rule],by simp[KL.rule,tN],by simp[KL.rule],by simp[KL.rule],by simp[KL.rule]⟩
 | rev h' q x y=>
  obtain⟨h1,h2,h3,_,_⟩:=h;refine⟨⟨by simp[KL.rule],by simp[KL.rule],by simp[KL.rule]⟩,rfl,by simp[KL.rule],by simp[KL.rule],by simp[KL.rule],?_,by simp[KL.rule]⟩;simp only[KL.rule,List.mem_singleton,forall_eq];rw[lvK_pd (k:=q) (by omega),lvK_pd h2];exact h3
 | join h' q r x y z=>
  obtain⟨h1,h2,h3,h4,_,_,_⟩:=h;refine⟨⟨by simp[KL.rule],by simp[KL.rule],by simp[KL.rule]⟩,rfl,by simp[KL.rule],by simp[KL.rule],by simp[KL.rule],?_,by simp[KL.rule]⟩;simp only[KL.rule,List.mem_cons,List.not_mem_nil,or_false,forall_eq_or_imp,forall_eq];rw[lvK_pd (k:=q) (by omega),lvK_pd (k:=r) (by omega),lvK_pd h2];exact⟨h3,h4⟩
 | minus h' q r x y=>
  obtain⟨h1,h2,h3,h4,_,_⟩:=h;refine⟨⟨by simp[KL.rule],by simp[KL.rule],by simp[KL.rule]⟩,rfl,by simp[KL.rule],by simp[KL.rule],by simp only[KL.rule];exact two_mem (λ h=>by cases h) (λ _ t ht hv=>⟨_,List.mem_cons_self,rfl,by rcases List.mem_cons.1 ht with rfl | ht;exact List.mem_cons_of_mem _ List.mem_cons_self;rw[List.mem_singleton.1 ht];exact List.mem_cons_self⟩),?_,?_⟩
  ·simp only[KL.rule,List.mem_cons,List.not_mem_nil,or_false,forall_eq_or_imp,forall_eq];rw[lvK_pd (k:=q) (by omega),lvK_pd (k:=r) (by omega),lvK_pd h2];exact⟨h3,by omega⟩
  ·simp only[KL.rule,List.mem_cons,List.not_mem_nil,or_false,forall_eq_or_imp,forall_eq];rw[lvK_pd (k:=q) (by omega),lvK_pd (k:=r) (by omega),lvK_pd h2];exact⟨by simp,λ _=>h4⟩
 | sX h' q r x y n m=>
  obtain⟨h1,h2,h3,h4,_,_,_,_⟩:=h;refine⟨⟨by simp[KL.rule],by simp[KL.rule],by simp[KL.rule]⟩,rfl,by simp[KL.rule],by simp[KL.rule,tN],by simp only[KL.rule];exact two_mem (λ h=>by cases h) (λ _ t ht hv=>⟨_,List.mem_cons_self,rfl,by rcases List.mem_cons.1 ht with rfl | ht;exact List.mem_cons_self;rw[List.mem_singleton.1 ht] at hv;cases hv⟩),?_,?_⟩
  ·simp only[KL.rule,List.mem_cons,List.not_mem_nil,or_false,forall_eq_or_imp,forall_eq];rw[lvK_pd (k:=q) (by omega),lvK_pd (k:=r) (by omega),lvK_pd h2];exact⟨h3,by omega⟩
  ·simp only[KL.rule,List.mem_cons,List.not_mem_nil,or_false,forall_eq_or_imp,forall_eq];rw[lvK_pd (k:=q) (by omega),lvK_pd (k:=r) (by omega),lvK_pd h2];exact⟨by simp,λ _=>h4⟩
theorem atom_sep (b:List UInt8)(pd:B8)(ts:List (Bool × B8))(r:List Item):rend (atomIt b pd ts++r)=b++rend (atomIt [] pd ts++r):=by
 cases ts <;> simp[atomIt,rend]
theorem rule_sep (b:List UInt8)(R:PRule)(r:List Item):rend (ruleIt b R++r)=b++rend (ruleIt [] R++r):=by
 unfold ruleIt;rw[List.append_assoc,List.append_assoc,atom_sep]
theorem rules_rend (sep:List UInt8):∀ (rules:List PRule) (b:List UInt8),rend (rulesIt sep b rules)++sep=(match rules with | []=>[] | _=>b)++(rules.flatMap λ R=>rend (ruleIt [] R)++sep)++(match rules with | []=>sep | _=>[])
 | [],b=>by simp[rulesIt,rend]
 | [R],b=>by
  have h:=rule_sep b R [];rw[List.append_nil,List.append_nil] at h;simp[rulesIt,h]
 | R::Q::r,b=>by
  have ih:=rules_rend sep (Q::r) sep;rw[rulesIt,rend_append,List.append_assoc,ih];have h:=rule_sep b R [];rw[List.append_nil,List.append_nil] at h;simp only[h,List.flatMap_cons,List.append_assoc,List.append_nil]
def rulesK (L:Nat->KL)(n:Nat):List PRule:=(KL.fact 0 1).rule::(List.range n).map λ i=>(L i).rule
theorem textB_rend (L:Nat->KL)(n:Nat):cw L n=rend (rulesIt [32] [] (rulesK L n))++[32]:=by
 rw[rules_rend [32] (rulesK L n) []];unfold rulesK cw;simp only[List.nil_append,List.append_nil,List.flatMap_cons,List.flatMap_map];rfl
theorem textK_ok (L:Nat->KL)(n:Nat)(hn:n<=14)(hL:∀ i,i<n->(L i).Ok):refLoad (bk (cw L n))=(true,0,0)/\(pparsed (bk (cw L n))).2.2.1=rulesK L n:=by
 have hb:∀ c∈[(32:UInt8)],aH c.toNat=true:=λ c hc=>blank1 c (.inl (List.mem_singleton.1 hc))
 have bh:∀ R∈rulesK L n,RuleOkK (λ _=>2) pT R/\WordsOk R:=λ R hR=>by
  rcases List.mem_cons.1 hR with rfl | hR
  ·exact⟨KL.ic ⟨by decide,by decide⟩,KL.words _⟩
  ·obtain⟨i,hi,rfl⟩:=List.mem_map.1 hR;exact⟨KL.ic (hL i (List.mem_range.1 hi)),KL.words _⟩
 refine written_ok hb (by simp) hb (ar:=λ _=>2) (lv:=pT) ?_ (λ R hR=>(bh R hR).1) (λ R hR=>(bh R hR).2) ?_ (textB_rend L n)
 ·rw[txt8_size];have:=textB_len L n;omega
 ·unfold rulesK;rw[List.length_cons,List.length_map,List.length_range];omega
end
section
structure bg (rs rp:List PR):Prop where
 mem:∀ R,R∈rs.map (·.R)↔R∈rp.map (·.R)
 a:∀ r∈rs,r.bs.map (·.1)=r.R.body
 b:∀ r∈rp,r.bs.map (·.1)=r.R.body
variable {rs rp:List PR}
theorem bg.symm (h:bg rs rp):bg rp rs:=⟨λ R=>(h.mem R).symm,h.b,h.a⟩
theorem lits_of (b:Bool){xs ys:List (PLit × Value)}(h:xs.map (·.1)=ys.map (·.1)):(aC b xs).map (·.1)=(aC b ys).map (·.1):=by
 have key:∀ zs:List (PLit × Value),(aC b zs).map (·.1)=((zs.map (·.1)).filter λ l=>l.neg==b).map λ l=>(⟨l.pd,l.ts⟩:PAtm):=λ zs=>by
  unfold aC
  induction zs with
  | nil=>rfl
  | cons z r ih=>
   rw[List.filter_cons,List.map_cons,List.filter_cons]
   by_cases hz:isNeg b z=true
   ·rw[if_pos hz,if_pos (show (z.1.neg==b)=true from hz),List.map_cons,List.map_cons,List.map_cons,ih];rfl
   ·rw[if_neg hz,if_neg (show ¬ (z.1.neg==b)=true from hz)];exact ih
 rw[key,key,h]
variable {r q:PR}
theorem pos_of (hr:r.bs.map (·.1)=r.R.body)(hq:q.bs.map (·.1)=q.R.body)(h:r.R=q.R):posOf r.bs=posOf q.bs:=lits_of false (by rw[hr,hq,h])
theorem neg_of (hr:r.bs.map (·.1)=r.R.body)(hq:q.bs.map (·.1)=q.R.body)(h:r.R=q.R):negOf r.bs=negOf q.bs:=lits_of true (by rw[hr,hq,h])
theorem hd_of (h:r.R=q.R):aO r=aO q:=by unfold aO;rw[h]
theorem bg.get (h:bg rs rp)(hr:r∈rs):∃ q∈rp,r.R=q.R/\posOf r.bs=posOf q.bs/\negOf r.bs=negOf q.bs/\aO r=aO q:=by
 obtain⟨q,hq,e⟩:=List.mem_map.1 ((h.mem r.R).1 (List.mem_map_of_mem hr));exact⟨q,hq,e.symm,pos_of (h.a r hr) (h.b q hq) e.symm,neg_of (h.a r hr) (h.b q hq) e.symm,hd_of e.symm⟩
theorem bg.filter {rs rp:List PR}(h:bg rs rp)(S:B8->Nat)(s:Nat):bg (rs.filter (bI S s)) (rp.filter (bI S s)):=by
 refine⟨λ R=>?_,λ r hr=>h.a r (List.mem_filter.1 hr).1,λ r hr=>h.b r (List.mem_filter.1 hr).1⟩;have one:∀ {xs ys:List PR},(∀ R,R∈xs.map (·.R)->R∈ys.map (·.R))->R∈(xs.filter (bI S s)).map (·.R)->R∈(ys.filter (bI S s)).map (·.R):=λ hx hR=>by
  obtain⟨r,hr,rfl⟩:=List.mem_map.1 hR;obtain⟨h1,h2⟩:=List.mem_filter.1 hr;obtain⟨q,hq,e⟩:=List.mem_map.1 (hx r.R (List.mem_map_of_mem h1));refine List.mem_map.2 ⟨q,List.mem_filter.2 ⟨hq,?_⟩,e⟩;unfold bI at h2 ⊢;rw[e];exact h2
 exact⟨one λ R=>(h.mem R).1,one λ R=>(h.mem R).2⟩
variable {K L:List (Th × Nat)}
theorem new_congr (h:bg rs rp)(hk:SameKeys K L){t:Th}:NewB rs K t->NewB rp L t:=λ ⟨h1,r,hr,e,he,hf⟩=>by
 obtain⟨q,hq,_,e1,e2,e3⟩:=h.get hr;refine⟨?_,q,hq,e,?_,by rw[<-e3];exact hf⟩
 ·have:=hk.look t;rw[h1] at this
  cases hl:ay L t with
  | none=>rfl
  | some n=>rw[hl] at this;cases this
 ·rw[<-e1,<-e2];exact (hk.ways _ _ _ _).1 he
variable {limit n:Nat}
theorem climb_congr (h:bg rs rp){r:Option (List (Th × Nat))}(hc:PClimb rs limit n K r):PClimb rp limit n K r:=by
 have hk:∀ K:List (Th × Nat),SameKeys K K:=λ K _=>Iff.rfl
 induction hc with
 | fk L h1 h2 h3=>exact .fk L h1 (λ t ht=>new_congr h (hk _) (h2 t ht)) h3
 | done h1=>exact .done λ t ht=>h1 t (new_congr h.symm (hk _) ht)
 | more h1 h2 h3 h4 h5 _ ih=>exact .more h1 h2 h3 (λ t=>(h4 t).trans ⟨new_congr h (hk _),new_congr h.symm (hk _)⟩) h5 ih
variable {count s:Nat} {S:B8->Nat}
theorem fm (h:bg rs rp){r:Option (List (Th × Nat))}(hc:PStrat rs S limit count s K r):PStrat rp S limit count s K r:=by
 induction hc with
 | ends h1=>exact .ends h1
 | fK h1 h2=>exact .fK h1 (climb_congr (h.filter S _) h2)
 | next h1 h2 _ ih=>exact .next h1 (climb_congr (h.filter S _) h2) ih
theorem perm_keys (h:K.Perm L):SameKeys K L:=λ _=>⟨λ ⟨n,hn⟩=>⟨n,h.mem_iff.1 hn⟩,λ ⟨n,hn⟩=>⟨n,h.mem_iff.2 hn⟩⟩
theorem over_few {M:List Th}(hM:M.Nodup)(E2:∀ t∈M,NewB rs K t)(hL:∀ t,(∃ n,(t,n)∈L)↔NewB rs K t):M.length<=L.length:=by
 have hs:∀ t∈M,t∈L.map (·.1):=λ t ht=>by
  obtain⟨n,hn⟩:=(hL t).2 (E2 t ht);exact List.mem_map.2 ⟨_,hn,rfl⟩
 have:=nodup_sub M (L.map (·.1)) hM hs
 rwa [List.length_map] at this
theorem new_perm (hK:(K.map (·.1)).Nodup)(hL:(L.map (·.1)).Nodup)(h1:∀ p∈K,p.2=n)(h2:∀ p∈L,p.2=n)(h:∀ t,(∃ n,(t,n)∈K)↔∃ n,(t,n)∈L):K.Perm L:=by
 have hn:∀ {X:List (Th × Nat)},(X.map (·.1)).Nodup->X.Nodup:=λ hX=>(List.pairwise_map.1 hX).imp λ bG e=>bG (by rw[e])
 have one:∀ {X Y:List (Th × Nat)},(∀ p∈X,p.2=n)->(∀ p∈Y,p.2=n)->(∀ t,(∃ n,(t,n)∈X)->∃ n,(t,n)∈Y)->∀ p∈X,p∈Y:=λ hX hY hXY p hp=>by
  obtain⟨m,hm⟩:=hXY p.1 ⟨p.2,hp⟩;have e1:=hX p hp;have e2:=hY _ hm;have:p=(p.1,m):=Prod.ext rfl (e1.trans e2.symm);rw[this];exact hm
 refine (List.perm_ext_iff_of_nodup (hn hK) (hn hL)).2 λ p=>⟨one h1 h2 (λ t=>(h t).1) p,one h2 h1 (λ t=>(h t).2) p⟩
theorem climb_det (h:bg rs rp){r:Option (List (Th × Nat))}(hc:PClimb rs limit n K r):∀ {L:List (Th × Nat)} {r':Option (List (Th × Nat))},K.Perm L->K.length<=limit->PClimb rp limit n L r'->(r=none/\r'=none)\/∃ K' L',r=some K'/\r'=some L'/\K'.Perm L'/\K'.length<=limit:=by
 induction hc with
 | @fk n K M h1 h2 h3=>
  intro L r' hp hl hd;have hM:∀ t∈M,NewB rp L t:=λ t ht=>new_congr h (perm_keys hp) (h2 t ht)
  have hlen:=hp.length_eq
  cases hd with
  | fk _ _ _ _=>exact .inl ⟨rfl,rfl⟩
  | done hn=>
   exfalso
   cases M with
   | nil=>simp at h3;omega
   | cons t q=>exact hn t (hM t List.mem_cons_self)
  | more _ _ _ h7 h8 _=>
   exfalso
   have:=over_few h1 hM h7;omega
 | @done n K hn=>
  intro L r' hp hl hd;have qk:∀ t,¬ NewB rp L t:=λ t ht=>hn t (new_congr h.symm (perm_keys hp.symm) ht)
  have hlen:=hp.length_eq
  cases hd with
  | fk M _ h2 h3=>
   exfalso
   cases M with
   | nil=>simp at h3;omega
   | cons t q=>exact qk t (h2 t List.mem_cons_self)
  | done _=>exact .inr ⟨_,_,rfl,rfl,hp,hl⟩
  | @more _ _ L1 _ h1 _ _ h4 _ _=>
   exfalso
   cases L1 with
   | nil=>exact h1 rfl
   | cons p q=>exact qk p.1 ((h4 p.1).1 ⟨p.2,List.mem_cons_self⟩)
 | @more n K L0 r h1 h2 h3 h4 h5 hc ih=>
  intro L r' hp hl hd;have hlen:=hp.length_eq
  cases hd with
  | fk M fa eG ey=>
   exfalso
   have:=over_few fa (λ t ht=>new_congr h.symm (perm_keys hp.symm) (eG t ht)) h4;omega
  | done hn=>
   exfalso
   cases L0 with
   | nil=>exact h1 rfl
   | cons p q=>exact hn p.1 (new_congr h (perm_keys hp) ((h4 p.1).1 ⟨p.2,List.mem_cons_self⟩))
  | more g1 g2 g3 g4 g5 gc=>
   refine ih (hp.append (new_perm h2 g2 h3 g3 λ t=>?_)) (by rw[List.length_append];exact h5) gc;rw[h4 t,g4 t];exact⟨new_congr h (perm_keys hp),new_congr h.symm (perm_keys hp.symm)⟩
theorem strat_det (h:bg rs rp){r:Option (List (Th × Nat))}(hc:PStrat rs S limit count s K r):∀ {L:List (Th × Nat)} {r':Option (List (Th × Nat))},K.Perm L->K.length<=limit->PStrat rp S limit count s L r'->(r=none/\r'=none)\/∃ K' L',r=some K'/\r'=some L'/\K'.Perm L'/\K'.length<=limit:=by
 induction hc with
 | ends h1=>
  intro L r' hp hl hd
  cases hd with
  | ends _=>exact .inr ⟨_,_,rfl,rfl,hp,hl⟩
  | fK h2 _=>omega
  | next h2 _ _=>omega
 | fK h1 h2=>
  intro L r' hp hl hd
  cases hd with
  | ends _=>omega
  | fK _ _=>exact .inl ⟨rfl,rfl⟩
  | next _ h3 _=>
   rcases climb_det (h.filter S _) h2 hp hl h3 with⟨_,e⟩ | ⟨_,_,e,_⟩
   ·cases e
   ·cases e
 | next h1 h2 _ ih=>
  intro L r' hp hl hd
  cases hd with
  | ends _=>omega
  | fK _ h3=>
   rcases climb_det (h.filter S _) h2 hp hl h3 with⟨e,_⟩ | ⟨_,_,_,e,_⟩
   ·cases e
   ·cases e
  | next _ h3 h4=>
   rcases climb_det (h.filter S _) h2 hp hl h3 with⟨e,_⟩ | ⟨_,_,e1,e2,e3,e4⟩
   ·cases e
   ·obtain rfl:=Option.some.inj e1;obtain rfl:=Option.some.inj e2;exact ih e3 e4 h4
theorem low_uniq {rs rp:List PRule}(h:∀ R,R∈rs↔R∈rp){T:B8->Nat}(h1:ValidN rs S)(h2:LowN rs S)(h3:ValidN rp T)(h4:LowN rp T):S=T:=by
 funext k
 have a:=h2 T (λ R hR=>h3 R ((h R).1 hR)) k;have b:=h4 S (λ R hR=>h1 R ((h R).2 hR)) k;omega
end
section
open Go.RowKit Go.Maps
structure dt (s:B8)(xb:Nat)(w:W8)(lo:Nat)(rs:List PR):Prop where
 ok:(refLoad s).1=true
 prog:ProgIn w lo xb rs
 rules:rs.map (·.R)=(pparsed s).2.2.1
variable {rs:List PR} {lo xb:Nat} {w:W8} {s:B8}
theorem dt.cg (h:dt s xb w lo rs):∀ r∈rs,r.bs.map (·.1)=r.R.body:=λ r hr=>by
 obtain⟨a,c,_,_,eI⟩:=h.prog;exact (eI.each r hr).eq
theorem dt.below {w':W8}(h:dt s xb w lo rs)(k:Below w.heap.size w w'):dt s xb w' lo rs:=by
 obtain⟨a,c,h1,h2,h3⟩:=h.prog;exact⟨h.ok,⟨a,c,(k.block _ (Array.getElem?_eq_some_iff.1 h1).1).trans h1,h2,h3.iY k L9⟩,h.rules⟩
theorem dt.dh (h:dt s xb w lo rs):∀ r∈rs,bF (aj s).2 r:=(rules_rel h.ok h.rules h.cg).dh
variable {r:Option (List (Th × Nat))} {K:List (Th × Nat)} {limit:Nat} {TI:Th->Prop}
theorem climb_ti (hc:dr rs TI){n:Nat}(h:PClimb rs limit n K r):(∀ p∈K,TI p.1)->∀ K',r=some K'->∀ p∈K',TI p.1:=by
 induction h with
 | fk _ _ _ _=>intro _ K' e;cases e
 | done _=>intro hK K' e;obtain rfl:=Option.some.inj e;exact hK
 | more _ _ _ h4 _ _ ih=>
  intro hK;refine ih λ p hp=>?_
  rcases List.mem_append.1 hp with hp | hp
  ·exact hK p hp
  ·exact hc.new hK ((h4 p.1).1 ⟨p.2,hp⟩)
variable {S:B8->Nat}
theorem strat_ti (hc:dr rs TI){count s:Nat}(h:PStrat rs S limit count s K r):(∀ p∈K,TI p.1)->∀ K',r=some K'->∀ p∈K',TI p.1:=by
 induction h with
 | ends _=>intro hK K' e;obtain rfl:=Option.some.inj e;exact hK
 | fK _ _=>intro _ K' e;cases e
 | next _ h2 _ ih=>exact λ hK=>ih (climb_ti (hc.filter _) h2 hK _ rfl)
noncomputable def reaK (ps:P9)(rp:List PR)(Sp:B8->Nat)(K:List (Th × Nat))(O:List Pl):Nat->Nat × List Nat:=open Classical in if h:∃ r,OfArg ps Sp rp K O r then h.choose else λ _=>(0,[])
variable {O:List Pl} {rp:List PR} {ps:P9}
theorem reaK_ok {Sp:B8->Nat}(h:∃ r,OfArg ps Sp rp K O r):OfArg ps Sp rp K O (reaK ps rp Sp K O):=by
 unfold reaK;rw[dif_pos h];exact h.choose_spec
structure Mod (s:B8)(rs:List PR)(limit:Nat)(S:B8->Nat)(m:Nat)(r:Option (List (Th × Nat))):Prop where
 valid:ValidN (rs.map (·.R)) S
 low:LowN (rs.map (·.R)) S
 count:IsCount (aj s).2 S m
 gJ:PStrat rs S limit m 0 [] r
variable {m:Nat}
theorem Mod.GO (cT:∀ r∈rs,r.bs.map (·.1)=r.R.body)(h:Mod s rs limit S m (some K)):∃ n,m<=n/\WhyK rs S n 1 K:=strat_why (λ r hr=>h.valid r.R (List.mem_map_of_mem hr)) cT h.gJ (why_nil _ _) K rfl
theorem Mod.ti (hg:∀ r∈rs,bF (aj s).2 r)(h:Mod s rs limit S m (some K)):∀ p∈K,eE (aj s).2 p.1:=strat_ti (closed_of hg) h.gJ (by simp) K rfl
theorem Mod.j8 (cT:∀ r∈rs,r.bs.map (·.1)=r.R.body)(hg:∀ r∈rs,bF (aj s).2 r)(h:Mod s rs limit S m (some K))(hO:O.Perm (K.map (plOf S)))(jS:O.Pairwise λ p q=>lessPl p q=true):OfArg (aj s).2 S rs K O (reaK (aj s).2 rs S K O):=by
 obtain⟨n,_,hw⟩:=h.GO cT;exact reaK_ok (why_arg hg (h.ti hg) hw hO jS)
theorem pent_query (h:dt s xb w lo rs)(q:B8)(hq:q.size<=2000000)(limit:Int):Calls Tryz.prog 20 #[.pointer (some ⟨xb,0,none⟩),.string q,.int .i64 limit] w λ e w'=>PQOut w rs (aj s).2 q limit w' e/\Below w.heap.size w w':=by
 have hg:=good_of h.ok;have hr:=h.rules;have eL:=h.cg;obtain⟨f0,jM,jd⟩:=hg.some_;have ak:∀ r∈rs,r.R∈(pparsed s).2.2.1:=λ r dH=>by rw[<-hr];exact List.mem_map_of_mem dH
 have oi:∀ r∈rs,∀ x∈r.bs,x.1∈r.R.body:=λ r dH x hx=>by rw[<-eL r dH];exact List.mem_map_of_mem hx
 have hl:rs.length<=30:=by have:=hg.len;rw[<-hr,List.length_map] at this;exact this
 exact pquery_any w lo xb rs (aj s).2 q limit (eE (aj s).2) hq h.prog hl (λ r dH=>by have:=hg.body r.R (ak r dH);rw[<-eL r dH,List.length_map] at this;exact this) (λ r dH=>hg.pd r.R (ak r dH)) (λ r dH x hx=>hg.vW r.R (ak r dH) x.1 (oi r dH x hx)) (by rw[hr];exact hg.agree) (by rw[hr];exact hg.met) (by have:=hg.ft;omega) (λ r dH=>⟨(hg.named r.R (ak r dH)).1,λ x hx=>(hg.named r.R (ak r dH)).2 x.1 (oi r dH x hx)⟩) f0 (by rw[hr];exact jM) jd (closed_of h.dh) (λ t ht=>th_len ht)
theorem pent_explain (h:dt s xb w lo rs)(q:B8)(hq:q.size<=2000000)(limit:Int):Calls Tryz.prog 26 #[.pointer (some ⟨xb,0,none⟩),.string q,.int .i64 limit] w λ e w'=>PEOut w rs (aj s).2 q limit (reaK (aj s).2 rs) w' e/\Below w.heap.size w w':=by
 have hg:=good_of h.ok;have hr:=h.rules;have eL:=h.cg;obtain⟨f0,jM,jd⟩:=hg.some_;have ak:∀ r∈rs,r.R∈(pparsed s).2.2.1:=λ r dH=>by rw[<-hr];exact List.mem_map_of_mem dH
 have oi:∀ r∈rs,∀ x∈r.bs,x.1∈r.R.body:=λ r dH x hx=>by rw[<-eL r dH];exact List.mem_map_of_mem hx
 have hl:rs.length<=30:=by have:=hg.len;rw[<-hr,List.length_map] at this;exact this
 exact pexp_any w lo xb rs (aj s).2 q limit (reaK (aj s).2 rs) hq h.prog hl (λ r dH=>by have:=hg.body r.R (ak r dH);rw[<-eL r dH,List.length_map] at this;exact this) (λ r dH=>hg.pd r.R (ak r dH)) (λ r dH x hx=>hg.vW r.R (ak r dH) x.1 (oi r dH x hx)) (by rw[hr];exact hg.agree) (by rw[hr];exact hg.met) (by have:=hg.ft;omega) (λ r dH=>⟨(hg.named r.R (ak r dH)).1,λ x hx=>(hg.named r.R (ak r dH)).2 x.1 (oi r dH x hx)⟩) f0 (by rw[hr];exact jM) jd (closed_of h.dh) h.dh ask_thok (λ _ Sp m K sS uB hc dj O hO jS=>Mod.j8 eL h.dh ⟨sS,uB,hc,dj⟩ hO jS)
variable {e:Ending} {t:Th} {q:B8}
theorem chk_sound (h:dt s xb w lo rs)(hM:Mod s rs limit S m (some K))(ht:thingS (aj s).2 q=some t){bs:List Nat}(hE:PChkE s q bs e):∃ v:Nat,e=.returned (.int .i64 (v:Nat))/\(v=1\/v=2\/v=3)/\(v=1->t∈K.map (·.1))/\(v=2->t∉K.map (·.1)):=by
 rcases hE with⟨hn,_⟩ | ⟨_,rp,jC,cT,hE⟩
 ·rw[h.ok] at hn;cases hn
 ·rcases hE with⟨hn,_⟩ | ⟨t',Sp,sN,sS,uB,hE⟩
  ·rw[ht] at hn;cases hn
  ·rw[ht] at sN;obtain rfl:=Option.some.inj sN;have jg:bg rs rp:=⟨λ R=>by rw[h.rules,jC],h.cg,cT⟩;obtain rfl:S=Sp:=low_uniq jg.mem hM.valid hM.low sS uB;rcases hE with⟨m',k,st,lY,hR,rfl⟩ | ⟨_,rfl⟩
   ·obtain rfl:=count_uniq hM.count lY;have hg:=(rules_rel h.ok jC cT).dh;obtain⟨h1,h2⟩:=right_sound sS cT hg lY hR (fm jg hM.gJ);refine⟨_,rfl,?_,λ e=>?_,λ e=>?_⟩
    ·unfold showV;split
     ·exact .inl rfl
     ·split
      ·exact .inr (.inr rfl)
      ·exact .inr (.inl rfl)
    ·unfold showV at e
     split at e
     ·rename_i ak;exact h1 t ak
     ·split at e <;> cases e
    ·unfold showV at e
     split at e
     ·cases e
     ·rename_i l6
      split at e
      ·cases e
      ·rename_i hk;intro ak;refine l6 (h2 t ak ?_);obtain⟨p,hp,rfl⟩:=List.mem_map.1 ak;have hn:=(hM.ti h.dh p hp).num;have qk:(numOf (aj s).2 p.1.p).isSome=true:=(by rw[show p.1.p=p.1.1 from rfl,hn];rfl);exact Nat.lt_of_not_le λ hle=>hk ⟨qk,hle⟩
   ·exact⟨3,rfl,.inr (.inr rfl),(λ e=>by cases e),(λ e=>by cases e)⟩
theorem rows_congr {r q:PR}(h1:posOf r.bs=posOf q.bs)(h2:negOf r.bs=negOf q.bs)(h3:aO r=aO q)(N:List (Th × Nat))(t:Th):rowsTo N r t=rowsTo N q t:=by
 unfold rowsTo;rw[h1,h2,h3]
theorem arg_congr (hm:rs.map (·.R)=rp.map (·.R))(ha:∀ r∈rs,r.bs.map (·.1)=r.R.body)(hb:∀ r∈rp,r.bs.map (·.1)=r.R.body){rea:Nat->Nat × List Nat}(h:OfArg ps S rs K O rea):OfArg ps S rp K O rea:=by
 have hlen:rs.length=rp.length:=by have:=congrArg List.length hm;rwa [List.length_map,List.length_map] at this
 have gT:∀ (i:Nat) (h1:i<rs.length) (h2:i<rp.length) (N:List (Th × Nat)) (t:Th),rowsTo N rs[i] t=rowsTo N rp[i] t:=λ i h1 h2 N t=>by
  have e:rs[i].R=rp[i].R:=by
   have:=congrArg (λ l=>l[i]?) hm;simp only[List.getElem?_map,List.getElem?_eq_getElem h1,List.getElem?_eq_getElem h2,Option.map_some] at this;exact Option.some.inj this
  exact rows_congr (pos_of (ha _ (List.getElem_mem h1)) (hb _ (List.getElem_mem h2)) e) (neg_of (ha _ (List.getElem_mem h1)) (hb _ (List.getElem_mem h2)) e) (hd_of e) N t
 refine⟨h.perm,λ i hi=>?_,h.len,h.low⟩;have hl:=h.least i hi;have bP:(rea i).1<rp.length:=by have:=hl.lt;omega
 refine⟨λ j hj vJ=>?_,bP,?_,λ row hr=>?_⟩
 ·rw[<-gT j (by omega) hj];exact hl.low j (by omega) vJ
 ·rw[<-gT _ hl.lt bP];exact hl.mem
 ·rw[<-gT _ hl.lt bP] at hr;exact hl.least row hr
theorem chk_proved (h:dt s xb w lo rs)(hl:limit<=50)(hM:Mod s rs limit S m (some K))(hlen:K.length<=limit)(ht:thingS (aj s).2 q=some t)(hO:O.Perm (K.map (plOf S)))(jS:O.Pairwise λ p q=>lessPl p q=true)(hE:PChkE s q (expL (aj s).2 S K t (reaK (aj s).2 rs S K O) O) e):e=.returned (.int .i64 ((if (ay K t).isSome then 1 else 2:Nat):Nat)):=by
 rcases hE with⟨hn,_⟩ | ⟨_,rp,jC,cT,hE⟩
 ·rw[h.ok] at hn;cases hn
 ·rcases hE with⟨hn,_⟩ | ⟨t',Sp,sN,sS,uB,hE⟩
  ·rw[ht] at hn;cases hn
  ·rw[ht] at sN;obtain rfl:=Option.some.inj sN;have jg:bg rs rp:=⟨λ R=>by rw[h.rules,jC],h.cg,cT⟩;obtain rfl:S=Sp:=low_uniq jg.mem hM.valid hM.low sS uB;have hg:=(rules_rel h.ok jC cT).dh;have hA:=arg_congr (h.rules.trans jC.symm) h.cg cT (hM.j8 h.cg h.dh hO jS);have vE:Mod s rp limit S m (some K):=⟨sS,uB,hM.count,fm jg hM.gJ⟩;obtain⟨n,hn,hw⟩:=vE.GO cT;obtain⟨st,hR,ak,dj⟩:=wit_right (λ r hr=>sS r.R (List.mem_map_of_mem hr)) cT hg hM.count hn hw (vE.ti hg) (by omega) hA t;rcases hE with⟨m',k,fF,lY,qf,rfl⟩ | ⟨cP,_⟩
   ·obtain rfl:=count_uniq hM.count lY;obtain⟨rfl,rfl⟩:=hR.uniq qf;have key:showV (aj s).2 S (a8 (aj s).2 S K t) (st.map (·.t)) t=if (ay K t).isSome then 1 else 2:=by
     by_cases hk:t∈K.map (·.1)
     ·unfold showV;rw[if_pos (dj hk),if_pos (look_keys.2 hk)]
     ·have hl:¬ (ay K t).isSome=true:=λ hx=>hk (look_keys.1 hx)
      have hc:¬ ((numOf (aj s).2 t.p).isSome=true/\a8 (aj s).2 S K t<=S t.p):=by
       rintro⟨h1,h2⟩;have vC:(numOf (aj s).2 t.1).isSome=true:=h1;unfold a8 at h2;rw[if_pos vC,if_neg hl] at h2;have rX:S t.1+1<=S t.1:=h2;omega
      unfold showV;rw[if_neg (λ hx=>hk (ak t hx)),if_neg hc,if_neg hl]
    rw[key]
   ·exact absurd hR (cP _ _ _ hM.count)
end
section
open Go.RowKit Go.Maps
def KLoadPost (w:W8)(s:B8)(e:Ending)(w':W8):Prop:=∃ (xb:Nat) (rs:List PR),e=.returned (.pointer (some ⟨xb,0,none⟩))/\dt s xb w' w.heap.size rs/\Below w.heap.size w w'
theorem kload (w:W8)(s:B8)(hs:s.size<=maxLen)(h:refLoad s=(true,0,0)):Calls Tryz.prog 18 #[.string s] w (KLoadPost w s):=by
 have hP:=pload_any w s hs;rw[load_eq,h] at hP;have bX:(refLoad s).1=true:=by rw[h]
 have iS:=hide bX;clear h bX;go_enter Tryz.func18,Tryz.ntmps18;go_wp2_with fail;refine hP.mono ?_;rintro e w1 ⟨hb,_,eJ⟩;obtain⟨xb,rs,rfl,hp,hr⟩:=eJ rfl;have HX:=hide (show KLoadPost w s (.returned (.pointer (some ⟨xb,0,none⟩))) w1 from ⟨xb,rs,rfl,⟨ad iS,hp,hr⟩,hb⟩);clear hP hb eJ hp hr;go_wp2_with fail;go_ret;exact ad HX
structure qd (w:W8)(a:O8)(c:Nat)(zs:List B8):Prop where
 cap:zs.length<=c
 max:c<=maxLen
 at_:∀ (j:Nat) (h:j<zs.length),∃ g,a=some ⟨g,0,none⟩/\g<w.heap.size/\w.cell? ⟨g,j,none⟩=some (.string zs[j])
variable {zs:List B8} {c:Nat} {a:O8} {w:W8}
theorem qd.below {w':W8}(h:qd w a c zs)(k:Below w.heap.size w w'):qd w' a c zs:=
 ⟨h.cap,h.max,λ j hj=>let ⟨g,e,hg,hc⟩:=h.at_ j hj;⟨g,e,Nat.lt_of_lt_of_le hg k.size,(k.cell (p:=⟨g,j,none⟩) hg).trans hc⟩⟩
theorem qd.ib {base:Nat}(h:w.ownsRow base 9 1 (.slice a zs.length c) zs.length (zs.map Value.string)):qd w a c zs:=by
 rcases h.2 with⟨e,h0⟩ | ⟨g,cap,cur,hv,hb,hg,dG,dx,eZ,gZ⟩
 ·injection e with e1 e2 e3
  have hz:zs=[]:=List.eq_nil_of_length_eq_zero h0;subst hz e3;exact⟨Nat.le_refl _,by unfold maxLen;omega,λ j hj=>by simp at hj⟩
 ·injection hv with e1 e2 e3
  subst e1 e3;refine⟨dG,dx,λ j hj=>⟨g,rfl,(h.lt g rfl).2,?_⟩⟩;have:=World.ownsRow.cellAt h j (by omega);rw[this,List.getElem?_map,List.getElem?_eq_getElem hj];rfl
end
section
open Go.RowKit Go.Maps
def thTx (p i:Nat):B8:=bk [pdU p,40,nmU (i/4),44,nmU (i%4),41]
attribute [local go_sem] one8_size
end
section
variable {q:List (Bool × B8)} {t:Bool × B8} {pd:B8}
theorem atomIt_ok1 (hp:IsTok 2 (bytesL pd))(ht:∀ x∈t::q,IsTok (tmTk x).1 (tmTk x).2):OkIt (atomIt [] pd (t::q)):=by
 obtain⟨h1,_,_⟩:=termsIt_ok (t::q) (by simp) ht;have ha:Apart2 5 (termsIt (t::q)):=by
  cases q with
  | nil=>exact .inr ⟨by simp,by simp⟩
  | cons v q=>exact .inr ⟨by simp,by simp⟩
 exact⟨by simp,hp,.inr ⟨by simp,by simp⟩,by simp,.open_,ha,h1⟩
theorem pask_rend {s:B8}(hp:IsTok 2 (bytesL pd))(ht:∀ x∈t::q,IsTok (tmTk x).1 (tmTk x).2)(hl:(t::q).length<=4)(h:bytesL s=rend (atomIt [] pd (t::q))):paskS s=some ⟨pd,t::q⟩:=by
 obtain⟨e,h1,h2⟩:=toks_rend (s:=s) (rest:=[]) (atomIt [] pd (t::q)) 0 (atomIt_ok1 hp ht) (by rw[List.append_nil];exact h);rw[atomIt_tk] at h1;obtain⟨_,pl,h3⟩:=patom_toks hl h1 (λ h=>by cases h);unfold paskS;rw[h3];simp only;rw[if_pos (tok_end_is h2 (by simp))]
theorem num_meet:∀ (l ps:P9) (k:B8) (n:Nat),numOf (meetL l ps) k=some n->numOf ps k=some n\/(k,n)∈l
 | [],_,_,_,h=>.inl h
 | x::r,ps,k,n,h=>by
  rcases num_meet r (meetP ps x.1 x.2) k n h with h | h
  ·rw[meetP_num] at h
   split at h
   ·rw[num_snoc] at h
    cases hn:numOf ps k with
    | some m=>rw[hn] at h;exact .inl (by rw[<-h])
    | none=>
     rw[hn] at h;simp only at h
     split at h
     ·rename_i e;have e1:=aW.1 e;have e2:=Option.some.inj h;refine .inr ?_;rw[<-e1,<-e2];exact List.mem_cons_self
     ·cases h
   ·exact .inl h
  ·exact .inr (List.mem_cons_of_mem _ h)
def TwoP (ps:P9):Prop:=∀ k n,numOf ps k=some n->n=2/\∃ i,i<4/\k=fl i
theorem KL.atoms {L:KL}(h:L.Ok):∀ x∈aZ L.rule,x.2=2/\∃ i,i<4/\x.1=fl i:=by
 cases L with
 | fact i j=>exact one_mem ⟨rfl,0,by decide,rfl⟩
 | rev h' q x y=>
  obtain⟨h1,h2,h3,_,_⟩:=h;exact two_mem ⟨rfl,h',h2,rfl⟩ ⟨rfl,q,by omega,rfl⟩
 | join h' q r x y z=>
  obtain⟨h1,h2,h3,h4,_,_,_⟩:=h;intro u hu;rcases List.mem_cons.1 hu with rfl | hu
  ·exact⟨rfl,h',h2,rfl⟩
  ·exact two_mem (P:=λ x:B8 × Nat=>x.2=2/\∃ i,i<4/\x.1=fl i) ⟨rfl,q,by omega,rfl⟩ ⟨rfl,r,by omega,rfl⟩ u hu
 | minus h' q r x y=>
  obtain⟨h1,h2,h3,h4,_,_⟩:=h;intro u hu;rcases List.mem_cons.1 hu with rfl | hu
  ·exact⟨rfl,h',h2,rfl⟩
  ·exact two_mem (P:=λ x:B8 × Nat=>x.2=2/\∃ i,i<4/\x.1=fl i) ⟨rfl,q,by omega,rfl⟩ ⟨rfl,r,by omega,rfl⟩ u hu
 | sX h' q r x y n m=>
  obtain⟨h1,h2,h3,h4,_,_,_,_⟩:=h;intro u hu;rcases List.mem_cons.1 hu with rfl | hu
  ·exact⟨rfl,h',h2,rfl⟩
  ·exact two_mem (P:=λ x:B8 × Nat=>x.2=2/\∃ i,i<4/\x.1=fl i) ⟨rfl,q,by omega,rfl⟩ ⟨rfl,r,by omega,rfl⟩ u hu
theorem two_text {L:Nat->KL}{n:Nat}(hn:n<=14)(hL:∀ i,i<n->(L i).Ok):TwoP (aj (bk (cw L n))).2:=by
 obtain⟨h1,h2⟩:=textK_ok L n hn hL;have hg:=good_of (s:=bk (cw L n)) (by rw[h1]);intro k m hk;rw[<-hg.met,h2] at hk;rcases num_meet _ _ _ _ hk with h | h
 ·cases h
 ·obtain⟨R,hR,hx⟩:=List.mem_flatMap.1 h;rcases List.mem_cons.1 hR with rfl | hR
  ·exact KL.atoms (L:=.fact 0 1) ⟨by decide,by decide⟩ _ hx
  ·obtain⟨i,hi,rfl⟩:=List.mem_map.1 hR;exact KL.atoms (hL i (List.mem_range.1 hi)) _ hx
def thK (p i j:Nat):Th:=(fl p,[one8 (nmU i),one8 (nmU j)])
theorem thText_K (p i:Nat):thText (thK p (i/4) (i%4))=thTx p i:=rfl
variable {ps:P9}
theorem thing_K (h:TwoP ps)(p i:Nat):thingS ps (thTx p i)=some (thK p (i/4) (i%4)):=by
 have hp:paskS (thTx p i)=some ⟨fl p,[tN (i/4),tN (i%4)]⟩:=pask_rend (tok_pd p) (two_mem (tok_tN _) (tok_tN _)) (by simp) rfl;have hs:suitsB ps ⟨fl p,[tN (i/4),tN (i%4)]⟩=true:=by
  unfold suitsB
  cases hn:numOf ps (fl p) with
  | none=>rfl
  | some m=>simp only;rw[(h _ _ hn).1];rfl
 unfold thingS askedS;rw[hp];simp only;rw[if_pos hs];rfl
def askK (k:Nat):PAtm:=⟨fl k,[(true,one8 88),(true,one8 89)]⟩
theorem asked_K (h:TwoP ps)(k:Nat):askedS ps (one8 (pdU k)++{ data:=#[40,88,44,89,41] })=some (askK k):=by
 have hx:IsTok (tmTk (true,one8 88)).1 (tmTk (true,one8 88)).2:=tok_high (by decide);have hy:IsTok (tmTk (true,one8 89)).1 (tmTk (true,one8 89)).2:=tok_high (by decide)
 have hp:paskS (one8 (pdU k)++{ data:=#[40,88,44,89,41] })=some (askK k):=pask_rend (tok_pd k) (two_mem hx hy) (by simp) (by
  unfold bytesL one8;rw[ByteArray.data_append,Array.toList_append]
  rfl)
 have hs:suitsB ps (askK k)=true:=by
  unfold suitsB askK
  cases hn:numOf ps (fl k) with
  | none=>rfl
  | some m=>simp only;rw[(h _ _ hn).1];rfl
 unfold askedS;rw[hp];simp only;rw[if_pos hs]
end
end Go.Proofs.YtldkpahaocjdpaaGreat
