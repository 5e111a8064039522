/-
  affidavitkeep: the text of lines.
-/
import Derived.Test.YtldkpahaocjdpaaGreatR31
import Derived.Test.YtldkpahaocjdpaaGreatR48
set_option maxHeartbeats 16000000
set_option maxRecDepth 1000000
namespace Go.Proofs.YtldkpahaocjdpaaGreat
section
open Go.RowKit
abbrev Raw:=Int × Int × Int × Int
def inR (x:Int):Prop:=-9223372036854775808<=x/\x<=9223372036854775807
structure RawOk (r:Raw):Prop where
 k:inR r.1
 a:inR r.2.1
 b:inR r.2.2.1
 c:inR r.2.2.2
def bf (r:Raw):KL:=lineOf r.1 r.2.1 r.2.2.1 r.2.2.2
theorem kline (w:W8)(r:Raw)(h:RawOk r):Calls Tryz.prog 24 #[.agg #[.int .i64 r.1,.int .i64 r.2.1,.int .i64 r.2.2.1,.int .i64 r.2.2.2]] w (LinePost w (bf r)):=by
 have hp:=(pickN_is r.1 (n:=8) (by decide)).1;unfold bf lineOf
 by_cases h1:ag r.1 8<4
 ·rw[if_pos h1];exact kline_fact w _ _ _ _ h.k h.a h.b h1
 rw[if_neg h1]
 by_cases h2:ag r.1 8=4
 ·rw[if_pos h2];exact kline_rev w _ _ _ _ h.k h.a h.b h.c h2
 rw[if_neg h2]
 by_cases h3:ag r.1 8=5
 ·rw[if_pos h3];exact kline_join w _ _ _ _ h.k h.a h.b h.c h3
 rw[if_neg h3]
 by_cases h4:ag r.1 8=6
 ·rw[if_pos h4];exact kline_minus w _ _ _ _ h.k h.a h.b h.c h4
 rw[if_neg h4];exact kline_pin w _ _ _ _ h.k h.a h.b h.c (by omega)
theorem lineB_len (L:KL):(cH L).length<=40:=by
 cases L <;> simp[cH,KL.rule,ruleIt,atomIt,termsIt,bodyIt,litIt,rend,tmTk,tN,tV,fl,bytesL,one8]
structure fo (w:W8)(la:O8)(n:Nat)(R:Nat->Raw):Prop where
 el:∀ i,i<n->∃ g off,la=some ⟨g,off,none⟩/\g<w.heap.size/\w.cell? ⟨g,off+i*4,none⟩=some (.int .i64 (R i).1)/\w.cell? ⟨g,off+i*4+1,none⟩=some (.int .i64 (R i).2.1)/\w.cell? ⟨g,off+i*4+2,none⟩=some (.int .i64 (R i).2.2.1)/\w.cell? ⟨g,off+i*4+3,none⟩=some (.int .i64 (R i).2.2.2)/\RawOk (R i)
theorem fo.below {w w':W8}{la:O8}{n:Nat}{R:Nat->Raw}(h:fo w la n R)(k:Below w.heap.size w w'):fo w' la n R:=
 ⟨λ i hi=>by
  obtain⟨g,off,h1,h2,c0,c1,c2,c3,h3⟩:=h.el i hi;have hz:=k.size;refine⟨g,off,h1,by omega,?_,?_,?_,?_,h3⟩
  all_goals (rw[k.cell (by simpa using h2)];assumption)⟩
def firstB:List UInt8:=[101,40,97,44,98,41,46,32]
def cw (L:Nat->KL)(n:Nat):List UInt8:=firstB++(List.range n).flatMap λ i=>cH (L i)
theorem textB_step (L:Nat->KL)(n:Nat):cw L (n+1)=cw L n++cH (L n):=by
 unfold cw;rw[List.range_succ,List.flatMap_append,<-List.append_assoc];simp
theorem textB_len (L:Nat->KL):∀ n,(cw L n).length<=8+40*n
 | 0=>by simp[cw,firstB]
 | n+1=>by
  rw[textB_step,List.length_append];have:=textB_len L n;have:=lineB_len (L n);omega
def bk (l:List UInt8):B8:=⟨l.toArray⟩
theorem txt8_size (l:List UInt8):(bk l).size=l.length:=by unfold bk;rfl
theorem txt8_append (a b:List UInt8):bk a++bk b=bk (a++b):=ByteArray.mk_append_mk a b
theorem ktext (w:W8)(la:O8)(n c:Nat)(R:Nat->Raw)(h:fo w la n R)(dG:n<=c)(hc:c<=maxLen)(jm:Nat)(hm:jm<=20):Calls Tryz.prog 17 #[.slice la n c,.int .i64 (jm:Nat)] w λ e w'=>e=.returned (.string (bk (cw (λ i=>bf (R i)) (min n jm))))/\Below w.heap.size w w':=by
 have H:=hide h;have oa:bk (cw (λ i=>bf (R i)) 0)={ data:=#[101,40,97,44,98,41,46,32] }:=rfl;have HL:=hide (λ k=>(show (bk (cw (λ i=>bf (R i)) k)).size<=8+40*k from by rw[txt8_size];exact textB_len _ k));have HS:=hide (λ k=>(show bk (cw (λ i=>bf (R i)) k)++bk (cH (bf (R k)))=bk (cw (λ i=>bf (R i)) (k+1)) from by rw[txt8_append,textB_step]));have iI:=hide oa;unfold maxLen at hc;clear h oa;go_enter Tryz.func17,Tryz.ntmps17;go_wp2_with fail
 go_loopg [5,6] (min n jm) (λ gg v i wr=>∃ k:Nat,k<=min n jm/\gg=min n jm-k/\v=.string (bk (cw (λ i=>bf (R i)) k))/\i=.int .i64 (k:Nat)/\Below w.heap.size w wr)
 exact⟨0,Nat.zero_le _,rfl,by rw[ad iI],rfl,Below.refl _ _⟩
 case round=>
  clear iI;obtain⟨k,hk,fM,rfl,rfl,hB⟩:=hrel
  by_cases aN:k<min n jm
  ·obtain⟨g,off,rfl,hg,c0,c1,c2,c3,hr⟩:=((ad H).below hB).el k (by omega);have CK:(k:Int)<n:=(by omega);have Aw:(k:Int)<jm:=(by omega);have HC:=hide (kline wr (R k) hr);have HB:=hide hB;have js:=ad HL k;have lj:(bk (cH (bf (R k)))).size<=40:=(by rw[txt8_size];exact lineB_len _);have gM:=hide (ad HS k);obtain⟨t1,iN⟩:∃ t1,t1=bk (cw (λ i=>bf (R i)) k):=⟨_,rfl⟩;obtain⟨t2,gK⟩:∃ t2,t2=bk (cH (bf (R k))):=⟨_,rfl⟩;have ks:Hid (Calls Tryz.prog 24 #[.agg #[.int .i64 (R k).1,.int .i64 (R k).2.1,.int .i64 (R k).2.2.1,.int .i64 (R k).2.2.2]] wr λ e w'=>e=.returned (.string t2)/\Below wr.heap.size wr w'):=(by rw[gK];exact HC);rw[<-iN] at js gM;rw[<-gK] at lj gM;have Cm:¬ (9223372036854775807<t1.size+t2.size):=(by omega);have Af:=hide iN;rw[<-iN];clear hB hr iN gK HC;go_wp2_with (go_at_call 24;refine (ad ks).mono ?_;rintro e w1 ⟨rfl,aT⟩;have cR:=hide aT;clear aT);go_roundg (min n jm-(k+1));exact⟨k+1,by omega,rfl,by rw[ad gM],by go_num,(ad HB).trans ((ad cR).mono (ad HB).size)⟩;omega
  ·have kg:k=min n jm:=(by omega);have HB:=hide hB;clear hB
   by_cases CK:k<n
   ·have Aw:¬ (k:Int)<jm:=(by omega);have CL:(k:Int)<n:=(by omega);go_wp2_with fail;go_ret;exact⟨rfl,ad HB⟩
   ·have CL:¬ (k:Int)<n:=(by omega);go_wp2_with fail;go_ret;exact⟨rfl,ad HB⟩
end
section
def KL.Ok:KL->Prop
 | .fact i j=>i<4/\j<4
 | .rev h q x y=>1<=h/\h<4/\q<=h/\x<3/\y<3
 | .join h q r x y z=>1<=h/\h<4/\q<=h/\r<=h/\x<3/\y<3/\z<3
 | .minus h q r x y=>1<=h/\h<4/\q<=h/\r<h/\x<3/\y<3
 | .sX h q r x y n m=>1<=h/\h<4/\q<=h/\r<h/\x<3/\y<3/\n<4/\m<4
theorem lineOf_ok (k a b c:Int):(lineOf k a b c).Ok:=by
 have pa:=(pickN_is a (n:=3) (by decide)).1;have pq:=(pickN_is (b.tdiv 9) (n:=1+ag a 3+1) (by omega)).1;have px:=(pickN_is b (n:=3) (by decide)).1;have py:=(pickN_is (b.tdiv 3) (n:=3) (by decide)).1;unfold lineOf
 split
 ·exact⟨(pickN_is a (by decide)).1,(pickN_is b (by decide)).1⟩
 split
 ·exact⟨by omega,by omega,by omega,px,py⟩
 split
 ·have pr:=(pickN_is (c.tdiv 3) (n:=1+ag a 3+1) (by omega)).1;exact⟨by omega,by omega,by omega,by omega,px,py,(pickN_is c (by decide)).1⟩
 split
 ·have pr:=(pickN_is c (n:=1+ag a 3) (by omega)).1;exact⟨by omega,by omega,by omega,pr,px,py⟩
 ·have pr:=(pickN_is (c.tdiv 4) (n:=1+ag a 3) (by omega)).1;exact⟨by omega,by omega,by omega,pr,px,py,(pickN_is c (by decide)).1,(pickN_is (c.tdiv 12) (by decide)).1⟩
theorem pdU_is (k:Nat):pdU k=101\/pdU k=102\/pdU k=103\/pdU k=104:=by
 match k with
 | 0=>decide
 | 1=>decide
 | 2=>decide
 | 3=>decide
 | k+4=>exact .inl rfl
theorem nmU_is (k:Nat):nmU k=97\/nmU k=98\/nmU k=99\/nmU k=100:=by
 match k with
 | 0=>decide
 | 1=>decide
 | 2=>decide
 | 3=>decide
 | k+4=>exact .inl rfl
theorem vrU_is (k:Nat):vrU k=88\/vrU k=89\/vrU k=90:=by
 match k with
 | 0=>decide
 | 1=>decide
 | 2=>decide
 | k+3=>exact .inl rfl
variable {c:UInt8}
theorem tok_low (h:aP c.toNat=true):IsTok 2 [c]:=.name (by simp) (by simp) (λ x hx=>by rw[List.mem_singleton.1 hx];exact h) (by simp)
theorem tok_high (h:aL c.toNat=true):IsTok 3 [c]:=.var (by simp) (by simp) (λ x hx=>by rw[List.mem_singleton.1 hx];exact h)
theorem tok_pd (k:Nat):IsTok 2 (bytesL (fl k)):=tok_low (by rcases pdU_is k with h | h | h | h <;> rw[h] <;> decide)
theorem tok_tN (k:Nat):IsTok (tmTk (tN k)).1 (tmTk (tN k)).2:=tok_low (by rcases nmU_is k with h | h | h | h <;> rw[h] <;> decide)
theorem tok_tV (k:Nat):IsTok (tmTk (tV k)).1 (tmTk (tV k)).2:=tok_high (by rcases vrU_is k with h | h | h <;> rw[h] <;> decide)
variable {Ty:Type}
theorem two_mem {P:Ty->Prop}{a b:Ty}(ha:P a)(hb:P b):∀ t∈[a,b],P t:=λ t ht=>by
 rcases List.mem_cons.1 ht with rfl | ht
 ·exact ha
 ·rw[List.mem_singleton.1 ht];exact hb
theorem one_mem {P:Ty->Prop}{a:Ty}(ha:P a):∀ t∈[a],P t:=λ t ht=>by rw[List.mem_singleton.1 ht];exact ha
theorem KL.words (L:KL):WordsOk L.rule:=by
 cases L with
 | fact i j=>exact⟨tok_pd _,two_mem (tok_tN _) (tok_tN _),by simp[KL.rule],by simp[KL.rule]⟩
 | rev h q x y=>exact⟨tok_pd _,two_mem (tok_tV _) (tok_tV _),one_mem (tok_pd _),one_mem (two_mem (tok_tV _) (tok_tV _))⟩
 | join h q r x y z=>exact⟨tok_pd _,two_mem (tok_tV _) (tok_tV _),two_mem (tok_pd _) (tok_pd _),two_mem (two_mem (tok_tV _) (tok_tV _)) (two_mem (tok_tV _) (tok_tV _))⟩
 | minus h q r x y=>exact⟨tok_pd _,two_mem (tok_tV _) (tok_tV _),two_mem (tok_pd _) (tok_pd _),two_mem (two_mem (tok_tV _) (tok_tV _)) (two_mem (tok_tV _) (tok_tV _))⟩
 | sX h q r x y n m=>exact⟨tok_pd _,two_mem (tok_tV _) (tok_tN _),two_mem (tok_pd _) (tok_pd _),two_mem (two_mem (tok_tV _) (tok_tV _)) (two_mem (tok_tV _) (tok_tN _))⟩
def pT (p:B8):Nat:=if p=fl 1 then 1 else if p=fl 2 then 2 else if p=fl 3 then 3 else 0
theorem lvK_pd {k:Nat}(h:k<4):pT (fl k)=k:=by
 match k,h with
 | 0,_=>decide
 | 1,_=>decide
 | 2,_=>decide
 | 3,_=>decide
theorem KL.ic {L:KL}(h:L.Ok):RuleOkK (λ _=>2) pT L.rule:=by
 cases L with
 | fact i j=>exact⟨⟨by simp[KL.rule],by simp[KL.rule],by simp[KL.rule]⟩,rfl,by simp[KL.rule],by simp[KL.rule,tN],by simp[KL.rule],by simp[KL.rule],by simp[KL.rule]⟩
 | rev h' q x y=>
  obtain⟨h1,h2,h3,_,_⟩:=h;refine⟨⟨by simp[KL.rule],by simp[KL.rule],by simp[KL.rule]⟩,rfl,by simp[KL.rule],by simp[KL.rule],by simp[KL.rule],?_,by simp[KL.rule]⟩;simp only[KL.rule,List.mem_singleton,forall_eq];rw[lvK_pd (k:=q) (by omega),lvK_pd h2];exact h3
 | join h' q r x y z=>
  obtain⟨h1,h2,h3,h4,_,_,_⟩:=h;refine⟨⟨by simp[KL.rule],by simp[KL.rule],by simp[KL.rule]⟩,rfl,by simp[KL.rule],by simp[KL.rule],by simp[KL.rule],?_,by simp[KL.rule]⟩;simp only[KL.rule,List.mem_cons,List.not_mem_nil,or_false,forall_eq_or_imp,forall_eq];rw[lvK_pd (k:=q) (by omega),lvK_pd (k:=r) (by omega),lvK_pd h2];exact⟨h3,h4⟩
 | minus h' q r x y=>
  obtain⟨h1,h2,h3,h4,_,_⟩:=h;refine⟨⟨by simp[KL.rule],by simp[KL.rule],by simp[KL.rule]⟩,rfl,by simp[KL.rule],by simp[KL.rule],by simp only[KL.rule];exact two_mem (λ h=>by cases h) (λ _ t ht hv=>⟨_,List.mem_cons_self,rfl,by rcases List.mem_cons.1 ht with rfl | ht;exact List.mem_cons_of_mem _ List.mem_cons_self;rw[List.mem_singleton.1 ht];exact List.mem_cons_self⟩),?_,?_⟩
  ·simp only[KL.rule,List.mem_cons,List.not_mem_nil,or_false,forall_eq_or_imp,forall_eq];rw[lvK_pd (k:=q) (by omega),lvK_pd (k:=r) (by omega),lvK_pd h2];exact⟨h3,by omega⟩
  ·simp only[KL.rule,List.mem_cons,List.not_mem_nil,or_false,forall_eq_or_imp,forall_eq];rw[lvK_pd (k:=q) (by omega),lvK_pd (k:=r) (by omega),lvK_pd h2];exact⟨by simp,λ _=>h4⟩
 | sX h' q r x y n m=>
  obtain⟨h1,h2,h3,h4,_,_,_,_⟩:=h;refine⟨⟨by simp[KL.rule],by simp[KL.rule],by simp[KL.rule]⟩,rfl,by simp[KL.rule],by simp[KL.rule,tN],by simp only[KL.rule];exact two_mem (λ h=>by cases h) (λ _ t ht hv=>⟨_,List.mem_cons_self,rfl,by rcases List.mem_cons.1 ht with rfl | ht;exact List.mem_cons_self;rw[List.mem_singleton.1 ht] at hv;cases hv⟩),?_,?_⟩
  ·simp only[KL.rule,List.mem_cons,List.not_mem_nil,or_false,forall_eq_or_imp,forall_eq];rw[lvK_pd (k:=q) (by omega),lvK_pd (k:=r) (by omega),lvK_pd h2];exact⟨h3,by omega⟩
  ·simp only[KL.rule,List.mem_cons,List.not_mem_nil,or_false,forall_eq_or_imp,forall_eq];rw[lvK_pd (k:=q) (by omega),lvK_pd (k:=r) (by omega),lvK_pd h2];exact⟨by simp,λ _=>h4⟩
theorem atom_sep (b:List UInt8)(pd:B8)(ts:List (Bool × B8))(r:List Item):rend (atomIt b pd ts++r)=b++rend (atomIt [] pd ts++r):=by
 cases ts <;> simp[atomIt,rend]
theorem rule_sep (b:List UInt8)(R:PRule)(r:List Item):rend (ruleIt b R++r)=b++rend (ruleIt [] R++r):=by
 unfold ruleIt;rw[List.append_assoc,List.append_assoc,atom_sep]
theorem rules_rend (sep:List UInt8):∀ (rules:List PRule) (b:List UInt8),rend (rulesIt sep b rules)++sep=(match rules with | []=>[] | _=>b)++(rules.flatMap λ R=>rend (ruleIt [] R)++sep)++(match rules with | []=>sep | _=>[])
 | [],b=>by simp[rulesIt,rend]
 | [R],b=>by
  have h:=rule_sep b R [];rw[List.append_nil,List.append_nil] at h;simp[rulesIt,h]
 | R::Q::r,b=>by
  have ih:=rules_rend sep (Q::r) sep;rw[rulesIt,rend_append,List.append_assoc,ih];have h:=rule_sep b R [];rw[List.append_nil,List.append_nil] at h;simp only[h,List.flatMap_cons,List.append_assoc,List.append_nil]
def rulesK (L:Nat->KL)(n:Nat):List PRule:=(KL.fact 0 1).rule::(List.range n).map λ i=>(L i).rule
theorem textB_rend (L:Nat->KL)(n:Nat):cw L n=rend (rulesIt [32] [] (rulesK L n))++[32]:=by
 rw[rules_rend [32] (rulesK L n) []];unfold rulesK cw;simp only[List.nil_append,List.append_nil,List.flatMap_cons,List.flatMap_map];rfl
theorem textK_ok (L:Nat->KL)(n:Nat)(hn:n<=14)(hL:∀ i,i<n->(L i).Ok):refLoad (bk (cw L n))=(true,0,0)/\(pparsed (bk (cw L n))).2.2.1=rulesK L n:=by
 have hb:∀ c∈[(32:UInt8)],aH c.toNat=true:=λ c hc=>blank1 c (.inl (List.mem_singleton.1 hc))
 have bh:∀ R∈rulesK L n,RuleOkK (λ _=>2) pT R/\WordsOk R:=λ R hR=>by
  rcases List.mem_cons.1 hR with rfl | hR
  ·exact⟨KL.ic ⟨by decide,by decide⟩,KL.words _⟩
  ·obtain⟨i,hi,rfl⟩:=List.mem_map.1 hR;exact⟨KL.ic (hL i (List.mem_range.1 hi)),KL.words _⟩
 refine written_ok hb (by simp) hb (ar:=λ _=>2) (lv:=pT) ?_ (λ R hR=>(bh R hR).1) (λ R hR=>(bh R hR).2) ?_ (textB_rend L n)
 ·rw[txt8_size];have:=textB_len L n;omega
 ·unfold rulesK;rw[List.length_cons,List.length_map,List.length_range];omega
end
section
open Go.RowKit Go.Maps
def KLoadPost (w:W8)(s:B8)(e:Ending)(w':W8):Prop:=∃ (xb:Nat) (rs:List PR),e=.returned (.pointer (some ⟨xb,0,none⟩))/\dt s xb w' w.heap.size rs/\Below w.heap.size w w'
theorem kload (w:W8)(s:B8)(hs:s.size<=maxLen)(h:refLoad s=(true,0,0)):Calls Tryz.prog 18 #[.string s] w (KLoadPost w s):=by
 have hP:=pload_any w s hs;rw[load_eq,h] at hP;have bX:(refLoad s).1=true:=by rw[h]
 have iS:=hide bX;clear h bX;go_enter Tryz.func18,Tryz.ntmps18;go_wp2_with fail;refine hP.mono ?_;rintro e w1 ⟨hb,_,eJ⟩;obtain⟨xb,rs,rfl,hp,hr⟩:=eJ rfl;have HX:=hide (show KLoadPost w s (.returned (.pointer (some ⟨xb,0,none⟩))) w1 from ⟨xb,rs,rfl,⟨ad iS,hp,hr⟩,hb⟩);clear hP hb eJ hp hr;go_wp2_with fail;go_ret;exact ad HX
structure qd (w:W8)(a:O8)(c:Nat)(zs:List B8):Prop where
 cap:zs.length<=c
 max:c<=maxLen
 at_:∀ (j:Nat) (h:j<zs.length),∃ g,a=some ⟨g,0,none⟩/\g<w.heap.size/\w.cell? ⟨g,j,none⟩=some (.string zs[j])
theorem qd.ib {w:W8}{base:Nat}{a:O8}{c:Nat}{zs:List B8}(h:w.ownsRow base 9 1 (.slice a zs.length c) zs.length (zs.map Value.string)):qd w a c zs:=by
 rcases h.2 with⟨e,h0⟩ | ⟨g,cap,cur,hv,hb,hg,dG,dx,eZ,gZ⟩
 ·injection e with e1 e2 e3
  have hz:zs=[]:=List.eq_nil_of_length_eq_zero h0;subst hz e3;exact⟨Nat.le_refl _,by unfold maxLen;omega,λ j hj=>by simp at hj⟩
 ·injection hv with e1 e2 e3
  subst e1 e3;refine⟨dG,dx,λ j hj=>⟨g,rfl,(h.lt g rfl).2,?_⟩⟩;have:=World.ownsRow.cellAt h j (by omega);rw[this,List.getElem?_map,List.getElem?_eq_getElem hj];rfl
end
section
open Go.RowKit Go.Maps
def jX (p i:Nat):B8:=bk [pdU p,40,nmU (i/4),44,nmU (i%4),41]
def thUpto (p i:Nat):List B8:=(List.range p).flatMap (λ q=>(List.range 16).map λ j=>jX q j)++(List.range i).map λ j=>jX p j
def my:List B8:=thUpto 4 0
theorem thUpto_step (p i:Nat):thUpto p (i+1)=thUpto p i++[jX p i]:=by
 unfold thUpto;rw[List.range_succ (n:=i),List.map_append,<-List.append_assoc];rfl
theorem thUpto_next (p:Nat):thUpto p 16=thUpto (p+1) 0:=by
 unfold thUpto;rw[List.range_succ (n:=p),List.flatMap_append];simp
theorem thUpto_len (p i:Nat):(thUpto p i).length=16*p+i:=by
 unfold thUpto;rw[List.length_append,List.length_map,List.length_range]
 congr 1
 induction p with
 | zero=>rfl
 | succ p ih=>rw[List.range_succ (n:=p),List.flatMap_append,List.length_append,ih];simp;omega
theorem pickN_nat (i n:Nat):ag (i:Int) n=i%n:=by
 unfold ag;rw[if_neg (by omega)];omega
structure mS (w:W8)(p i:Nat)(v:Value)(wr:W8):Prop where
 below:Below w.heap.size w wr
 row:wr.ownsRow w.heap.size 9 1 v (16*p+i) ((thUpto p i).map Value.string)
theorem mS.add {w wr W w5:W8}{p i:Nat}{v v':Value}(h:mS w p i v wr)(hW:Below wr.heap.size wr W)(hg:W.grownBy w5 v.ownBlock)(aI:w5.ownsRow w.heap.size 9 1 v' (16*p+i+1) ((thUpto p i).map Value.string++[.string (jX p i)])):mS w p (i+1) v' w5:=by
 have hs:=h.below.size;have hz:=hW.size;refine⟨⟨hg.os.trans (hW.os.trans h.below.os),hg.tape.trans (hW.tape.trans h.below.tape),hg.output.trans (hW.output.trans h.below.output),Nat.le_trans hs (Nat.le_trans hz hg.size),λ j hj=>?_⟩,?_⟩
 ·rw[hg.block j (by omega) (λ e=>by have:=(h.row.lt j e.symm).1;omega),hW.block j (by omega)];exact h.below.block j hj
 ·rw[thUpto_step,List.map_append];exact aI
attribute [local go_sem] one8_size
theorem kthings (w:W8):Calls Tryz.prog 29 #[] w λ e w'=>∃ (a:O8) (c:Nat),e=.returned (.slice a 64 c)/\w'.ownsRow w.heap.size 9 1 (.slice a 64 c) 64 (my.map Value.string)/\Below w.heap.size w w':=by
 obtain⟨i0,hi,dK,ir,bZ⟩:=info_parts infoString;have H0:=hide (show mS w 0 0 (.slice none 0 0) w from ⟨Below.refl _ _,World.ownsRow_nil _ _ _ _⟩);go_enter Tryz.func29,Tryz.ntmps29;go_wp2_with fail
 go_loopg [1,2] 4 (λ gg v pv wr=>∃ p:Nat,p<=4/\gg=4-p/\pv=.int .i64 (p:Nat)/\mS w p 0 v wr)
 exact⟨0,by omega,rfl,rfl,ad H0⟩
 case round=>
  clear H0;obtain⟨p,hp,hgp,rfl,ak⟩:=hrel;have HI:=hide ak
  by_cases kX:p<4
  ·have qm:(p:Int)<4:=(by omega);generalize hgk1:gk=gk1 at *;clear ak;go_wp2_with fail
   go_loopg [1,3] 16 (λ gg v iv wr=>∃ i:Nat,i<=16/\gg=16-i/\iv=.int .i64 (i:Nat)/\mS w p i v wr)
   exact⟨0,by omega,rfl,rfl,ad HI⟩
   case round=>
    clear HI;obtain⟨i,ID,Fy,rfl,ak⟩:=hrel;obtain⟨a1,c1,rfl⟩:=own_slice ak.row
    by_cases qj:i<16
    ·have yG:(i:Int)<16:=(by omega);have HP:=hide (λ w=>kpred w p kX);have hq:(i:Int)/4=((i/4:Nat):Int):=by omega
     have vu:Hid (∀ w:W8,Calls Tryz.prog 21 #[.int .i64 ((i:Int)/4)] w λ e w'=>e=.returned (.string (one8 (nmU (i/4))))/\w'=w.alloc nmObj):=hide (λ w=>by
      have:=kname w ((i/4:Nat):Int) (by omega) (by omega);rw[pickN_nat,Nat.mod_eq_of_lt (show i/4<4 by omega)] at this
      rw[hq];exact this)
     have Hr:Hid (∀ w:W8,Calls Tryz.prog 21 #[.int .i64 (i:Int)] w λ e w'=>e=.returned (.string (one8 (nmU (i%4))))/\w'=w.alloc nmObj):=hide (λ w=>by
      have:=kname w (i:Int) (by omega) (by omega);rw[pickN_nat] at this
      exact this)
     have bt:=hide ak;obtain⟨T,hT⟩:∃ T,T=jX p i:=⟨_,rfl⟩;have zx:one8 (pdU p)++{ data:=#[40] }++one8 (nmU (i/4))++{ data:=#[44] }++one8 (nmU (i%4))++{ data:=#[41] }=T:=hT.symm;have vA:=hide hT;clear hT;have bH:=(((ak.row.alloc cD).alloc nmObj).alloc nmObj).alloc (.cells #[.string T] 9);have BJ:=heap_alloc_new (((wr.alloc cD).alloc nmObj).alloc nmObj) (.cells #[.string T] 9);simp only[World.size_alloc] at BJ;have gF:=hide (World.news_of_block BJ);clear BJ;have IC:=hide (((((Below.refl wr.heap.size wr).alloc L9 cD).alloc (by simp) nmObj).alloc (by simp only[World.size_alloc];omega) nmObj).alloc (by simp only[World.size_alloc];omega) (.cells #[.string T] 9));have sV:w.heap.size<=wr.heap.size:=ak.below.size;clear ak hq;go_wp2_with fail;refine (ad HP _).mono ?_;rintro e w1 ⟨rfl,rfl⟩;go_wp2_with fail;refine (ad vu _).mono ?_;rintro e w1 ⟨rfl,rfl⟩;go_wp2_with fail;refine (ad Hr _).mono ?_;rintro e w1 ⟨rfl,rfl⟩;clear HP vu Hr;go_wp2_with (at_builtin;go_must (refine wpList_append_own _ rfl _ _ 33 rfl w.heap.size 9 i0 _ 1 16 Tryz.underlying33 hi dK ir bZ rfl (by decide) _ _ _ rfl bH ⟨wr.heap.size+1+1+1,0,none⟩ 1 1 [.string T] rfl rfl (ad gF) (by intro u hu;rw[List.mem_singleton.1 hu];rfl) (by unfold maxLen;omega) (by omega) (by simp only[World.size_alloc];omega) ?_);intro v5 w5 dm dz jv;clear jv;obtain⟨a5,c5,rfl⟩:=own_slice dm;have mY:=hide dm;have jG:=hide dz;clear dm dz);go_roundg (16-(i+1))
     case measure=>omega
     case rel=>
      have Fh:=ad mY;rw[ad vA] at Fh;exact⟨i+1,by omega,rfl,by go_num,(ad bt).add (ad IC) (ad jG) Fh⟩
    ·have IW:i=16:=(by omega);subst IW;have bt:=hide ak;clear ak;go_wp2_with fail;go_roundg (4-(p+1))
     case measure=>omega
     case rel=>
      refine⟨p+1,by omega,rfl,by go_num,(ad bt).below,?_⟩;have:=(ad bt).row;rw[thUpto_next] at this;rw[show 16*(p+1)+0=16*p+16 by omega];exact this
  ·have ql:p=4:=(by omega);subst ql;obtain⟨a1,c1,rfl⟩:=own_slice ak.row;clear ak;go_wp2_with fail;go_ret;exact⟨a1,c1,rfl,(ad HI).row,(ad HI).below⟩
end
section
variable {q:List (Bool × B8)} {t:Bool × B8} {pd:B8}
theorem atomIt_ok1 (hp:IsTok 2 (bytesL pd))(ht:∀ x∈t::q,IsTok (tmTk x).1 (tmTk x).2):OkIt (atomIt [] pd (t::q)):=by
 obtain⟨h1,_,_⟩:=termsIt_ok (t::q) (by simp) ht;have ha:Apart2 5 (termsIt (t::q)):=by
  cases q with
  | nil=>exact .inr ⟨by simp,by simp⟩
  | cons v q=>exact .inr ⟨by simp,by simp⟩
 exact⟨by simp,hp,.inr ⟨by simp,by simp⟩,by simp,.open_,ha,h1⟩
theorem pask_rend {s:B8}(hp:IsTok 2 (bytesL pd))(ht:∀ x∈t::q,IsTok (tmTk x).1 (tmTk x).2)(hl:(t::q).length<=4)(h:bytesL s=rend (atomIt [] pd (t::q))):paskS s=some ⟨pd,t::q⟩:=by
 obtain⟨e,h1,h2⟩:=toks_rend (s:=s) (rest:=[]) (atomIt [] pd (t::q)) 0 (atomIt_ok1 hp ht) (by rw[List.append_nil];exact h);rw[atomIt_tk] at h1;obtain⟨_,pl,h3⟩:=patom_toks hl h1 (λ h=>by cases h);unfold paskS;rw[h3];simp only;rw[if_pos (tok_end_is h2 (by simp))]
theorem num_meet:∀ (l ps:P9) (k:B8) (n:Nat),numOf (meetL l ps) k=some n->numOf ps k=some n\/(k,n)∈l
 | [],_,_,_,h=>.inl h
 | x::r,ps,k,n,h=>by
  rcases num_meet r (meetP ps x.1 x.2) k n h with h | h
  ·rw[meetP_num] at h
   split at h
   ·rw[num_snoc] at h
    cases hn:numOf ps k with
    | some m=>rw[hn] at h;exact .inl (by rw[<-h])
    | none=>
     rw[hn] at h;simp only at h
     split at h
     ·rename_i e;have e1:=aW.1 e;have e2:=Option.some.inj h;refine .inr ?_;rw[<-e1,<-e2];exact List.mem_cons_self
     ·cases h
   ·exact .inl h
  ·exact .inr (List.mem_cons_of_mem _ h)
def TwoP (ps:P9):Prop:=∀ k n,numOf ps k=some n->n=2/\∃ i,i<4/\k=fl i
theorem KL.atoms {L:KL}(h:L.Ok):∀ x∈aZ L.rule,x.2=2/\∃ i,i<4/\x.1=fl i:=by
 cases L with
 | fact i j=>exact one_mem ⟨rfl,0,by decide,rfl⟩
 | rev h' q x y=>
  obtain⟨h1,h2,h3,_,_⟩:=h;exact two_mem ⟨rfl,h',h2,rfl⟩ ⟨rfl,q,by omega,rfl⟩
 | join h' q r x y z=>
  obtain⟨h1,h2,h3,h4,_,_,_⟩:=h;intro u hu;rcases List.mem_cons.1 hu with rfl | hu
  ·exact⟨rfl,h',h2,rfl⟩
  ·exact two_mem (P:=λ x:B8 × Nat=>x.2=2/\∃ i,i<4/\x.1=fl i) ⟨rfl,q,by omega,rfl⟩ ⟨rfl,r,by omega,rfl⟩ u hu
 | minus h' q r x y=>
  obtain⟨h1,h2,h3,h4,_,_⟩:=h;intro u hu;rcases List.mem_cons.1 hu with rfl | hu
  ·exact⟨rfl,h',h2,rfl⟩
  ·exact two_mem (P:=λ x:B8 × Nat=>x.2=2/\∃ i,i<4/\x.1=fl i) ⟨rfl,q,by omega,rfl⟩ ⟨rfl,r,by omega,rfl⟩ u hu
 | sX h' q r x y n m=>
  obtain⟨h1,h2,h3,h4,_,_,_,_⟩:=h;intro u hu;rcases List.mem_cons.1 hu with rfl | hu
  ·exact⟨rfl,h',h2,rfl⟩
  ·exact two_mem (P:=λ x:B8 × Nat=>x.2=2/\∃ i,i<4/\x.1=fl i) ⟨rfl,q,by omega,rfl⟩ ⟨rfl,r,by omega,rfl⟩ u hu
theorem two_text {L:Nat->KL}{n:Nat}(hn:n<=14)(hL:∀ i,i<n->(L i).Ok):TwoP (aj (bk (cw L n))).2:=by
 obtain⟨h1,h2⟩:=textK_ok L n hn hL;have hg:=good_of (s:=bk (cw L n)) (by rw[h1]);intro k m hk;rw[<-hg.met,h2] at hk;rcases num_meet _ _ _ _ hk with h | h
 ·cases h
 ·obtain⟨R,hR,hx⟩:=List.mem_flatMap.1 h;rcases List.mem_cons.1 hR with rfl | hR
  ·exact KL.atoms (L:=.fact 0 1) ⟨by decide,by decide⟩ _ hx
  ·obtain⟨i,hi,rfl⟩:=List.mem_map.1 hR;exact KL.atoms (hL i (List.mem_range.1 hi)) _ hx
def thK (p i j:Nat):Th:=(fl p,[one8 (nmU i),one8 (nmU j)])
theorem thText_K (p i:Nat):thText (thK p (i/4) (i%4))=jX p i:=rfl
theorem thing_K {ps:P9}(h:TwoP ps)(p i:Nat):thingS ps (jX p i)=some (thK p (i/4) (i%4)):=by
 have hp:paskS (jX p i)=some ⟨fl p,[tN (i/4),tN (i%4)]⟩:=pask_rend (tok_pd p) (two_mem (tok_tN _) (tok_tN _)) (by simp) rfl;have hs:suitsB ps ⟨fl p,[tN (i/4),tN (i%4)]⟩=true:=by
  unfold suitsB
  cases hn:numOf ps (fl p) with
  | none=>rfl
  | some m=>simp only;rw[(h _ _ hn).1];rfl
 unfold thingS askedS;rw[hp];simp only;rw[if_pos hs];rfl
end
section
open Go.RowKit Go.Maps Go.Sort
variable {rs:List PR}
theorem same_refl (cT:∀ r∈rs,r.bs.map (·.1)=r.R.body):bg rs rs:=⟨λ _=>Iff.rfl,cT,cT⟩
theorem Mod.uniq {s:B8}(cT:∀ r∈rs,r.bs.map (·.1)=r.R.body){limit:Nat}{S S':B8->Nat}{m m':Nat}{r r':Option (List (Th × Nat))}(h:Mod s rs limit S m r)(h':Mod s rs limit S' m' r'):S=S'/\m=m'/\((r=none/\r'=none)\/∃ K K',r=some K/\r'=some K'/\K.Perm K'/\K.length<=limit):=by
 obtain rfl:=low_uniq (λ R=>Iff.rfl) h.valid h.low h'.valid h'.low;obtain rfl:=count_uniq h.count h'.count;exact⟨rfl,rfl,strat_det (same_refl cT) h.gJ (List.Perm.refl _) (Nat.zero_le _) h'.gJ⟩
attribute [local go_sem] one8_size
end
section
open Go.RowKit Go.Maps
def Lvl (s:B8):Prop:=∃ f,ValidN (pparsed s).2.2.1 f/\∀ k,f k<=3
theorem lvl_text {L:Nat->KL}{n:Nat}(hn:n<=14)(hL:∀ i,i<n->(L i).Ok):Lvl (bk (cw L n)):=by
 refine⟨pT,λ R hR=>?_,λ k=>?_⟩
 ·rw[(textK_ok L n hn hL).2] at hR;have ho:RuleOkK (λ _=>2) pT R:=by
   rcases List.mem_cons.1 hR with rfl | hR
   ·exact KL.ic ⟨by decide,by decide⟩
   ·obtain⟨i,hi,rfl⟩:=List.mem_map.1 hR;exact KL.ic (hL i (List.mem_range.1 hi))
  intro l hl;have h1:=ho.pos l hl;have h2:=ho.neg l hl
  split
  ·rename_i h;have:=h2 h;omega
  ·omega
 ·unfold pT
  split
  ·omega
  ·split
   ·omega
   ·split <;> omega
variable {m limit lo xb:Nat} {S:B8->Nat} {rs:List PR} {w:W8} {s:B8}
theorem Mod.lvl (h:dt s xb w lo rs)(hL:Lvl s){r:Option (List (Th × Nat))}(hM:Mod s rs limit S m r)(k:B8):S k<=3:=by
 obtain⟨f,h1,h2⟩:=hL;exact Nat.le_trans (hM.low f (by rw[h.rules];exact h1) k) (h2 k)
theorem rank_le (B:Nat->Bool)(i:Nat):rankB B i<=i:=by
 unfold rankB;have:=List.length_filter_le B (List.range i)
 rwa [List.length_range] at this
structure kL (s:B8)(rs:List PR)(limit:Nat)(S:B8->Nat)(m:Nat)(K:List (Th × Nat))(t:Th)(O:List Pl)(bs:List Nat):Prop where
 mod:Mod s rs limit S m (some K)
 len:K.length<=limit
 perm:O.Perm (K.map (plOf S))
 sort:O.Pairwise λ p q=>lessPl p q=true
 eq:bs=expL (aj s).2 S K t (reaK (aj s).2 rs S K O) O
variable {bs:List Nat} {t:Th}
theorem kL.byte (h:dt s xb w lo rs)(hL:Lvl s)(hl:limit<=50){K:List (Th × Nat)}{O:List Pl}(hW:kL s rs limit S m K t O bs):∀ x∈bs,x<256:=by
 have hA:=hW.mod.j8 h.cg h.dh hW.perm hW.sort;have hK:=hW.len;have xR:O.length=K.length:=by rw[hW.perm.length_eq,List.length_map]
 have iG:rs.length<=30:=by have:=(good_of h.ok).len;rw[<-h.rules,List.length_map] at this;exact this
 rw[hW.eq];intro x hx;unfold expL bytesOf at hx;rcases List.mem_cons.1 hx with rfl | hx
 ·have:=Mod.lvl h hL hW.mod t.1;unfold a8
  split
  ·split <;> omega
  ·omega
 ·rcases List.mem_cons.1 hx with rfl | hx
  ·have:=expN_len (aj s).2 S K t (reaK (aj s).2 rs S K O) O;omega
  ·rw[expN_eq hA.low] at hx;obtain⟨y,hy,hx⟩:=List.mem_flatMap.1 hx;obtain⟨j,hj,rfl⟩:=List.mem_map.1 hy;have ij:=List.mem_range.1 (List.mem_filter.1 hj).1;rcases List.mem_cons.1 hx with rfl | hx
   ·have:=(hA.least j ij).lt
    show (reaK (aj s).2 rs S K O j).1<256
    omega
   ·obtain⟨y,hy,rfl⟩:=List.mem_map.1 hx;have h1:=rank_le (cQ O (a8 (aj s).2 S K t) t (reaK (aj s).2 rs S K O) 0) y;have h2:=hA.low j ij y hy;omega
theorem iP.ib {base:Nat}{a:O8}{c:Nat}(hb:∀ x∈bs,x<256)(h:w.ownsRow base 5 1 (.slice a bs.length c) bs.length (bs.map u8c)):iP w a c bs:=by
 rcases h.2 with⟨e,h0⟩ | ⟨g,cap,cur,hv,_,hg,dG,dx,eZ,gZ⟩
 ·injection e with e1 e2 e3
  have hz:bs=[]:=List.eq_nil_of_length_eq_zero h0;subst hz e3;exact iP.none _ _ (by unfold maxLen;omega)
 ·injection hv with e1 e2 e3
  subst e1 e3;refine⟨dG,dx,hb,λ _=>⟨g,0,rfl,(h.lt g rfl).2,λ j hj=>?_⟩⟩;have:=World.ownsRow.cellAt h j (by omega);rw[Nat.zero_add,this,List.getElem?_map,List.getElem?_eq_getElem hj];have hx:=hb _ (List.getElem_mem hj)
  show some (Value.int .u8 ((bs[j]:Int)%256))=_
  rw[Int.emod_eq_of_lt (by omega) (by omega)]
def ExpOver:Ending:=.returned (.tuple #[.agg #[.int .i64 0,.int .i64 0,.slice none 0 0],.int .i64 7])
theorem explain_out {w':W8}{q:B8}(jz:1<=limit)(hl:limit<=50)(cT:∀ r∈rs,r.bs.map (·.1)=r.R.body)(ht:thingS (aj s).2 q=some t){e:Ending}(hE:PEOut w rs (aj s).2 q (limit:Nat) (reaK (aj s).2 rs) w' e):
  (∃ S m,Mod s rs limit S m none/\e=ExpOver)\/∃ S m K O bs a c,kL s rs limit S m K t O bs/\(K.map (·.1)).Nodup/\e=.returned (.tuple #[.agg #[.int .i64 ((if (ay K t).isSome then 1 else 2:Nat):Nat),.int .i64 (((ay K t).getD 0:Nat):Int),.slice a bs.length c],.int .i64 0])/\w'.ownsRow w.heap.size 5 1 (.slice a bs.length c) bs.length (bs.map u8c):=by
 have oo:cC (limit:Nat)=true:=by unfold cC;simp;omega
 have Ds:((limit:Nat):Int).toNat=limit:=by simp
 cases hE with
 | arg h=>rw[oo] at h;cases h
 | ask _ hn=>rw[ht] at hn;cases hn
 | fk _ h1 hv fN hc dj=>
  rw[Ds] at dj;exact .inl ⟨_,_,⟨hv,fN,hc,dj⟩,rfl⟩
 | @yes t' S m K O a c _ h1 hv fN hc dj dB hp jS aE=>
  rw[Ds] at dj;rw[ht] at h1;obtain rfl:=Option.some.inj h1;have hM:Mod s rs limit S m (some K):=⟨hv,fN,hc,dj⟩;have hK:K.length<=limit:=by
   obtain⟨_,_,⟨e,_⟩ | ⟨A,B,e1,e2,_,h3⟩⟩:=hM.uniq cT hM
   ·cases e
   ·obtain rfl:=Option.some.inj e1;exact h3
  refine .inr ⟨S,m,K,O,_,a,c,⟨hM,hK,hp,jS,rfl⟩,dB,?_,aE⟩
  by_cases hk:(ay K t).isSome=true
  ·rw[if_pos hk,if_pos hk];rfl
  ·rw[if_neg hk,if_neg hk];rfl
end
end Go.Proofs.YtldkpahaocjdpaaGreat
