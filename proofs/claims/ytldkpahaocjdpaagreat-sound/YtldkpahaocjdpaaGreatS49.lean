/-
  affidavitkeep: the text of lines.
-/
import Derived.Test.YtldkpahaocjdpaaGreatS34
import Derived.Test.YtldkpahaocjdpaaGreatS48
set_option maxHeartbeats 16000000
set_option maxRecDepth 1000000
namespace Go.Proofs.YtldkpahaocjdpaaGreat
section
open Go.RowKit
abbrev Raw:=Int × Int × Int × Int
def inR (x:Int):Prop:=-9223372036854775808<=x/\x<=9223372036854775807
structure RawOk (r:Raw):Prop where
 k:inR r.1
 a:inR r.2.1
 b:inR r.2.2.1
 c:inR r.2.2.2
def dJ (r:Raw):KL:=lineOf r.1 r.2.1 r.2.2.1 r.2.2.2
theorem kline (w:W8)(r:Raw)(h:RawOk r):Calls Tryz.prog 24 #[.agg #[.int .i64 r.1,.int .i64 r.2.1,.int .i64 r.2.2.1,.int .i64 r.2.2.2]] w (LinePost w (dJ r)):=by
 have hp:=(pickN_is r.1 (n:=8) (by decide)).1;unfold dJ lineOf
 by_cases h1:ag r.1 8<4
 ·rw[if_pos h1];exact kline_fact w _ _ _ _ h.k h.a h.b h1
 rw[if_neg h1]
 by_cases h2:ag r.1 8=4
 ·rw[if_pos h2];exact kline_rev w _ _ _ _ h.k h.a h.b h.c h2
 rw[if_neg h2]
 by_cases h3:ag r.1 8=5
 ·rw[if_pos h3];exact kline_join w _ _ _ _ h.k h.a h.b h.c h3
 rw[if_neg h3]
 by_cases h4:ag r.1 8=6
 ·rw[if_pos h4];exact kline_minus w _ _ _ _ h.k h.a h.b h.c h4
 rw[if_neg h4];exact kline_pin w _ _ _ _ h.k h.a h.b h.c (by omega)
theorem lineB_len (L:KL):(eL L).length<=40:=by
 cases L <;> simp[eL,KL.rule,ruleIt,atomIt,termsIt,bodyIt,litIt,rend,tmTk,tN,tV,eZ,bytesL,one8]
structure fC (w:W8)(la:O8)(n:Nat)(R:Nat->Raw):Prop where
 el:∀ i,i<n->∃ g off,la=some ⟨g,off,none⟩/\g<w.heap.size/\w.cell? ⟨g,off+i*4,none⟩=some (.int .i64 (R i).1)/\w.cell? ⟨g,off+i*4+1,none⟩=some (.int .i64 (R i).2.1)/\w.cell? ⟨g,off+i*4+2,none⟩=some (.int .i64 (R i).2.2.1)/\w.cell? ⟨g,off+i*4+3,none⟩=some (.int .i64 (R i).2.2.2)/\RawOk (R i)
theorem fC.below {w w':W8}{la:O8}{n:Nat}{R:Nat->Raw}(h:fC w la n R)(k:Below w.heap.size w w'):fC w' la n R:=
 ⟨λ i hi=>by
  obtain⟨g,off,h1,h2,c0,c1,c2,c3,h3⟩:=h.el i hi;have hz:=k.size;refine⟨g,off,h1,by omega,?_,?_,?_,?_,h3⟩
  all_goals (rw[k.cell (by simpa using h2)];assumption)⟩
def firstB:List UInt8:=[101,40,97,44,98,41,46,32]
def cT (L:Nat->KL)(n:Nat):List UInt8:=firstB++(List.range n).flatMap λ i=>eL (L i)
theorem textB_step (L:Nat->KL)(n:Nat):cT L (n+1)=cT L n++eL (L n):=by
 unfold cT;rw[List.range_succ,List.flatMap_append,<-List.append_assoc];simp
theorem textB_len (L:Nat->KL):∀ n,(cT L n).length<=8+40*n
 | 0=>by simp[cT,firstB]
 | n+1=>by
  rw[textB_step,List.length_append];have:=textB_len L n;have:=lineB_len (L n);omega
def cY (l:List UInt8):B8:=⟨l.toArray⟩
theorem txt8_size (l:List UInt8):(cY l).size=l.length:=by unfold cY;rfl
theorem txt8_append (a b:List UInt8):cY a++cY b=cY (a++b):=ByteArray.mk_append_mk a b
theorem ktext (w:W8)(la:O8)(n c:Nat)(R:Nat->Raw)(h:fC w la n R)(dB:n<=c)(hc:c<=maxLen)(jm:Nat)(hm:jm<=20):Calls Tryz.prog 17 #[.slice la n c,.int .i64 (jm:Nat)] w λ e w'=>e=.returned (.string (cY (cT (λ i=>dJ (R i)) (min n jm))))/\Below w.heap.size w w':=by
 have H:=hide h;have oj:cY (cT (λ i=>dJ (R i)) 0)={ data:=#[101,40,97,44,98,41,46,32] }:=rfl;have HL:=hide (λ k=>(show (cY (cT (λ i=>dJ (R i)) k)).size<=8+40*k from by rw[txt8_size];exact textB_len _ k));have HS:=hide (λ k=>(show cY (cT (λ i=>dJ (R i)) k)++cY (eL (dJ (R k)))=cY (cT (λ i=>dJ (R i)) (k+1)) from by rw[txt8_append,textB_step]));have jH:=hide oj;unfold maxLen at hc;clear h oj;go_enter Tryz.func17,Tryz.ntmps17;go_wp2_with fail
 go_loopg [5,6] (min n jm) (λ gg v i wr=>∃ k:Nat,k<=min n jm/\gg=min n jm-k/\v=.string (cY (cT (λ i=>dJ (R i)) k))/\i=.int .i64 (k:Nat)/\Below w.heap.size w wr)
 exact⟨0,Nat.zero_le _,rfl,by rw[ad jH],rfl,Below.refl _ _⟩
 case round=>
  clear jH;obtain⟨k,hk,fK,rfl,rfl,hB⟩:=hrel
  by_cases aR:k<min n jm
  ·obtain⟨g,off,rfl,hg,c0,c1,c2,c3,hr⟩:=((ad H).below hB).el k (by omega);have yC:(k:Int)<n:=(by omega);have Am:(k:Int)<jm:=(by omega);have HC:=hide (kline wr (R k) hr);have HB:=hide hB;have jT:=ad HL k;have nM:(cY (eL (dJ (R k)))).size<=40:=(by rw[txt8_size];exact lineB_len _);have km:=hide (ad HS k);obtain⟨t1,jE⟩:∃ t1,t1=cY (cT (λ i=>dJ (R i)) k):=⟨_,rfl⟩;obtain⟨t2,jV⟩:∃ t2,t2=cY (eL (dJ (R k))):=⟨_,rfl⟩;have mX:Hid (Calls Tryz.prog 24 #[.agg #[.int .i64 (R k).1,.int .i64 (R k).2.1,.int .i64 (R k).2.2.1,.int .i64 (R k).2.2.2]] wr λ e w'=>e=.returned (.string t2)/\Below wr.heap.size wr w'):=(by rw[jV];exact HC);rw[<-jE] at jT km;rw[<-jV] at nM km;have IS:¬ (9223372036854775807<t1.size+t2.size):=(by omega);have zW:=hide jE;rw[<-jE];clear hB hr jE jV HC;go_wp2_with (go_at_call 24;refine (ad mX).mono ?_;rintro e w1 ⟨rfl,aX⟩;have cR:=hide aX;clear aX);go_roundg (min n jm-(k+1));exact⟨k+1,by omega,rfl,by rw[ad km],by go_num,(ad HB).trans ((ad cR).mono (ad HB).size)⟩;omega
  ·have kq:k=min n jm:=(by omega);have HB:=hide hB;clear hB
   by_cases yC:k<n
   ·have Am:¬ (k:Int)<jm:=(by omega);have CE:(k:Int)<n:=(by omega);go_wp2_with fail;go_ret;exact⟨rfl,ad HB⟩
   ·have CE:¬ (k:Int)<n:=(by omega);go_wp2_with fail;go_ret;exact⟨rfl,ad HB⟩
end
section
def KL.Ok:KL->Prop
 | .fact i j=>i<4/\j<4
 | .rev h q x y=>1<=h/\h<4/\q<=h/\x<3/\y<3
 | .join h q r x y z=>1<=h/\h<4/\q<=h/\r<=h/\x<3/\y<3/\z<3
 | .minus h q r x y=>1<=h/\h<4/\q<=h/\r<h/\x<3/\y<3
 | .u7 h q r x y n m=>1<=h/\h<4/\q<=h/\r<h/\x<3/\y<3/\n<4/\m<4
theorem lineOf_ok (k a b c:Int):(lineOf k a b c).Ok:=by
 have pa:=(pickN_is a (n:=3) (by decide)).1;have pq:=(pickN_is (b.tdiv 9) (n:=1+ag a 3+1) (by omega)).1;have px:=(pickN_is b (n:=3) (by decide)).1;have py:=(pickN_is (b.tdiv 3) (n:=3) (by decide)).1;unfold lineOf
 split
 ·exact⟨(pickN_is a (by decide)).1,(pickN_is b (by decide)).1⟩
 split
 ·exact⟨by omega,by omega,by omega,px,py⟩
 split
 ·have pr:=(pickN_is (c.tdiv 3) (n:=1+ag a 3+1) (by omega)).1;exact⟨by omega,by omega,by omega,by omega,px,py,(pickN_is c (by decide)).1⟩
 split
 ·have pr:=(pickN_is c (n:=1+ag a 3) (by omega)).1;exact⟨by omega,by omega,by omega,pr,px,py⟩
 ·have pr:=(pickN_is (c.tdiv 4) (n:=1+ag a 3) (by omega)).1;exact⟨by omega,by omega,by omega,pr,px,py,(pickN_is c (by decide)).1,(pickN_is (c.tdiv 12) (by decide)).1⟩
theorem pdU_is (k:Nat):pdU k=101\/pdU k=102\/pdU k=103\/pdU k=104:=by
 match k with
 | 0=>decide
 | 1=>decide
 | 2=>decide
 | 3=>decide
 | k+4=>exact .inl rfl
theorem nmU_is (k:Nat):nmU k=97\/nmU k=98\/nmU k=99\/nmU k=100:=by
 match k with
 | 0=>decide
 | 1=>decide
 | 2=>decide
 | 3=>decide
 | k+4=>exact .inl rfl
theorem vrU_is (k:Nat):vrU k=88\/vrU k=89\/vrU k=90:=by
 match k with
 | 0=>decide
 | 1=>decide
 | 2=>decide
 | k+3=>exact .inl rfl
variable {c:UInt8}
theorem tok_low (h:aT c.toNat=true):IsTok 2 [c]:=.name (by simp) (by simp) (λ x hx=>by rw[List.mem_singleton.1 hx];exact h) (by simp)
theorem tok_high (h:aO c.toNat=true):IsTok 3 [c]:=.var (by simp) (by simp) (λ x hx=>by rw[List.mem_singleton.1 hx];exact h)
theorem tok_pd (k:Nat):IsTok 2 (bytesL (eZ k)):=tok_low (by rcases pdU_is k with h | h | h | h <;> rw[h] <;> decide)
theorem tok_tN (k:Nat):IsTok (tmTk (tN k)).1 (tmTk (tN k)).2:=tok_low (by rcases nmU_is k with h | h | h | h <;> rw[h] <;> decide)
theorem tok_tV (k:Nat):IsTok (tmTk (tV k)).1 (tmTk (tV k)).2:=tok_high (by rcases vrU_is k with h | h | h <;> rw[h] <;> decide)
theorem two_mem {α:Type}{a b:α}{P:α->Prop}(ha:P a)(hb:P b):∀ t∈[a,b],P t:=λ t ht=>by
 rcases List.mem_cons.1 ht with rfl | ht
 ·exact ha
 ·rw[List.mem_singleton.1 ht];exact hb
theorem one_mem {α:Type}{a:α}{P:α->Prop}(ha:P a):∀ t∈[a],P t:=λ t ht=>by rw[List.mem_singleton.1 ht];exact ha
theorem KL.words (L:KL):WordsOk L.rule:=by
 cases L with
 | fact i j=>exact⟨tok_pd _,two_mem (tok_tN _) (tok_tN _),by simp[KL.rule],by simp[KL.rule]⟩
 | rev h q x y=>exact⟨tok_pd _,two_mem (tok_tV _) (tok_tV _),one_mem (tok_pd _),one_mem (two_mem (tok_tV _) (tok_tV _))⟩
 | join h q r x y z=>exact⟨tok_pd _,two_mem (tok_tV _) (tok_tV _),two_mem (tok_pd _) (tok_pd _),two_mem (two_mem (tok_tV _) (tok_tV _)) (two_mem (tok_tV _) (tok_tV _))⟩
 | minus h q r x y=>exact⟨tok_pd _,two_mem (tok_tV _) (tok_tV _),two_mem (tok_pd _) (tok_pd _),two_mem (two_mem (tok_tV _) (tok_tV _)) (two_mem (tok_tV _) (tok_tV _))⟩
 | u7 h q r x y n m=>exact⟨tok_pd _,two_mem (tok_tV _) (tok_tN _),two_mem (tok_pd _) (tok_pd _),two_mem (two_mem (tok_tV _) (tok_tV _)) (two_mem (tok_tV _) (tok_tN _))⟩
def u5 (p:B8):Nat:=if p=eZ 1 then 1 else if p=eZ 2 then 2 else if p=eZ 3 then 3 else 0
theorem lvK_pd {k:Nat}(h:k<4):u5 (eZ k)=k:=by
 match k,h with
 | 0,_=>decide
 | 1,_=>decide
 | 2,_=>decide
 | 3,_=>decide
theorem KL.ki {L:KL}(h:L.Ok):RuleOkK (λ _=>2) u5 L.rule:=by
 cases L with
 | fact i j=>exact⟨⟨by simp[KL.rule],by simp[KL.rule],by simp[KL.rule]⟩,rfl,by simp[KL.rule],by simp[KL.rule,tN],by simp[KL.rule],by simp[KL.rule],by simp[KL.rule]⟩
 | rev h' q x y=>
  obtain⟨h1,h2,h3,_,_⟩:=h;refine⟨⟨by simp[KL.rule],by simp[KL.rule],by simp[KL.rule]⟩,rfl,by simp[KL.rule],by simp[KL.rule],by simp[KL.rule],?_,by simp[KL.rule]⟩;simp only[KL.rule,List.mem_singleton,forall_eq];rw[lvK_pd (k:=q) (by omega),lvK_pd h2];exact h3
 | join h' q r x y z=>
  obtain⟨h1,h2,h3,h4,_,_,_⟩:=h;refine⟨⟨by simp[KL.rule],by simp[KL.rule],by simp[KL.rule]⟩,rfl,by simp[KL.rule],by simp[KL.rule],by simp[KL.rule],?_,by simp[KL.rule]⟩;simp only[KL.rule,List.mem_cons,List.not_mem_nil,or_false,forall_eq_or_imp,forall_eq];rw[lvK_pd (k:=q) (by omega),lvK_pd (k:=r) (by omega),lvK_pd h2];exact⟨h3,h4⟩
 | minus h' q r x y=>
  obtain⟨h1,h2,h3,h4,_,_⟩:=h;refine⟨⟨by simp[KL.rule],by simp[KL.rule],by simp[KL.rule]⟩,rfl,by simp[KL.rule],by simp[KL.rule],by simp only[KL.rule];exact two_mem (λ h=>by cases h) (λ _ t ht hv=>⟨_,List.mem_cons_self,rfl,by rcases List.mem_cons.1 ht with rfl | ht;exact List.mem_cons_of_mem _ List.mem_cons_self;rw[List.mem_singleton.1 ht];exact List.mem_cons_self⟩),?_,?_⟩
  ·simp only[KL.rule,List.mem_cons,List.not_mem_nil,or_false,forall_eq_or_imp,forall_eq];rw[lvK_pd (k:=q) (by omega),lvK_pd (k:=r) (by omega),lvK_pd h2];exact⟨h3,by omega⟩
  ·simp only[KL.rule,List.mem_cons,List.not_mem_nil,or_false,forall_eq_or_imp,forall_eq];rw[lvK_pd (k:=q) (by omega),lvK_pd (k:=r) (by omega),lvK_pd h2];exact⟨by simp,λ _=>h4⟩
 | u7 h' q r x y n m=>
  obtain⟨h1,h2,h3,h4,_,_,_,_⟩:=h;refine⟨⟨by simp[KL.rule],by simp[KL.rule],by simp[KL.rule]⟩,rfl,by simp[KL.rule],by simp[KL.rule,tN],by simp only[KL.rule];exact two_mem (λ h=>by cases h) (λ _ t ht hv=>⟨_,List.mem_cons_self,rfl,by rcases List.mem_cons.1 ht with rfl | ht;exact List.mem_cons_self;rw[List.mem_singleton.1 ht] at hv;cases hv⟩),?_,?_⟩
  ·simp only[KL.rule,List.mem_cons,List.not_mem_nil,or_false,forall_eq_or_imp,forall_eq];rw[lvK_pd (k:=q) (by omega),lvK_pd (k:=r) (by omega),lvK_pd h2];exact⟨h3,by omega⟩
  ·simp only[KL.rule,List.mem_cons,List.not_mem_nil,or_false,forall_eq_or_imp,forall_eq];rw[lvK_pd (k:=q) (by omega),lvK_pd (k:=r) (by omega),lvK_pd h2];exact⟨by simp,λ _=>h4⟩
theorem atom_sep (b:List UInt8)(pd:B8)(ts:List (Bool × B8))(r:List Item):rend (atomIt b pd ts++r)=b++rend (atomIt [] pd ts++r):=by
 cases ts <;> simp[atomIt,rend]
theorem rule_sep (b:List UInt8)(R:PRule)(r:List Item):rend (ruleIt b R++r)=b++rend (ruleIt [] R++r):=by
 unfold ruleIt;rw[List.append_assoc,List.append_assoc,atom_sep]
theorem rules_rend (sep:List UInt8):∀ (rules:List PRule) (b:List UInt8),rend (rulesIt sep b rules)++sep=(match rules with | []=>[] | _=>b)++(rules.flatMap λ R=>rend (ruleIt [] R)++sep)++(match rules with | []=>sep | _=>[])
 | [],b=>by simp[rulesIt,rend]
 | [R],b=>by
  have h:=rule_sep b R [];rw[List.append_nil,List.append_nil] at h;simp[rulesIt,h]
 | R::Q::r,b=>by
  have ih:=rules_rend sep (Q::r) sep;rw[rulesIt,rend_append,List.append_assoc,ih];have h:=rule_sep b R [];rw[List.append_nil,List.append_nil] at h;simp only[h,List.flatMap_cons,List.append_assoc,List.append_nil]
def rulesK (L:Nat->KL)(n:Nat):List PRule:=(KL.fact 0 1).rule::(List.range n).map λ i=>(L i).rule
theorem textB_rend (L:Nat->KL)(n:Nat):cT L n=rend (rulesIt [32] [] (rulesK L n))++[32]:=by
 rw[rules_rend [32] (rulesK L n) []];unfold rulesK cT;simp only[List.nil_append,List.append_nil,List.flatMap_cons,List.flatMap_map];rfl
theorem textK_ok (L:Nat->KL)(n:Nat)(hn:n<=14)(hL:∀ i,i<n->(L i).Ok):refLoad (cY (cT L n))=(true,0,0)/\(pparsed (cY (cT L n))).2.2.1=rulesK L n:=by
 have hb:∀ c∈[(32:UInt8)],aJ c.toNat=true:=λ c hc=>blank1 c (.inl (List.mem_singleton.1 hc))
 have bn:∀ R∈rulesK L n,RuleOkK (λ _=>2) u5 R/\WordsOk R:=λ R hR=>by
  rcases List.mem_cons.1 hR with rfl | hR
  ·exact⟨KL.ki ⟨by decide,by decide⟩,KL.words _⟩
  ·obtain⟨i,hi,rfl⟩:=List.mem_map.1 hR;exact⟨KL.ki (hL i (List.mem_range.1 hi)),KL.words _⟩
 refine written_ok hb (by simp) hb (ar:=λ _=>2) (lv:=u5) ?_ (λ R hR=>(bn R hR).1) (λ R hR=>(bn R hR).2) ?_ (textB_rend L n)
 ·rw[txt8_size];have:=textB_len L n;omega
 ·unfold rulesK;rw[List.length_cons,List.length_map,List.length_range];omega
end
section
open Go.RowKit Go.Maps
def KLoadPost (w:W8)(s:B8)(e:Ending)(w':W8):Prop:=∃ (xb:Nat) (rs:List PR),e=.returned (.pointer (some ⟨xb,0,none⟩))/\fo s xb w' w.heap.size rs/\Below w.heap.size w w'
theorem kload (w:W8)(s:B8)(hs:s.size<=maxLen)(h:refLoad s=(true,0,0)):Calls Tryz.prog 18 #[.string s] w (KLoadPost w s):=by
 have hP:=pload_any w s hs;rw[load_eq,h] at hP;have bZ:(refLoad s).1=true:=by rw[h]
 have iS:=hide bZ;clear h bZ;go_enter Tryz.func18,Tryz.ntmps18;go_wp2_with fail;refine hP.mono ?_;rintro e w1 ⟨hb,_,eJ⟩;obtain⟨xb,rs,rfl,hp,hr⟩:=eJ rfl;have HX:=hide (show KLoadPost w s (.returned (.pointer (some ⟨xb,0,none⟩))) w1 from ⟨xb,rs,rfl,⟨ad iS,hp,hr⟩,hb⟩);clear hP hb eJ hp hr;go_wp2_with fail;go_ret;exact ad HX
structure np (w:W8)(a:O8)(c:Nat)(zs:List B8):Prop where
 cap:zs.length<=c
 max:c<=maxLen
 at_:∀ (j:Nat) (h:j<zs.length),∃ g,a=some ⟨g,0,none⟩/\g<w.heap.size/\w.cell? ⟨g,j,none⟩=some (.string zs[j])
variable {zs:List B8} {c:Nat} {a:O8} {w:W8}
theorem np.below {w':W8}(h:np w a c zs)(k:Below w.heap.size w w'):np w' a c zs:=
 ⟨h.cap,h.max,λ j hj=>let ⟨g,e,hg,hc⟩:=h.at_ j hj;⟨g,e,Nat.lt_of_lt_of_le hg k.size,(k.cell (p:=⟨g,j,none⟩) hg).trans hc⟩⟩
theorem np.fy {base:Nat}(h:w.ownsRow base 9 1 (.slice a zs.length c) zs.length (zs.map Value.string)):np w a c zs:=by
 rcases h.2 with⟨e,h0⟩ | ⟨g,cap,cur,hv,hb,hg,dB,dx,fi,ig⟩
 ·injection e with e1 e2 e3
  have hz:zs=[]:=List.eq_nil_of_length_eq_zero h0;subst hz e3;exact⟨Nat.le_refl _,by unfold maxLen;omega,λ j hj=>by simp at hj⟩
 ·injection hv with e1 e2 e3
  subst e1 e3;refine⟨dB,dx,λ j hj=>⟨g,rfl,(h.lt g rfl).2,?_⟩⟩;have:=World.ownsRow.cellAt h j (by omega);rw[this,List.getElem?_map,List.getElem?_eq_getElem hj];rfl
def fP (t:B8)(zs:List B8):Bool:=zs.any λ z=>z.toList==t.toList
theorem amongB_iff {t:B8}:fP t zs=true↔t∈zs:=by
 unfold fP;rw[List.any_eq_true]
 constructor
 ·rintro⟨z,hz,e⟩;rw[<-aN.1 e];exact hz
 ·intro h;exact⟨t,h,aN.2 rfl⟩
theorem kamong (w:W8)(a:O8)(c:Nat)(zs:List B8)(t:B8)(h:np w a c zs):Calls Tryz.prog 22 #[.slice a zs.length c,.string t] w λ e w'=>e=.returned (.bool (fP t zs))/\w'=w:=by
 have H:=hide h;have kY:=h.cap;have rh:=h.max;unfold maxLen at rh;clear h;go_enter Tryz.func22,Tryz.ntmps22;go_wp2_with fail
 go_loopg [5] zs.length (λ gg i wr=>∃ k:Nat,k<=zs.length/\gg=zs.length-k/\i=.int .i64 (k:Nat)/\wr=w/\∀ x∈zs.take k,x≠t)
 exact⟨0,Nat.zero_le _,rfl,rfl,rfl,by simp⟩
 case round=>
  obtain⟨k,hk,fK,rfl,rfl,cC⟩:=hrel
  by_cases aR:k<zs.length
  ·obtain⟨g,rfl,hg,hc⟩:=(ad H).at_ k aR;have gM:(k:Int)<zs.length:=by omega
   by_cases he:zs[k]=t
   ·have HR:=hide (show fP t zs=true from amongB_iff.2 (by rw[<-he];exact List.getElem_mem aR));have I1:(zs[k].toList==t.toList)=true:=aN.2 he;generalize zs[k]=z at *;clear cC;go_wp2_with fail;go_ret;exact⟨by rw[ad HR];rfl,rfl⟩
   ·have I1:(zs[k].toList==t.toList)=false:=by
     cases hx:(zs[k].toList==t.toList) with
     | false=>rfl
     | true=>exact absurd (aN.1 hx) he
    have HN:=hide (show ∀ x∈zs.take (k+1),x≠t from λ x hx=>by
     rw[List.take_succ_eq_append_getElem aR] at hx;rcases List.mem_append.1 hx with hx | hx
     ·exact cC x hx
     ·rw[List.mem_singleton.1 hx];exact he)
    generalize zs[k]=z at *;clear cC;go_wp2_with fail;go_roundg (zs.length-(k+1));exact⟨k+1,by omega,rfl,by go_num,rfl,ad HN⟩;omega
  ·have yC:k=zs.length:=by omega
   have HR:=hide (show fP t zs=false by
    cases hx:fP t zs with
    | false=>rfl
    | true=>exact absurd rfl (cC t (by rw[yC,List.take_length];exact amongB_iff.1 hx)))
   clear cC;have gM:¬ (k:Int)<zs.length:=(by omega);go_wp2_with fail;go_ret;exact⟨by rw[ad HR];rfl,rfl⟩
end
section
open Go.RowKit Go.Maps
def fB (p i:Nat):B8:=cY [pdU p,40,nmU (i/4),44,nmU (i%4),41]
def thUpto (p i:Nat):List B8:=(List.range p).flatMap (λ q=>(List.range 16).map λ j=>fB q j)++(List.range i).map λ j=>fB p j
def jo:List B8:=thUpto 4 0
theorem thUpto_step (p i:Nat):thUpto p (i+1)=thUpto p i++[fB p i]:=by
 unfold thUpto;rw[List.range_succ (n:=i),List.map_append,<-List.append_assoc];rfl
theorem thUpto_next (p:Nat):thUpto p 16=thUpto (p+1) 0:=by
 unfold thUpto;rw[List.range_succ (n:=p),List.flatMap_append];simp
theorem thUpto_len (p i:Nat):(thUpto p i).length=16*p+i:=by
 unfold thUpto;rw[List.length_append,List.length_map,List.length_range]
 congr 1
 induction p with
 | zero=>rfl
 | succ p ih=>rw[List.range_succ (n:=p),List.flatMap_append,List.length_append,ih];simp;omega
theorem pickN_nat (i n:Nat):ag (i:Int) n=i%n:=by
 unfold ag;rw[if_neg (by omega)];omega
structure nq (w:W8)(p i:Nat)(v:Value)(wr:W8):Prop where
 below:Below w.heap.size w wr
 row:wr.ownsRow w.heap.size 9 1 v (16*p+i) ((thUpto p i).map Value.string)
theorem nq.add {w wr W w5:W8}{p i:Nat}{v v':Value}(h:nq w p i v wr)(hW:Below wr.heap.size wr W)(hg:W.grownBy w5 v.ownBlock)(aI:w5.ownsRow w.heap.size 9 1 v' (16*p+i+1) ((thUpto p i).map Value.string++[.string (fB p i)])):nq w p (i+1) v' w5:=by
 have hs:=h.below.size;have hz:=hW.size;refine⟨⟨hg.os.trans (hW.os.trans h.below.os),hg.tape.trans (hW.tape.trans h.below.tape),hg.output.trans (hW.output.trans h.below.output),Nat.le_trans hs (Nat.le_trans hz hg.size),λ j hj=>?_⟩,?_⟩
 ·rw[hg.block j (by omega) (λ e=>by have:=(h.row.lt j e.symm).1;omega),hW.block j (by omega)];exact h.below.block j hj
 ·rw[thUpto_step,List.map_append];exact aI
attribute [local go_sem] one8_size
theorem kthings (w:W8):Calls Tryz.prog 29 #[] w λ e w'=>∃ (a:O8) (c:Nat),e=.returned (.slice a 64 c)/\w'.ownsRow w.heap.size 9 1 (.slice a 64 c) 64 (jo.map Value.string)/\Below w.heap.size w w':=by
 obtain⟨i0,hi,dD,cD,cd⟩:=info_parts infoString;have H0:=hide (show nq w 0 0 (.slice none 0 0) w from ⟨Below.refl _ _,World.ownsRow_nil _ _ _ _⟩);go_enter Tryz.func29,Tryz.ntmps29;go_wp2_with fail
 go_loopg [1,2] 4 (λ gg v pv wr=>∃ p:Nat,p<=4/\gg=4-p/\pv=.int .i64 (p:Nat)/\nq w p 0 v wr)
 exact⟨0,by omega,rfl,rfl,ad H0⟩
 case round=>
  clear H0;obtain⟨p,hp,hgp,rfl,ak⟩:=hrel;have HI:=hide ak
  by_cases j9:p<4
  ·have pG:(p:Int)<4:=(by omega);generalize hgk1:gk=gk1 at *;clear ak;go_wp2_with fail
   go_loopg [1,3] 16 (λ gg v iv wr=>∃ i:Nat,i<=16/\gg=16-i/\iv=.int .i64 (i:Nat)/\nq w p i v wr)
   exact⟨0,by omega,rfl,rfl,ad HI⟩
   case round=>
    clear HI;obtain⟨i,Jf,Cv,rfl,ak⟩:=hrel;obtain⟨a1,c1,rfl⟩:=own_slice ak.row
    by_cases pz:i<16
    ·have vG:(i:Int)<16:=(by omega);have HP:=hide (λ w=>kpred w p j9);have hq:(i:Int)/4=((i/4:Nat):Int):=by omega
     have qz:Hid (∀ w:W8,Calls Tryz.prog 21 #[.int .i64 ((i:Int)/4)] w λ e w'=>e=.returned (.string (one8 (nmU (i/4))))/\w'=w.alloc nmObj):=hide (λ w=>by
      have:=kname w ((i/4:Nat):Int) (by omega) (by omega);rw[pickN_nat,Nat.mod_eq_of_lt (show i/4<4 by omega)] at this
      rw[hq];exact this)
     have zO:Hid (∀ w:W8,Calls Tryz.prog 21 #[.int .i64 (i:Int)] w λ e w'=>e=.returned (.string (one8 (nmU (i%4))))/\w'=w.alloc nmObj):=hide (λ w=>by
      have:=kname w (i:Int) (by omega) (by omega);rw[pickN_nat] at this
      exact this)
     have bp:=hide ak;obtain⟨T,hT⟩:∃ T,T=fB p i:=⟨_,rfl⟩;have vT:one8 (pdU p)++{ data:=#[40] }++one8 (nmU (i/4))++{ data:=#[44] }++one8 (nmU (i%4))++{ data:=#[41] }=T:=hT.symm;have xl:=hide hT;clear hT;have bz:=(((ak.row.alloc bX).alloc nmObj).alloc nmObj).alloc (.cells #[.string T] 9);have Aq:=heap_alloc_new (((wr.alloc bX).alloc nmObj).alloc nmObj) (.cells #[.string T] 9);simp only[World.size_alloc] at Aq;have fu:=hide (World.news_of_block Aq);clear Aq;have IB:=hide (((((Below.refl wr.heap.size wr).alloc L9 bX).alloc (by simp) nmObj).alloc (by simp only[World.size_alloc];omega) nmObj).alloc (by simp only[World.size_alloc];omega) (.cells #[.string T] 9));have rA:w.heap.size<=wr.heap.size:=ak.below.size;clear ak hq;go_wp2_with fail;refine (ad HP _).mono ?_;rintro e w1 ⟨rfl,rfl⟩;go_wp2_with fail;refine (ad qz _).mono ?_;rintro e w1 ⟨rfl,rfl⟩;go_wp2_with fail;refine (ad zO _).mono ?_;rintro e w1 ⟨rfl,rfl⟩;clear HP qz zO;go_wp2_with (at_builtin;go_must (refine wpList_append_own _ rfl _ _ 33 rfl w.heap.size 9 i0 _ 1 16 Tryz.underlying33 hi dD cD cd rfl (by decide) _ _ _ rfl bz ⟨wr.heap.size+1+1+1,0,none⟩ 1 1 [.string T] rfl rfl (ad fu) (by intro u hu;rw[List.mem_singleton.1 hu];rfl) (by unfold maxLen;omega) (by omega) (by simp only[World.size_alloc];omega) ?_);intro v5 w5 aL dh dr;clear dr;obtain⟨a5,c5,rfl⟩:=own_slice aL;have lX:=hide aL;have jq:=hide dh;clear aL dh);go_roundg (16-(i+1))
     case measure=>omega
     case rel=>
      have EV:=ad lX;rw[ad xl] at EV;exact⟨i+1,by omega,rfl,by go_num,(ad bp).add (ad IB) (ad jq) EV⟩
    ·have Jg:i=16:=(by omega);subst Jg;have bp:=hide ak;clear ak;go_wp2_with fail;go_roundg (4-(p+1))
     case measure=>omega
     case rel=>
      refine⟨p+1,by omega,rfl,by go_num,(ad bp).below,?_⟩;have:=(ad bp).row;rw[thUpto_next] at this;rw[show 16*(p+1)+0=16*p+16 by omega];exact this
  ·have oy:p=4:=(by omega);subst oy;obtain⟨a1,c1,rfl⟩:=own_slice ak.row;clear ak;go_wp2_with fail;go_ret;exact⟨a1,c1,rfl,(ad HI).row,(ad HI).below⟩
end
section
variable {q:List (Bool × B8)} {t:Bool × B8} {pd:B8}
theorem atomIt_ok1 (hp:IsTok 2 (bytesL pd))(ht:∀ x∈t::q,IsTok (tmTk x).1 (tmTk x).2):OkIt (atomIt [] pd (t::q)):=by
 obtain⟨h1,_,_⟩:=termsIt_ok (t::q) (by simp) ht;have ha:Apart2 5 (termsIt (t::q)):=by
  cases q with
  | nil=>exact .inr ⟨by simp,by simp⟩
  | cons v q=>exact .inr ⟨by simp,by simp⟩
 exact⟨by simp,hp,.inr ⟨by simp,by simp⟩,by simp,.open_,ha,h1⟩
theorem pask_rend {s:B8}(hp:IsTok 2 (bytesL pd))(ht:∀ x∈t::q,IsTok (tmTk x).1 (tmTk x).2)(hl:(t::q).length<=4)(h:bytesL s=rend (atomIt [] pd (t::q))):paskS s=some ⟨pd,t::q⟩:=by
 obtain⟨e,h1,h2⟩:=toks_rend (s:=s) (rest:=[]) (atomIt [] pd (t::q)) 0 (atomIt_ok1 hp ht) (by rw[List.append_nil];exact h);rw[atomIt_tk] at h1;obtain⟨_,pl,h3⟩:=patom_toks hl h1 (λ h=>by cases h);unfold paskS;rw[h3];simp only;rw[if_pos (tok_end_is h2 (by simp))]
theorem num_meet:∀ (l ps:P9) (k:B8) (n:Nat),numOf (meetL l ps) k=some n->numOf ps k=some n\/(k,n)∈l
 | [],_,_,_,h=>.inl h
 | x::r,ps,k,n,h=>by
  rcases num_meet r (meetP ps x.1 x.2) k n h with h | h
  ·rw[meetP_num] at h
   split at h
   ·rw[num_snoc] at h
    cases hn:numOf ps k with
    | some m=>rw[hn] at h;exact .inl (by rw[<-h])
    | none=>
     rw[hn] at h;simp only at h
     split at h
     ·rename_i e;have e1:=aN.1 e;have e2:=Option.some.inj h;refine .inr ?_;rw[<-e1,<-e2];exact List.mem_cons_self
     ·cases h
   ·exact .inl h
  ·exact .inr (List.mem_cons_of_mem _ h)
def TwoP (ps:P9):Prop:=∀ k n,numOf ps k=some n->n=2/\∃ i,i<4/\k=eZ i
theorem KL.atoms {L:KL}(h:L.Ok):∀ x∈bg L.rule,x.2=2/\∃ i,i<4/\x.1=eZ i:=by
 cases L with
 | fact i j=>exact one_mem ⟨rfl,0,by decide,rfl⟩
 | rev h' q x y=>
  obtain⟨h1,h2,h3,_,_⟩:=h;exact two_mem ⟨rfl,h',h2,rfl⟩ ⟨rfl,q,by omega,rfl⟩
 | join h' q r x y z=>
  obtain⟨h1,h2,h3,h4,_,_,_⟩:=h;intro u hu;rcases List.mem_cons.1 hu with rfl | hu
  ·exact⟨rfl,h',h2,rfl⟩
  ·exact two_mem (P:=λ x:B8 × Nat=>x.2=2/\∃ i,i<4/\x.1=eZ i) ⟨rfl,q,by omega,rfl⟩ ⟨rfl,r,by omega,rfl⟩ u hu
 | minus h' q r x y=>
  obtain⟨h1,h2,h3,h4,_,_⟩:=h;intro u hu;rcases List.mem_cons.1 hu with rfl | hu
  ·exact⟨rfl,h',h2,rfl⟩
  ·exact two_mem (P:=λ x:B8 × Nat=>x.2=2/\∃ i,i<4/\x.1=eZ i) ⟨rfl,q,by omega,rfl⟩ ⟨rfl,r,by omega,rfl⟩ u hu
 | u7 h' q r x y n m=>
  obtain⟨h1,h2,h3,h4,_,_,_,_⟩:=h;intro u hu;rcases List.mem_cons.1 hu with rfl | hu
  ·exact⟨rfl,h',h2,rfl⟩
  ·exact two_mem (P:=λ x:B8 × Nat=>x.2=2/\∃ i,i<4/\x.1=eZ i) ⟨rfl,q,by omega,rfl⟩ ⟨rfl,r,by omega,rfl⟩ u hu
theorem two_text {L:Nat->KL}{n:Nat}(hn:n<=14)(hL:∀ i,i<n->(L i).Ok):TwoP (aq (cY (cT L n))).2:=by
 obtain⟨h1,h2⟩:=textK_ok L n hn hL;have hg:=good_of (s:=cY (cT L n)) (by rw[h1]);intro k m hk;rw[<-hg.met,h2] at hk;rcases num_meet _ _ _ _ hk with h | h
 ·cases h
 ·obtain⟨R,hR,hx⟩:=List.mem_flatMap.1 h;rcases List.mem_cons.1 hR with rfl | hR
  ·exact KL.atoms (L:=.fact 0 1) ⟨by decide,by decide⟩ _ hx
  ·obtain⟨i,hi,rfl⟩:=List.mem_map.1 hR;exact KL.atoms (hL i (List.mem_range.1 hi)) _ hx
def thK (p i j:Nat):Th:=(eZ p,[one8 (nmU i),one8 (nmU j)])
theorem thText_K (p i:Nat):thText (thK p (i/4) (i%4))=fB p i:=rfl
variable {ps:P9}
theorem thing_K (h:TwoP ps)(p i:Nat):thingS ps (fB p i)=some (thK p (i/4) (i%4)):=by
 have hp:paskS (fB p i)=some ⟨eZ p,[tN (i/4),tN (i%4)]⟩:=pask_rend (tok_pd p) (two_mem (tok_tN _) (tok_tN _)) (by simp) rfl;have hs:suitsB ps ⟨eZ p,[tN (i/4),tN (i%4)]⟩=true:=by
  unfold suitsB
  cases hn:numOf ps (eZ p) with
  | none=>rfl
  | some m=>simp only;rw[(h _ _ hn).1];rfl
 unfold thingS askedS;rw[hp];simp only;rw[if_pos hs];rfl
def askK (k:Nat):PAtm:=⟨eZ k,[(true,one8 88),(true,one8 89)]⟩
theorem asked_K (h:TwoP ps)(k:Nat):askedS ps (one8 (pdU k)++{ data:=#[40,88,44,89,41] })=some (askK k):=by
 have hx:IsTok (tmTk (true,one8 88)).1 (tmTk (true,one8 88)).2:=tok_high (by decide);have hy:IsTok (tmTk (true,one8 89)).1 (tmTk (true,one8 89)).2:=tok_high (by decide)
 have hp:paskS (one8 (pdU k)++{ data:=#[40,88,44,89,41] })=some (askK k):=pask_rend (tok_pd k) (two_mem hx hy) (by simp) (by
  unfold bytesL one8;rw[ByteArray.data_append,Array.toList_append]
  rfl)
 have hs:suitsB ps (askK k)=true:=by
  unfold suitsB askK
  cases hn:numOf ps (eZ k) with
  | none=>rfl
  | some m=>simp only;rw[(h _ _ hn).1];rfl
 unfold askedS;rw[hp];simp only;rw[if_pos hs]
theorem hit_K {k:Nat}{t:Th}(h2:t.2.length=2)(n:Nat):hitB (askK k) (t,n)=true↔t.1=eZ k:=by
 obtain⟨p,ts⟩:=t;obtain⟨a,b,rfl⟩:∃ a b,ts=[a,b]:=by
  match ts,h2 with
  | [a,b],_=>exact⟨a,b,rfl⟩
 unfold hitB aH
 show (if (askK k).p.toList==p.toList then pmTs [] (askK k).ts [a,b] else none).isSome=true↔p=eZ k
 by_cases he:((askK k).p.toList==p.toList)=true
 ·rw[if_pos he];have e:eZ k=p:=aN.1 he;refine⟨λ _=>e.symm,λ _=>?_⟩;have h1:pmT [] (true,one8 88) a=some [(one8 88,a)]:=rfl;have hn:pAt [(one8 88,a)] (one8 89)=none:=by
   have bJ:¬ ((one8 88).toList==(one8 89).toList)=true:=λ h=>by
    have:=aN.1 h;have:=congrArg bytesL this;simp[bytesL,one8] at this
   rw[pAt,if_neg bJ];rfl
  have h2:pmT [(one8 88,a)] (true,one8 89) b=some [(one8 88,a),(one8 89,b)]:=by
   unfold pmT pmB;rw[if_pos rfl,hn];rfl
  show (pmTs [] [(true,one8 88),(true,one8 89)] [a,b]).isSome=true
  rw[pmTs];simp only[List.headD_cons,List.tail_cons,h1];rw[pmTs];simp only[List.headD_cons,h2];rfl
 ·rw[if_neg he];refine⟨λ h=>by simp at h,λ e=>absurd (aN.2 e.symm) he⟩
end
end Go.Proofs.YtldkpahaocjdpaaGreat
