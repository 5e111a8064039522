/-
  affidavitkeep: the text of lines.
-/
import Derived.Test.YtldkpahaocjdpaaGreatR31
import Derived.Test.YtldkpahaocjdpaaGreatR46
set_option maxHeartbeats 16000000
set_option maxRecDepth 1000000
namespace Go.Proofs.YtldkpahaocjdpaaGreat
section
open Go.RowKit
abbrev Raw:=Int × Int × Int × Int
def inR (x:Int):Prop:=-9223372036854775808<=x/\x<=9223372036854775807
structure z6s (r:Raw):Prop where
 k:inR r.1
 a:inR r.2.1
 b:inR r.2.2.1
 c:inR r.2.2.2
def aZ (r:Raw):KL:=zxr r.1 r.2.1 r.2.2.1 r.2.2.2
theorem yfn (w:W8)(r:Raw)(h:z6s r):Calls Tryz.prog 24 #[.agg #[.int .i64 r.1,.int .i64 r.2.1,.int .i64 r.2.2.1,.int .i64 r.2.2.2]] w (zft w (aZ r)):=by
 have hp:=(yI r.1 (n:=8) (by decide)).1;unfold aZ zxr
 by_cases h1:zH r.1 8<4
 ·rw[if_pos h1];exact zzo w _ _ _ _ h.k h.a h.b h1
 rw[if_neg h1]
 by_cases h2:zH r.1 8=4
 ·rw[if_pos h2];exact z29 w _ _ _ _ h.k h.a h.b h.c h2
 rw[if_neg h2]
 by_cases h3:zH r.1 8=5
 ·rw[if_pos h3];exact zzp w _ _ _ _ h.k h.a h.b h.c h3
 rw[if_neg h3]
 by_cases h4:zH r.1 8=6
 ·rw[if_pos h4];exact zve w _ _ _ _ h.k h.a h.b h.c h4
 rw[if_neg h4];exact z28 w _ _ _ _ h.k h.a h.b h.c (by omega)
theorem zlp (L:KL):(eT L).length<=40:=by
 cases L <;> simp[eT,KL.rule,zaj,jW,jJ,zaf,zhz,zcy,za0,tN,tV,fl,zP,yJ]
structure EW (w:W8)(la:O8)(n:Nat)(R:Nat->Raw):Prop where
 el:∀ i,i<n->∃ g off,la=some ⟨g,off,none⟩/\g<w.heap.size/\w.cell? ⟨g,off+i*4,none⟩=some (.int .i64 (R i).1)/\w.cell? ⟨g,off+i*4+1,none⟩=some (.int .i64 (R i).2.1)/\w.cell? ⟨g,off+i*4+2,none⟩=some (.int .i64 (R i).2.2.1)/\w.cell? ⟨g,off+i*4+3,none⟩=some (.int .i64 (R i).2.2.2)/\z6s (R i)
theorem EW.below {w w':W8}{la:O8}{n:Nat}{R:Nat->Raw}(h:EW w la n R)(k:Below w.heap.size w w'):EW w' la n R:=
 ⟨λ i hi=>by
  obtain⟨g,off,h1,h2,c0,c1,c2,c3,h3⟩:=h.el i hi;have hz:=k.size;refine⟨g,off,h1,by omega,?_,?_,?_,?_,h3⟩
  all_goals (rw[k.cell (by simpa using h2)];assumption)⟩
def yac:List UInt8:=[101,40,97,44,98,41,46,32]
def aW (L:Nat->KL)(n:Nat):List UInt8:=yac++(List.range n).flatMap λ i=>eT (L i)
theorem zpq (L:Nat->KL)(n:Nat):aW L (n+1)=aW L n++eT (L n):=by
 unfold aW;rw[List.range_succ,List.flatMap_append,<-List.append_assoc];simp
theorem zfp (L:Nat->KL):∀ n,(aW L n).length<=8+40*n
 | 0=>by simp[aW,yac]
 | n+1=>by
  rw[zpq,List.length_append];have:=zfp L n;have:=zlp (L n);omega
def aC (l:List UInt8):B8:=⟨l.toArray⟩
theorem jO (l:List UInt8):(aC l).size=l.length:=by unfold aC;rfl
theorem zwm (a b:List UInt8):aC a++aC b=aC (a++b):=ByteArray.mk_append_mk a b
theorem yef (w:W8)(la:O8)(n c:Nat)(R:Nat->Raw)(h:EW w la n R)(dG:n<=c)(hc:c<=maxLen)(jm:Nat)(hm:jm<=20):Calls Tryz.prog 17 #[.slice la n c,.int .i64 (jm:Nat)] w λ e w'=>e=.returned (.string (aC (aW (λ i=>aZ (R i)) (min n jm))))/\Below w.heap.size w w':=by
 have H:=zC h;have oa:aC (aW (λ i=>aZ (R i)) 0)={ data:=#[101,40,97,44,98,41,46,32] }:=rfl;have HL:=zC (λ k=>(show (aC (aW (λ i=>aZ (R i)) k)).size<=8+40*k from by rw[jO];exact zfp _ k));have HS:=zC (λ k=>(show aC (aW (λ i=>aZ (R i)) k)++aC (eT (aZ (R k)))=aC (aW (λ i=>aZ (R i)) (k+1)) from by rw[zwm,zpq]));have iI:=zC oa;unfold maxLen at hc;clear h oa;go_enter Tryz.func17,Tryz.ntmps17;go_wp2_with fail
 go_loopg [5,6] (min n jm) (λ gg v i wr=>∃ k:Nat,k<=min n jm/\gg=min n jm-k/\v=.string (aC (aW (λ i=>aZ (R i)) k))/\i=.int .i64 (k:Nat)/\Below w.heap.size w wr)
 exact⟨0,Nat.zero_le _,rfl,by rw[zA iI],rfl,Below.refl _ _⟩
 case round=>
  clear iI;obtain⟨k,hk,fM,rfl,rfl,hB⟩:=hrel
  by_cases aN:k<min n jm
  ·obtain⟨g,off,rfl,hg,c0,c1,c2,c3,hr⟩:=((zA H).below hB).el k (by omega);have CK:(k:Int)<n:=(by omega);have Aw:(k:Int)<jm:=(by omega);have HC:=zC (yfn wr (R k) hr);have HB:=zC hB;have js:=zA HL k;have lj:(aC (eT (aZ (R k)))).size<=40:=(by rw[jO];exact zlp _);have gM:=zC (zA HS k);obtain⟨t1,iN⟩:∃ t1,t1=aC (aW (λ i=>aZ (R i)) k):=⟨_,rfl⟩;obtain⟨t2,gK⟩:∃ t2,t2=aC (eT (aZ (R k))):=⟨_,rfl⟩;have ks:Hid (Calls Tryz.prog 24 #[.agg #[.int .i64 (R k).1,.int .i64 (R k).2.1,.int .i64 (R k).2.2.1,.int .i64 (R k).2.2.2]] wr λ e w'=>e=.returned (.string t2)/\Below wr.heap.size wr w'):=(by rw[gK];exact HC);rw[<-iN] at js gM;rw[<-gK] at lj gM;have Cm:¬ (9223372036854775807<t1.size+t2.size):=(by omega);have Af:=zC iN;rw[<-iN];clear hB hr iN gK HC;go_wp2_with (go_at_call 24;refine (zA ks).mono ?_;rintro e w1 ⟨rfl,aT⟩;have cR:=zC aT;clear aT);go_roundg (min n jm-(k+1));exact⟨k+1,by omega,rfl,by rw[zA gM],by go_num,(zA HB).trans ((zA cR).mono (zA HB).size)⟩;omega
  ·have kg:k=min n jm:=(by omega);have HB:=zC hB;clear hB
   by_cases CK:k<n
   ·have Aw:¬ (k:Int)<jm:=(by omega);have CL:(k:Int)<n:=(by omega);go_wp2_with fail;go_ret;exact⟨rfl,zA HB⟩
   ·have CL:¬ (k:Int)<n:=(by omega);go_wp2_with fail;go_ret;exact⟨rfl,zA HB⟩
end
section
def KL.Ok:KL->Prop
 | .fact i j=>i<4/\j<4
 | .rev h q x y=>1<=h/\h<4/\q<=h/\x<3/\y<3
 | .join h q r x y z=>1<=h/\h<4/\q<=h/\r<=h/\x<3/\y<3/\z<3
 | .minus h q r x y=>1<=h/\h<4/\q<=h/\r<h/\x<3/\y<3
 | .sX h q r x y n m=>1<=h/\h<4/\q<=h/\r<h/\x<3/\y<3/\n<4/\m<4
theorem zhx (k a b c:Int):(zxr k a b c).Ok:=by
 have pa:=(yI a (n:=3) (by decide)).1;have pq:=(yI (b.tdiv 9) (n:=1+zH a 3+1) (by omega)).1;have px:=(yI b (n:=3) (by decide)).1;have py:=(yI (b.tdiv 3) (n:=3) (by decide)).1;unfold zxr
 split
 ·exact⟨(yI a (by decide)).1,(yI b (by decide)).1⟩
 split
 ·exact⟨by omega,by omega,by omega,px,py⟩
 split
 ·have pr:=(yI (c.tdiv 3) (n:=1+zH a 3+1) (by omega)).1;exact⟨by omega,by omega,by omega,by omega,px,py,(yI c (by decide)).1⟩
 split
 ·have pr:=(yI c (n:=1+zH a 3) (by omega)).1;exact⟨by omega,by omega,by omega,pr,px,py⟩
 ·have pr:=(yI (c.tdiv 4) (n:=1+zH a 3) (by omega)).1;exact⟨by omega,by omega,by omega,pr,px,py,(yI c (by decide)).1,(yI (c.tdiv 12) (by decide)).1⟩
theorem yen (k:Nat):pdU k=101\/pdU k=102\/pdU k=103\/pdU k=104:=by
 match k with
 | 0=>decide
 | 1=>decide
 | 2=>decide
 | 3=>decide
 | k+4=>exact .inl rfl
theorem yek (k:Nat):nmU k=97\/nmU k=98\/nmU k=99\/nmU k=100:=by
 match k with
 | 0=>decide
 | 1=>decide
 | 2=>decide
 | 3=>decide
 | k+4=>exact .inl rfl
theorem yex (k:Nat):vrU k=88\/vrU k=89\/vrU k=90:=by
 match k with
 | 0=>decide
 | 1=>decide
 | 2=>decide
 | k+3=>exact .inl rfl
variable {c:UInt8}
theorem z56 (h:jD c.toNat=true):vT 2 [c]:=.name (by simp) (by simp) (λ x hx=>by rw[List.mem_singleton.1 hx];exact h) (by simp)
theorem zil (h:yZ c.toNat=true):vT 3 [c]:=.var (by simp) (by simp) (λ x hx=>by rw[List.mem_singleton.1 hx];exact h)
theorem zb9 (k:Nat):vT 2 (zP (fl k)):=z56 (by rcases yen k with h | h | h | h <;> rw[h] <;> decide)
theorem zj8 (k:Nat):vT (za0 (tN k)).1 (za0 (tN k)).2:=z56 (by rcases yek k with h | h | h | h <;> rw[h] <;> decide)
theorem zaa (k:Nat):vT (za0 (tV k)).1 (za0 (tV k)).2:=zil (by rcases yex k with h | h | h <;> rw[h] <;> decide)
variable {Ty:Type}
theorem yW {P:Ty->Prop}{a b:Ty}(ha:P a)(hb:P b):∀ t∈[a,b],P t:=λ t ht=>by
 rcases List.mem_cons.1 ht with rfl | ht
 ·exact ha
 ·rw[List.mem_singleton.1 ht];exact hb
theorem zvs {P:Ty->Prop}{a:Ty}(ha:P a):∀ t∈[a],P t:=λ t ht=>by rw[List.mem_singleton.1 ht];exact ha
theorem KL.words (L:KL):zgv L.rule:=by
 cases L with
 | fact i j=>exact⟨zb9 _,yW (zj8 _) (zj8 _),by simp[KL.rule],by simp[KL.rule]⟩
 | rev h q x y=>exact⟨zb9 _,yW (zaa _) (zaa _),zvs (zb9 _),zvs (yW (zaa _) (zaa _))⟩
 | join h q r x y z=>exact⟨zb9 _,yW (zaa _) (zaa _),yW (zb9 _) (zb9 _),yW (yW (zaa _) (zaa _)) (yW (zaa _) (zaa _))⟩
 | minus h q r x y=>exact⟨zb9 _,yW (zaa _) (zaa _),yW (zb9 _) (zb9 _),yW (yW (zaa _) (zaa _)) (yW (zaa _) (zaa _))⟩
 | sX h q r x y n m=>exact⟨zb9 _,yW (zaa _) (zj8 _),yW (zb9 _) (zb9 _),yW (yW (zaa _) (zaa _)) (yW (zaa _) (zj8 _))⟩
def pT (p:B8):Nat:=if p=fl 1 then 1 else if p=fl 2 then 2 else if p=fl 3 then 3 else 0
theorem za3 {k:Nat}(h:k<4):pT (fl k)=k:=by
 match k,h with
 | 0,_=>decide
 | 1,_=>decide
 | 2,_=>decide
 | 3,_=>decide
theorem KL.ic {L:KL}(h:L.Ok):zeu (λ _=>2) pT L.rule:=by
 cases L with
 | fact i j=>exact⟨⟨by simp[KL.rule],by simp[KL.rule],by simp[KL.rule]⟩,rfl,by simp[KL.rule],by simp[KL.rule,tN],by simp[KL.rule],by simp[KL.rule],by simp[KL.rule]⟩
 | rev h' q x y=>
  obtain⟨h1,h2,h3,_,_⟩:=h;refine⟨⟨by simp[KL.rule],by simp[KL.rule],by simp[KL.rule]⟩,rfl,by simp[KL.rule],by simp[KL.rule],by simp[KL.rule],?_,by simp[KL.rule]⟩;simp only[KL.rule,List.mem_singleton,forall_eq];rw[za3 (k:=q) (by omega),za3 h2];exact h3
 | join h' q r x y z=>
  obtain⟨h1,h2,h3,h4,_,_,_⟩:=h;refine⟨⟨by simp[KL.rule],by simp[KL.rule],by simp[KL.rule]⟩,rfl,by simp[KL.rule],by simp[KL.rule],by simp[KL.rule],?_,by simp[KL.rule]⟩;simp only[KL.rule,List.mem_cons,List.not_mem_nil,or_false,forall_eq_or_imp,forall_eq];rw[za3 (k:=q) (by omega),za3 (k:=r) (by omega),za3 h2];exact⟨h3,h4⟩
 | minus h' q r x y=>
  obtain⟨h1,h2,h3,h4,_,_⟩:=h;refine⟨⟨by simp[KL.rule],by simp[KL.rule],by simp[KL.rule]⟩,rfl,by simp[KL.rule],by simp[KL.rule],by simp only[KL.rule];exact yW (λ h=>by cases h) (λ _ t ht hv=>⟨_,List.mem_cons_self,rfl,by rcases List.mem_cons.1 ht with rfl | ht;exact List.mem_cons_of_mem _ List.mem_cons_self;rw[List.mem_singleton.1 ht];exact List.mem_cons_self⟩),?_,?_⟩
  ·simp only[KL.rule,List.mem_cons,List.not_mem_nil,or_false,forall_eq_or_imp,forall_eq];rw[za3 (k:=q) (by omega),za3 (k:=r) (by omega),za3 h2];exact⟨h3,by omega⟩
  ·simp only[KL.rule,List.mem_cons,List.not_mem_nil,or_false,forall_eq_or_imp,forall_eq];rw[za3 (k:=q) (by omega),za3 (k:=r) (by omega),za3 h2];exact⟨by simp,λ _=>h4⟩
 | sX h' q r x y n m=>
  obtain⟨h1,h2,h3,h4,_,_,_,_⟩:=h;refine⟨⟨by simp[KL.rule],by simp[KL.rule],by simp[KL.rule]⟩,rfl,by simp[KL.rule],by simp[KL.rule,tN],by simp only[KL.rule];exact yW (λ h=>by cases h) (λ _ t ht hv=>⟨_,List.mem_cons_self,rfl,by rcases List.mem_cons.1 ht with rfl | ht;exact List.mem_cons_self;rw[List.mem_singleton.1 ht] at hv;cases hv⟩),?_,?_⟩
  ·simp only[KL.rule,List.mem_cons,List.not_mem_nil,or_false,forall_eq_or_imp,forall_eq];rw[za3 (k:=q) (by omega),za3 (k:=r) (by omega),za3 h2];exact⟨h3,by omega⟩
  ·simp only[KL.rule,List.mem_cons,List.not_mem_nil,or_false,forall_eq_or_imp,forall_eq];rw[za3 (k:=q) (by omega),za3 (k:=r) (by omega),za3 h2];exact⟨by simp,λ _=>h4⟩
theorem z65 (b:List UInt8)(pd:B8)(ts:List (Bool × B8))(r:List zm3):zcy (jW b pd ts++r)=b++zcy (jW [] pd ts++r):=by
 cases ts <;> simp[jW,zcy]
theorem zks (b:List UInt8)(R:yH)(r:List zm3):zcy (zaj b R++r)=b++zcy (zaj [] R++r):=by
 unfold zaj;rw[List.append_assoc,List.append_assoc,z65]
theorem zfz (sep:List UInt8):∀ (rules:List yH) (b:List UInt8),zcy (vN sep b rules)++sep=(match rules with | []=>[] | _=>b)++(rules.flatMap λ R=>zcy (zaj [] R)++sep)++(match rules with | []=>sep | _=>[])
 | [],b=>by simp[vN,zcy]
 | [R],b=>by
  have h:=zks b R [];rw[List.append_nil,List.append_nil] at h;simp[vN,h]
 | R::Q::r,b=>by
  have ih:=zfz sep (Q::r) sep;rw[vN,j8,List.append_assoc,ih];have h:=zks b R [];rw[List.append_nil,List.append_nil] at h;simp only[h,List.flatMap_cons,List.append_assoc,List.append_nil]
def zmm (L:Nat->KL)(n:Nat):List yH:=(KL.fact 0 1).rule::(List.range n).map λ i=>(L i).rule
theorem zpp (L:Nat->KL)(n:Nat):aW L n=zcy (vN [32] [] (zmm L n))++[32]:=by
 rw[zfz [32] (zmm L n) []];unfold zmm aW;simp only[List.nil_append,List.append_nil,List.flatMap_cons,List.flatMap_map];rfl
theorem zij (L:Nat->KL)(n:Nat)(hn:n<=14)(hL:∀ i,i<n->(L i).Ok):z7 (aC (aW L n))=(true,0,0)/\(zJ (aC (aW L n))).2.2.1=zmm L n:=by
 have hb:∀ c∈[(32:UInt8)],yG c.toNat=true:=λ c hc=>zr5 c (.inl (List.mem_singleton.1 hc))
 have bh:∀ R∈zmm L n,zeu (λ _=>2) pT R/\zgv R:=λ R hR=>by
  rcases List.mem_cons.1 hR with rfl | hR
  ·exact⟨KL.ic ⟨by decide,by decide⟩,KL.words _⟩
  ·obtain⟨i,hi,rfl⟩:=List.mem_map.1 hR;exact⟨KL.ic (hL i (List.mem_range.1 hi)),KL.words _⟩
 refine zgd hb (by simp) hb (ar:=λ _=>2) (lv:=pT) ?_ (λ R hR=>(bh R hR).1) (λ R hR=>(bh R hR).2) ?_ (zpp L n)
 ·rw[jO];have:=zfp L n;omega
 ·unfold zmm;rw[List.length_cons,List.length_map,List.length_range];omega
end
section
open Go.RowKit Go.Maps
def zrv (w:W8)(s:B8)(e:Ending)(w':W8):Prop:=∃ (xb:Nat) (rs:List PR),e=.returned (.pointer (some ⟨xb,0,none⟩))/\aY s xb w' w.heap.size rs/\Below w.heap.size w w'
theorem z3a (w:W8)(s:B8)(hs:s.size<=maxLen)(h:z7 s=(true,0,0)):Calls Tryz.prog 18 #[.string s] w (zrv w s):=by
 have hP:=zma w s hs;rw[zqk,h] at hP;have bX:(z7 s).1=true:=by rw[h]
 have iS:=zC bX;clear h bX;go_enter Tryz.func18,Tryz.ntmps18;go_wp2_with fail;refine hP.mono ?_;rintro e w1 ⟨hb,_,eJ⟩;obtain⟨xb,rs,rfl,hp,hr⟩:=eJ rfl;have HX:=zC (show zrv w s (.returned (.pointer (some ⟨xb,0,none⟩))) w1 from ⟨xb,rs,rfl,⟨zA iS,hp,hr⟩,hb⟩);clear hP hb eJ hp hr;go_wp2_with fail;go_ret;exact zA HX
structure qd (w:W8)(a:O8)(c:Nat)(zs:List B8):Prop where
 cap:zs.length<=c
 max:c<=maxLen
 at_:∀ (j:Nat) (h:j<zs.length),∃ g,a=some ⟨g,0,none⟩/\g<w.heap.size/\w.cell? ⟨g,j,none⟩=some (.string zs[j])
variable {zs:List B8} {c:Nat} {a:O8} {w:W8}
theorem qd.below {w':W8}(h:qd w a c zs)(k:Below w.heap.size w w'):qd w' a c zs:=
 ⟨h.cap,h.max,λ j hj=>let ⟨g,e,hg,hc⟩:=h.at_ j hj;⟨g,e,Nat.lt_of_lt_of_le hg k.size,(k.cell (p:=⟨g,j,none⟩) hg).trans hc⟩⟩
theorem qd.ib {base:Nat}(h:w.ownsRow base 9 1 (.slice a zs.length c) zs.length (zs.map Value.string)):qd w a c zs:=by
 rcases h.2 with⟨e,h0⟩ | ⟨g,cap,cur,hv,hb,hg,dG,dx,eZ,gZ⟩
 ·injection e with e1 e2 e3
  have hz:zs=[]:=List.eq_nil_of_length_eq_zero h0;subst hz e3;exact⟨Nat.le_refl _,by unfold maxLen;omega,λ j hj=>by simp at hj⟩
 ·injection hv with e1 e2 e3
  subst e1 e3;refine⟨dG,dx,λ j hj=>⟨g,rfl,(h.lt g rfl).2,?_⟩⟩;have:=World.ownsRow.cellAt h j (by omega);rw[this,List.getElem?_map,List.getElem?_eq_getElem hj];rfl
def zgj (t:B8)(zs:List B8):Bool:=zs.any λ z=>z.toList==t.toList
theorem ziw {t:B8}:zgj t zs=true↔t∈zs:=by
 unfold zgj;rw[List.any_eq_true]
 constructor
 ·rintro⟨z,hz,e⟩;rw[<-yB.1 e];exact hz
 ·intro h;exact⟨t,h,yB.2 rfl⟩
theorem yee (w:W8)(a:O8)(c:Nat)(zs:List B8)(t:B8)(h:qd w a c zs):Calls Tryz.prog 22 #[.slice a zs.length c,.string t] w λ e w'=>e=.returned (.bool (zgj t zs))/\w'=w:=by
 have H:=zC h;have kR:=h.cap;have lM:=h.max;unfold maxLen at lM;clear h;go_enter Tryz.func22,Tryz.ntmps22;go_wp2_with fail
 go_loopg [5] zs.length (λ gg i wr=>∃ k:Nat,k<=zs.length/\gg=zs.length-k/\i=.int .i64 (k:Nat)/\wr=w/\∀ x∈zs.take k,x≠t)
 exact⟨0,Nat.zero_le _,rfl,rfl,rfl,by simp⟩
 case round=>
  obtain⟨k,hk,fM,rfl,rfl,cP⟩:=hrel
  by_cases aN:k<zs.length
  ·obtain⟨g,rfl,hg,hc⟩:=(zA H).at_ k aN;have gW:(k:Int)<zs.length:=by omega
   by_cases he:zs[k]=t
   ·have HR:=zC (show zgj t zs=true from ziw.2 (by rw[<-he];exact List.getElem_mem aN));have Oo:(zs[k].toList==t.toList)=true:=yB.2 he;generalize zs[k]=z at *;clear cP;go_wp2_with fail;go_ret;exact⟨by rw[zA HR];rfl,rfl⟩
   ·have Oo:(zs[k].toList==t.toList)=false:=by
     cases hx:(zs[k].toList==t.toList) with
     | false=>rfl
     | true=>exact absurd (yB.1 hx) he
    have HN:=zC (show ∀ x∈zs.take (k+1),x≠t from λ x hx=>by
     rw[List.take_succ_eq_append_getElem aN] at hx;rcases List.mem_append.1 hx with hx | hx
     ·exact cP x hx
     ·rw[List.mem_singleton.1 hx];exact he)
    generalize zs[k]=z at *;clear cP;go_wp2_with fail;go_roundg (zs.length-(k+1));exact⟨k+1,by omega,rfl,by go_num,rfl,zA HN⟩;omega
  ·have CK:k=zs.length:=by omega
   have HR:=zC (show zgj t zs=false by
    cases hx:zgj t zs with
    | false=>rfl
    | true=>exact absurd rfl (cP t (by rw[CK,List.take_length];exact ziw.1 hx)))
   clear cP;have gW:¬ (k:Int)<zs.length:=(by omega);go_wp2_with fail;go_ret;exact⟨by rw[zA HR];rfl,rfl⟩
end
section
open Go.RowKit Go.Maps
def aM (p i:Nat):B8:=aC [pdU p,40,nmU (i/4),44,nmU (i%4),41]
def zfs (p i:Nat):List B8:=(List.range p).flatMap (λ q=>(List.range 16).map λ j=>aM q j)++(List.range i).map λ j=>aM p j
def Ht:List B8:=zfs 4 0
theorem zwk (p i:Nat):zfs p (i+1)=zfs p i++[aM p i]:=by
 unfold zfs;rw[List.range_succ (n:=i),List.map_append,<-List.append_assoc];rfl
theorem zwj (p:Nat):zfs p 16=zfs (p+1) 0:=by
 unfold zfs;rw[List.range_succ (n:=p),List.flatMap_append];simp
theorem z03 (p i:Nat):(zfs p i).length=16*p+i:=by
 unfold zfs;rw[List.length_append,List.length_map,List.length_range]
 congr 1
 induction p with
 | zero=>rfl
 | succ p ih=>rw[List.range_succ (n:=p),List.flatMap_append,List.length_append,ih];simp;omega
theorem zl8 (i n:Nat):zH (i:Int) n=i%n:=by
 unfold zH;rw[if_neg (by omega)];omega
structure Lb (w:W8)(p i:Nat)(v:Value)(wr:W8):Prop where
 below:Below w.heap.size w wr
 row:wr.ownsRow w.heap.size 9 1 v (16*p+i) ((zfs p i).map Value.string)
theorem Lb.add {w wr W w5:W8}{p i:Nat}{v v':Value}(h:Lb w p i v wr)(hW:Below wr.heap.size wr W)(hg:W.grownBy w5 v.ownBlock)(aI:w5.ownsRow w.heap.size 9 1 v' (16*p+i+1) ((zfs p i).map Value.string++[.string (aM p i)])):Lb w p (i+1) v' w5:=by
 have hs:=h.below.size;have hz:=hW.size;refine⟨⟨hg.os.trans (hW.os.trans h.below.os),hg.tape.trans (hW.tape.trans h.below.tape),hg.output.trans (hW.output.trans h.below.output),Nat.le_trans hs (Nat.le_trans hz hg.size),λ j hj=>?_⟩,?_⟩
 ·rw[hg.block j (by omega) (λ e=>by have:=(h.row.lt j e.symm).1;omega),hW.block j (by omega)];exact h.below.block j hj
 ·rw[zwk,List.map_append];exact aI
attribute [local go_sem] za4
theorem yb2 (w:W8):Calls Tryz.prog 29 #[] w λ e w'=>∃ (a:O8) (c:Nat),e=.returned (.slice a 64 c)/\w'.ownsRow w.heap.size 9 1 (.slice a 64 c) 64 (Ht.map Value.string)/\Below w.heap.size w w':=by
 obtain⟨i0,hi,dK,aj,bZ⟩:=info_parts zbt;have H0:=zC (show Lb w 0 0 (.slice none 0 0) w from ⟨Below.refl _ _,World.ownsRow_nil _ _ _ _⟩);go_enter Tryz.func29,Tryz.ntmps29;go_wp2_with fail
 go_loopg [1,2] 4 (λ gg v pv wr=>∃ p:Nat,p<=4/\gg=4-p/\pv=.int .i64 (p:Nat)/\Lb w p 0 v wr)
 exact⟨0,by omega,rfl,rfl,zA H0⟩
 case round=>
  clear H0;obtain⟨p,hp,hgp,rfl,ak⟩:=hrel;have HI:=zC ak
  by_cases kX:p<4
  ·have qm:(p:Int)<4:=(by omega);generalize hgk1:gk=gk1 at *;clear ak;go_wp2_with fail
   go_loopg [1,3] 16 (λ gg v iv wr=>∃ i:Nat,i<=16/\gg=16-i/\iv=.int .i64 (i:Nat)/\Lb w p i v wr)
   exact⟨0,by omega,rfl,rfl,zA HI⟩
   case round=>
    clear HI;obtain⟨i,Oq,Fy,rfl,ak⟩:=hrel;obtain⟨a1,c1,rfl⟩:=zE ak.row
    by_cases qj:i<16
    ·have Kt:(i:Int)<16:=(by omega);have HP:=zC (λ w=>zg6 w p kX);have hq:(i:Int)/4=((i/4:Nat):Int):=by omega
     have vu:Hid (∀ w:W8,Calls Tryz.prog 21 #[.int .i64 ((i:Int)/4)] w λ e w'=>e=.returned (.string (yJ (nmU (i/4))))/\w'=w.alloc dc):=zC (λ w=>by
      have:=zso w ((i/4:Nat):Int) (by omega) (by omega);rw[zl8,Nat.mod_eq_of_lt (show i/4<4 by omega)] at this
      rw[hq];exact this)
     have Hr:Hid (∀ w:W8,Calls Tryz.prog 21 #[.int .i64 (i:Int)] w λ e w'=>e=.returned (.string (yJ (nmU (i%4))))/\w'=w.alloc dc):=zC (λ w=>by
      have:=zso w (i:Int) (by omega) (by omega);rw[zl8] at this
      exact this)
     have bt:=zC ak;obtain⟨T,hT⟩:∃ T,T=aM p i:=⟨_,rfl⟩;have zx:yJ (pdU p)++{ data:=#[40] }++yJ (nmU (i/4))++{ data:=#[44] }++yJ (nmU (i%4))++{ data:=#[41] }=T:=hT.symm;have Lq:=zC hT;clear hT;have bH:=(((ak.row.alloc aP).alloc dc).alloc dc).alloc (.cells #[.string T] 9);have M3:=heap_alloc_new (((wr.alloc aP).alloc dc).alloc dc) (.cells #[.string T] 9);simp only[World.size_alloc] at M3;have gF:=zC (World.news_of_block M3);clear M3;have Ol:=zC (((((Below.refl wr.heap.size wr).alloc L9 aP).alloc (by simp) dc).alloc (by simp only[World.size_alloc];omega) dc).alloc (by simp only[World.size_alloc];omega) (.cells #[.string T] 9));have sV:w.heap.size<=wr.heap.size:=ak.below.size;clear ak hq;go_wp2_with fail;refine (zA HP _).mono ?_;rintro e w1 ⟨rfl,rfl⟩;go_wp2_with fail;refine (zA vu _).mono ?_;rintro e w1 ⟨rfl,rfl⟩;go_wp2_with fail;refine (zA Hr _).mono ?_;rintro e w1 ⟨rfl,rfl⟩;clear HP vu Hr;go_wp2_with (at_builtin;go_must (refine wpList_append_own _ rfl _ _ 33 rfl w.heap.size 9 i0 _ 1 16 Tryz.underlying33 hi dK aj bZ rfl (by decide) _ _ _ rfl bH ⟨wr.heap.size+1+1+1,0,none⟩ 1 1 [.string T] rfl rfl (zA gF) (by intro u hu;rw[List.mem_singleton.1 hu];rfl) (by unfold maxLen;omega) (by omega) (by simp only[World.size_alloc];omega) ?_);intro v5 w5 ad dz aw;clear aw;obtain⟨a5,c5,rfl⟩:=zE ad;have mY:=zC ad;have bp:=zC dz;clear ad dz);go_roundg (16-(i+1))
     case measure=>omega
     case rel=>
      have N0:=zA mY;rw[zA Lq] at N0;exact⟨i+1,by omega,rfl,by go_num,(zA bt).add (zA Ol) (zA bp) N0⟩
    ·have N2:i=16:=(by omega);subst N2;have bt:=zC ak;clear ak;go_wp2_with fail;go_roundg (4-(p+1))
     case measure=>omega
     case rel=>
      refine⟨p+1,by omega,rfl,by go_num,(zA bt).below,?_⟩;have:=(zA bt).row;rw[zwj] at this;rw[show 16*(p+1)+0=16*p+16 by omega];exact this
  ·have ql:p=4:=(by omega);subst ql;obtain⟨a1,c1,rfl⟩:=zE ak.row;clear ak;go_wp2_with fail;go_ret;exact⟨a1,c1,rfl,(zA HI).row,(zA HI).below⟩
end
section
variable {q:List (Bool × B8)} {t:Bool × B8} {pd:B8}
theorem zyy (hp:vT 2 (zP pd))(ht:∀ x∈t::q,vT (za0 x).1 (za0 x).2):zr0 (jW [] pd (t::q)):=by
 obtain⟨h1,_,_⟩:=zjo (t::q) (by simp) ht;have ha:zbu 5 (jJ (t::q)):=by
  cases q with
  | nil=>exact .inr ⟨by simp,by simp⟩
  | cons v q=>exact .inr ⟨by simp,by simp⟩
 exact⟨by simp,hp,.inr ⟨by simp,by simp⟩,by simp,.open_,ha,h1⟩
theorem zl4 {s:B8}(hp:vT 2 (zP pd))(ht:∀ x∈t::q,vT (za0 x).1 (za0 x).2)(hl:(t::q).length<=4)(h:zP s=zcy (jW [] pd (t::q))):zdd s=some ⟨pd,t::q⟩:=by
 obtain⟨e,h1,h2⟩:=zmv (s:=s) (rest:=[]) (jW [] pd (t::q)) 0 (zyy hp ht) (by rw[List.append_nil];exact h);rw[zhm] at h1;obtain⟨_,pl,h3⟩:=zde hl h1 (λ h=>by cases h);unfold zdd;rw[h3];simp only;rw[if_pos (zpt h2 (by simp))]
theorem zkp:∀ (l ps:P9) (k:B8) (n:Nat),zV (j7 l ps) k=some n->zV ps k=some n\/(k,n)∈l
 | [],_,_,_,h=>.inl h
 | x::r,ps,k,n,h=>by
  rcases zkp r (zan ps x.1 x.2) k n h with h | h
  ·rw[zls] at h
   split at h
   ·rw[zfx] at h
    cases hn:zV ps k with
    | some m=>rw[hn] at h;exact .inl (by rw[<-h])
    | none=>
     rw[hn] at h;simp only at h
     split at h
     ·rename_i e;have e1:=yB.1 e;have e2:=Option.some.inj h;refine .inr ?_;rw[<-e1,<-e2];exact List.mem_cons_self
     ·cases h
   ·exact .inl h
  ·exact .inr (List.mem_cons_of_mem _ h)
def zro (ps:P9):Prop:=∀ k n,zV ps k=some n->n=2/\∃ i,i<4/\k=fl i
theorem KL.atoms {L:KL}(h:L.Ok):∀ x∈xS L.rule,x.2=2/\∃ i,i<4/\x.1=fl i:=by
 cases L with
 | fact i j=>exact zvs ⟨rfl,0,by decide,rfl⟩
 | rev h' q x y=>
  obtain⟨h1,h2,h3,_,_⟩:=h;exact yW ⟨rfl,h',h2,rfl⟩ ⟨rfl,q,by omega,rfl⟩
 | join h' q r x y z=>
  obtain⟨h1,h2,h3,h4,_,_,_⟩:=h;intro u hu;rcases List.mem_cons.1 hu with rfl | hu
  ·exact⟨rfl,h',h2,rfl⟩
  ·exact yW (P:=λ x:B8 × Nat=>x.2=2/\∃ i,i<4/\x.1=fl i) ⟨rfl,q,by omega,rfl⟩ ⟨rfl,r,by omega,rfl⟩ u hu
 | minus h' q r x y=>
  obtain⟨h1,h2,h3,h4,_,_⟩:=h;intro u hu;rcases List.mem_cons.1 hu with rfl | hu
  ·exact⟨rfl,h',h2,rfl⟩
  ·exact yW (P:=λ x:B8 × Nat=>x.2=2/\∃ i,i<4/\x.1=fl i) ⟨rfl,q,by omega,rfl⟩ ⟨rfl,r,by omega,rfl⟩ u hu
 | sX h' q r x y n m=>
  obtain⟨h1,h2,h3,h4,_,_,_,_⟩:=h;intro u hu;rcases List.mem_cons.1 hu with rfl | hu
  ·exact⟨rfl,h',h2,rfl⟩
  ·exact yW (P:=λ x:B8 × Nat=>x.2=2/\∃ i,i<4/\x.1=fl i) ⟨rfl,q,by omega,rfl⟩ ⟨rfl,r,by omega,rfl⟩ u hu
theorem z9q {L:Nat->KL}{n:Nat}(hn:n<=14)(hL:∀ i,i<n->(L i).Ok):zro (zF (aC (aW L n))).2:=by
 obtain⟨h1,h2⟩:=zij L n hn hL;have hg:=qR (s:=aC (aW L n)) (by rw[h1]);intro k m hk;rw[<-hg.met,h2] at hk;rcases zkp _ _ _ _ hk with h | h
 ·cases h
 ·obtain⟨R,hR,hx⟩:=List.mem_flatMap.1 h;rcases List.mem_cons.1 hR with rfl | hR
  ·exact KL.atoms (L:=.fact 0 1) ⟨by decide,by decide⟩ _ hx
  ·obtain⟨i,hi,rfl⟩:=List.mem_map.1 hR;exact KL.atoms (hL i (List.mem_range.1 hi)) _ hx
def thK (p i j:Nat):Th:=(fl p,[yJ (nmU i),yJ (nmU j)])
theorem z9l (p i:Nat):yF (thK p (i/4) (i%4))=aM p i:=rfl
variable {ps:P9}
theorem yc4 (h:zro ps)(p i:Nat):vF ps (aM p i)=some (thK p (i/4) (i%4)):=by
 have hp:zdd (aM p i)=some ⟨fl p,[tN (i/4),tN (i%4)]⟩:=zl4 (zb9 p) (yW (zj8 _) (zj8 _)) (by simp) rfl;have hs:zb7 ps ⟨fl p,[tN (i/4),tN (i%4)]⟩=true:=by
  unfold zb7
  cases hn:zV ps (fl p) with
  | none=>rfl
  | some m=>simp only;rw[(h _ _ hn).1];rfl
 unfold vF vC;rw[hp];simp only;rw[if_pos hs];rfl
def zyw (k:Nat):xG:=⟨fl k,[(true,yJ 88),(true,yJ 89)]⟩
theorem ybg (h:zro ps)(k:Nat):vC ps (yJ (pdU k)++{ data:=#[40,88,44,89,41] })=some (zyw k):=by
 have hx:vT (za0 (true,yJ 88)).1 (za0 (true,yJ 88)).2:=zil (by decide);have hy:vT (za0 (true,yJ 89)).1 (za0 (true,yJ 89)).2:=zil (by decide)
 have hp:zdd (yJ (pdU k)++{ data:=#[40,88,44,89,41] })=some (zyw k):=zl4 (zb9 k) (yW hx hy) (by simp) (by
  unfold zP yJ;rw[ByteArray.data_append,Array.toList_append]
  rfl)
 have hs:zb7 ps (zyw k)=true:=by
  unfold zb7 zyw
  cases hn:zV ps (fl k) with
  | none=>rfl
  | some m=>simp only;rw[(h _ _ hn).1];rfl
 unfold vC;rw[hp];simp only;rw[if_pos hs]
theorem yed {k:Nat}{t:Th}(h2:t.2.length=2)(n:Nat):zg3 (zyw k) (t,n)=true↔t.1=fl k:=by
 obtain⟨p,ts⟩:=t;obtain⟨a,b,rfl⟩:∃ a b,ts=[a,b]:=by
  match ts,h2 with
  | [a,b],_=>exact⟨a,b,rfl⟩
 unfold zg3 yC
 show (if (zyw k).p.toList==p.toList then zem [] (zyw k).ts [a,b] else none).isSome=true↔p=fl k
 by_cases he:((zyw k).p.toList==p.toList)=true
 ·rw[if_pos he];have e:fl k=p:=yB.1 he;refine⟨λ _=>e.symm,λ _=>?_⟩;have h1:pmT [] (true,yJ 88) a=some [(yJ 88,a)]:=rfl;have hn:pAt [(yJ 88,a)] (yJ 89)=none:=by
   have bG:¬ ((yJ 88).toList==(yJ 89).toList)=true:=λ h=>by
    have:=yB.1 h;have:=congrArg zP this;simp[zP,yJ] at this
   rw[pAt,if_neg bG];rfl
  have h2:pmT [(yJ 88,a)] (true,yJ 89) b=some [(yJ 88,a),(yJ 89,b)]:=by
   unfold pmT pmB;rw[if_pos rfl,hn];rfl
  show (zem [] [(true,yJ 88),(true,yJ 89)] [a,b]).isSome=true
  rw[zem];simp only[List.headD_cons,List.tail_cons,h1];rw[zem];simp only[List.headD_cons,h2];rfl
 ·rw[if_neg he];refine⟨λ h=>by simp at h,λ e=>absurd (yB.2 e.symm) he⟩
end
end Go.Proofs.YtldkpahaocjdpaaGreat
