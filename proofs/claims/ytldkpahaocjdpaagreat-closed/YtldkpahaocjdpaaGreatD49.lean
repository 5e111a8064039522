/-
  affidavitkeep: known.
-/
import Derived.Test.YtldkpahaocjdpaaGreatD48
set_option maxHeartbeats 16000000
set_option maxRecDepth 1000000
namespace Go.Proofs.YtldkpahaocjdpaaGreat
section
open Go.RowKit Go.Maps
theorem zs6 {s:B8}{rs:List PR}{xb lo:Nat}{w0:W8}(hP:bp s xb w0 lo rs){limit:Nat}(hl:limit<=50){S:B8->Nat}{m:Nat}{K:List (Th × Nat)}{t:Th}{O:List Pl}{bs:List Nat}(hW:Mp s rs limit S m K t O bs){q:B8}(ht:vM (zH s).2 q=some t){e:Ending}(hE:z49 s q bs e):e=.returned (.int .i64 ((if (z7 K t).isSome then 1 else 2:Nat):Nat)):=by
 have he:=hW.eq;subst he;exact zxd hP hl hW.mod hW.len ht hW.perm hW.sort hE
theorem yc2 (w:W8):Calls Tryz.prog 16 #[] w λ e w'=>e=.returned (.bool true)/\Below w.heap.size w w':=by
 have HL:=zC (yaq w vW zo8 yad);go_enter Tryz.func16,Tryz.ntmps16;go_wp2_with fail;refine (zA HL).mono ?_;rintro e w1 ⟨xb,rs,rfl,hP,aT⟩;clear HL;have HP:=zC hP;have cR:=zC aT;have HQ:=zC (zbr hP exQ (by decide) 10);clear hP aT;go_wp2_with fail;refine (zA HQ).mono ?_;rintro e w2 ⟨ho,aU⟩;obtain⟨g,c,rfl,nA,dx,hg,h0,h1⟩:=z58 (zA HP).rules (zA HP).cg ho;have iT:=zC ((zA HP).below aU);have ep:=zC ((zA cR).trans (aU.mono (zA cR).size));have HG:=zC (And.intro hg (And.intro h0 h1));have tn:=zC (zjr (zA iT) exC (by decide) 10);unfold maxLen at dx;clear ho aU HQ h0 h1 hg HP cR;go_wp2_with fail;refine (zA tn).mono ?_;rintro e w3 ⟨ho,cE⟩;obtain⟨S,m,K,O,bs,a,c3,hW,hK,rfl,iD⟩:=zna (zA iT) z82 ho;have nX:=zC ((zA iT).below cE);have gh:=zC ((zA ep).trans (cE.mono (zA ep).size));have LA:g<w3.heap.size:=Nat.lt_of_lt_of_le (zA HG).1 cE.size;have vp:=zC (And.intro LA (And.intro ((cE.cell (p:=⟨g,0,none⟩) (zA HG).1).trans (zA HG).2.1) ((cE.cell (p:=⟨g,1,none⟩) (zA HG).1).trans (zA HG).2.2)));have HW:=zC (And.intro hW hK);have kr:=zC iD;rw[if_pos (zk2 hK).1];generalize (z7 K (eD,[yA 99])).getD 0=hh;have ja:bs.length<=c3:=iD.cap;have oi:c3<=maxLen:=iD.max;have vn:=zC (λ (W:W8) (hk:Below w3.heap.size w3 W)=>zjr ((zA nX).below hk) exB (by decide) 10);have Lg:=(Below.refl w3.heap.size w3).alloc L9 (.cells #[.int .i64 ((1:Nat):Int),.int .i64 (hh:Nat),.slice a bs.length c3] 49);have qu:=zC Lg;have hY:=heap_alloc_new w3 (.cells #[.int .i64 ((1:Nat):Int),.int .i64 (hh:Nat),.slice a bs.length c3] 49);have HY:=zC hY;have uR:(w3.alloc (.cells #[.int .i64 ((1:Nat):Int),.int .i64 (hh:Nat),.slice a bs.length c3] 49)).heap.size=w3.heap.size+1:=by simp
 have iH:=zC uR;unfold maxLen at oi;clear ho cE tn hW hK iD iT ep HG Lg hY uR LA;go_wp2_with fail;refine (zA vn _ (zA qu)).mono ?_;rintro e w4 ⟨ho,bQ⟩;obtain⟨S4,m4,K4,O4,BI,a4,c4,Fg,B4,rfl,kD⟩:=zna ((zA nX).below (zA qu)) z0z ho;have Co:=bQ.size;rw[zA iH] at Co;have AJ:=(bQ.block w3.heap.size (by rw[zA iH];omega)).trans (zA HY);have y0:w4.cell? ⟨w3.heap.size,0,none⟩=some (.int .i64 ((1:Nat):Int)):=by simp[World.cell?,AJ]
 have y2:w4.cell? ⟨w3.heap.size,2,none⟩=some (.slice a bs.length c3):=by simp[World.cell?,AJ]
 have lU:=(zA qu).trans (bQ.mono (by rw[zA iH];omega));have wY:=zC ((zA nX).below lU);have eC:=zC ((zA gh).trans (lU.mono (zA gh).size));have Jk:g<w4.heap.size:=Nat.lt_of_lt_of_le (zA vp).1 lU.size;have g0:w4.cell? ⟨g,0,none⟩=some (.string yaa):=(lU.cell (p:=⟨g,0,none⟩) (zA vp).1).trans (zA vp).2.1;have g1:w4.cell? ⟨g,1,none⟩=some (.string yab):=(lU.cell (p:=⟨g,1,none⟩) (zA vp).1).trans (zA vp).2.2;unfold yaa at g0;unfold yab at g1;have Ez:=zC (And.intro Fg B4);have iD:=(zA kr).below lU;rw[(zk2 B4).2,if_neg (by simp)];generalize (z7 K4 (eD,[yA 98])).getD 0=Er;have I9:BI.length<=c4:=kD.cap;have Ct:c4<=maxLen:=kD.max;have Lh:=(Below.refl w4.heap.size w4).alloc L9 (.cells #[.int .i64 ((2:Nat):Int),.int .i64 (Er:Nat),.slice a4 BI.length c4] 49);have tg:=zC Lh;have vl:=zC (λ (W:W8) (hk:Below w4.heap.size w4 W)=>ziv W vW exC zo8 (by decide) a c3 bs (iD.below hk));have ks:=zC (λ (W:W8) (hk:Below w4.heap.size w4 W)=>ziv W vW exB zo8 (by decide) a4 c4 BI (kD.below hk));have vm:=zC (λ (W:W8) (hk:Below w4.heap.size w4 W)=>ziv W vW exB zo8 (by decide) a c3 bs (iD.below hk));have hZ:=heap_alloc_new w4 (.cells #[.int .i64 ((2:Nat):Int),.int .i64 (Er:Nat),.slice a4 BI.length c4] 49);have HZ:=zC hZ;have IA:=zC AJ;have uS:(w4.alloc (.cells #[.int .i64 ((2:Nat):Int),.int .i64 (Er:Nat),.slice a4 BI.length c4] 49)).heap.size=w4.heap.size+1:=by simp
 have iK:=zC uS;unfold maxLen at Ct;clear ho bQ vn Fg B4 iD kD nX gh qu HY iH vp Lh hZ AJ lU uS kr;have LL:w3.heap.size<w4.heap.size:=by omega
 generalize w3.heap.size=b3 at *;go_wp2_with fail;refine (zA vl _ (zA tg)).mono ?_;rintro e w5 ⟨ho,eO⟩;have he:=zs6 (zA wY) (by decide) (zA HW).1 z82 ho;rw[if_pos (zk2 (zA HW).2).1] at he;subst he;have Cp:=eO.size;rw[zA iK] at Cp;have z5:=(eO.block w4.heap.size (by rw[zA iK];omega)).trans (zA HZ);have ny:=(zA tg).trans (eO.mono (by rw[zA iK];omega));have jn:=zC ((zA eC).trans (ny.mono (zA eC).size));have y5:w5.cell? ⟨b3,2,none⟩=some (.slice a bs.length c3):=(ny.cell (p:=⟨b3,2,none⟩) LL).trans y2;have u6:w5.cell? ⟨w4.heap.size,2,none⟩=some (.slice a4 BI.length c4):=by simp[World.cell?,z5]
 have kI:w4.heap.size<w5.heap.size:=by omega
 have wu:=zC (zA ks w5 ny);have wv:=zC (λ (W:W8) (hk:Below w5.heap.size w5 W)=>zA vm W (ny.trans (hk.mono ny.size)));clear ho eO vl ks vm eC tg HZ iK ny z5 y0 y2 g0 g1 Jk IA;generalize w4.heap.size=b4 at *;go_wp2_with fail;refine (zA wu).mono ?_;rintro e w6 ⟨ho,iA⟩;have he:=zs6 (zA wY) (by decide) (zA Ez).1 z0z ho;rw[(zk2 (zA Ez).2).2,if_neg (by simp)] at he;subst he;have y6:w6.cell? ⟨b3,2,none⟩=some (.slice a bs.length c3):=(iA.cell (p:=⟨b3,2,none⟩) (by show b3<_;omega)).trans y5;have mU:=zC ((zA jn).trans (iA.mono (zA jn).size));have wy:=zC (zA wv w6 iA);clear ho iA wu wv y5 u6 jn;go_wp2_with fail;refine (zA wy).mono ?_;rintro e w7 ⟨ho,mB⟩;have KW:=zC ((zA mU).trans (mB.mono (zA mU).size));obtain⟨v,he,Kc,uW,_⟩:=z0n (zA wY) (zA HW).1.mod z0z ho;have bG:¬ v=1:=λ h=>by
  have:=xB.2 (uW h);rw[(zk2 (zA HW).2).2] at this
  cases this
 have hv:v=2\/v=3:=by omega
 clear ho mB Kc uW bG y6 mU;subst he;rcases hv with rfl | rfl
 all_goals
  go_wp2_with fail;go_ret;exact⟨rfl,zA KW⟩
end
section
variable {t:Th} {ps:P9}
theorem zy9 {q:B8}(h:vM ps q=some t):tQ t:=by
 rw[zwy] at h
 split at h
 ·rename_i bX;obtain rfl:=Option.some.inj h;exact (zod bX).1
 ·cases h
variable {K:List (Th × Nat)} {m limit:Nat} {S:B8->Nat} {rs:List PR} {s:B8}
theorem z8i (h2:zz8 (zH s).2)(hg:∀ r∈rs,jZ (zH s).2 r)(hM:Mod s rs limit S m (some K))(ht:tQ t):yI t∈zkn K 4↔t∈K.map (·.1):=by
 have Gc:=hM.ti hg;unfold zkn;rw[List.mem_flatMap]
 constructor
 ·rintro⟨k,_,h⟩;unfold fV at h;rw[Nc] at h;obtain⟨p,hp,he⟩:=List.mem_map.1 h;have LX:=(List.mem_filter.1 hp).1;exact List.mem_map.2 ⟨p,LX,zjb (Gc p LX).w ht he⟩
 ·intro h;obtain⟨p,hp,rfl⟩:=List.mem_map.1 h;obtain⟨hl,i,hi,he⟩:=h2 _ _ (Gc p hp).num;refine⟨i,List.mem_range.2 hi,?_⟩;unfold fV;rw[Nc];refine List.mem_map.2 ⟨p,List.mem_filter.2 ⟨hp,?_⟩,rfl⟩;obtain⟨t,n⟩:=p;exact (yd4 hl n).2 he
theorem zw8 (h2:zz8 (zH s).2)(hg:∀ r∈rs,jZ (zH s).2 r)(hM:Mod s rs limit S m (some K))(ht:tQ t):yJ (yI t) (zkn K 4)=(z7 K t).isSome:=by
 rw[Bool.eq_iff_iff,zcw,z8i h2 hg hM ht,xB]
def thX (x:Nat):Th:=thK (x/16) (x%16/4) (x%16%4)
theorem z8e (x:Nat):yI (thX x)=zm0 (x/16) (x%16):=z8d _ _
theorem z38 (h:zz8 ps)(x:Nat):vM ps (zm0 (x/16) (x%16))=some (thX x):=ybq h _ _
end
section
open Go.RowKit Go.Maps
structure ycd (w:W8)(a:O8)(n:Nat)(X:Nat->Int):Prop where
 el:∀ i,i<n->∃ g off,a=some ⟨g,off,none⟩/\g<w.heap.size/\w.cell? ⟨g,off+i,none⟩=some (.int .i64 (X i))/\inR (X i)
structure yck (s:B8):Prop where
 ok:xJ s=(true,0,0)
 sz:s.size<=maxLen
 two:zz8 (zH s).2
 lvl:Lvl s
theorem z79 (R:Nat->Raw){n:Nat}(hn:n<=14):yck (aj (qC (λ i=>j7 (R i)) n)):=by
 have hL:∀ i,i<n->(j7 (R i)).Ok:=λ i _=>zri _ _ _ _
 refine⟨(zp5 _ n hn hL).1,?_,z8j hn hL,z6m hn hL⟩;have:=zdf (λ i=>j7 (R i)) n;rw[lP];unfold maxLen;omega
def ydy (s:B8)(rs:List PR)(sm:Bool)(zs:List B8):Prop:=∃ S m,if sm then ∃ K,Mod s rs 50 S m (some K)/\zs=zkn K 4 else Mod s rs 50 S m none
end
section
def zeg (Ls:List KL):List UInt8:=Ls.flatMap dZ
theorem zho:∀ Ls:List KL,(zeg Ls).length<=40*Ls.length
 | []=>Nat.zero_le _
 | L::r=>by
  have h1:=zlc L;have h2:=zho r;unfold zeg at *;rw[List.flatMap_cons,List.length_append,List.length_cons];omega
variable {Ls:List KL}
theorem zx7 (h:Ls≠[]):zeg Ls=zg9 (zay [32] [] (Ls.map KL.rule))++[32]:=by
 rw[zft [32] (Ls.map KL.rule) []]
 cases Ls with
 | nil=>exact absurd rfl h
 | cons L r=>
  unfold zeg;simp only[List.map_cons,List.nil_append,List.append_nil,List.flatMap_cons,List.flatMap_map];rfl
theorem zpk (h0:Ls≠[])(hn:Ls.length<=18)(hL:∀ L∈Ls,L.Ok):xJ (aj (zeg Ls))=(true,0,0)/\(zO (aj (zeg Ls))).2.2.1=Ls.map KL.rule:=by
 have hb:∀ c∈[(32:UInt8)],yH c.toNat=true:=λ c hc=>zqq c (.inl (List.mem_singleton.1 hc))
 have ad:∀ R∈Ls.map KL.rule,qE (λ _=>2) pT R/\zbb R:=λ R hR=>by
  obtain⟨L,hm,rfl⟩:=List.mem_map.1 hR;exact⟨KL.ic (hL L hm),KL.words _⟩
 refine zjc hb (by simp) hb (ar:=λ _=>2) (lv:=pT) ?_ (λ R hR=>(ad R hR).1) (λ R hR=>(ad R hR).2) ?_ (zx7 h0)
 ·rw[lP];have:=zho Ls;omega
 ·rw[List.length_map];omega
def ydo (x:B8):Prop:=∃ i,i<4/\x=yA (ae i)
theorem yax (k:Nat):ydo (yA (ae k)):=by
 match k with
 | 0=>exact⟨0,by decide,rfl⟩
 | 1=>exact⟨1,by decide,rfl⟩
 | 2=>exact⟨2,by decide,rfl⟩
 | 3=>exact⟨3,by decide,rfl⟩
 | k+4=>exact⟨0,by decide,rfl⟩
def NmK (s:B8):Prop:=∀ R∈(zO s).2.2.1,∀ t∈R.ts,t.1=false->ydo t.2
theorem KL.nm (L:KL):∀ t∈L.rule.ts,t.1=false->ydo t.2:=by
 cases L with
 | fact i j=>exact zN (λ _=>yax _) (λ _=>yax _)
 | rev h q x y=>exact zN (λ h=>by cases h) (λ h=>by cases h)
 | join h q r x y z=>exact zN (λ h=>by cases h) (λ h=>by cases h)
 | minus h q r x y=>exact zN (λ h=>by cases h) (λ h=>by cases h)
 | sX h q r x y n m=>exact zN (λ h=>by cases h) (λ _=>yax _)
theorem NG (h0:Ls≠[])(hn:Ls.length<=18)(hL:∀ L∈Ls,L.Ok):zz8 (zH (aj (zeg Ls))).2:=by
 obtain⟨h1,h2⟩:=zpk h0 hn hL;have hg:=zdo (s:=aj (zeg Ls)) (by rw[h1]);intro k m hk;rw[<-hg.met,h2] at hk;rcases zkc _ _ _ _ hk with h | h
 ·cases h
 ·obtain⟨R,hR,hx⟩:=List.mem_flatMap.1 h;obtain⟨L,hm,rfl⟩:=List.mem_map.1 hR;exact KL.atoms (hL L hm) _ hx
theorem z6k (h0:Ls≠[])(hn:Ls.length<=18)(hL:∀ L∈Ls,L.Ok):yck (aj (zeg Ls))/\NmK (aj (zeg Ls)):=by
 obtain⟨h1,h2⟩:=zpk h0 hn hL;refine⟨⟨h1,?_,NG h0 hn hL,pT,λ R hR=>?_,λ k=>?_⟩,λ R hR=>?_⟩
 ·have:=zho Ls;rw[lP];unfold maxLen;omega
 ·rw[h2] at hR;obtain⟨L,hm,rfl⟩:=List.mem_map.1 hR;have ho:=KL.ic (hL L hm);intro l hl;have h1:=ho.pos l hl;have h2:=ho.neg l hl
  split
  ·rename_i h;have:=h2 h;omega
  ·omega
 ·unfold pT
  split
  ·omega
  ·split
   ·omega
   ·split <;> omega
 ·rw[h2] at hR;obtain⟨L,hm,rfl⟩:=List.mem_map.1 hR;exact L.nm
theorem zja (L:Nat->KL)(n:Nat):qC L n=zeg (.fact 0 1::(List.range n).map L):=by
 unfold qC zeg;rw[List.flatMap_cons,List.flatMap_map];rfl
theorem zp6 (R:Nat->Raw)(n:Nat):∀ L∈KL.fact 0 1::(List.range n).map (λ i=>j7 (R i)),L.Ok:=λ L hL=>by
 rcases List.mem_cons.1 hL with rfl | hL
 ·exact⟨by decide,by decide⟩
 ·obtain⟨i,_,rfl⟩:=List.mem_map.1 hL;exact zri _ _ _ _
def yb5 (P:B8->Prop)(e:zX):Prop:=∀ v x,pAt e v=some x->P x
variable {P:B8->Prop}
theorem yec {e e':zX}{t:zb8}{n:B8}(hn:P n)(he:yb5 P e)(h:pmT e t n=some e'):yb5 P e':=by
 unfold pmT at h
 split at h
 ·unfold pmB at h
  split at h
  ·split at h
   ·cases h;exact he
   ·cases h
  ·cases h
   intro v x hx;rw[vc] at hx
   split at hx
   ·rename_i y hy
    cases hx
    exact he v _ hy
   ·split at hx
    ·cases hx;exact hn
    ·cases hx
 ·split at h
  ·cases h;exact he
  ·cases h
theorem z9d {P:B8->Prop}:∀ (ts:List zb8) (ns:List B8) (e e':zX),ts.length=ns.length->(∀ x∈ns,P x)->yb5 P e->zgz e ts ns=some e'->yb5 P e'
 | [],_,e,e',_,_,he,h=>by rw[zgz] at h;cases h;exact he
 | t::ts,[],_,_,hl,_,_,_=>by cases hl
 | t::ts,n::ns,e,e',hl,hn,he,h=>by
  rw[zgz] at h;simp only[List.headD_cons,List.tail_cons] at h
  cases h1:pmT e t n with
  | none=>rw[h1] at h;cases h
  | some e1=>
   rw[h1] at h;exact z9d ts ns e1 e' (by simpa using hl) (λ x hx=>hn x (List.mem_cons_of_mem _ hx)) (yec (hn n List.mem_cons_self) he h1) h
theorem zno {P:B8->Prop}{ps:P9}{K:List (Th × Nat)}(hK:∀ p∈K,eE ps p.1/\∀ x∈p.1.2,P x):∀ (pos:List yY) (e0 e:zX),(∀ a∈pos,zn8 ps a)->yb5 P e0->e∈zQ K pos e0->yb5 P e
 | [],e0,e,_,he,h=>by
  rw[zQ] at h;rw[List.mem_singleton.1 h];exact he
 | a::r,e0,e,ha,he,h=>by
  rw[zQ] at h;obtain⟨p,hp,h⟩:=List.mem_flatMap.1 h
  cases hm:zV e0 a p.1 with
  | none=>rw[hm] at h;simp at h
  | some e1=>
   rw[hm] at h;refine zno hK r e1 e (λ x hx=>ha x (List.mem_cons_of_mem _ hx)) ?_ h;unfold zV at hm
   split at hm
   ·rename_i c;have gG:a.p=p.1.1:=zU.1 c;have hl:a.ts.length=p.1.2.length:=by
     have h1:=(ha a List.mem_cons_self).num;rw[gG,(hK p hp).1.num] at h1;exact (Option.some.inj h1).symm
    exact z9d a.ts p.1.2 e0 e1 hl (hK p hp).2 he hm
   ·cases hm
variable {rs:List PR}
theorem z5w {ps:P9}(h:∀ r∈rs,jZ ps r)(hc:∀ r∈rs,∀ t∈r.R.ts,t.1=false->P t.2):eT rs (λ t=>eE ps t/\∀ x∈t.2,P x):=λ K hK r hr=>by
 have hC:=zeq h K (λ p hp=>(hK p hp).1) r hr;refine⟨hC.1,λ e he=>⟨hC.2 e he,λ x hx=>?_⟩⟩;have hE:=zno hK (zK r.bs) [] e (h r hr).pos (λ v x hx=>by cases hx) he;obtain⟨_,b⟩:=zci (λ p hp=>(hK p hp).1) (zK r.bs) [] e (h r hr).pos zo7 he;obtain⟨t,ht,rfl⟩:=List.mem_map.1 hx;unfold cd
 split
 ·rename_i hv;obtain⟨a,ha,zu⟩:=(h r hr).mP t ht hv;obtain⟨y,hy⟩:=b a ha t zu hv;unfold dr;rw[hy];exact hE _ _ hy
 ·rename_i hv;exact hc r hr t ht (by simpa using hv)
theorem Mod.nm {s:B8}{xb:Nat}{w:W8}{lo:Nat}(hP:bp s xb w lo rs)(hn:NmK s){limit:Nat}{S:B8->Nat}{m:Nat}{K:List (Th × Nat)}(hM:Mod s rs limit S m (some K)):∀ p∈K,eE (zH s).2 p.1/\∀ x∈p.1.2,ydo x:=
 zwu (z5w hP.dh λ r hr=>hn r.R (by rw[<-hP.rules];exact List.mem_map_of_mem hr)) hM.gJ (by simp) K rfl
theorem ydd {p i j:Nat}(hp:p<4)(hi:i<4)(hj:j<4):16*p+4*i+j<64/\thX (16*p+4*i+j)=thK p i j:=by
 have h1:(16*p+4*i+j)/16=p:=by omega
 have h2:(16*p+4*i+j)%16/4=i:=by omega
 have h3:(16*p+4*i+j)%16%4=j:=by omega
 refine⟨by omega,?_⟩;unfold thX;rw[h1,h2,h3]
end
section
open Go.RowKit
def zj7 (K:List (Th × Nat))(A:yY):List B8:=(zcp ((K.filter (zk8 A)).map λ p=>yI p.1)).map aj
theorem z1b {K K':List (Th × Nat)}(h:K.Perm K')(A:yY):zj7 K A=zj7 K' A:=by
 unfold zj7;rw[zfv ((h.filter _).map _)]
theorem zse {s:B8}{rs:List PR}{w w':W8}{q:B8}{limit:Nat}(jz:1<=limit)(hl:limit<=50){A:yY}(hA:vF (zH s).2 q=some A){e:Ending}(hE:zms w rs (zH s).2 q (limit:Nat) w' e):
  (∃ S m,Mod s rs limit S m none/\e=.returned (.tuple #[.slice none 0 0,.int .i64 7]))\/∃ S m K a c,Mod s rs limit S m (some K)/\(K.map (·.1)).Nodup/\e=.returned (.tuple #[.slice a (zj7 K A).length c,.int .i64 0])/\qd w' a c (zj7 K A):=by
 have oo:qX (limit:Nat)=true:=by unfold qX;simp;omega
 have Ds:((limit:Nat):Int).toNat=limit:=by simp
 cases hE with
 | arg h=>rw[oo] at h;cases h
 | ask _ hn=>rw[hA] at hn;cases hn
 | fk _ h1 hv fN hc dj=>
  rw[Ds] at dj;exact .inl ⟨_,_,⟨hv,fN,hc,dj⟩,rfl⟩
 | @yes A' S m K ys a c _ h1 hv fN hc dj dB dC aE=>
  rw[Ds] at dj;rw[hA] at h1;obtain rfl:=Option.some.inj h1;have Dz:(zcp ys).map aj=zj7 K A:=by unfold zj7;rw[zfv dC]
  have Dy:ys.length=(zj7 K A).length:=by rw[<-Dz,zl8]
  rw[z0x,Dz,Dy] at aE;exact .inr ⟨S,m,K,a,c,⟨hv,fN,hc,dj⟩,dB,by rw[Dy],qd.ib aE⟩
end
section
theorem z8f (x:Nat):tQ (thX x):=zy9 (z38 (ps:=[]) (λ k n h=>by cases h) x)
variable {p c:Nat}
theorem ybp (hc:c<16):yI (thX (16*p+c))=zm0 p c:=by
 rw[z8e,show (16*p+c)/16=p by omega,show (16*p+c)%16=c by omega]
def inX (K:List (Th × Nat))(p c:Nat):Bool:=(z7 K (thX (16*p+c))).isSome
theorem z5l {s:B8}{rs:List PR}(h2:zz8 (zH s).2)(hg:∀ r∈rs,jZ (zH s).2 r){limit:Nat}{S:B8->Nat}{m:Nat}{K:List (Th × Nat)}(hM:Mod s rs limit S m (some K))(hc:c<16):yJ (zm0 p c) (zkn K 4)=inX K p c:=by
 have:=zw8 h2 hg hM (z8f (16*p+c))
 rwa [ybp hc] at this
theorem zwf (c d:UInt8):((yA c).toList==(yA d).toList)=(c==d):=by
 rw[ByteArray.toList_eq,ByteArray.toList_eq]
 show ([c]==[d])=(c==d)
 simp
theorem yc7:∀ a,a<4->∀ b,b<4->(ae a==ae b)=decide (a=b):=by decide
end
section
inductive Der (rs:List PR)(N:Th->Prop):Th->Prop
 | mk {r:PR} {e:zX} {ts:List Th}:r∈rs->pmL (zK r.bs) ts []=some e->(∀ u∈ts,Der rs N u)->(∀ x∈xU r.bs,¬ N (zT e x))->Der rs N (zT e (vJ r))
structure fq (rs:List PR)(T:Th->Prop):Prop where
 ME:∀ t,T t->Der rs T t
 closed:∀ r∈rs,∀ e ts,pmL (zK r.bs) ts []=some e->(∀ u∈ts,T u)->(∀ x∈xU r.bs,¬ T (zT e x))->T (zT e (vJ r))
variable {T:Th->Prop} {rs:List PR}
theorem fq.GO (h:fq rs T){t:Th}(ht:T t):∃ r∈rs,∃ e ts,pmL (zK r.bs) ts []=some e/\zT e (vJ r)=t/\(∀ u∈ts,T u)/\∀ x∈xU r.bs,¬ T (zT e x):=by
 have up:∀ t,Der rs T t->T t:=λ t hd=>by
  induction hd with
  | mk hr hm _ hn ih=>exact h.closed _ hr _ _ hm ih hn
 cases h.ME t ht with
 | mk hr hm hd hn=>exact⟨_,hr,_,_,hm,rfl,λ u hu=>up u (hd u hu),hn⟩
theorem ycv (e:zX)(a:yY):(zT e a).p=a.p:=rfl
variable {S:B8->Nat}
theorem z19 (hp:∀ r∈rs,∀ a∈zK r.bs,S a.p<=S r.R.pd)(hn:∀ r∈rs,∀ a∈xU r.bs,S a.p<S r.R.pd){T':Th->Prop}(h:fq rs T)(h':fq rs T'):∀ t,T t↔T' t:=by
 have one:∀ {T T':Th->Prop} (s:Nat),fq rs T->fq rs T'->(∀ t:Th,S t.p<s->(T t↔T' t))->∀ t:Th,Der rs T t->S t.p=s->T' t:=λ {T T'} s h h' ih t hd=>by
  induction hd with
  | @mk r e ts hr hm ad eH ihd=>
   intro hs;have hs:S r.R.pd=s:=hs;have sR:∀ t,Der rs T t->T t:=λ t hd=>by
    induction hd with
    | mk hr hm _ hn ih=>exact h.closed _ hr _ _ hm ih hn
   refine h'.closed r hr e ts hm (λ u hu=>?_) (λ x hx hT=>?_)
   ·obtain⟨a,ha,e1⟩:=zfr hm u hu;have:=hp r hr a ha;rw[e1] at this
    by_cases bP:S u.p<s
    ·exact (ih u bP).1 (sR u (ad u hu))
    ·exact ihd u hu (by omega)
   ·have:=hn r hr x hx;refine eH x hx ((ih (zT e x) ?_).2 hT);rw[ycv];omega
 have all:∀ s,∀ t:Th,S t.p<s->(T t↔T' t):=λ s=>by
  induction s with
  | zero=>intro t h;omega
  | succ s ih=>
   intro t hs
   by_cases bP:S t.p<s
   ·exact ih t bP
   ·have e:S t.p=s:=(by omega);exact⟨λ ht=>one s h h' ih t (h.ME t ht) e,λ ht=>one s h' h (λ t ht=>(ih t ht).symm) t (h'.ME t ht) e⟩
 exact λ t=>all _ t (Nat.lt_succ_self _)
def yap (K:List (Th × Nat))(t:Th):Prop:=t∈K.map (·.1)
variable {K:List (Th × Nat)}
theorem z8n {n:Nat}(h:zvb rs S n 1 K)(ad:∀ r∈rs,S r.R.pd<n):fq rs (yap K):=by
 refine⟨?_,λ r hr e ts hm jh eH=>h.closed r hr (ad r hr) e (ze7.2 ⟨⟨ts,hm,jh⟩,eH⟩)⟩;have key:∀ s,∀ j,∀ p∈K,S p.1.p=s->p.2<=j->Der rs (yap K) p.1:=λ s=>by
  induction s using Nat.strongRecOn with
  | _ s ihs=>
   intro j
   induction j with
   | zero=>intro p hp _ h2;have:=h.pos p hp;omega
   | succ j ihj=>
    intro p hp h1 h2;obtain⟨r,hr,hS,e,ts,hm,hf,jh,eH⟩:=h.each p hp;rw[<-hf];refine .mk hr hm (λ u hu=>?_) eH;obtain⟨q,hq,rfl,bP⟩:=jh u hu;rcases bP with bP | ⟨he,bP⟩
    ·exact ihs _ (by omega) q.2 q hq rfl L9
    ·exact ihj q hq (by omega) (by omega)
 intro t ht;obtain⟨p,hp,rfl⟩:=List.mem_map.1 ht;exact key _ _ p hp rfl L9
theorem Mod.L8 {s:B8}{xb:Nat}{w:W8}{lo:Nat}(hP:bp s xb w lo rs){limit m:Nat}(hM:Mod s rs limit S m (some K)):fq rs (yap K):=by
 obtain⟨n,hn,hw⟩:=hM.GO hP.cg;refine z8n hw λ r hr=>?_
 have ak:r.R∈(zO s).2.2.1:=by rw[<-hP.rules];exact List.mem_map_of_mem hr
 obtain⟨k,hk⟩:=((zdo hP.ok).named r.R ak).1;have:=hM.count.1 r.R.pd (by rw[hk];rfl);omega
end
section
open Go.RowKit Go.Maps
def z5j (w:W8)(e:Ending)(w':W8):Prop:=e=.returned (.bool true)/\Below w.heap.size w w'
end
section
open Go.RowKit Go.Maps
theorem ziy {s:B8}{rs:List PR}(cT:∀ r∈rs,r.bs.map (·.1)=r.R.body){S:B8->Nat}{m:Nat}{K:List (Th × Nat)}(hK:Mod s rs 50 S m (some K)){w w':W8}{q:B8}{A:yY}(hA:vF (zH s).2 q=some A){e:Ending}(hE:zms w rs (zH s).2 q 50 w' e):∃ a c,e=.returned (.tuple #[.slice a (zj7 K A).length c,.int .i64 0])/\qd w' a c (zj7 K A):=by
 rcases zse (limit:=50) (by decide) (by decide) hA hE with⟨S',m',hM,rfl⟩ | ⟨S',m',K',a,c,hM,_,rfl,hT⟩
 ·obtain⟨_,_,⟨e,_⟩ | ⟨_,_,_,e,_,_⟩⟩:=hK.uniq cT hM
  ·cases e
  ·cases e
 ·obtain⟨_,_,⟨e,_⟩ | ⟨_,_,e1,e2,e3,_⟩⟩:=hK.uniq cT hM
  ·cases e
  ·obtain rfl:=Option.some.inj e1;obtain rfl:=Option.some.inj e2;rw[z1b e3];exact⟨a,c,rfl,hT⟩
end
section
def zzB:B8:={ data:=#[122,122] }
def yyB:B8:={ data:=#[121,121] }
def xxB:B8:={ data:=#[120,120] }
def wwB:B8:={ data:=#[119,119] }
def vX:Bool × B8:=(true,yA 88)
def vY:Bool × B8:=(true,yA 89)
def vZ:Bool × B8:=(true,yA 90)
def fo:yG:=⟨zzB,[vX,vY],[⟨false,fl 3,[vY,vX]⟩]⟩
def fh:yG:=⟨yyB,[vX,vZ],[⟨false,fl 1,[vX,vY]⟩,⟨false,fl 2,[vY,vZ]⟩]⟩
def fg:yG:=⟨xxB,[vX,vY],[⟨false,fl 0,[vX,vY]⟩,⟨true,fl 3,[vX,vY]⟩]⟩
def ff:yG:=⟨wwB,[vX],[⟨false,fl 0,[vX,vX]⟩]⟩
def ze8:List yG:=[fo,fh,fg,ff]
def zip:List UInt8:=[122,122,40,88,44,89,41,32,58,45,32,104,40,89,44,88,41,46,32,121,121,40,88,44,90,41,32,58,45,32,102,40,88,44,89,41,44,32,103,40,89,44,90,41,46,32,120,120,40,88,44,89,41,32,58,45,32,101,40,88,44,89,41,44,32,110,111,116,32,104,40,88,44,89,41,46,32,119,119,40,88,41,32,58,45,32,101,40,88,44,88,41,46,32]
def arC (k:B8):Nat:=if k=wwB then 1 else 2
def lvC (k:B8):Nat:=if k=zzB then 3 else if k=yyB then 3 else if k=xxB then 4 else if k=wwB then 0 else pT k
theorem yeb:∀ i,i<4->arC (fl i)=2/\lvC (fl i)=pT (fl i):=by decide
theorem KL.mu {L:KL}(h:L.Ok):qE arC lvC L.rule:=by
 have ho:=KL.ic h;have ha:=KL.atoms h;obtain⟨_,i,hi,e⟩:=ha (L.rule.pd,L.rule.ts.length) List.mem_cons_self;have e:L.rule.pd=fl i:=e;have hb:∀ l∈L.rule.body,arC l.pd=2/\lvC l.pd=pT l.pd:=λ l hl=>by
  obtain⟨_,j,hj,e⟩:=ha (l.pd,l.ts.length) (List.mem_cons_of_mem _ (List.mem_map.2 ⟨l,hl,rfl⟩));have e:l.pd=fl j:=e;rw[e];exact yeb j hj
 have hh:arC L.rule.pd=2/\lvC L.rule.pd=pT L.rule.pd:=by rw[e];exact yeb i hi
 refine⟨ho.f,by rw[hh.1];exact ho.hd,λ l hl=>by rw[(hb l hl).1];exact ho.ls l hl,ho.safe,ho.mQ,λ l hl=>by rw[(hb l hl).2,hh.2];exact ho.pos l hl,λ l hl hn=>by rw[(hb l hl).2,hh.2];exact ho.neg l hl hn⟩
theorem zgi:jH (zbe vX).1 (zbe vX).2:=zea (by decide)
theorem zmf:jH (zbe vY).1 (zbe vY).2:=zea (by decide)
theorem z9k:jH (zbe vZ).1 (zbe vZ).2:=zea (by decide)
variable {c:UInt8}
theorem zfk (h:jJ c.toNat=true):jH 2 [c,c]:=.name (by simp) (by simp) (zN h h) (by simp)
theorem yeo:qE arC lvC fo/\zbb fo:=by
 refine⟨⟨⟨by simp[fo],by simp[fo],by simp[fo]⟩,by decide,vN (by decide),?_,vN (λ h=>by cases h),vN (by decide),vN (λ h=>by cases h)⟩,⟨zfk (by decide),zN zgi zmf,vN (qY 3),vN (zN zmf zgi)⟩⟩;exact zN (λ _=>⟨_,List.mem_cons_self,rfl,by simp⟩) (λ _=>⟨_,List.mem_cons_self,rfl,by simp⟩)
theorem yen:qE arC lvC fh/\zbb fh:=by
 refine⟨⟨⟨by simp[fh],by simp[fh],by simp[fh]⟩,by decide,zN (by decide) (by decide),?_,zN (λ h=>by cases h) (λ h=>by cases h),zN (by decide) (by decide),zN (λ h=>by cases h) (λ h=>by cases h)⟩,⟨zfk (by decide),zN zgi z9k,zN (qY 1) (qY 2),zN (zN zgi zmf) (zN zmf z9k)⟩⟩;exact zN (λ _=>⟨_,List.mem_cons_self,rfl,by simp⟩) (λ _=>⟨_,List.mem_cons_of_mem _ List.mem_cons_self,rfl,by simp⟩)
theorem yem:qE arC lvC fg/\zbb fg:=by
 refine⟨⟨⟨by simp[fg],by simp[fg],by simp[fg]⟩,by decide,zN (by decide) (by decide),?_,zN (λ h=>by cases h) (λ _=>?_),zN (by decide) (by decide),zN (λ h=>by cases h) (λ _=>by decide)⟩,⟨zfk (by decide),zN zgi zmf,zN (qY 0) (qY 3),zN (zN zgi zmf) (zN zgi zmf)⟩⟩
 ·exact zN (λ _=>⟨_,List.mem_cons_self,rfl,by simp⟩) (λ _=>⟨_,List.mem_cons_self,rfl,by simp⟩)
 ·exact zN (λ _=>⟨_,List.mem_cons_self,rfl,by simp⟩) (λ _=>⟨_,List.mem_cons_self,rfl,by simp⟩)
theorem yel:qE arC lvC ff/\zbb ff:=by
 refine⟨⟨⟨by simp[ff],by simp[ff],by simp[ff]⟩,by decide,vN (by decide),vN (λ _=>⟨_,List.mem_cons_self,rfl,by simp⟩),vN (λ h=>by cases h),vN (by decide),vN (λ h=>by cases h)⟩,⟨zfk (by decide),vN zgi,vN (qY 0),vN (zN zgi zgi)⟩⟩
theorem z17:∀ R∈ze8,qE arC lvC R/\zbb R:=λ R hR=>by
 rcases List.mem_cons.1 hR with rfl | hR
 ·exact yeo
 rcases List.mem_cons.1 hR with rfl | hR
 ·exact yen
 rcases List.mem_cons.1 hR with rfl | hR
 ·exact yem
 rw[List.mem_singleton.1 hR];exact yel
theorem z18:zip=ze8.flatMap λ R=>zg9 (zah [] R)++[32]:=by rfl
variable {Ls:List KL}
theorem zky (h0:Ls≠[])(hn:Ls.length<=14)(hL:∀ L∈Ls,L.Ok):xJ (aj (zeg Ls++zip))=(true,0,0)/\(zO (aj (zeg Ls++zip))).2.2.1=Ls.map KL.rule++ze8:=by
 have hb:∀ c∈[(32:UInt8)],yH c.toNat=true:=λ c hc=>zqq c (.inl (List.mem_singleton.1 hc))
 have ad:∀ R∈Ls.map KL.rule++ze8,qE arC lvC R/\zbb R:=λ R hR=>by
  rcases List.mem_append.1 hR with hR | hR
  ·obtain⟨L,hm,rfl⟩:=List.mem_map.1 hR;exact⟨KL.mu (hL L hm),KL.words _⟩
  ·exact z17 R hR
 refine zjc hb (by simp) hb (ar:=arC) (lv:=lvC) ?_ (λ R hR=>(ad R hR).1) (λ R hR=>(ad R hR).2) ?_ ?_
 ·rw[lP,List.length_append];have:=zho Ls;have:zip.length=94:=rfl;omega
 ·rw[List.length_append,List.length_map];have:ze8.length=4:=rfl;omega
 ·show zeg Ls++zip=_
  rw[zft [32] (Ls.map KL.rule++ze8) [],z18]
  cases Ls with
  | nil=>exact absurd rfl h0
  | cons L r=>
   unfold zeg;rw[show dZ=λ L:KL=>zg9 (zah [] L.rule)++[32] from rfl];simp only[List.map_cons,List.cons_append,List.nil_append,List.append_nil,List.flatMap_cons,List.flatMap_append,List.flatMap_map,List.append_assoc]
theorem zqx (h0:Ls≠[])(hn:Ls.length<=14)(hL:∀ L∈Ls,L.Ok){k:B8}{n:Nat}(hk:zZ (zH (aj (zeg Ls++zip))).2 k=some n):n=arC k:=by
 obtain⟨h1,h2⟩:=zky h0 hn hL;have hg:=zdo (s:=aj (zeg Ls++zip)) (by rw[h1]);rw[<-hg.met,h2] at hk;have ad:∀ R∈Ls.map KL.rule++ze8,qE arC lvC R:=λ R hR=>by
  rcases List.mem_append.1 hR with hR | hR
  ·obtain⟨L,hm,rfl⟩:=List.mem_map.1 hR;exact KL.mu (hL L hm)
  ·exact (z17 R hR).1
 rcases zkc _ _ _ _ hk with h | h
 ·cases h
 ·obtain⟨R,hR,hx⟩:=List.mem_flatMap.1 h;have ho:=ad R hR;rcases List.mem_cons.1 hx with e | e
  ·have e1:k=R.pd:=congrArg Prod.fst e;have e2:n=R.ts.length:=congrArg Prod.snd e;rw[e1,e2];exact ho.hd
  ·obtain⟨l,hl,e⟩:=List.mem_map.1 e;have e1:l.pd=k:=congrArg Prod.fst e;have e2:l.ts.length=n:=congrArg Prod.snd e;rw[<-e1,<-e2];exact ho.ls l hl
def zpx (R:yG):PR:=⟨R,.bool false,R.body.map λ l=>(l,.bool false),.bool false⟩
theorem zud (R:yG):(zpx R).bs.map (·.1)=(zpx R).R.body:=by
 unfold zpx;simp[List.map_map,Function.comp_def]
theorem zyo {r:PR}(hr:r.bs.map (·.1)=r.R.body){R:yG}(h:r.R=R):zK r.bs=zK (zpx R).bs/\xU r.bs=xU (zpx R).bs/\vJ r=vJ (zpx R):=⟨zwn hr (zud R) h,zwb hr (zud R) h,z6f h⟩
theorem zdy (c d:UInt8)(a:B8)(r:zX):pAt ((yA c,a)::r) (yA d)=if c==d then some a else pAt r (yA d):=by
 rw[pAt];simp only[zwf]
theorem pm2 (e:zX)(P pd:B8)(t u:Bool × B8)(a b:B8):zV e ⟨P,[t,u]⟩ (pd,[a,b])=if P.toList==pd.toList then (match pmT e t a with | some e1=>(match pmT e1 u b with | some e2=>some e2 | none=>none) | none=>none) else none:=rfl
variable {v a:B8} {e:zX}
theorem ziw (h:pAt e v=none):pmT e (true,v) a=some (e++[(v,a)]):=by unfold pmT pmB;rw[if_pos rfl,h]
theorem z2w {x:B8}(h:pAt e v=some x):pmT e (true,v) a=if x.toList==a.toList then some e else none:=by unfold pmT pmB;rw[if_pos rfl,h]
variable {t:Th}
theorem zmh (h:t.2.length=2):∃ a b,t=(t.1,[a,b]):=by
 obtain⟨p,ts⟩:=t
 match ts,h with
 | [a,b],_=>exact⟨a,b,rfl⟩
variable {d:UInt8}
theorem zuc (MW:c≠d){P:B8}(hl:t.1=P->t.2.length=2)(h:zV [] ⟨P,[(true,yA c),(true,yA d)]⟩ t=some e):∃ a b,t=(P,[a,b])/\e=[(yA c,a),(yA d,b)]:=by
 have hp:P=t.1:=by
  unfold zV at h
  split at h
  ·rename_i hx;exact zU.1 hx
  ·cases h
 obtain⟨a,b,e1⟩:=zmh (hl hp.symm);rw[<-hp] at e1;refine⟨a,b,e1,?_⟩;rw[e1,pm2,if_pos (zU.2 rfl),ziw (show pAt [] (yA c)=none from rfl)] at h;simp only[List.nil_append] at h;rw[ziw (show pAt [(yA c,a)] (yA d)=none by rw[zdy,if_neg (by simpa using MW)];rfl)] at h;exact (Option.some.inj h).symm
theorem zwm (MW:c≠d)(P a b:B8):zV [] ⟨P,[(true,yA c),(true,yA d)]⟩ (P,[a,b])=some [(yA c,a),(yA d,b)]:=by
 rw[pm2,if_pos (zU.2 rfl),ziw (show pAt [] (yA c)=none from rfl)];simp only[List.nil_append];rw[ziw (show pAt [(yA c,a)] (yA d)=none by rw[zdy,if_neg (by simpa using MW)];rfl)];rfl
end
section
def gP (x y:Nat):B8:=aj [101,40,ae x,44,ae y,41]
theorem zvu (x y:Nat):({ data:=#[101,40] }:B8)++yA (ae x)++{ data:=#[44] }++yA (ae y)++{ data:=#[41] }=gP x y:=by
 apply ByteArray.ext;simp only[ByteArray.data_append];rfl
theorem yaf (i:Nat):gP (i/4) (i%4)=zm0 0 i:=rfl
def qG (R:Nat->Raw):Nat->List B8
 | 0=>[gP 0 1]
 | k+1=>qG R k++if zF (R k).1 8<4 then [gP (zF (R k).2.1 4) (zF (R k).2.2.1 4)] else []
theorem zs4 (R:Nat->Raw):∀ k,(qG R k).length<=k+1
 | 0=>by simp[qG]
 | k+1=>by
  have:=zs4 R k;rw[qG,List.length_append]
  split <;> simp <;> omega
variable {k:Nat} {R:Nat->Raw}
theorem z4m (h:zF (R k).1 8<4):qG R (k+1)=qG R k++[gP (zF (R k).2.1 4) (zF (R k).2.2.1 4)]:=by rw[qG,if_pos h]
theorem N1 (h:¬ zF (R k).1 8<4):qG R (k+1)=qG R k:=by rw[qG,if_neg h,List.append_nil]
theorem zw3 (R:Nat->Raw)(t:B8):∀ k,t∈qG R k↔∃ i j,KL.fact i j∈KL.fact 0 1::(List.range k).map (λ i=>j7 (R i))/\t=gP i j
 | 0=>by
  rw[qG,List.mem_singleton]
  constructor
  ·rintro rfl;exact⟨0,1,List.mem_cons_self,rfl⟩
  ·rintro⟨i,j,h,rfl⟩;rcases List.mem_cons.1 h with h | h
   ·injection h with e1 e2;rw[e1,e2]
   ·simp at h
 | k+1=>by
  have ih:=zw3 R t k;have mr:∀ i j,KL.fact i j=j7 (R k)↔zF (R k).1 8<4/\i=zF (R k).2.1 4/\j=zF (R k).2.2.1 4:=λ i j=>by
   unfold j7 zrh
   by_cases h:zF (R k).1 8<4
   ·rw[if_pos h]
    constructor
    ·intro e;injection e with e1 e2;exact⟨h,e1,e2⟩
    ·rintro⟨_,rfl,rfl⟩;rfl
   ·rw[if_neg h];refine⟨λ e=>?_,λ e=>absurd e.1 h⟩
    split at e
    ·cases e
    ·split at e
     ·cases e
     ·split at e <;> cases e
  rw[qG,List.mem_append,ih,List.range_succ,List.map_append]
  constructor
  ·rintro (⟨i,j,h,e⟩ | h)
   ·refine⟨i,j,?_,e⟩;rcases List.mem_cons.1 h with h | h
    ·rw[h];exact List.mem_cons_self
    ·exact List.mem_cons_of_mem _ (List.mem_append_left _ h)
   ·split at h
    ·rename_i hk;exact⟨_,_,List.mem_cons_of_mem _ (List.mem_append_right _ (List.mem_map.2 ⟨k,List.mem_singleton.2 rfl,((mr _ _).2 ⟨hk,rfl,rfl⟩).symm⟩)),List.mem_singleton.1 h⟩
    ·cases h
  ·rintro⟨i,j,h,e⟩;rcases List.mem_cons.1 h with h | h
   ·exact .inl ⟨i,j,by rw[h];exact List.mem_cons_self,e⟩
   ·rcases List.mem_append.1 h with h | h
    ·exact .inl ⟨i,j,List.mem_cons_of_mem _ h,e⟩
    ·obtain⟨k',sl,e'⟩:=List.mem_map.1 h;rw[List.mem_singleton.1 sl] at e';obtain⟨h1,h2,h3⟩:=(mr i j).1 e'.symm
     right
     rw[if_pos h1,e,h2,h3];exact List.mem_singleton.2 rfl
end
section
open Go.RowKit Go.Maps
theorem Nd.pW {s:B8}{rs:List PR}{w:W8}{e:Ending}{w':W8}(h:Nd s rs w e w'):∃ a c zs sm,e=.returned (.tuple #[.slice a zs.length c,.bool sm])/\qd w' a c zs/\ydy s rs sm zs/\(sm=false->zs=[])/\Below w.heap.size w w':=by
 obtain⟨hb,S,m,r,hM,⟨rfl,rfl⟩ | ⟨K,a,c,rfl,hK,rfl,aE⟩⟩:=h
 ·exact⟨none,0,[],false,rfl,⟨Nat.le_refl _,by unfold maxLen;omega,λ j hj=>by simp at hj⟩,⟨S,m,hM⟩,λ _=>rfl,hb⟩
 ·exact⟨a,c,zkn K 4,true,rfl,qd.ib aE,⟨S,m,K,hM,rfl⟩,(λ e=>by cases e),hb⟩
end
section
open Go.ChangeShapes Go.WideShapes Go.ChangeAt Go.RowKit Go.Deep
theorem zm5:Tryz.prog.cellsOf 44=4:=by kernel_rfl
variable {g off:Nat}
theorem zvc (i:Nat):(⟨g,off,none⟩:Addr).add i=⟨g,off+i,none⟩:=by unfold Addr.add;split <;> simp_all
variable {p:List MemPlace} {len cap:Nat} {a0:O8} {W:W8} {H:Type}
theorem yc8 {enc:TypeId × Value->H}{d0:DataW H}(h0:DataW.Trod enc Tryz.prog W 0 (λ _=>true) true 24 (.slice a0 len cap) d0 p):len<=cap/\cap<=maxLen/\∃ X:Nat->Int,ycd W a0 len X:=by
 obtain⟨fuel,hf⟩:=h0;rcases open_slice1 Tryz.underlying24 zqv hf with⟨eZ,_⟩ | ⟨a,DF,oI,m,n,V,D,Pl,eZ,_,hl,hm,bD,hx,kF⟩
 ·simp[Value.cells] at eZ;obtain⟨rfl,rfl,rfl⟩:=eZ;exact⟨Nat.le_refl _,by unfold maxLen;omega,λ _=>0,⟨λ i hi=>by omega⟩⟩
 ·simp[Value.cells] at eZ;obtain⟨rfl,rfl,rfl⟩:=eZ;refine⟨hl,hm,?_⟩;have ed:len<=m:=by rw[bD];split <;> omega
  have each:∀ i,i<len->∃ k:Int,V i=.int .i64 k/\inR k:=λ i hi=>by
   obtain⟨k,e1,_,r⟩:=DataW.trod_int Tryz.underlying3 (kF i (by omega)).2;injection e1 with e1
   exact⟨k,e1,Mm r⟩
  refine⟨λ i=>if h:i<len then Classical.choose (each i h) else 0,⟨λ i hi=>?_⟩⟩;have hc:=Classical.choose_spec (each i hi);obtain⟨g,off,sp⟩:=a;have AG:sp=none:=by
   have:=World.cell?_spot (kF 0 (by omega)).1;simpa[Addr.add] using this
  subst AG;have h1:=(kF i (by omega)).1;rw[zvc] at h1;simp only[dif_pos hi];exact⟨g,off,rfl,World.block_lt_of_cell? W _ h1,h1.trans (congrArg some hc.1),hc.2⟩
theorem z2h {enc:TypeId × Value->H}{base n:Nat}{cs:V8}{x:DataW H × List MemPlace}{spare:Nat->Bool}{held:Bool}(hc:W.cells? base ⟨g,off,none⟩ 4=some cs)(ht:DataW.trod enc Tryz.prog W base spare held n 44 cs=some x):
  ∃ r:Raw,W.cell? ⟨g,off,none⟩=some (.int .i64 r.1)/\W.cell? ⟨g,off+1,none⟩=some (.int .i64 r.2.1)/\W.cell? ⟨g,off+2,none⟩=some (.int .i64 r.2.2.1)/\W.cell? ⟨g,off+3,none⟩=some (.int .i64 r.2.2.2)/\z5a r:=by
 obtain⟨_,LI,dV⟩:=World.cells?_some hc;obtain⟨xs,m,_,hxe,hlen,LY,hf⟩:=DataW.trod_struct Tryz.underlying44 ht;obtain⟨c0,c1,c2,c3,rfl⟩:∃ c0 c1 c2 c3,cs=[c0,c1,c2,c3]:=by
  match cs,LI with
  | [c0,c1,c2,c3],_=>exact⟨c0,c1,c2,c3,rfl⟩
 obtain⟨y0,y1,y2,y3,rfl⟩:∃ y0 y1 y2 y3,xs=[y0,y1,y2,y3]:=by
  match xs,LY with
  | [y0,y1,y2,y3],_=>exact⟨y0,y1,y2,y3,rfl⟩
 have f0 := hf 0 { name := "Kind", type := 3, offset := 0, embedded := false, tag := "", pkgPath := "", byteOffset := 0 } rfl;have f1 := hf 1 { name := "A", type := 3, offset := 1, embedded := false, tag := "", pkgPath := "", byteOffset := 8 } rfl;have f2 := hf 2 { name := "B", type := 3, offset := 2, embedded := false, tag := "", pkgPath := "", byteOffset := 16 } rfl;have f3 := hf 3 { name := "C", type := 3, offset := 3, embedded := false, tag := "", pkgPath := "", byteOffset := 24 } rfl;simp only[zqv,List.drop_zero,List.drop_succ_cons,List.take_succ_cons,List.take_zero,List.getElem?_cons_zero,List.getElem?_cons_succ] at f0 f1 f2 f3;obtain⟨k0,e0,_,r0⟩:=DataW.trod_int Tryz.underlying3 f0;obtain⟨k1,e1,_,r1⟩:=DataW.trod_int Tryz.underlying3 f1;obtain⟨k2,e2,_,r2⟩:=DataW.trod_int Tryz.underlying3 f2;obtain⟨k3,e3,_,r3⟩:=DataW.trod_int Tryz.underlying3 f3;injection e0 with e0
 injection e1 with e1
 injection e2 with e2
 injection e3 with e3
 subst e0 e1 e2 e3;have d0:=dV 0 (by omega);have d1:=dV 1 (by omega);have d2:=dV 2 (by omega);have d3:=dV 3 (by omega);simp only[Addr.add,List.getElem?_cons_zero,List.getElem?_cons_succ] at d0 d1 d2 d3;exact⟨(k0,k1,k2,k3),by simpa using d0,by simpa using d1,by simpa using d2,by simpa using d3,⟨Mm r0,Mm r1,Mm r2,Mm r3⟩⟩
theorem zye {enc:TypeId × Value->H}{d0:DataW H}(h0:DataW.Trod enc Tryz.prog W 0 (λ _=>true) true 28 (.slice a0 len cap) d0 p):len<=cap/\cap<=maxLen/\∃ R:Nat->Raw,wW W a0 len R:=by
 obtain⟨fuel,hf⟩:=h0;rcases open_slice Tryz.underlying28 hf with⟨eZ,_⟩ | ⟨a,DF,oI,m,n,D,Pl,eZ,_,hl,hm,bD,hx,kF⟩
 ·simp[Value.cells] at eZ;obtain⟨rfl,rfl,rfl⟩:=eZ;exact⟨Nat.le_refl _,by unfold maxLen;omega,λ _=>(0,0,0,0),⟨λ i hi=>by omega⟩⟩
 ·simp[Value.cells] at eZ;obtain⟨rfl,rfl,rfl⟩:=eZ;refine⟨hl,hm,?_⟩;have ed:len<=m:=by rw[bD];split <;> omega
  obtain⟨g,off,sp⟩:=a;have AG:0<len->sp=none:=λ h=>by
   obtain⟨BU,hc,_⟩:=kF 0 (by omega);rw[zm5] at hc;obtain⟨_,LI,dV⟩:=World.cells?_some hc;obtain⟨c0,r,rfl⟩:∃ c0 r,BU=c0::r:=by
    match BU,LI with
    | c0::r,_=>exact⟨c0,r,rfl⟩
   have K5:=dV 0 (by omega);simpa[Addr.add] using World.cell?_spot K5
  have each:∀ i,i<len->∃ r:Raw,W.cell? ⟨g,off+i*4,none⟩=some (.int .i64 r.1)/\W.cell? ⟨g,off+i*4+1,none⟩=some (.int .i64 r.2.1)/\W.cell? ⟨g,off+i*4+2,none⟩=some (.int .i64 r.2.2.1)/\W.cell? ⟨g,off+i*4+3,none⟩=some (.int .i64 r.2.2.2)/\z5a r:=by
   intro i hi;obtain⟨BU,hc,ht⟩:=kF i (by omega);rw[zm5] at hc;have hs:=AG (by omega);subst hs;rw[zvc] at hc;exact z2h hc ht
  refine⟨λ i=>if h:i<len then Classical.choose (each i h) else (0,0,0,0),⟨λ i hi=>?_⟩⟩;have hc:=Classical.choose_spec (each i hi);have hs:=AG (by omega);subst hs;simp only[dif_pos hi];exact⟨g,off,rfl,World.block_lt_of_cell? W _ hc.1,hc⟩
end
section
open Go.ChangeShapes Go.WideShapes Go.ChangeAt Go.RowKit Go.Deep
theorem z4g {H:Type}{enc:TypeId × Value->H}{P:Program}{w:W8}{base:Nat}{spare:Nat->Bool}{held:Bool}{t0:TypeId}{args:Array Value}{ds:List (DataW H)}{ps:List MemPlace}(h:DataW.TrodAll enc P w base spare held [t0] args.toList ds ps):
  ∃ v0 d0 p0,args=#[v0]/\ds=[d0]/\ps=p0/\DataW.Trod enc P w base spare held t0 v0 d0 p0:=by
 obtain⟨v0,vs0,d0,e0,p0,q0,ha,rfl,rfl,h0,r0⟩:=trodAll_cons h;obtain⟨rfl,rfl,rfl⟩:=trodAll_nil r0;exact⟨v0,d0,p0,by cases args;simp_all,rfl,by simp,h0⟩
end
end Go.Proofs.YtldkpahaocjdpaaGreat
