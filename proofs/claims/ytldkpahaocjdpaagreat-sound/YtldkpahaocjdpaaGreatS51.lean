/-
  affidavitkeep: known.
-/
import Derived.Test.YtldkpahaocjdpaaGreatS50
set_option maxHeartbeats 16000000
set_option maxRecDepth 1000000
namespace Go.Proofs.YtldkpahaocjdpaaGreat
section
open Go.RowKit Go.Maps
theorem wit_check {s:B8}{rs:List PR}{xb lo:Nat}{w0:W8}(hP:fo s xb w0 lo rs){limit:Nat}(hl:limit<=50){S:B8->Nat}{m:Nat}{K:List (Th × Nat)}{t:Th}{O:List Pl}{bs:List Nat}(hW:kT s rs limit S m K t O bs){q:B8}(ht:thingS (aq s).2 q=some t){e:Ending}(hE:PChkE s q bs e):e=.returned (.int .i64 ((if (ay K t).isSome then 1 else 2:Nat):Nat)):=by
 have he:=hW.eq;subst he;exact chk_proved hP hl hW.mod hW.len ht hW.perm hW.sort hE
theorem kknown (w:W8):Calls Tryz.prog 16 #[] w λ e w'=>e=.returned (.bool true)/\Below w.heap.size w w':=by
 have HL:=hide (kload w exText ex_size ex_load);go_enter Tryz.func16,Tryz.ntmps16;go_wp2_with fail;refine (ad HL).mono ?_;rintro e w1 ⟨xb,rs,rfl,hP,aX⟩;clear HL;have HP:=hide hP;have cR:=hide aX;have HQ:=hide (pent_query hP exQ (by decide) 10);clear hP aX;go_wp2_with fail;refine (ad HQ).mono ?_;rintro e w2 ⟨ho,aY⟩;obtain⟨g,c,rfl,nD,dx,hg,h0,h1⟩:=ex_query (ad HP).rules (ad HP).cE ho;have iT:=hide ((ad HP).below aY);have eA:=hide ((ad cR).trans (aY.mono (ad cR).size));have HG:=hide (And.intro hg (And.intro h0 h1));have zJ:=hide (pent_explain (ad iT) exC (by decide) 10);unfold maxLen at dx;clear ho aY HQ h0 h1 hg HP cR;go_wp2_with fail;refine (ad zJ).mono ?_;rintro e w3 ⟨ho,cQ⟩;obtain⟨S,m,K,O,bs,a,c3,hW,hK,rfl,jr⟩:=ex_explain (ad iT) ex_thC ho;have od:=hide ((ad iT).below cQ);have il:=hide ((ad eA).trans (cQ.mono (ad eA).size));have yw:g<w3.heap.size:=Nat.lt_of_lt_of_le (ad HG).1 cQ.size;have vm:=hide (And.intro yw (And.intro ((cQ.cell (p:=⟨g,0,none⟩) (ad HG).1).trans (ad HG).2.1) ((cQ.cell (p:=⟨g,1,none⟩) (ad HG).1).trans (ad HG).2.2)));have HW:=hide (And.intro hW hK);have kD:=hide jr;rw[if_pos (ex_look hK).1];generalize (ay K (gH,[one8 99])).getD 0=hh;have jb:bs.length<=c3:=jr.cap;have tn:c3<=maxLen:=jr.max;have vk:=hide (λ (W:W8) (hk:Below w3.heap.size w3 W)=>pent_explain ((ad od).below hk) exB (by decide) 10);have xG:=(Below.refl w3.heap.size w3).alloc L9 (.cells #[.int .i64 ((1:Nat):Int),.int .i64 (hh:Nat),.slice a bs.length c3] 49);have qu:=hide xG;have hY:=heap_alloc_new w3 (.cells #[.int .i64 ((1:Nat):Int),.int .i64 (hh:Nat),.slice a bs.length c3] 49);have HY:=hide hY;have uO:(w3.alloc (.cells #[.int .i64 ((1:Nat):Int),.int .i64 (hh:Nat),.slice a bs.length c3] 49)).heap.size=w3.heap.size+1:=by simp
 have qI:=hide uO;unfold maxLen at tn;clear ho cQ zJ hW hK jr iT eA HG xG hY uO yw;go_wp2_with fail;refine (ad vk _ (ad qu)).mono ?_;rintro e w4 ⟨ho,bP⟩;obtain⟨S4,m4,K4,O4,vw,a4,c4,E4,BS,rfl,qV⟩:=ex_explain ((ad od).below (ad qu)) ex_thB ho;have Cf:=bP.size;rw[ad qI] at Cf;have AB:=(bP.block w3.heap.size (by rw[ad qI];omega)).trans (ad HY);have y0:w4.cell? ⟨w3.heap.size,0,none⟩=some (.int .i64 ((1:Nat):Int)):=by simp[World.cell?,AB]
 have y2:w4.cell? ⟨w3.heap.size,2,none⟩=some (.slice a bs.length c3):=by simp[World.cell?,AB]
 have lZ:=(ad qu).trans (bP.mono (by rw[ad qI];omega));have rS:=hide ((ad od).below lZ);have eC:=hide ((ad il).trans (lZ.mono (ad il).size));have I7:g<w4.heap.size:=Nat.lt_of_lt_of_le (ad vm).1 lZ.size;have g0:w4.cell? ⟨g,0,none⟩=some (.string exAB):=(lZ.cell (p:=⟨g,0,none⟩) (ad vm).1).trans (ad vm).2.1;have g1:w4.cell? ⟨g,1,none⟩=some (.string exAC):=(lZ.cell (p:=⟨g,1,none⟩) (ad vm).1).trans (ad vm).2.2;unfold exAB at g0;unfold exAC at g1;have Er:=hide (And.intro E4 BS);have jr:=(ad kD).below lZ;rw[(ex_look BS).2,if_neg (by simp)];generalize (ay K4 (gH,[one8 98])).getD 0=vF;have IW:vw.length<=c4:=qV.cap;have Ck:c4<=maxLen:=qV.max;have xH:=(Below.refl w4.heap.size w4).alloc L9 (.cells #[.int .i64 ((2:Nat):Int),.int .i64 (vF:Nat),.slice a4 vw.length c4] 49);have tj:=hide xH;have vi:=hide (λ (W:W8) (hk:Below w4.heap.size w4 W)=>pcheck_any W exText exC ex_size (by decide) a c3 bs (jr.below hk));have mX:=hide (λ (W:W8) (hk:Below w4.heap.size w4 W)=>pcheck_any W exText exB ex_size (by decide) a4 c4 vw (qV.below hk));have vj:=hide (λ (W:W8) (hk:Below w4.heap.size w4 W)=>pcheck_any W exText exB ex_size (by decide) a c3 bs (jr.below hk));have hZ:=heap_alloc_new w4 (.cells #[.int .i64 ((2:Nat):Int),.int .i64 (vF:Nat),.slice a4 vw.length c4] 49);have HZ:=hide hZ;have Im:=hide AB;have uP:(w4.alloc (.cells #[.int .i64 ((2:Nat):Int),.int .i64 (vF:Nat),.slice a4 vw.length c4] 49)).heap.size=w4.heap.size+1:=by simp
 have qJ:=hide uP;unfold maxLen at Ck;clear ho bP vk E4 BS jr qV od il qu HY qI vm xH hZ AB lZ uP kD;have yH:w3.heap.size<w4.heap.size:=by omega
 generalize w3.heap.size=b3 at *;go_wp2_with fail;refine (ad vi _ (ad tj)).mono ?_;rintro e w5 ⟨ho,eO⟩;have he:=wit_check (ad rS) (by decide) (ad HW).1 ex_thC ho;rw[if_pos (ex_look (ad HW).2).1] at he;subst he;have Cg:=eO.size;rw[ad qJ] at Cg;have z5:=(eO.block w4.heap.size (by rw[ad qJ];omega)).trans (ad HZ);have nB:=(ad tj).trans (eO.mono (by rw[ad qJ];omega));have iP:=hide ((ad eC).trans (nB.mono (ad eC).size));have y5:w5.cell? ⟨b3,2,none⟩=some (.slice a bs.length c3):=(nB.cell (p:=⟨b3,2,none⟩) yH).trans y2;have u3:w5.cell? ⟨w4.heap.size,2,none⟩=some (.slice a4 vw.length c4):=by simp[World.cell?,z5]
 have yI:w4.heap.size<w5.heap.size:=by omega
 have wo:=hide (ad mX w5 nB);have wu:=hide (λ (W:W8) (hk:Below w5.heap.size w5 W)=>ad vj W (nB.trans (hk.mono nB.size)));clear ho eO vi mX vj eC tj HZ qJ nB z5 y0 y2 g0 g1 I7 Im;generalize w4.heap.size=b4 at *;go_wp2_with fail;refine (ad wo).mono ?_;rintro e w6 ⟨ho,eE⟩;have he:=wit_check (ad rS) (by decide) (ad Er).1 ex_thB ho;rw[(ex_look (ad Er).2).2,if_neg (by simp)] at he;subst he;have y6:w6.cell? ⟨b3,2,none⟩=some (.slice a bs.length c3):=(eE.cell (p:=⟨b3,2,none⟩) (by show b3<_;omega)).trans y5;have nY:=hide ((ad iP).trans (eE.mono (ad iP).size));have wv:=hide (ad wu w6 eE);clear ho eE wo wu y5 u3 iP;go_wp2_with fail;refine (ad wv).mono ?_;rintro e w7 ⟨ho,mG⟩;have GI:=hide ((ad nY).trans (mG.mono (ad nY).size));obtain⟨v,he,JY,uS,_⟩:=chk_sound (ad rS) (ad HW).1.mod ex_thB ho;have bJ:¬ v=1:=λ h=>by
  have:=look_keys.2 (uS h);rw[(ex_look (ad HW).2).2] at this
  cases this
 have hv:v=2\/v=3:=by omega
 clear ho mG JY uS bJ y6 nY;subst he;rcases hv with rfl | rfl
 all_goals
  go_wp2_with fail;go_ret;exact⟨rfl,ad GI⟩
end
section
variable {t:Th} {ps:P9}
theorem thing_word {q:B8}(h:thingS ps q=some t):qj t:=by
 rw[thing_eq] at h
 split at h
 ·rename_i bZ;obtain rfl:=Option.some.inj h;exact (ask_word bZ).1
 ·cases h
variable {K:List (Th × Nat)} {m limit:Nat} {S:B8->Nat} {rs:List PR} {s:B8}
theorem told_iff (h2:TwoP (aq s).2)(hg:∀ r∈rs,bu (aq s).2 r)(hM:Mod s rs limit S m (some K))(ht:qj t):thText t∈allL K 4↔t∈K.map (·.1):=by
 have zn:=hM.ti hg;unfold allL;rw[List.mem_flatMap]
 constructor
 ·rintro⟨k,_,h⟩;unfold iY at h;rw[j0] at h;obtain⟨p,hp,he⟩:=List.mem_map.1 h;have FF:=(List.mem_filter.1 hp).1;exact List.mem_map.2 ⟨p,FF,thText_inj (zn p FF).w ht he⟩
 ·intro h;obtain⟨p,hp,rfl⟩:=List.mem_map.1 h;obtain⟨hl,i,hi,he⟩:=h2 _ _ (zn p hp).num;refine⟨i,List.mem_range.2 hi,?_⟩;unfold iY;rw[j0];refine List.mem_map.2 ⟨p,List.mem_filter.2 ⟨hp,?_⟩,rfl⟩;obtain⟨t,n⟩:=p;exact (hit_K hl n).2 he
theorem among_look (h2:TwoP (aq s).2)(hg:∀ r∈rs,bu (aq s).2 r)(hM:Mod s rs limit S m (some K))(ht:qj t):fP (thText t) (allL K 4)=(ay K t).isSome:=by
 rw[Bool.eq_iff_iff,amongB_iff,told_iff h2 hg hM ht,look_keys]
theorem thAll_at {x:Nat}(h:x<64):jo[x]?=some (fB (x/16) (x%16)):=by
 have:∀ x:Nat,x<64->jo[x]?=some (fB (x/16) (x%16)):=by decide
 exact this x h
theorem thAll_len:jo.length=64:=by unfold jo;rw[thUpto_len]
def thX (x:Nat):Th:=thK (x/16) (x%16/4) (x%16%4)
theorem thX_text (x:Nat):thText (thX x)=fB (x/16) (x%16):=thText_K _ _
theorem thX_thing (h:TwoP ps)(x:Nat):thingS ps (fB (x/16) (x%16))=some (thX x):=thing_K h _ _
theorem thTx_size (p i:Nat):(fB p i).size<=2000000:=by unfold fB;rw[txt8_size];simp
end
section
open Go.RowKit Go.Maps
structure IntsIn (w:W8)(a:O8)(n:Nat)(X:Nat->Int):Prop where
 el:∀ i,i<n->∃ g off,a=some ⟨g,off,none⟩/\g<w.heap.size/\w.cell? ⟨g,off+i,none⟩=some (.int .i64 (X i))/\inR (X i)
variable {n:Nat} {w w':W8}
theorem IntsIn.below {a:O8}{X:Nat->Int}(h:IntsIn w a n X)(k:Below w.heap.size w w'):IntsIn w' a n X:=
 ⟨λ i hi=>by
  obtain⟨g,off,h1,h2,c0,h3⟩:=h.el i hi
  exact⟨g,off,h1,Nat.lt_of_lt_of_le h2 k.size,(k.cell (p:=⟨g,off+i,none⟩) h2).trans c0,h3⟩⟩
structure TextK (s:B8):Prop where
 ok:refLoad s=(true,0,0)
 sz:s.size<=maxLen
 two:TwoP (aq s).2
 lvl:Lvl s
theorem textK_of (R:Nat->Raw)(hn:n<=14):TextK (cY (cT (λ i=>dJ (R i)) n)):=by
 have hL:∀ i,i<n->(dJ (R i)).Ok:=λ i _=>lineOf_ok _ _ _ _
 refine⟨(textK_ok _ n hn hL).1,?_,two_text hn hL,lvl_text hn hL⟩;have:=textB_len (λ i=>dJ (R i)) n;rw[txt8_size];unfold maxLen;omega
def TellK (s:B8)(rs:List PR)(sm:Bool)(zs:List B8):Prop:=∃ S m,if sm then ∃ K,Mod s rs 50 S m (some K)/\zs=allL K 4 else Mod s rs 50 S m none
structure AskX (s q:B8)(t:Th):Prop where
 nX:thingS (aq s).2 q=some t
 text:q=thText t
 sz:q.size<=2000000
variable {m:Nat} {S:B8->Nat} {zs:List B8} {sm:Bool} {rs:List PR} {s:B8}
theorem told_over (cK:∀ r∈rs,r.bs.map (·.1)=r.R.body)(h:TellK s rs sm zs)(hM:Mod s rs 50 S m none):sm=false:=by
 obtain⟨S',m',h⟩:=h
 cases sm with
 | false=>rfl
 | true=>
  obtain⟨K,hK,_⟩:=h;obtain⟨_,_,⟨e,_⟩ | ⟨A,B,e1,e2,_,_⟩⟩:=hK.uniq cK hM
  ·cases e
  ·cases e2
variable {K:List (Th × Nat)}
theorem told_yes (cK:∀ r∈rs,r.bs.map (·.1)=r.R.body)(h:TellK s rs sm zs)(hM:Mod s rs 50 S m (some K)):sm=true/\zs=allL K 4:=by
 obtain⟨S',m',h⟩:=h
 cases sm with
 | false=>
  obtain⟨_,_,⟨_,e⟩ | ⟨A,B,e1,e2,_,_⟩⟩:=Mod.uniq cK h hM
  ·cases e
  ·cases e1
 | true=>
  obtain⟨K',tY,rfl⟩:=h;obtain⟨_,_,⟨e,_⟩ | ⟨A,B,e1,e2,h3,_⟩⟩:=tY.uniq cK hM
  ·cases e
  ·obtain rfl:=Option.some.inj e1;obtain rfl:=Option.some.inj e2;exact⟨rfl,jI h3 4⟩
theorem told_look (h2:TwoP (aq s).2)(hg:∀ r∈rs,bu (aq s).2 r)(cK:∀ r∈rs,r.bs.map (·.1)=r.R.body)(h:TellK s rs true zs)(hM:Mod s rs 50 S m (some K)){q:B8}{t:Th}(hq:AskX s q t):fP q zs=(ay K t).isSome:=by
 rw[(told_yes cK h hM).2,hq.text];exact among_look h2 hg hM (thing_word hq.nX)
theorem askX_th (h:TwoP (aq s).2)(x:Nat):AskX s (fB (x/16) (x%16)) (thX x):=⟨thX_thing h x,(thX_text x).symm,thTx_size _ _⟩
theorem j2.shape {e:Ending}(h:j2 s rs w e w'):∃ a c zs sm,e=.returned (.tuple #[.slice a zs.length c,.bool sm])/\np w' a c zs/\TellK s rs sm zs/\Below w.heap.size w w':=by
 obtain⟨hb,S,m,r,hM,⟨rfl,rfl⟩ | ⟨K,a,c,rfl,hK,rfl,aF⟩⟩:=h
 ·exact⟨none,0,[],false,rfl,⟨Nat.le_refl _,by unfold maxLen;omega,λ j hj=>by simp at hj⟩,⟨S,m,hM⟩,hb⟩
 ·exact⟨a,c,allL K 4,true,rfl,np.fy aF,⟨S,m,K,hM,rfl⟩,hb⟩
end
section
open Go.RowKit Go.Maps
def TruePost (w:W8)(e:Ending)(w':W8):Prop:=e=.returned (.bool true)/\Below w.heap.size w w'
end
section
open Go.RowKit Go.Maps
variable {bs:List Nat} {c:Nat} {a:O8} {w:W8}
theorem iJ.yh {base:Nat}(h:w.ownsRow base 5 1 (.slice a bs.length c) bs.length (bs.map u8c)):iJ w a c (bs.map (·%256)):=by
 refine iJ.fy (base:=base) (λ x hx=>?_) ?_
 ·obtain⟨y,_,rfl⟩:=List.mem_map.1 hx;exact Nat.mod_lt _ (by decide)
 ·rw[List.length_map,List.map_map];have:(u8c ∘ λ x:Nat=>x%256)=u8c:=by
   funext x
   show Value.int .u8 (((x%256:Nat):Int)%256)=Value.int .u8 ((x:Int)%256)
   congr 1
   omega
  rw[this];exact h
variable {t:Th} {q s:B8}
theorem chk_range (bZ:(refLoad s).1=true)(ht:thingS (aq s).2 q=some t){e:Ending}(hE:PChkE s q bs e):∃ v:Nat,e=.returned (.int .i64 (v:Nat))/\(v=1\/v=2\/v=3):=by
 rcases hE with⟨hn,_⟩ | ⟨_,rp,jD,cK,hE⟩
 ·rw[bZ] at hn;cases hn
 ·rcases hE with⟨hn,_⟩ | ⟨t',Sp,sR,sV,uA,hE⟩
  ·rw[ht] at hn;cases hn
  ·rcases hE with⟨m',k,st,me,hR,rfl⟩ | ⟨_,rfl⟩
   ·refine⟨_,rfl,?_⟩;unfold showV;split
    ·exact .inl rfl
    ·split
     ·exact .inr (.inr rfl)
     ·exact .inr (.inl rfl)
   ·exact⟨3,rfl,.inr (.inr rfl)⟩
def SndPost (b:Bool)(W:W8)(e:Ending)(w':W8):Prop:=∃ v:Nat,e=.returned (.int .i64 (v:Nat))/\(v=(if b then 1 else 2)\/v=3)/\Below W.heap.size W w'
variable {xb lo:Nat} {rs:List PR}
theorem snd_check {w0:W8}(hP:fo s xb w0 lo rs)(hK:TextK s){zs:List B8}(hT:TellK s rs true zs)(hq:AskX s q t)(W:W8)(a:O8)(c:Nat)(bs:List Nat)(hB:iJ W a c bs):Calls Tryz.prog 31 #[.string s,.string q,.slice a bs.length c] W (SndPost (fP q zs) W):=by
 refine (pcheck_any W s q hK.sz hq.sz a c bs hB).mono λ e w' ⟨h1,h2⟩=>?_
 obtain⟨S,m,K,hM,_⟩:=hT;have hl:=told_look hK.two hP.dg hP.cE ⟨S,m,K,hM,‹_›⟩ hM hq;obtain⟨v,rfl,hv,v1,v2⟩:=chk_sound hP hM hq.nX h1;refine⟨v,rfl,?_,h2⟩;rw[hl]
 by_cases hk:(ay K t).isSome=true
 ·rw[if_pos hk];have:=look_keys.1 hk;rcases hv with hv | hv | hv
  ·exact .inl hv
  ·exact absurd this (v2 hv)
  ·exact .inr hv
 ·rw[if_neg hk];rcases hv with hv | hv | hv
  ·exact absurd (look_keys.2 (v1 hv)) hk
  ·exact .inl hv
  ·exact .inr hv
theorem rng_check (hK:TextK s)(hq:AskX s q t)(W:W8)(a:O8)(c:Nat)(bs:List Nat)(hB:iJ W a c bs):Calls Tryz.prog 31 #[.string s,.string q,.slice a bs.length c] W λ e w'=>∃ v:Nat,e=.returned (.int .i64 (v:Nat))/\(v=1\/v=2\/v=3)/\Below W.heap.size W w':=by
 refine (pcheck_any W s q hK.sz hq.sz a c bs hB).mono λ e w' ⟨h1,h2⟩=>?_
 obtain⟨v,rfl,hv⟩:=chk_range (by rw[hK.ok]) hq.nX h1;exact⟨v,rfl,hv,h2⟩
theorem xor_u8 (a b:Int):∃ y:Nat,Value.int .u8 (bits .xor .u8 a b)=u8c y:=by
 obtain⟨y,hy⟩:=u8c_of (((BitVec.ofInt 8 a ^^^ BitVec.ofInt 8 b).toNat:Nat):Int);exact⟨y,hy ▸ rfl⟩
theorem tdiv97_rng {b:Int}(h:inR b):inR (b.tdiv 97):=by
 obtain⟨h1,h2⟩:=h;unfold inR;rcases Int.le_total 0 b with h0 | h0
 ·rw[Int.tdiv_eq_ediv_of_nonneg h0];omega
 ·obtain⟨d,rfl⟩:∃ d,b=-d:=⟨-b,by omega⟩;rw[Int.neg_tdiv,Int.tdiv_eq_ediv_of_nonneg (by omega)];omega
theorem kT.K8 (h:fo s xb w lo rs){limit:Nat}(hl:limit<=50){S:B8->Nat}{m:Nat}{K:List (Th × Nat)}{O:List Pl}(hW:kT s rs limit S m K t O bs):0<bs.length/\bs.length<=300:=by
 have hA:=hW.mod.kh h.cE h.dg hW.perm hW.sort;have hK:=hW.len;have xN:O.length=K.length:=by rw[hW.perm.length_eq,List.length_map]
 have h1:=expN_len (aq s).2 S K t (reaK (aq s).2 rs S K O) O;have h2:=expN_fr (ps:=(aq s).2) (S:=S) (K:=K) (t:=t) (rea:=reaK (aq s).2 rs S K O) (O:=O) hA.len;have h3:∀ l:List (Nat × List Nat),(∀ x∈l,x.2.length<=3)->(l.flatMap rD).length<=4*l.length:=by
  intro l
  induction l with
  | nil=>intro _;simp
  | cons x r ih=>
   intro hx;have:=hx x List.mem_cons_self;have:=ih λ y hy=>hx y (List.mem_cons_of_mem _ hy)
   rw[List.flatMap_cons,List.length_append,List.length_cons];simp only[rD,List.length_cons];omega
 have h4:=h3 _ h2;rw[hW.eq];unfold expL bytesOf;simp only[List.length_cons];omega
theorem lT.after {wr w':W8}{B:Nat}(h:lT w B a c bs wr)(hB:B<=w.heap.size)(k:Below wr.heap.size wr w'):lT w B a c bs w':=⟨h.below.trans (k.mono (Nat.le_trans hB h.below.size)),own_below h.row k (λ g e=>(h.row.lt g e).2)⟩
theorem lT.grown {w5:W8}(hg:w.grownBy w5 none)(h:w5.ownsRow w.heap.size 5 1 (.slice a bs.length c) bs.length (bs.map u8c)):lT w w.heap.size a c bs w5:=
 ⟨⟨hg.os,hg.tape,hg.output,hg.size,λ j hj=>hg.block j hj (by simp)⟩,h⟩
theorem sound_any (w:W8)(la:O8)(n c:Nat)(R:Nat->Raw)(hL:fC w la n R)(dB:n<=c)(dx:c<=maxLen)(ka kb:Int)(Fu:inR ka)(vJ:inR kb)(wa:O8)(nw cw:Nat)(X:Nat->Int)(hX:IntsIn w wa nw X)(I0:cw<=maxLen)(ra:O8)(rc:Nat)(raw:List Nat)(hR:iJ w ra rc raw):Calls Tryz.prog 14 #[.slice la n c,.int .i64 ka,.int .i64 kb,.slice wa nw cw,.slice ra raw.length rc] w (TruePost w):=by
 obtain⟨i0,hi,dD,cD,cd⟩:=info_parts infoByte;have KJ:=(pickN_is ka (n:=64) (by decide)).1;have Je:=(pickN_is kb (n:=64) (by decide)).1;have Ls:=hide (λ W=>kpick W ka 64 (by decide) (by decide) Fu.1 Fu.2);have Lt:=hide (λ W=>kpick W kb 64 (by decide) (by decide) vJ.1 vJ.2);generalize ag ka 64=xa at *;generalize ag kb 64=xo at *;have HR:=hide hR;generalize hRN:raw.length=rn at *;have ni:=hide hRN;clear Fu vJ hR hRN;have HX:=hide hX;have HL:=hide hL;have HN:=hide (And.intro dB dx);have Cp:=I0;unfold maxLen at Cp;clear hX hL dB dx;go_enter Tryz.func14,Tryz.ntmps14;go_wp2_with fail;refine (kknown w).mono ?_;rintro e w1 ⟨rfl,aX⟩;have cR:=hide aX;have HT:=hide (ktext w1 la n c R ((ad HL).below aX) (ad HN).1 (ad HN).2 14 (by decide));clear aX;go_wp2_with fail;refine (ad HT).mono ?_;rintro e w2 ⟨rfl,aY⟩;have hK:=textK_of R (n:=min n 14) (by omega);generalize cY (cT (λ i=>dJ (R i)) (min n 14))=s at *;have HK:=hide hK;have eA:=hide ((ad cR).trans (aY.mono (ad cR).size));have D8:=hide (kload w2 s hK.sz hK.ok);clear hK aY HT cR HN HL;go_wp2_with fail;refine (ad D8).mono ?_;rintro e w3 ⟨xb,rs,rfl,hP,cQ⟩;have HP:=hide hP;have il:=hide ((ad eA).trans (cQ.mono (ad eA).size));have HA:=hide (kall w3 s xb _ rs hP (ad HK).two);clear hP cQ eA D8;go_wp2_with fail;refine (ad HA).mono ?_;intro e w4 bn;obtain⟨a1,c1,zs,sm,rfl,E1,sk,bP⟩:=bn.shape;have By:=hide sk;have HZ:=hide E1;have rS:=hide ((ad HP).below bP);have eC:=hide ((ad il).trans (bP.mono (ad il).size));clear bn E1 sk bP HA HP il;go_wp2_with fail;refine (kthings w4).mono ?_;rintro e w5 ⟨a5,c5,rfl,aF,eO⟩;have Ad:np w5 a5 c5 jo:=np.fy (by rw[thAll_len];exact aF);have IA:=Ad.cap;have BO:=Ad.max;rw[thAll_len] at IA;unfold maxLen at BO;have qK:=hide Ad;have Io:=hide ((ad HZ).below eO);have Hl:=hide ((ad rS).below eO);have iP:=hide ((ad eC).trans (eO.mono (ad eC).size))
 clear aF eO Ad HZ rS eC;obtain⟨g5,rfl,dh,Lj⟩:=(ad qK).at_ xa (by rw[thAll_len];exact KJ);obtain⟨g5',uk,_,Lm⟩:=(ad qK).at_ xo (by rw[thAll_len];exact Je);injection uk with uk
 injection uk with uk
 subst uk;have Lp:jo[xa]'(by rw[thAll_len];exact KJ)=fB (xa/16) (xa%16):=by
  have:=thAll_at KJ;rw[List.getElem?_eq_getElem (by rw[thAll_len];exact KJ)] at this;exact Option.some.inj this
 have Lq:jo[xo]'(by rw[thAll_len];exact Je)=fB (xo/16) (xo%16):=by
  have:=thAll_at Je;rw[List.getElem?_eq_getElem (by rw[thAll_len];exact Je)] at this;exact Option.some.inj this
 rw[Lp] at Lj;rw[Lq] at Lm;have Ld:=hide (askX_th (ad HK).two xa);have Le:=hide (askX_th (ad HK).two xo);generalize fB (xa/16) (xa%16)=qa at *;generalize fB (xo/16) (xo%16)=qo at *;generalize thX xa=ta at *;generalize thX xo=tto at *;have K6:(xa:Int)<64:=by omega
 have K7:(xo:Int)<64:=by omega
 clear Lp Lq;have HE:=hide (pent_explain (ad Hl) qo (ad Le).sz 50);go_wp2_with fail;refine (ad Ls _).mono ?_;rintro e w6 ⟨rfl,uV⟩;have uV:=uV.symm;subst uV;go_wp2_with fail;refine (ad Lt _).mono ?_;rintro e w6 ⟨rfl,uV⟩;have uV:=uV.symm;subst uV;go_wp2_with fail;refine (ad HE).mono ?_;rintro e w6 ⟨ho,eE⟩;have CQ:=(ad iP).size;have KG:=eE.size;have vE:=(ad HR).below ((ad iP).trans (eE.mono CQ));have um:=vE.cap;rw[ad ni] at um;have KV:=vE.max;unfold maxLen at KV;rcases explain_out (limit:=50) (by decide) (by decide) (ad Hl).cE (ad Le).nX ho with⟨S,m,hM,rfl⟩ | ⟨S,m,K,O,bs,a,c',hW,dC,rfl,aF⟩
 ·obtain rfl:=told_over (ad Hl).cE (ad By) hM;have mC:=(Below.refl w6.heap.size w6).alloc L9 (.cells #[.int .i64 0,.int .i64 0,.slice none 0 0] 49);have HC:=hide (rng_check (ad HK) (ad Ld) _ ra rc raw (vE.below mC));have nY:=hide ((ad iP).trans ((eE.trans (mC.mono KG)).mono CQ));have hc:=ad HC;rw[ad ni] at hc;have HC:=hide hc;unfold ExpOver;clear ho eE vE mC hM hc HE;go_wp2_with fail;refine (ad HC).mono ?_;rintro e w7 ⟨v,rfl,hv,mG⟩;have GI:=hide ((ad nY).trans (mG.mono (ad nY).size));clear mG HC nY;rcases hv with rfl | rfl | rfl
  all_goals
   go_wp2_with fail;go_ret;exact⟨rfl,ad GI⟩
 ·have dZ:=(told_yes (ad Hl).cE (ad By) hW.mod).1;subst dZ;obtain⟨jA,Ln⟩:=hW.K8 (ad Hl) (by decide);obtain⟨g,oO,hv,_,dn⟩:=aF.form jA;injection hv with e1 e2 e3
  subst e1 e3;clear e2;have qm:=row_cap0 aF;have Lv:=qm.1;have KT:=qm.2;unfold maxLen at KT;generalize (if (ay K tto).isSome then 1 else 2:Nat)=vv;generalize (ay K tto).getD 0=hh;have mC:=(Below.refl w6.heap.size w6).alloc L9 (.cells #[.int .i64 (vv:Nat),.int .i64 (hh:Nat),.slice (some ⟨g,0,none⟩) bs.length c'] 49);have Ba:=eE.trans (mC.mono KG);have te:=hide (kamong (w6.alloc (.cells #[.int .i64 (vv:Nat),.int .i64 (hh:Nat),.slice (some ⟨g,0,none⟩) bs.length c'] 49)) a1 c1 zs qa ((ad Io).below Ba));have nY:=hide ((ad iP).trans (Ba.mono CQ));have yG:=own_below aF mC (λ g e=>(aF.lt g e).2);have Lb:=hide (row_newsN yG);have eT:=hide (show ∀ u∈bs.map u8c,u.oneCell'=true from λ u hu=>by obtain⟨x,_,rfl⟩:=List.mem_map.1 hu;rfl);have oI:=hide (show (bs.map u8c).length=bs.length*1 by simp);have Ig:=hide ((ad HX).below (ad nY));have Ht:=hide (vE.below mC);have KC:=hide (λ (W:W8) (a:O8) (c:Nat) (bs:List Nat) (hB:iJ W a c bs)=>snd_check (ad Hl) (ad HK) (ad By) (ad Ld) W a c bs hB);clear ho eE vE mC Ba aF yG qm hW dC HE Lj Lm K6 K7 KJ Je uV;go_wp2_with fail;refine (ad te).mono ?_;rintro e w7 ⟨rfl,Dr⟩;subst Dr;generalize fP qa zs=b at *;clear te;have KI:(w6.alloc (.cells #[.int .i64 (vv:Nat),.int .i64 (hh:Nat),.slice (some ⟨g,0,none⟩) bs.length c'] 49)).heap.size=w6.heap.size+1:=by simp
  have Bt:=hide KI;clear KI;go_wp2_with (at_builtin;go_must (refine wpList_append_own _ rfl _ _ 47 rfl (w6.heap.size+1) 5 i0 _ 1 1 Tryz.underlying47 hi dD cD cd rfl (by decide) _ _ _ rfl (World.ownsRow_nil _ _ _ _) ⟨g,0,none⟩ bs.length c' (bs.map u8c) rfl (ad oI) (ad Lb) (ad eT) (by unfold maxLen;omega) (by omega) (by simp) ?_);intro v8 w8 hown8 KU hne8;clear hne8;obtain⟨a8,c8,rfl⟩:=own_slice hown8;have Lc:=hide hown8;have La:=hide KU;clear hown8 KU);have Li:lT (w6.alloc (.cells #[.int .i64 (vv:Nat),.int .i64 (hh:Nat),.slice (some ⟨g,0,none⟩) bs.length c'] 49)) (w6.alloc (.cells #[.int .i64 (vv:Nat),.int .i64 (hh:Nat),.slice (some ⟨g,0,none⟩) bs.length c'] 49)).heap.size a8 c8 bs w8:=by
   refine lT.grown (ad La) ?_;have:=ad Lc;rw[ad Bt];rw[Nat.zero_add,List.nil_append] at this;exact this
  have Lg:=hide Li;clear Li Lc La Lb eT oI Bt;generalize w6.alloc (.cells #[.int .i64 (vv:Nat),.int .i64 (hh:Nat),.slice (some ⟨g,0,none⟩) bs.length c'] 49)=W0 at *;generalize hN:bs.length=N at *;have HN:=hide hN;clear hN
  go_loopg [23] 12 (λ gg iv wr=>∃ (i:Nat) (xs:List Nat),i<=12/\gg=12-i/\iv=.int .i64 (i:Nat)/\xs.length=N/\lT W0 W0.heap.size a8 c8 xs wr)
  exact⟨0,bs,by omega,rfl,rfl,ad HN,ad Lg⟩
  case round=>
   clear Lg;obtain⟨i,xs,Lz,Cv,rfl,K5,ak⟩:=hrel;have KM:=hide K5;have bp:=hide ak;have fJ:=(ad nY).trans (ak.below.mono (ad nY).size);have ve:=hide fJ;have zT:=hide ((ad Ht).below ak.below);have KN:=hide ((ad Ig).below ak.below);have KS:=ad KC wr ra rc raw ((ad Ht).below ak.below);rw[ad ni] at KS;have KB:=hide KS;have KR:=ad KC wr a8 c8 (xs.map (·%256)) (iJ.yh ak.row);rw[List.length_map,K5] at KR;have KK:=hide KR;clear ak fJ KS KR K5
   by_cases hiw:i<=nw
   ·have KW:(i:Int)<=nw:=by omega
    by_cases bS:i<12
    ·have CR:(i:Int)<12:=(by omega);go_wp2_with fail;refine (ad KK).mono ?_;rintro e w9 ⟨v,rfl,hv,vn⟩;have yN:=hide ((ad bp).after L9 vn);have Ij:=hide ((ad KN).below vn);clear vn KK KB zT KN
     cases b <;> rcases hv with rfl | rfl
     all_goals
      by_cases hw:i<nw
      ·have J4:(i:Int)<nw:=(by omega);obtain⟨gt,ot,rfl,hgt,eQ,KO⟩:=(ad Ij).el i hw;have Ly:gt<W0.heap.size:=by
        obtain⟨gt',ot',e,h,_⟩:=(ad Ig).el i hw;injection e with e
        injection e with e
        rw[e];exact h
       have dQ:=(pickN_is (X i) (n:=N) jA).1;have hp7:=(pickN_is ((X i).tdiv 97) (n:=7) (by decide)).1;have xT:=tdiv97_rng KO;have Hm:=hide (λ W=>kpick W (X i) N jA (by omega) KO.1 KO.2);have Lr:=hide (λ W=>kpick W ((X i).tdiv 97) 7 (by decide) (by decide) xT.1 xT.2);have KQ:=hide xT;generalize ag (X i) N=p at *;generalize ag ((X i).tdiv 97) 7=p7 at *;have IJ:(0:Int)<N:=(by omega);have Lh:=ad yN;have mn:=Lh.row;rw[ad KM] at mn;obtain⟨g8,Lu,LB,KU,Lw⟩:=mn.form jA;injection LB with e1 e2 e3
       subst e1 e3;clear e2;have Eg:=row_cap0 mn;have Ll:=Eg.1;have KH:=Eg.2;unfold maxLen at KH;have Lo:p<xs.length:=(by rw[ad KM];exact dQ);have q0:w9.cell? ⟨g8,p,none⟩=some (.int .u8 (((xs[p]:Nat):Int)%256)):=by
        have:=World.ownsRow.cellAt mn p (by omega);rw[this,List.getElem?_map,List.getElem?_eq_getElem Lo];rfl
       have f0:=own_unfrozen0 mn p;generalize xs[p]=z at q0;have pG:(p:Int)<N:=(by omega);have LA:(p7:Int)<7:=(by omega);have Lx:gt≠g8:=(by omega);clear Lh mn Eg Lo KO xT;go_upto_region 24 with (go_at_call 25;refine (ad Hm _).mono ?_;rintro e wp ⟨rfl,pS⟩;have pS:=pS.symm;subst pS);have KY:IntKind.i64.wrap ((X i).tdiv 97)=(X i).tdiv 97:=wrap_in (ad KQ);have KZ:IntKind.i64.wrap ((1:Int)+p7)=(1:Int)+p7:=wrap_in (by omega)
       go_region_with (go_at_call 25;refine (ad Lr _).mono ?_;rintro e wp ⟨rfl,pS⟩;have pS:=pS.symm;subst pS)
       all_goals
        clear KY KZ q0 f0;go_wp2_with fail;go_roundg (12-(i+1))
        case measure=>omega
        case rel=>
         obtain⟨y,hy⟩:=xor_u8 ((z:Int)%256) (1+(p7:Int));rw[hy];exact⟨i+1,xs.set p y,by omega,rfl,by go_num,by rw[List.length_set];exact ad KM,(ad yN).set.drew⟩
      ·have J4:¬ (i:Int)<nw:=(by omega);go_wp2_with fail;go_roundg (12-(i+1));exact⟨i+1,xs,by omega,rfl,by go_num,ad KM,ad yN⟩;omega
    ·have CR:¬ (i:Int)<12:=(by omega);go_wp2_with fail;refine (ad KB).mono ?_;rintro e w9 ⟨v,rfl,hv,vn⟩;have KP:=hide ((ad ve).trans (vn.mono (ad ve).size));clear vn KK KB zT KN
     cases b <;> rcases hv with rfl | rfl
     all_goals
      go_wp2_with fail;go_ret;exact⟨rfl,ad KP⟩
   ·have KW:¬ (i:Int)<=nw:=(by omega);go_wp2_with fail;refine (ad KB).mono ?_;rintro e w9 ⟨v,rfl,hv,vn⟩;have KP:=hide ((ad ve).trans (vn.mono (ad ve).size));clear vn KK KB zT KN
    cases b <;> rcases hv with rfl | rfl
    all_goals
     go_wp2_with fail;go_ret;exact⟨rfl,ad KP⟩
end
section
open Go.ChangeShapes Go.WideShapes Go.ChangeAt Go.RowKit Go.Deep
theorem cells2Line:Tryz.prog.cellsOf 44=4:=by kernel_rfl
theorem cells2Byte:Tryz.prog.cellsOf 5=1:=by kernel_rfl
variable {g off:Nat}
theorem addr_add (i:Nat):(⟨g,off,none⟩:Addr).add i=⟨g,off+i,none⟩:=by unfold Addr.add;split <;> simp_all
theorem byte_range {n:Int}(h:(Lit.int .u8 n).wf=true):0<=n/\n<=255:=by
 simpa[Lit.wf,IntKind.min,IntKind.max,IntKind.signed,IntKind.bits] using h
variable {p:List MemPlace} {len cap:Nat} {a0:O8} {W:W8} {H:Type}
theorem open_ints {enc:TypeId × Value->H}{d0:DataW H}(h0:DataW.Trod enc Tryz.prog W 0 (λ _=>true) true 24 (.slice a0 len cap) d0 p):len<=cap/\cap<=maxLen/\∃ X:Nat->Int,IntsIn W a0 len X:=by
 obtain⟨fuel,hf⟩:=h0;rcases open_slice1 Tryz.underlying24 cells2Int hf with⟨fi,_⟩ | ⟨a,DC,oO,m,n,V,D,Pl,fi,_,hl,hm,jB,hx,qX⟩
 ·simp[Value.cells] at fi;obtain⟨rfl,rfl,rfl⟩:=fi;exact⟨Nat.le_refl _,by unfold maxLen;omega,λ _=>0,⟨λ i hi=>by omega⟩⟩
 ·simp[Value.cells] at fi;obtain⟨rfl,rfl,rfl⟩:=fi;refine⟨hl,hm,?_⟩;have ed:len<=m:=by rw[jB];split <;> omega
  have each:∀ i,i<len->∃ k:Int,V i=.int .i64 k/\inR k:=λ i hi=>by
   obtain⟨k,e1,_,r⟩:=DataW.trod_int Tryz.underlying3 (qX i (by omega)).2;injection e1 with e1
   exact⟨k,e1,eK r⟩
  refine⟨λ i=>if h:i<len then Classical.choose (each i h) else 0,⟨λ i hi=>?_⟩⟩;have hc:=Classical.choose_spec (each i hi);obtain⟨g,off,sp⟩:=a;have Ax:sp=none:=by
   have:=World.cell?_spot (qX 0 (by omega)).1;simpa[Addr.add] using this
  subst Ax;have h1:=(qX i (by omega)).1;rw[addr_add] at h1;simp only[dif_pos hi];exact⟨g,off,rfl,World.block_lt_of_cell? W _ h1,h1.trans (congrArg some hc.1),hc.2⟩
theorem open_line {enc:TypeId × Value->H}{base n:Nat}{cs:V8}{x:DataW H × List MemPlace}{spare:Nat->Bool}{held:Bool}(hc:W.cells? base ⟨g,off,none⟩ 4=some cs)(ht:DataW.trod enc Tryz.prog W base spare held n 44 cs=some x):
  ∃ r:Raw,W.cell? ⟨g,off,none⟩=some (.int .i64 r.1)/\W.cell? ⟨g,off+1,none⟩=some (.int .i64 r.2.1)/\W.cell? ⟨g,off+2,none⟩=some (.int .i64 r.2.2.1)/\W.cell? ⟨g,off+3,none⟩=some (.int .i64 r.2.2.2)/\RawOk r:=by
 obtain⟨_,yD,dU⟩:=World.cells?_some hc;obtain⟨xs,m,_,hxe,hlen,zr,hf⟩:=DataW.trod_struct Tryz.underlying44 ht;obtain⟨c0,c1,c2,c3,rfl⟩:∃ c0 c1 c2 c3,cs=[c0,c1,c2,c3]:=by
  match cs,yD with
  | [c0,c1,c2,c3],_=>exact⟨c0,c1,c2,c3,rfl⟩
 obtain⟨y0,y1,y2,y3,rfl⟩:∃ y0 y1 y2 y3,xs=[y0,y1,y2,y3]:=by
  match xs,zr with
  | [y0,y1,y2,y3],_=>exact⟨y0,y1,y2,y3,rfl⟩
 have f0 := hf 0 { name := "Kind", type := 3, offset := 0, embedded := false, tag := "", pkgPath := "", byteOffset := 0 } rfl;have f1 := hf 1 { name := "A", type := 3, offset := 1, embedded := false, tag := "", pkgPath := "", byteOffset := 8 } rfl;have f2 := hf 2 { name := "B", type := 3, offset := 2, embedded := false, tag := "", pkgPath := "", byteOffset := 16 } rfl;have f3 := hf 3 { name := "C", type := 3, offset := 3, embedded := false, tag := "", pkgPath := "", byteOffset := 24 } rfl;simp only[cells2Int,List.drop_zero,List.drop_succ_cons,List.take_succ_cons,List.take_zero,List.getElem?_cons_zero,List.getElem?_cons_succ] at f0 f1 f2 f3;obtain⟨k0,e0,_,r0⟩:=DataW.trod_int Tryz.underlying3 f0;obtain⟨k1,e1,_,r1⟩:=DataW.trod_int Tryz.underlying3 f1;obtain⟨k2,e2,_,r2⟩:=DataW.trod_int Tryz.underlying3 f2;obtain⟨k3,e3,_,r3⟩:=DataW.trod_int Tryz.underlying3 f3;injection e0 with e0
 injection e1 with e1
 injection e2 with e2
 injection e3 with e3
 subst e0 e1 e2 e3;have d0:=dU 0 (by omega);have d1:=dU 1 (by omega);have d2:=dU 2 (by omega);have d3:=dU 3 (by omega);simp only[Addr.add,List.getElem?_cons_zero,List.getElem?_cons_succ] at d0 d1 d2 d3;exact⟨(k0,k1,k2,k3),by simpa using d0,by simpa using d1,by simpa using d2,by simpa using d3,⟨eK r0,eK r1,eK r2,eK r3⟩⟩
theorem open_lines {enc:TypeId × Value->H}{d0:DataW H}(h0:DataW.Trod enc Tryz.prog W 0 (λ _=>true) true 28 (.slice a0 len cap) d0 p):len<=cap/\cap<=maxLen/\∃ R:Nat->Raw,fC W a0 len R:=by
 obtain⟨fuel,hf⟩:=h0;rcases open_slice Tryz.underlying28 hf with⟨fi,_⟩ | ⟨a,DC,oO,m,n,D,Pl,fi,_,hl,hm,jB,hx,qX⟩
 ·simp[Value.cells] at fi;obtain⟨rfl,rfl,rfl⟩:=fi;exact⟨Nat.le_refl _,by unfold maxLen;omega,λ _=>(0,0,0,0),⟨λ i hi=>by omega⟩⟩
 ·simp[Value.cells] at fi;obtain⟨rfl,rfl,rfl⟩:=fi;refine⟨hl,hm,?_⟩;have ed:len<=m:=by rw[jB];split <;> omega
  obtain⟨g,off,sp⟩:=a;have Ax:0<len->sp=none:=λ h=>by
   obtain⟨BJ,hc,_⟩:=qX 0 (by omega);rw[cells2Line] at hc;obtain⟨_,yD,dU⟩:=World.cells?_some hc;obtain⟨c0,r,rfl⟩:∃ c0 r,BJ=c0::r:=by
    match BJ,yD with
    | c0::r,_=>exact⟨c0,r,rfl⟩
   have xx:=dU 0 (by omega);simpa[Addr.add] using World.cell?_spot xx
  have each:∀ i,i<len->∃ r:Raw,W.cell? ⟨g,off+i*4,none⟩=some (.int .i64 r.1)/\W.cell? ⟨g,off+i*4+1,none⟩=some (.int .i64 r.2.1)/\W.cell? ⟨g,off+i*4+2,none⟩=some (.int .i64 r.2.2.1)/\W.cell? ⟨g,off+i*4+3,none⟩=some (.int .i64 r.2.2.2)/\RawOk r:=by
   intro i hi;obtain⟨BJ,hc,ht⟩:=qX i (by omega);rw[cells2Line] at hc;have hs:=Ax (by omega);subst hs;rw[addr_add] at hc;exact open_line hc ht
  refine⟨λ i=>if h:i<len then Classical.choose (each i h) else (0,0,0,0),⟨λ i hi=>?_⟩⟩;have hc:=Classical.choose_spec (each i hi);have hs:=Ax (by omega);subst hs;simp only[dif_pos hi];exact⟨g,off,rfl,World.block_lt_of_cell? W _ hc.1,hc⟩
theorem open_bytes {enc:TypeId × Value->H}{d0:DataW H}(h0:DataW.Trod enc Tryz.prog W 0 (λ _=>true) true 47 (.slice a0 len cap) d0 p):∃ bs:List Nat,bs.length=len/\iJ W a0 cap bs:=by
 obtain⟨fuel,hf⟩:=h0;rcases open_slice1 Tryz.underlying47 cells2Byte hf with⟨fi,_⟩ | ⟨a,DC,oO,m,n,V,D,Pl,fi,_,hl,hm,jB,hx,qX⟩
 ·simp[Value.cells] at fi;obtain⟨rfl,rfl,rfl⟩:=fi;exact⟨[],rfl,iJ.none _ _ (by unfold maxLen;omega)⟩
 ·simp[Value.cells] at fi;obtain⟨rfl,rfl,rfl⟩:=fi;have ed:len<=m:=by rw[jB];split <;> omega
  have each:∀ i,i<len->∃ k:Nat,V i=.int .u8 (k:Nat)/\k<256:=λ i hi=>by
   obtain⟨k,e1,_,r⟩:=DataW.trod_int Tryz.underlying5 (qX i (by omega)).2;injection e1 with e1
   have hr:=byte_range r;exact⟨k.toNat,by rw[e1,Int.toNat_of_nonneg hr.1],by omega⟩
  refine⟨(List.range len).map λ i=>if h:i<len then Classical.choose (each i h) else 0,by simp,⟨by simpa using hl,hm,λ x hx=>?_,λ h0=>?_⟩⟩
  ·obtain⟨i,hi,rfl⟩:=List.mem_map.1 hx;have hi:=List.mem_range.1 hi;rw[dif_pos hi];exact (Classical.choose_spec (each i hi)).2
  ·have h0:0<len:=(by simpa using h0);obtain⟨g,off,sp⟩:=a;have Ax:sp=none:=by
    have:=World.cell?_spot (qX 0 (by omega)).1;simpa[Addr.add] using this
   subst Ax;refine⟨g,off,rfl,World.block_lt_of_cell? W _ (qX 0 (by omega)).1,λ j hj=>?_⟩;have hj:j<len:=(by simpa using hj);have h1:=(qX j (by omega)).1;rw[addr_add] at h1;rw[h1,List.getElem_map,List.getElem_range,dif_pos hj];exact congrArg some (Classical.choose_spec (each j hj)).1
end
end Go.Proofs.YtldkpahaocjdpaaGreat
