/-
  affidavitkeep: facts.
-/
import Derived.Test.YtldkpahaocjdpaaGreatD50
import Derived.Deep.CutRange
set_option maxHeartbeats 16000000
set_option maxRecDepth 1000000
namespace Go.Proofs.YtldkpahaocjdpaaGreat
section
open Go.RowKit Go.Maps
structure Bo (w:W8)(R:Nat->Raw)(k:Nat)(v:Value)(wr:W8):Prop where
 below:Below w.heap.size w wr
 row:wr.ownsRow w.heap.size 9 1 v (qG R k).length ((qG R k).map Value.string)
theorem Bo.add {w wr W w5:W8}{R:Nat->Raw}{k:Nat}{v v':Value}(h:Bo w R k v wr)(hk:zF (R k).1 8<4)(hW:Below wr.heap.size wr W)(hg:W.grownBy w5 v.ownBlock)(aI:w5.ownsRow w.heap.size 9 1 v' ((qG R k).length+1) ((qG R k).map Value.string++[.string (gP (zF (R k).2.1 4) (zF (R k).2.2.1 4))])):Bo w R (k+1) v' w5:=by
 have hs:=h.below.size;have hz:=hW.size;refine⟨⟨hg.os.trans (hW.os.trans h.below.os),hg.tape.trans (hW.tape.trans h.below.tape),hg.output.trans (hW.output.trans h.below.output),Nat.le_trans hs (Nat.le_trans hz hg.size),λ j hj=>?_⟩,?_⟩
 ·rw[hg.block j (by omega) (λ e=>by have:=(h.row.lt j e.symm).1;omega),hW.block j (by omega)];exact h.below.block j hj
 ·rw[z4m hk,List.length_append,List.map_append];exact aI
attribute [local go_sem] nQ
theorem yc1 (w:W8)(la:O8)(n c:Nat)(R:Nat->Raw)(h:wW w la n R)(dG:n<=c)(hc:c<=maxLen)(a1:O8)(c1:Nat)(zs:List B8)(hT:qd w a1 c1 zs)(hz:∀ i,i<16->yJ (zm0 0 i) zs=yJ (zm0 0 i) (qG R (min n 10))):Calls Tryz.prog 23 #[.slice la n c,.slice a1 zs.length c1] w λ e w'=>e=.returned (.bool true)/\Below w.heap.size w w':=by
 obtain⟨i0,hi,dK,cB,bZ⟩:=info_parts zbq;have H:=zC h;have HT:=zC hT;have HZ:=zC hz;have H0:=zC (show Bo w R 0 (.slice (some ⟨w.heap.size,0,none⟩) 1 1) (w.alloc (.cells #[.string { data:=#[101,40,97,44,98,41] }] 9)) from ⟨B9.alloc L9 _,World.ownsRow_lit w #[.string (gP 0 1)] 1 L9 (by unfold maxLen;omega) rfl⟩);unfold maxLen at hc;clear h hT hz;go_enter Tryz.func23,Tryz.ntmps23;go_wp2_with fail
 go_loopg [5,6] (min n 10) (λ gg v iv wr=>∃ k:Nat,k<=min n 10/\gg=min n 10-k/\iv=.int .i64 (k:Nat)/\Bo w R k v wr)
 exact⟨0,Nat.zero_le _,rfl,rfl,zA H0⟩
 case round=>
  clear H0;obtain⟨k,hk,fM,rfl,ak⟩:=hrel;obtain⟨a2,c2,rfl⟩:=zE ak.row;have bt:=zC ak
  by_cases aN:k<min n 10
  ·obtain⟨g,off,rfl,hg,d0,d1,d2,d3,hr⟩:=((zA H).below ak.below).el k (by omega);have CK:(k:Int)<n:=(by omega);have Aw:(k:Int)<10:=(by omega);have H2:=zC (zdt wr (R k).1 8 (by decide) (by decide) hr.k.1 hr.k.2)
   by_cases hf:zF (R k).1 8<4
   ·have Jh:((zF (R k).1 8:Nat):Int)<4:=(by omega);have HF:=zC hf;have vu:=zC (λ W=>zpi W (R k).2.1 hr.a.1 hr.a.2);have Hr:=zC (λ W=>zpi W (R k).2.2.1 hr.b.1 hr.b.2);obtain⟨T,hT⟩:∃ T,T=gP (zF (R k).2.1 4) (zF (R k).2.2.1 4):=⟨_,rfl⟩;have KY:=zC hT;have zx:({ data:=#[101,40] }:B8)++yA (ae (zF (R k).2.1 4))++{ data:=#[44] }++yA (ae (zF (R k).2.2.1 4))++{ data:=#[41] }=T:=(zvu _ _).trans hT.symm;clear hT;have hlen:=zs4 R k;have sV:w.heap.size<=wr.heap.size:=ak.below.size;have bH:(((wr.alloc vQ).alloc vQ).alloc (.cells #[.string T] 9)).drew.ownsRow w.heap.size 9 1 (.slice a2 (qG R k).length c2) (qG R k).length ((qG R k).map Value.string):=((ak.row.alloc vQ).alloc vQ).alloc (.cells #[.string T] 9);have MG:=heap_alloc_new ((wr.alloc vQ).alloc vQ) (.cells #[.string T] 9);simp only[World.size_alloc] at MG;have gF:Hid (∀ (j:Nat) (u:Value),[Value.string T][j]?=some u->(((wr.alloc vQ).alloc vQ).alloc (.cells #[.string T] 9)).drew.cell? ((⟨wr.heap.size+1+1,0,none⟩:Addr).add j)=some u):=zC (World.news_of_block MG);have MF:=zC (((((Below.refl wr.heap.size wr).alloc L9 vQ).alloc (by simp) vQ).alloc (by simp only[World.size_alloc];omega) (.cells #[.string T] 9)).drew);have ET:Hid ((((wr.alloc vQ).alloc vQ).alloc (.cells #[.string T] 9)).drew.cell? ⟨g,off+k*4+1,none⟩=some (.int .i64 (R k).2.1)/\(((wr.alloc vQ).alloc vQ).alloc (.cells #[.string T] 9)).drew.cell? ⟨g,off+k*4+2,none⟩=some (.int .i64 (R k).2.2.1)):=zC ⟨((zA MF).cell (p:=⟨g,off+k*4+1,none⟩) hg).trans d1,((zA MF).cell (p:=⟨g,off+k*4+2,none⟩) hg).trans d2⟩;have s1:=zC bH;have s3:Hid (∀ u∈([.string T]:V8),u.oneCell'=true):=zC (by intro u hu;rw[List.mem_singleton.1 hu];rfl);have s4:Hid ((qG R k).length+1<=maxLen):=zC (by unfold maxLen;omega);have s5:Hid (((qG R k).length+1)*16<=140737488355328):=zC (by omega);have s6:Hid (w.heap.size<=(((wr.alloc vQ).alloc vQ).alloc (.cells #[.string T] 9)).drew.heap.size):=zC (Nat.le_trans sV (zA MF).size)
    have MQ:=zC (λ (v5:Value) (w5:W8) (dz:(((wr.alloc vQ).alloc vQ).alloc (.cells #[.string T] 9)).drew.grownBy w5 (Value.slice a2 (qG R k).length c2).ownBlock) (FU:w5.ownsRow w.heap.size 9 1 v5 ((qG R k).length+1) ((qG R k).map Value.string++[.string T]))=>(show Bo w R (k+1) v5 w5 from by
     have Nx:=FU;rw[zA KY] at Nx
     exact ak.add hf (zA MF) dz Nx))
    clear ak hr hf MG bH ET;generalize zF (R k).1 8=pk at *;go_upto_region 6 with (go_at_call 25;refine (zA H2).mono ?_;rintro e w1 ⟨rfl,bq⟩;have bq:=bq.symm;subst bq)
    go_region_law (first | (go_simp;go_at_call_of 21 (R k).2.1;refine (zA vu _).mono ?_;rintro e w1 ⟨rfl,rfl⟩;try dsimp only) | (go_simp;go_at_call_of 21 (R k).2.2.1;refine (zA Hr _).mono ?_;rintro e w1 ⟨rfl,rfl⟩;try dsimp only) | (refine step_append_lies _ rfl (.tmp 29) (.tmp 46) 33 rfl w.heap.size 9 i0 (.string { data:=#[] }) 1 16 Tryz.underlying33 hi dK cB bZ rfl (by decide) (.slice a2 (qG R k).length c2) (qG R k).length ((qG R k).map Value.string) (by simp[Act.eval]) (zA s1) ⟨wr.heap.size+1+1,0,none⟩ 1 1 [.string T] (by simp[Act.eval]) rfl (zA gF) (zA s3) (by decide) (zA s4) (zA s5) (zA s6) _ rfl ?_;intro g5 gz w5 hown5 dz jy kI;have mY:=zC hown5;have br:=zC dz;clear hown5 dz jy kI))
    all_goals
     go_wp2_with fail;go_roundg (min n 10-(k+1))
     case measure=>omega
     case rel=>
      exact⟨k+1,by omega,rfl,by go_num,zA MQ _ _ (zA br) (zA mY)⟩
   ·have oC:=zC (show Bo w R (k+1) (.slice a2 (qG R k).length c2) wr from ⟨ak.below,by rw[N1 hf];exact ak.row⟩);have Jh:¬ ((zF (R k).1 8:Nat):Int)<4:=(by omega);clear ak hr;generalize zF (R k).1 8=pk at *;go_wp2_with (go_at_call 25;refine (zA H2).mono ?_;rintro e w1 ⟨rfl,bq⟩;have bq:=bq.symm;subst bq);go_roundg (min n 10-(k+1));exact⟨k+1,by omega,rfl,by go_num,zA oC⟩;omega
  ·have kg:k=min n 10:=(by omega);have hR:=qd.ib ak.row;have HR:=zC hR;have hB:=ak.below;have HB:=zC hB;have fU:=zC ((zA HT).below hB);have NO:=zC (show ∀ i,i<16->yJ (zm0 0 i) zs=yJ (zm0 0 i) (qG R k) by rw[kg];exact zA HZ);have tW:=hR.cap;have NR:=hR.max;have h2c:=(zA fU).cap;have NS:=(zA fU).max;unfold maxLen at NR NS;generalize qG R k=ws at *;have yp:(k<n/\¬ k<10)\/¬ k<n:=(by omega);clear hR hB ak bt HZ H kg aN;generalize wr=wq at *;rcases yp with⟨h1,h2⟩ | h1;have q1:(k:Int)<n:=(by omega);have q2:¬ (k:Int)<10:=(by omega);go_upto_region 7 with fail
   rotate_left
   have q1:¬ (k:Int)<n:=(by omega);go_upto_region 7 with fail
   rotate_left
   all_goals
    go_wp2_with fail
    go_loopg [7] 16 (λ gg iv wr=>∃ i:Nat,i<=16/\gg=16-i/\iv=.int .i64 (i:Nat)/\Below wq.heap.size wq wr)
    exact⟨0,by omega,rfl,rfl,Below.refl _ _⟩
    case round=>
     obtain⟨i,M1,Fy,rfl,iD⟩:=hrel;have kr:=zC iD
     by_cases bP:i<16
     ·have CV:(i:Int)<16:=by omega
      have vu:Hid (Calls Tryz.prog 21 #[.int .i64 ((i:Int)/4)] wr λ e w'=>e=.returned (.string (yA (ae (i/4))))/\w'=wr.alloc vQ):=zC (by
       have:=zpi wr ((i/4:Nat):Int) (by omega) (by omega);rw[zls,Nat.mod_eq_of_lt (show i/4<4 by omega)] at this
       rw[show (i:Int)/4=((i/4:Nat):Int) by omega];exact this)
      have Hr:Hid (Calls Tryz.prog 21 #[.int .i64 (i:Int)] (wr.alloc vQ) λ e w'=>e=.returned (.string (yA (ae (i%4))))/\w'=(wr.alloc vQ).alloc vQ):=zC (by
       have:=zpi (wr.alloc vQ) (i:Int) (by omega) (by omega);rw[zls] at this
       exact this)
      have BO:=((Below.refl wr.heap.size wr).alloc L9 vQ).alloc (by simp) vQ;have rF:=zC (iD.trans (BO.mono iD.size));have Ng:=zC (z1k ((wr.alloc vQ).alloc vQ) a1 c1 zs (zm0 0 i) ((zA fU).below (zA rF)));have vg:=zC (z1k ((wr.alloc vQ).alloc vQ) a2 c2 ws (zm0 0 i) ((zA HR).below (zA rF)));rw[zA NO i bP] at Ng;have KX:=zC ((zvu (i/4) (i%4)).trans (yaf i));generalize yJ (zm0 0 i) ws=b at *;clear iD BO;go_wp2_with fail;refine (zA vu).mono ?_;rintro e w9 ⟨rfl,rfl⟩;go_wp2_with fail;refine (zA Hr).mono ?_;rintro e w9 ⟨rfl,rfl⟩;go_upto_region 11 with fail;rw[zA KX];generalize zm0 0 i=t at *;generalize (wr.alloc vQ).alloc vQ=wA at *;clear KX vu Hr
      cases b
      all_goals
       go_wp2_with fail;refine (zA Ng).mono ?_;rintro e w9 ⟨rfl,tw⟩;have tw:=tw.symm;subst tw;go_wp2_with fail;refine (zA vg).mono ?_;rintro e w9 ⟨rfl,tw⟩;have tw:=tw.symm;subst tw;go_wp2_with fail;go_roundg (16-(i+1));exact⟨i+1,by omega,rfl,by go_num,zA rF⟩;omega
     ·have CV:¬ (i:Int)<16:=(by omega);have Mt:=zC ((zA HB).trans (iD.mono (zA HB).size));clear iD;go_wp2_with fail;go_ret;exact⟨rfl,zA Mt⟩
end
section
open Go.RowKit Go.Maps
theorem z0m (a b:List UInt8):aj a++{ data:=b.toArray }=aj (a++b):=zmi a b
theorem ydm (x y:Nat):({ data:=#[122,122,40] }:B8)++yA (ae x)++{ data:=#[44] }++yA (ae y)++{ data:=#[41] }=zzT x y:=by
 apply ByteArray.ext;simp only[ByteArray.data_append];rfl
theorem ydk (x y:Nat):({ data:=#[121,121,40] }:B8)++yA (ae x)++{ data:=#[44] }++yA (ae y)++{ data:=#[41] }=yyT x y:=by
 apply ByteArray.ext;simp only[ByteArray.data_append];rfl
theorem ydj (x y:Nat):({ data:=#[120,120,40] }:B8)++yA (ae x)++{ data:=#[44] }++yA (ae y)++{ data:=#[41] }=xxT x y:=by
 apply ByteArray.ext;simp only[ByteArray.data_append];rfl
theorem ydi (x:Nat):({ data:=#[119,119,40] }:B8)++yA (ae x)++{ data:=#[41] }=wwT x:=by
 apply ByteArray.ext;simp only[ByteArray.data_append];rfl
theorem yd0 (x y:Nat):({ data:=#[101,40] }:B8)++yA (ae x)++{ data:=#[44] }++yA (ae y)++{ data:=#[41] }=tT 0 x y:=by
 apply ByteArray.ext;simp only[ByteArray.data_append];rfl
theorem yd2 (x y:Nat):({ data:=#[102,40] }:B8)++yA (ae x)++{ data:=#[44] }++yA (ae y)++{ data:=#[41] }=tT 1 x y:=by
 apply ByteArray.ext;simp only[ByteArray.data_append];rfl
theorem yd3 (x y:Nat):({ data:=#[103,40] }:B8)++yA (ae x)++{ data:=#[44] }++yA (ae y)++{ data:=#[41] }=tT 2 x y:=by
 apply ByteArray.ext;simp only[ByteArray.data_append];rfl
theorem ycz (x y:Nat):({ data:=#[104,40] }:B8)++yA (ae x)++{ data:=#[44] }++yA (ae y)++{ data:=#[41] }=tT 3 x y:=by
 apply ByteArray.ext;simp only[ByteArray.data_append];rfl
theorem kam (w:W8)(a:O8)(c:Nat)(zs:List B8)(t:B8)(b:Bool)(hb:yJ t zs=b)(h:qd w a c zs):Calls Tryz.prog 22 #[.slice a zs.length c,.string t] w λ e w'=>e=.returned (.bool b)/\w'=w:=by
 rw[<-hb];exact z1k w a c zs t h
variable {n:Nat}
theorem zxe (R:Nat->Raw)(hn:n<=10):xJ (aj (qC (λ i=>j7 (R i)) n++zip))=(true,0,0)/\(aj (qC (λ i=>j7 (R i)) n++zip)).size<=maxLen/\∀ k m,zZ (zH (aj (qC (λ i=>j7 (R i)) n++zip))).2 k=some m->m=arC k:=by
 have h1:=zdf (λ i=>j7 (R i)) n;refine⟨?_,?_,λ k m h=>?_⟩
 ·rw[zja];exact (zky (by simp) (by simp;omega) (zp6 R n)).1
 ·rw[lP,List.length_append];have:zip.length=94:=rfl;unfold maxLen;omega
 ·rw[zja] at h;exact zqx (by simp) (by simp;omega) (zp6 R n) h
def zya:B8:={ data:=zip.toArray }
theorem ztl (R:Nat->Raw)(hn:n<=10):xJ (aj (qC (λ i=>j7 (R i)) n)++zya)=(true,0,0)/\(aj (qC (λ i=>j7 (R i)) n)++zya).size<=maxLen/\(∀ k m,zZ (zH (aj (qC (λ i=>j7 (R i)) n)++zya)).2 k=some m->m=arC k)/\(aj (qC (λ i=>j7 (R i)) n)).size<=1000:=by
 have h:=zxe R hn;rw[<-z0m] at h;have h1:=zdf (λ i=>j7 (R i)) n;exact⟨h.1,h.2.1,h.2.2,by rw[lP];omega⟩
def ycb (R:Nat->Raw)(n:Nat)(s s2:B8):Prop:=∀ (xb DT:Nat) (w w':W8) (lo DH:Nat) (rs qq:List PR),bp s xb w lo rs->bp s2 DT w' DH qq->∀ (S S':B8->Nat) (m m':Nat) (K K':List (Th × Nat)),Mod s rs 50 S m (some K)->Mod s2 qq 50 S' m' (some K')->yep R n (zkn K 4) (zj7 K' (zve zzB 88 89)) (zj7 K' (zve yyB 65 66)) (zj7 K' (zve xxB 65 66)) (zj7 K' ycn)
theorem z0q (R:Nat->Raw)(hn:n<=10):ycb R n (aj (qC (λ i=>j7 (R i)) n)) (aj (qC (λ i=>j7 (R i)) n)++zya):=
 λ _ _ _ _ _ _ _ _ hP og _ _ _ _ _ _ hM ev=>z95 hn rfl (z0m _ _) hP og hM ev
theorem z27 (f:Nat->Bool)(k:Nat):(List.range (k+1)).any f=((List.range k).any f||f k):=by
 rw[List.range_succ,List.any_append];simp
attribute [local go_sem] nQ
theorem ztm (w:W8)(la:O8)(n c:Nat)(R:Nat->Raw)(hL:wW w la n R)(dG:n<=c)(dx:c<=maxLen):Calls Tryz.prog 9 #[.slice la n c] w (z5j w):=by
 have HL:=zC hL;have HN:=zC (And.intro dG dx);clear hL dG dx;go_enter Tryz.func9,Tryz.ntmps9;go_wp2_with fail;refine (yc2 w).mono ?_;rintro e w1 ⟨rfl,aT⟩;have cR:=zC aT;have HT:=zC (yd9 w1 la n c R ((zA HL).below aT) (zA HN).1 (zA HN).2 10 (by decide));clear aT;go_wp2_with fail;refine (zA HT).mono ?_;rintro e w2 ⟨rfl,aU⟩;have HK:=zC (z79 R (n:=min n 10) (by omega));have HC:=zC (ztl R (n:=min n 10) (by omega));have Nl:=zC (z0q R (n:=min n 10) (by omega));generalize aj (qC (λ i=>j7 (R i)) (min n 10))=s at *;have ep:=zC ((zA cR).trans (aU.mono (zA cR).size));have Ed:=zC (yaq w2 s (zA HK).sz (zA HK).ok);have hsz:=(zA HC).2.2.2;have Cm:¬ (9223372036854775807<s.size+94):=by omega
 clear aU HT cR;go_wp2_with fail;refine (zA Ed).mono ?_;rintro e w3 ⟨xb,rs,rfl,hP,cE⟩;have HP:=zC hP;have gh:=zC ((zA ep).trans (cE.mono (zA ep).size));have wU:=zC (yaq w3 (s++zya) (zA HC).2.1 (zA HC).1);clear hP cE ep Ed;go_wp2_with fail;refine (zA wU).mono ?_;rintro e w4 ⟨yb,rq,rfl,hQ,bQ⟩;have HQ:=zC hQ;have wY:=zC ((zA HP).below bQ);have eC:=zC ((zA gh).trans (bQ.mono (zA gh).size));have HA:=zC (yey w4 s xb _ rs (zA wY) (zA HK).two);have KU:=zC (zA HC).2.2.1;generalize s++zya=s2 at *;clear hQ bQ gh wU HP HC hsz Cm;go_wp2_with fail;refine (zA HA).mono ?_;intro e w5 ad;obtain⟨a1,c1,zs,sm,rfl,Fc,sf,EP,eO⟩:=ad.pW;have HZ:=zC Fc;have Bn:=zC ((zA wY).below eO);have H7:=zC ((zA HQ).below eO);have jn:=zC ((zA eC).trans (eO.mono (zA eC).size));clear ad Fc EP eO HA wY HQ eC
 cases sm with
 | false=>
  clear sf;go_wp2_with fail;go_ret;exact⟨rfl,zA jn⟩
 | true=>
  obtain⟨S,m,K,hM,AK⟩:=sf;have HM:=zC hM;have Nv:=zC AK;have MC:=zC (zbr (zA H7) { data:=#[122,122,40,88,44,89,41] } (by decide) 50);clear hM AK;go_wp2_with fail;refine (zA MC).mono ?_;rintro e w6 ⟨ho,iA⟩;have mU:=zC ((zA jn).trans (iA.mono (zA jn).size));rcases zse (limit:=50) (by decide) (by decide) (z5q (zA KU)) ho with⟨S',m',NT,rfl⟩ | ⟨S',m',K',az,cz,ev,_,rfl,hZ⟩
  ·clear ho iA NT MC;go_wp2_with fail;go_ret;exact⟨rfl,zA mU⟩
  ·have MX:=zA Nl _ _ _ _ _ _ _ _ (zA Bn) (zA H7) _ _ _ _ _ _ (zA HM) ev;rw[<-zA Nv] at MX;have pZ:=zC MX;have Mx:=zC ev;have MD:=zC ((zA H7).below iA);have Nh:=zC ((zA HZ).below iA);have Nt:=zC hZ;have En:=zC (zbr (zA MD) { data:=#[121,121,40,65,44,66,41] } (by decide) 50);generalize zj7 K' (zve zzB 88 89)=Z at *;clear ho iA ev hZ MX MC H7 HZ jn Bn Nl;go_wp2_with fail;refine (zA En).mono ?_;rintro e w7 ⟨ho,mB⟩;obtain⟨ay,cy,rfl,hY⟩:=ziy (zA MD).cg (zA Mx) (z5p (zA KU)) ho;have KW:=zC ((zA mU).trans (mB.mono (zA mU).size));have Eo:=zC ((zA MD).below mB);have Ni:=zC ((zA Nh).below mB);have ID:=zC ((zA Nt).below mB);have IB:=zC hY;have Nq:=zC (zbr (zA Eo) { data:=#[120,120,40,65,44,66,41] } (by decide) 50);generalize zj7 K' (zve yyB 65 66)=Y at *;clear ho mB hY En MD Nh Nt mU;go_wp2_with fail;refine (zA Nq).mono ?_;rintro e w8 ⟨ho,ue⟩;obtain⟨ax,cx,rfl,hX⟩:=ziy (zA Eo).cg (zA Mx) (z5o (zA KU)) ho;have Bp:=zC ((zA KW).trans (ue.mono (zA KW).size));have MS:=zC ((zA Eo).below ue);have Nj:=zC ((zA Ni).below ue);have Nu:=zC ((zA ID).below ue);have Ns:=zC ((zA IB).below ue);have Iw:=zC hX;have Nr:=zC (zbr (zA MS) { data:=#[119,119,40,65,41] } (by decide) 50);generalize zj7 K' (zve xxB 65 66)=X at *;clear ho ue hX Nq Eo Ni ID IB KW;go_wp2_with fail;refine (zA Nr).mono ?_;rintro e w9 ⟨ho,Fj⟩;obtain⟨aw,cw,rfl,hW⟩:=ziy (zA MS).cg (zA Mx) (z5n (zA KU)) ho;have MR:=zC ((zA Bp).trans (Fj.mono (zA Bp).size));have qs:=zC ((zA Nj).below Fj);have NP:=zC ((zA Nu).below Fj);have NN:=zC ((zA Ns).below Fj);have Ix:=zC ((zA Iw).below Fj);have NL:=zC hW;have NK:=zC ((zA HL).below (zA MR));generalize zj7 K' ycn=V at *;clear ho Fj hW Nr MS Nj Nu Ns Iw Bp HL HM Mx Nv KU HK;have FJ:=(zA qs).cap;have FK:=(zA qs).max;unfold maxLen at FK
   have Hw:=zC (λ (W:W8) (i:Nat) (hi:i<16)=>(show Calls Tryz.prog 21 #[.int .i64 (i:Nat)] W λ e w'=>e=.returned (.string (yA (ae (i%4))))/\w'=W.alloc vQ from by
    have:=zpi W (i:Nat) (by omega) (by omega)
    rwa [zls] at this))
   go_wp2_with fail
   go_loopg [17] 16 (λ gg iv wr=>∃ i:Nat,i<=16/\gg=16-i/\iv=.int .i64 (i:Nat)/\Below w9.heap.size w9 wr)
   exact⟨0,by omega,rfl,rfl,Below.refl _ _⟩
   case round=>
    obtain⟨i,M1,Fy,rfl,iD⟩:=hrel
    by_cases bP:i<16
    ·have CV:(i:Int)<16:=by omega
     have vu:Hid (Calls Tryz.prog 21 #[.int .i64 ((i:Int)/4)] wr λ e w'=>e=.returned (.string (yA (ae (i/4))))/\w'=wr.alloc vQ):=zC (by
      have:=zA Hw wr (i/4) (by omega);rw[show i/4%4=i/4 by omega] at this
      rw[show (i:Int)/4=((i/4:Nat):Int) by omega];exact this)
     have Hr:=zC (zA Hw (wr.alloc vQ) i bP);have BO:=((Below.refl wr.heap.size wr).alloc L9 vQ).alloc (by simp) vQ;obtain⟨wA,Gg⟩:∃ wA,wA=(wr.alloc vQ).alloc vQ:=⟨_,rfl⟩;rw[<-Gg] at BO Hr;have rF:=zC (iD.trans (BO.mono iD.size));have IY:i/4<4:=(by omega);have AJ:i%4<4:=(by omega);obtain⟨x,hx⟩:∃ x,i/4=x:=⟨_,rfl⟩;obtain⟨y,hy⟩:∃ y,i%4=y:=⟨_,rfl⟩;rw[hx] at IY vu;rw[hy] at AJ Hr;have G7:=zC ((zwf (ae x) (ae y)).trans (yc7 x IY y AJ));have M0:=(zA pZ).zz x y IY AJ;have MY:=(zA pZ).xx x y IY AJ;have MZ:=(zA pZ).yy x y IY AJ;have Nw:=(zA pZ).ww x IY;obtain⟨bh,nz⟩:∃ b,yJ (tT 3 y x) zs=b:=⟨_,rfl⟩;obtain⟨bg,iC⟩:∃ b,yJ (tT 3 x y) zs=b:=⟨_,rfl⟩;obtain⟨be,iM⟩:∃ b,yJ (tT 0 x y) zs=b:=⟨_,rfl⟩;obtain⟨NQ,MV⟩:∃ b,((List.range 4).any λ k=>yJ (tT 1 x k) zs&&yJ (tT 2 k y) zs)=b:=⟨_,rfl⟩;rw[nz] at M0;rw[iM,iC] at MY;rw[MV] at MZ;have NH:=zC MV;have Np:=zC ((zA qs).below (zA rF));have vl:Hid (Calls Tryz.prog 22 #[.slice az Z.length cz,.string (({ data:=#[122,122,40] }:B8)++yA (ae x)++{ data:=#[44] }++yA (ae y)++{ data:=#[41] })] wA λ e w'=>e=.returned (.bool bh)/\w'=wA):=zC (by rw[ydm];exact kam wA az cz Z _ _ M0 ((zA NP).below (zA rF)));have ks:Hid (Calls Tryz.prog 22 #[.slice a1 zs.length c1,.string (({ data:=#[104,40] }:B8)++yA (ae y)++{ data:=#[44] }++yA (ae x)++{ data:=#[41] })] wA λ e w'=>e=.returned (.bool bh)/\w'=wA):=zC (by rw[ycz];exact kam wA a1 c1 zs _ _ nz ((zA qs).below (zA rF)));have vm:Hid (Calls Tryz.prog 22 #[.slice ax X.length cx,.string (({ data:=#[120,120,40] }:B8)++yA (ae x)++{ data:=#[44] }++yA (ae y)++{ data:=#[41] })] wA λ e w'=>e=.returned (.bool (be&&!bg))/\w'=wA):=zC (by rw[ydj];exact kam wA ax cx X _ _ MY ((zA Ix).below (zA rF)));have pY:Hid (Calls Tryz.prog 22 #[.slice a1 zs.length c1,.string (({ data:=#[101,40] }:B8)++yA (ae x)++{ data:=#[44] }++yA (ae y)++{ data:=#[41] })] wA λ e w'=>e=.returned (.bool be)/\w'=wA):=zC (by rw[yd0];exact kam wA a1 c1 zs _ _ iM ((zA qs).below (zA rF)))
     have D2:Hid (Calls Tryz.prog 22 #[.slice a1 zs.length c1,.string (({ data:=#[104,40] }:B8)++yA (ae x)++{ data:=#[44] }++yA (ae y)++{ data:=#[41] })] wA λ e w'=>e=.returned (.bool bg)/\w'=wA):=zC (by rw[ycz];exact kam wA a1 c1 zs _ _ iC ((zA qs).below (zA rF)));have Nk:Hid (Calls Tryz.prog 22 #[.slice ay Y.length cy,.string (({ data:=#[121,121,40] }:B8)++yA (ae x)++{ data:=#[44] }++yA (ae y)++{ data:=#[41] })] wA λ e w'=>e=.returned (.bool NQ)/\w'=wA):=zC (by rw[ydk];exact kam wA ay cy Y _ _ MZ ((zA NN).below (zA rF)))
     have NI:Hid (x=y->∀ W,Below wA.heap.size wA W->Calls Tryz.prog 22 #[.slice aw V.length cw,.string (({ data:=#[119,119,40] }:B8)++yA (ae x)++{ data:=#[41] })] W λ e w'=>e=.returned (.bool be)/\w'=W):=zC (λ km W hk=>by
      rw[ydi]
      exact kam W aw cw V _ _ (Nw.trans (by rw[<-iM,km])) ((zA NL).below ((zA rF).trans (hk.mono (zA rF).size))))
     have HF:=zC (λ (k:Nat) (hk:k<4) (W:W8) (hW:Below wA.heap.size wA W)=>(show Calls Tryz.prog 22 #[.slice a1 zs.length c1,.string (({ data:=#[102,40] }:B8)++yA (ae x)++{ data:=#[44] }++yA (ae k)++{ data:=#[41] })] W λ e w'=>e=.returned (.bool (yJ (tT 1 x k) zs))/\w'=W from by
      rw[yd2]
      exact kam W a1 c1 zs _ _ rfl ((zA Np).below hW)))
     have HG:=zC (λ (k:Nat) (hk:k<4) (W:W8) (hW:Below wA.heap.size wA W)=>(show Calls Tryz.prog 22 #[.slice a1 zs.length c1,.string (({ data:=#[103,40] }:B8)++yA (ae k)++{ data:=#[44] }++yA (ae y)++{ data:=#[41] })] W λ e w'=>e=.returned (.bool (yJ (tT 2 k y) zs))/\w'=W from by
      rw[yd3]
      exact kam W a1 c1 zs _ _ rfl ((zA Np).below hW)))
     have NM:=zC Gg;clear iD BO Gg M0 MY MZ Nw nz iC iM MV hx hy;go_wp2_with fail;refine (zA vu).mono ?_;rintro e my ⟨rfl,rfl⟩;go_wp2_with fail;refine (zA Hr).mono ?_;rintro e my ⟨rfl,aq⟩;have aq:=aq.symm;subst aq;go_wp2_with fail;refine (zA vl).mono ?_;rintro e my ⟨rfl,aq⟩;have aq:=aq.symm;subst aq;go_wp2_with fail;refine (zA ks).mono ?_;rintro e my ⟨rfl,aq⟩;have aq:=aq.symm;subst aq;go_wp2_with fail;refine (zA vm).mono ?_;rintro e my ⟨rfl,aq⟩;have aq:=aq.symm;subst aq;go_wp2_with fail;refine (zA pY).mono ?_;rintro e my ⟨rfl,aq⟩;have aq:=aq.symm;subst aq;go_wp2_with fail;refine (zA D2).mono ?_;rintro e my ⟨rfl,aq⟩;have aq:=aq.symm;subst aq;clear vl ks vm pY D2 vu Hr NM;go_upto_region 28 with fail
     go_cut [152] from 92 to 203 (λ s wc=>s=.bool false/\wc=wA)
     case first=>
      cases bh <;> cases be <;> cases bg
      all_goals
       go_wp2_with fail;go_meet
       case rel=>exact⟨rfl,rfl⟩
     case rest=>
      obtain⟨rfl,tU⟩:=hcut;have tU:=tU.symm;subst tU;go_wp2_with fail;refine (zA Nk).mono ?_;rintro e my ⟨rfl,aq⟩;have aq:=aq.symm;subst aq;generalize hgk1:gk=gk1 at *;clear Nk;go_wp2_with fail
      go_loopg [26,27] 4 (λ gg v kv wr=>∃ k:Nat,k<=4/\gg=4-k/\v=.bool ((List.range k).any (λ k=>yJ (tT 1 x k) zs&&yJ (tT 2 k y) zs))/\kv=.int .i64 (k:Nat)/\Below wA.heap.size wA wr)
      exact⟨0,by omega,rfl,rfl,rfl,Below.refl _ _⟩
      case round=>
       obtain⟨k,bz,fM,rfl,rfl,aL⟩:=hrel
       by_cases aN:k<4
       ·have NV:(k:Int)<4:=(by omega);have aT:=aL.alloc aL.size vQ;have aU:=aT.alloc aT.size vQ;have gM:=zC (zA Hw wr k (by omega));have ky:=zC (zA Hw (wr.alloc vQ) k (by omega));rw[show k%4=k by omega] at gM ky;have fS:=zC (zA HF k aN _ aT);have Hb:=zC (zA HG k aN _ aU);have nW:=zC aU;have gx:(List.range (k+1)).any (λ k=>yJ (tT 1 x k) zs&&yJ (tT 2 k y) zs)=((List.range k).any (λ k=>yJ (tT 1 x k) zs&&yJ (tT 2 k y) zs)||(yJ (tT 1 x k) zs&&yJ (tT 2 k y) zs)):=z27 _ k;obtain⟨bw,ei⟩:∃ b,(List.range k).any (λ k=>yJ (tT 1 x k) zs&&yJ (tT 2 k y) zs)=b:=⟨_,rfl⟩;rw[ei] at gx ⊢;have Ic:=zC gx;generalize yJ (tT 1 x k) zs=bf at *;generalize yJ (tT 2 k y) zs=bk at *;clear gx ei aT aU aL;go_wp2_with fail;refine (zA gM).mono ?_;rintro e MH ⟨rfl,rfl⟩;go_wp2_with fail;refine (zA fS).mono ?_;rintro e MH ⟨rfl,aZ⟩;have aZ:=aZ.symm;subst aZ;go_wp2_with fail;refine (zA ky).mono ?_;rintro e MH ⟨rfl,rfl⟩;go_wp2_with fail;refine (zA Hb).mono ?_;rintro e MH ⟨rfl,aZ⟩;have aZ:=aZ.symm;subst aZ;go_upto_region 37 with fail;clear gM ky fS Hb;generalize (wr.alloc vQ).alloc vQ=wB at *
        cases bw <;> cases bf <;> cases bk
        all_goals
         go_wp2_with fail;go_roundg (4-(k+1));exact⟨k+1,by omega,rfl,by rw[zA Ic];rfl,by go_num,zA nW⟩;omega
       ·have hk:k=4:=(by omega);subst hk;rw[zA NH];have vi:=zC ((zA rF).trans (aL.mono (zA rF).size))
        by_cases km:x=y
        ·have heq:((yA (ae x)).toList==(yA (ae y)).toList)=true:=(by rw[zA G7];exact decide_eq_true km);have NJ:=zC (zA NI km wr aL);clear aL km;go_wp2_with fail;refine (zA NJ).mono ?_;rintro e MH ⟨rfl,aZ⟩;have aZ:=aZ.symm;subst aZ;go_wp2_with fail;go_roundg (16-(i+1));exact⟨i+1,by omega,rfl,by go_num,zA vi⟩;omega
        ·have heq:((yA (ae x)).toList==(yA (ae y)).toList)=false:=(by rw[zA G7];exact decide_eq_false km);clear aL km;go_wp2_with fail;go_roundg (16-(i+1));exact⟨i+1,by omega,rfl,by go_num,zA vi⟩;omega
    ·have CV:¬ (i:Int)<16:=(by omega);have Nn:=zC (yc1 wr la n c R ((zA NK).below iD) (zA HN).1 (zA HN).2 a1 c1 zs ((zA qs).below iD) (zA pZ).facts);have Mt:=zC ((zA MR).trans (iD.mono (zA MR).size));clear iD;go_wp2_with fail;refine (zA Nn).mono ?_;rintro e my ⟨rfl,Lv⟩;have G0:=zC ((zA Mt).trans (Lv.mono (zA Mt).size));clear Lv Nn;go_wp2_with fail;go_ret;exact⟨rfl,zA G0⟩
end
end Go.Proofs.YtldkpahaocjdpaaGreat
