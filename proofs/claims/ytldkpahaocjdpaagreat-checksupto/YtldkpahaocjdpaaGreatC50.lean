/-
  The reference's Check.
-/
import Derived.Test.YtldkpahaocjdpaaGreatC49
import Derived.Test.YtldkpahaocjdpaaGreatC40
import Derived.Laws.IdiomStrings
import Derived.Lib.SlBuf
import Derived.Lib.LazyBuf
set_option maxHeartbeats 16000000
set_option maxRecDepth 1000000
namespace Go.Proofs.YtldkpahaocjdpaaGreat
section
open Go.RowKit
theorem yar {s:B8}(cd:(yH s).1=true){w:W8}{yb:Nat}{rs:List RR}{ps:P9}{rv pv tv:Value}{gs:Nat}{S:Nat->Nat}(h3:ziv w yb rs ps rv pv tv (.slice (some ⟨gs,0,none⟩) ps.length ps.length))(h4:nk w gs ps.length S)(h5:zdf ps (rs.map (·.R)) S)(h6:Low ps (rs.map (·.R)) S)(h7:rs.map (·.R)=(yO s).1)(h8:ps=(yA s).2)(h9:zd2 ps ((yO s).1.flatMap zP.atoms)):AX w yb rs ps rv pv tv gs S/\(∀ r∈rs,∀ a∈r.R.body,0<=zM ps a.pred)/\∀ i,S i<=1000000:=by
 have hg:=zfy cd;subst h8;rw[h7] at h5 h6;have ay:∀ r∈rs,yT r.R∈(yS s).2.2.1:=λ r hr=>by
  rw[hg.rules,<-h7,List.map_map];exact List.mem_map.2 ⟨r,hr,rfl⟩
 have hm:∀ r∈rs,r.R∈(yO s).1:=λ r hr=>by rw[<-h7];exact List.mem_map_of_mem hr
 have eS:∀ A:zL,zit A.pred (A.ae.map gZ)->zgo A:=λ A hA=>⟨by have:=hA.pd.le;omega,λ t ht=>by
  have:=(hA.ts (gZ t) (List.mem_map.2 ⟨t,ht,rfl⟩)).le;have e:(gZ t).2=t.text:=rfl;rw[e] at this
  omega,by have:=hA.gH;rw[List.length_map] at this;exact this⟩
 refine⟨⟨h3,h4,λ r hr=>?_,λ r hr a ha=>?_,λ r hr=>?_⟩,λ r hr a ha=>h9 _ (List.mem_flatMap.2 ⟨r.R,hm r hr,List.mem_cons_of_mem _ ha⟩),λ i=>?_⟩
 ·have hb:=hg.body _ (ay r hr);have e:=(h3.each r hr).eq;simp only[yT] at hb;rw[List.length_map,e,List.length_map] at hb;exact hb
 ·have hw:=zei s _ (ay r hr);rcases List.mem_cons.1 ha with rfl | ha
  ·exact eS _ hw.1
  ·exact eS _ (hw.2 (nI a) (List.mem_map.2 ⟨a,ha,rfl⟩))
 ·exact h9 _ (List.mem_flatMap.2 ⟨r.R,hm r hr,List.mem_cons_self⟩)
 ·obtain⟨f,hf,nO⟩:=hg.some_;rw[hg.rules] at hf;have:=h6 _ (zoe hf h9) i;have:=nO (z7q (yA s).2 i);omega
def zhb (ps:P9)(S:Nat->Nat)(k:Nat)(l:List zQ)(A:zL):Nat:=if 0<=yL l (zU A) then 1 else if zM ps A.pred<0 then 2 else if S (vZ ps A.pred)<k then 2 else 3
def yas (ps:P9)(S:Nat->Nat)(rs:List zP)(q:B8)(bs:List Nat)(e:Ending):Prop:=
 ((zae ps q&&vP (zJ q))=false/\e=.returned (.int .i64 (3:Nat)))\/((zae ps q&&vP (zJ q))=true/\((∃ l k,zd5 rs ps S bs l/\bs[0]?=some k/\e=.returned (.int .i64 (zhb ps S k l (zJ q):Nat)))\/((∀ l,¬ zd5 rs ps S bs l)/\e=.returned (.int .i64 (3:Nat)))))
def z6q (s q:B8)(bs:List Nat)(e:Ending):Prop:=
 ((yH s).1=false/\e=.returned (.int .i64 (3:Nat)))\/((yH s).1=true/\∃ S:Nat->Nat,zdf (yA s).2 (yO s).1 S/\Low (yA s).2 (yO s).1 S/\yas (yA s).2 S (yO s).1 q bs e)
theorem zwl (w:W8)(s q:B8)(hq:q.size<=2000000)(ba:O8)(bc:Nat)(bs:List Nat)(cX:nJ w ba bc bs)(eK:bs.length<=1000000000):
  Calls Tryz.prog 82 #[.string s,.string q,.slice ba bs.length bc] w λ e w'=>z6q s q bs e/\Below w.heap.size w w':=by
 have HL:=zC (zej s w);have oJ:=zC cX;clear cX
 cases cd:(yH s).1 with
 | false=>
  have gK:=zC cd;have BC:(yH s).2.1≠0:=by
   have:=zcu s;rw[cd] at this;simpa using this
  clear cd;go_enter Tryz.func82,Tryz.ntmps82;go_wp2_with (go_at_call 79;refine (zA HL).mono ?_;rintro e w1 ⟨y,rfl,hy,aM,-⟩;have lC:=zC aM;clear aM hy);go_ret;exact⟨.inl ⟨zA gK,rfl⟩,zA lC⟩
 | true=>
  have gK:=zC cd;have BC:(yH s).2.1=0:=by
   have:=zcu s;rw[cd] at this;simpa using this
  clear cd;go_enter Tryz.func82,Tryz.ntmps82;go_upto_region 2 with (go_at_call 79;refine (zA HL).mono ?_;rintro e w1 ⟨y,rfl,hy,aM,hk⟩;have lC:=zC aM;have SM:=zC hk;have HY:=zC hy;clear aM hk hy)
  cases y with
  | none=>have:=zA HY;rw[zA gK] at this;cases this
  | some ad=>
   obtain⟨o,rs,ps,rv,pv,tv,gs,S,rfl,h1,h2,h3,h4,h5,h6,h7,h8,h9⟩:=zA SM ad rfl;obtain⟨hC,hZ,hS⟩:=yar (zA gK) h3 h4 h5 h6 h7 h8 h9;have HC:=zC hC;have MS:=zC hZ;have HS:=zC hS;have SY:=zC (show zdf (yA s).2 (yO s).1 S/\Low (yA s).2 (yO s).1 S from by rw[<-h8,<-h7];exact⟨h5,h6⟩);have A6:=zC (And.intro h7 h8);clear hC hZ hS h1 h2 h3 h4 h5 h6 h7 h8 h9 SM HY HL;go_upto_region 4 with fail;go_wp2_with fail;refine (zya w1 o rs ps rv pv tv _ (zA HC).prog q (by unfold maxLen;omega)).mono ?_;rintro e w2 ⟨v,rfl,oZ⟩;obtain⟨aa,ca,rfl⟩:=zD oZ.row;have lE:=oZ.below;have eS:=heap_alloc_new w2 (.cells #[.string (zJ q).pred,.slice aa (zJ q).ae.length ca,.bool (zJ q).no,.int .i64 (zJ q).at_,.int .i64 (zJ q).ak] 243);have tR:=oZ.row.alloc (.cells #[.string (zJ q).pred,.slice aa (zJ q).ae.length ca,.bool (zJ q).no,.int .i64 (zJ q).at_,.int .i64 (zJ q).ak] 243);have aH:Below w1.heap.size w1 (w2.alloc (.cells #[.string (zJ q).pred,.slice aa (zJ q).ae.length ca,.bool (zJ q).no,.int .i64 (zJ q).at_,.int .i64 (zJ q).ak] 243)):=lE.alloc lE.size _;have nK:=zC tR;have kR:=zC aH;have me:=zC eS;clear oZ aH eS tR lE;unfold zL.val;go_upto_region 5 with fail;generalize (w2.alloc (.cells #[.string (zJ q).pred,.slice aa (zJ q).ae.length ca,.bool (zJ q).no,.int .i64 (zJ q).at_,.int .i64 (zJ q).ak] 243))=W at *;generalize w2.heap.size=ab at *;have a0:=(zB (zA me) 0).1;have a1:=(zB (zA me) 1).1;have a2:=(zB (zA me) 2).1;have a3:=(zB (zA me) 3).1;have a4:=(zB (zA me) 4).1;simp only[List.getElem?_toArray,List.getElem?_cons_zero,List.getElem?_cons_succ] at a0 a1 a2 a3 a4;go_upto_region 6 with (go_at_call 131;refine (zph W _ (zJ q) aa ca (zA nK)).mono ?_;rintro e w3 ⟨rfl,eG⟩;have kZ:=zC eG;clear eG);have Gl:Below w1.heap.size w1 w3:=(zA kR).trans ((zA kZ).mono (zA kR).size);have Ku:Below w.heap.size w w3:=(zA lC).trans (Gl.mono (zA lC).size);have xw:=(zA HC).below Gl;have Bs:=((zA kZ).block _ (Array.getElem?_eq_some_iff.1 (zA me)).1).trans (zA me)
   have nT:=zH (zA nK) (zA kZ) (λ g e=>((zA nK).lt g e).2);have uM:=zC Ku;have Dv:=zC xw;have AZ:=zC Bs;have tA:=zC nT;have cV:=zC (λ (e:Ending) (he:yas ps S (rs.map (·.R)) q bs e)=>(show z6q s q bs e from .inr ⟨zA gK,S,(zA SY).1,(zA SY).2,by rw[(zA A6).1,(zA A6).2] at he;exact he⟩));clear Gl Ku xw Bs nT a0 a1 a2 a3 a4 nK kR me kZ HC
   cases hao:zae ps q with
   | false=>
    have HE:=zC (show (zae ps q&&vP (zJ q))=false by rw[hao];rfl);clear hao;go_wp2_with fail;go_ret;exact⟨zA cV _ (.inl ⟨zA HE,rfl⟩),zA uM⟩
   | true=>
    cases sg:vP (zJ q) with
    | false=>
     have HE:=zC (show (zae ps q&&vP (zJ q))=false by rw[hao,sg];rfl);clear hao sg;go_wp2_with fail;go_ret;exact⟨zA cV _ (.inl ⟨zA HE,rfl⟩),zA uM⟩
    | true=>
     have hE:(zae ps q&&vP (zJ q))=true:=(by rw[hao,sg];rfl);have qu:=zC (zrh hE);have HE:=zC hE;have C4:=zC (zwm w3 o rs ps rv pv tv gs S zad ba bc bs ((zA oJ).below (zA uM)) (z91 (zA Dv) (zA MS) (zA HS) eK));clear hao sg hE;go_upto_region 9 with (go_at_call 132;refine (zA C4).mono ?_;rintro e w4 ⟨cM,h4⟩;have ki:=zC cM;clear cM;rcases h4 with⟨fs,a4,c4,hR,zq,rfl,hF⟩ | ⟨aR,rfl⟩)
     ·have DZ:Below w.heap.size w w4:=(zA uM).trans ((zA ki).mono (zA uM).size);have Ti:=(zA Dv).below (zA ki);have mN:=((zA ki).block _ (Array.getElem?_eq_some_iff.1 (zA AZ)).1).trans (zA AZ);have tS:=zH (zA tA) (zA ki) (λ g e=>((zA tA).lt g e).2);obtain⟨k,iW⟩:∃ k,bs[0]?=some k:=by obtain⟨k,n,es,h1,_⟩:=hR;exact⟨k,h1⟩
      obtain⟨KN,Gx⟩:=List.getElem?_eq_some_iff.1 iW;obtain⟨gb,ob,rfl,Nt,xz⟩:=(zA oJ).at_ (by omega);have DS:=xz 0 KN;rw[Gx,Nat.add_zero] at DS;have Fk:k<256:=(by rw[<-Gx];exact (zA oJ).byte _ (List.getElem_mem KN));have eW:=zC iW;have a0:=(zB mN 0).1;have a1:=(zB mN 1).1;have a2:=(zB mN 2).1;have a3:=(zB mN 3).1;have Pk:=(zB mN 4).1;simp only[List.getElem?_toArray,List.getElem?_cons_zero,List.getElem?_cons_succ] at a0 a1 a2 a3 Pk;have eO:=zC (zbw w4 _ (zJ q) aa ca (zJ q).no (zJ q).at_ (zJ q).ak tS (zA qu));have ko:=zC (λ (W:W8) (hW:Below w4.heap.size w4 W)=>zco W 0 a4 c4 fs (zU (zJ q)) (zH hF.row hW (λ g e=>(hF.row.lt g e).2)));have Dt:=zC DZ;have EI:=zC Ti;have Ds:=zC mN;have o5:ab<w4.heap.size:=(Array.getElem?_eq_some_iff.1 mN).1;have HR:=zC hR;have Lj:gb<w4.heap.size:=Nat.lt_of_lt_of_le Nt DZ.size;have Vn:=zC (λ (W:W8) (hW:Below w4.heap.size w4 W)=>(hW.cell (p:=⟨gb,ob,none⟩) Lj).trans ((DZ.cell (p:=⟨gb,ob,none⟩) Nt).trans DS));have TZ:=(zA oJ).cap;have LD:=(zA oJ).max;unfold maxLen at LD;have Xj:(0:Int)<bs.length:=(by omega);clear DZ Ti mN tS iW Gx xz DS hR hF C4;go_upto_region 11 with fail
      by_cases sT:(0:Int)<=yL (fs.map (·.F)) (zU (zJ q))
      ·have HV:=zC (show zhb ps S k (fs.map (·.F)) (zJ q)=1 by unfold zhb;rw[if_pos sT]);generalize yL (fs.map (·.F)) (zU (zJ q))=FX at sT ko;go_wp2_with (first | (go_at_call 134;refine (zA eO).mono ?_;rintro e w5 ⟨tx,rfl,su,eH⟩;obtain rfl:=zgf su;have uK:=zC eH;clear su eH) | (go_at_call 133;refine (zA ko _ (zA uK)).mono ?_;rintro e w6 ⟨rfl,sw⟩;have sw:=sw.symm;subst sw));go_ret;exact⟨zA cV _ (.inr ⟨zA HE,.inl ⟨_,k,zA HR,zA eW,by rw[zA HV];rfl⟩⟩),(zA Dt).trans ((zA uK).mono (zA Dt).size)⟩
      ·have T4:¬ ((0:Int)<=yL (fs.map (·.F)) (zU (zJ q))):=sT;have mZ:yL (fs.map (·.F)) (zU (zJ q))<0:=(by omega);have yz:=zC T4;clear T4 sT;generalize yL (fs.map (·.F)) (zU (zJ q))=FX at mZ ko;go_upto_region 13 with (first | (go_at_call 134;refine (zA eO).mono ?_;rintro e w5 ⟨tx,rfl,su,eH⟩;obtain rfl:=zgf su;have uK:=zC eH;clear su eH) | (go_at_call 133;refine (zA ko _ (zA uK)).mono ?_;rintro e w6 ⟨rfl,sw⟩;have sw:=sw.symm;subst sw));have Bm:=(zA EI).below (zA uK);have cN:=((zA uK).block _ o5).trans (zA Ds);have b0:=(zB cN 0).1;simp only[List.getElem?_toArray,List.getElem?_cons_zero] at b0;have ir:=zC (qJ w5 o rs ps _ _ _ _ (zJ q).pred Bm.prog);have c3:=Bm.prog.c3;have sl:=Bm.prog.lt;have zv:=Bm.jf.sz;have cb5:=zA Vn w5 (zA uK);have F3:=zC ((zA Dt).trans ((zA uK).mono (zA Dt).size));have hpm:=yN Bm.prog.fC;have XC:gb<w5.heap.size:=Nat.lt_of_lt_of_le Lj (zA uK).size
       by_cases cO:zM ps (zJ q).pred<0
       ·have HV:=zC (show zhb ps S k (fs.map (·.F)) (zJ q)=2 by unfold zhb;rw[if_neg (by have:=zA yz;omega),if_pos cO]);generalize zM ps (zJ q).pred=PX at cO ir;have kY:decide (PX<0)=true:=(by simp;exact cO);clear Bm cN a0 a1 a2 a3 Pk;go_upto_region 14 with (go_at_call 135;refine (zA ir).mono ?_;rintro e w6 ⟨rfl,sw⟩;have sw:=sw.symm;subst sw);go_quiet (fail);go_wp2_with fail;go_ret;exact⟨zA cV _ (.inr ⟨zA HE,.inl ⟨_,k,zA HR,zA eW,by rw[zA HV];rfl⟩⟩),below_drewN (zA F3) _⟩
       ·obtain⟨ix,hZ⟩:∃ ix:Nat,zM ps (zJ q).pred=(ix:Int):=⟨_,(Int.toNat_of_nonneg (by omega)).symm⟩;have lW:ix<ps.length:=(by have:=xN (ps:=ps) (nm:=(zJ q).pred) (by omega);rw[hZ] at this;exact this);have st1:=Bm.jf.cell ix lW;have HV:=zC (show zhb ps S k (fs.map (·.F)) (zJ q)=if S ix<k then 2 else 3 by unfold zhb vZ;rw[if_neg (by have:=zA yz;omega),if_neg cO,hZ];rfl);rw[hZ] at ir;have BN:(ix:Int)<ps.length:=(by omega);have tJ:(0:Int)<=ix:=(by omega);have kY:decide ((ix:Int)<0)=false:=(by simp);have Ee:¬ ((ix:Int)<0):=(by omega);have hSx:=zA HS ix;clear Bm cN cO hZ a0 a1 a2 a3 Pk
        by_cases uZ:S ix<k
        ·have va:decide (S ix<k)=true:=(by simp;exact uZ);have Gt:decide ((S ix:Int)<(k:Int))=true:=(by simp;omega);rw[if_pos uZ] at HV;go_upto_region 14 with (go_at_call 135;refine (zA ir).mono ?_;rintro e w6 ⟨rfl,sw⟩;have sw:=sw.symm;subst sw);go_quiet (fail);go_wp2_with fail;go_ret;exact⟨zA cV _ (.inr ⟨zA HE,.inl ⟨_,k,zA HR,zA eW,by rw[zA HV];rfl⟩⟩),below_drewN (zA F3) _⟩
        ·have va:decide (S ix<k)=false:=(by simp;omega);have Gt:decide ((S ix:Int)<(k:Int))=false:=(by simp;omega);rw[if_neg uZ] at HV;go_upto_region 14 with (go_at_call 135;refine (zA ir).mono ?_;rintro e w6 ⟨rfl,sw⟩;have sw:=sw.symm;subst sw);go_quiet (fail);go_wp2_with fail;go_ret;exact⟨zA cV _ (.inr ⟨zA HE,.inl ⟨_,k,zA HR,zA eW,by rw[zA HV];rfl⟩⟩),below_drewN (zA F3) _⟩
     ·have lz:=zC aR;clear aR;go_wp2_with fail;go_ret;exact⟨zA cV _ (.inr ⟨zA HE,.inr ⟨zA lz,rfl⟩⟩),(zA uM).trans ((zA ki).mono (zA uM).size)⟩
end
section
theorem zty {S:Nat->Nat}:∀ {n i:Nat},i<n->S i+1<=qk S n
 | n+1,i,h=>by
  rw[qk];rcases Nat.lt_or_ge i n with h1 | h1
  ·have:=zty (S:=S) h1;omega
  ·have:i=n:=by omega
   subst this;omega
theorem ztx {S:Nat->Nat}:∀ (n:Nat),qk S n=0\/∃ i,i<n/\qk S n=S i+1
 | 0=>.inl rfl
 | n+1=>by
  rw[qk]
  by_cases h:qk S n<=S n+1
  ·exact .inr ⟨n,by omega,by omega⟩
  ·rcases ztx (S:=S) n with h1 | ⟨i,h1,h2⟩
   ·omega
   ·exact .inr ⟨i,by omega,by omega⟩
variable {Sp:B8->Nat} {ps:P9}
theorem zvb (ho:zxs ps){S:Nat->Nat}(hs:∀ k,0<=zM ps k->Sp k=S (vZ ps k)):za1 ps Sp (qk S ps.length):=by
 refine⟨λ k hk=>?_,?_⟩
 ·have h0:=Il.1 hk;rw[hs k h0];exact zty (xN h0)
 ·rcases ztx (S:=S) ps.length with h | ⟨i,hi,h⟩
  ·exact .inl h
  ·have hZ:=zr8 ho i 0 hi;have h0:zM ps ps[i].1=(i:Int):=(by unfold zM;rw[hZ];omega);refine .inr ⟨ps[i].1,Il.2 (by omega),?_⟩;rw[hs _ (by omega),h];unfold vZ;rw[h0];rfl
variable {st:List xA} {rp:List PR}
theorem Aq.Kj {rs:List zP}{l:List zQ}{es:List Env}(h:Aq ps rs rp l es st){A:zL}(ht:DP (thA A)):yL l (zU A)<0↔thA A∉st.map (·.t):=by
 rw[zhx,<-h.rel.th,zgg]
 constructor
 ·intro h1 hm;obtain⟨f,hf,e⟩:=List.mem_map.1 hm;exact h1 f hf (by rw[h.rel.text f hf,e])
 ·intro h1 f hf e;rw[h.rel.text f hf] at e;exact h1 (List.mem_map.2 ⟨f,hf,ze4 (h.rel.de f hf).w ht e⟩)
theorem Dp.uniq {m:Nat}{b:List Nat}{k k':Nat}{ky:List xA}(h:Dp rp Sp m b k st)(h':Dp rp Sp m b k' ky):k=k'/\st=ky:=by
 obtain⟨ns,h1,_,h2,_⟩:=h;obtain⟨Y5,II,_,Kl,_⟩:=h';rw[h1] at II;injection (Option.some.inj II) with e1 e2
 subst e2;rw[h2] at Kl;exact⟨e1,Option.some.inj Kl⟩
theorem z85 {s q:B8}{bs:List Nat}{e e':Ending}(hP:N4 s q bs e)(hR:z6q s q bs e'):e=e':=by
 rcases hP with⟨h,rfl⟩ | ⟨h,rp,pw,ux,hP⟩
 ·rcases hR with⟨_,rfl⟩ | ⟨h',_⟩
  ·rfl
  ·rw[h] at h';cases h'
 ·rcases hR with⟨h',_⟩ | ⟨_,S,hv,cC,hR⟩
  ·rw[h] at h';cases h'
  ·have g:=zfy h;have zm:=zql h pw ux;have hI:=z9c h pw ux;have rZ:=zum (yA s).2 q;have aL:∀ R∈(yO s).1,0<=zM (yA s).2 R.head.pred:=λ R hR=>g.all _ (List.mem_flatMap.2 ⟨R,hR,List.mem_cons_self⟩)
   rcases hP with⟨hn,rfl⟩ | ⟨t,Sp,ht,Rv,vf,hE⟩
   ·rcases hR with⟨_,rfl⟩ | ⟨cd,_⟩
    ·rfl
    ·rw[rZ,if_pos cd] at hn;cases hn
   ·rcases hR with⟨aR,_⟩ | ⟨cd,hR⟩
    ·rw[rZ,if_neg (by rw[aR];simp)] at ht;cases ht
    ·rw[rZ,if_pos cd] at ht;obtain rfl:=Option.some.inj ht;have ik:∀ k,0<=zM (yA s).2 k->Sp k=S (vZ (yA s).2 k):=λ k hk=>by
      have h3:=Rv;have h4:=vf;rw[pw,g.rules] at h3 h4;exact z1p g.all hv cC h3 h4 k hk
     have hc:=zvb g.once ik;have heq:=z4s zm hI g.once ik aL hc bs;rcases hE with⟨m,k,st,hm,KB,rfl⟩ | ⟨aR,rfl⟩
     ·obtain rfl:=zlh hm hc;rcases hR with⟨l,k',hl,ph,rfl⟩ | ⟨aR,_⟩
      ·obtain⟨k2,st2,cy,Gr,ym,hB⟩:=heq.1 l hl;obtain⟨rfl,rfl⟩:=KB.uniq Gr;rw[cy] at ph;obtain rfl:=Option.some.inj ph;have hf:=hB.Kj (zi4 cd).1;have key:zi0 (yA s).2 Sp k (st.map (·.t)) (thA (zJ q))=zhb (yA s).2 S k l (zJ q):=by
        unfold zi0 zhb
        by_cases ay:thA (zJ q)∈st.map (·.t)
        ·have h1:0<=yL l (zU (zJ q)):=Int.not_lt.1 (λ h=>hf.1 h ay);rw[if_pos ay,if_pos h1]
        ·have h2:¬ (0<=yL l (zU (zJ q))):=(by have:=hf.2 ay;omega);rw[if_neg ay,if_neg h2];have hp:(thA (zJ q)).p=(zJ q).pred:=rfl;rw[hp]
         by_cases cO:zM (yA s).2 (zJ q).pred<0
         ·rw[if_neg (λ hh=>by have:=Il.1 hh.1;omega),if_pos cO]
         ·have h0:0<=zM (yA s).2 (zJ q).pred:=(by omega);rw[if_neg cO,ik _ h0]
          by_cases hS:S (vZ (yA s).2 (zJ q).pred)<k
          ·rw[if_neg (λ hh=>by omega),if_pos hS]
          ·rw[if_pos ⟨Il.2 h0,by omega⟩,if_neg hS]
       rw[key]
      ·obtain⟨l,hl⟩:=heq.2 k st KB;exact absurd hl (aR l)
     ·rcases hR with⟨l,k',hl,_⟩ | ⟨_,rfl⟩
      ·obtain⟨k2,st2,_,Gr,_⟩:=heq.1 l hl;exact absurd Gr (aR _ _ _ hc)
      ·rfl
end
section
open Go.RowKit Go.Lib
theorem zvy (s:B8)(k:Nat)(hk:s.size<=k):(λ j=>if j=k then Value.int .u8 77 else zdl s k j)=zdl s (k+1):=by
 funext j
 unfold zdl
 by_cases h1:j=k
 ·subst h1;rw[if_pos rfl,if_neg (by omega),if_pos (by omega)]
 ·rw[if_neg h1]
  by_cases h2:j<s.size
  ·rw[if_pos h2,if_pos h2]
  ·rw[if_neg h2,if_neg h2]
   by_cases h3:j<k
   ·rw[if_pos h3,if_pos (by omega)]
   ·rw[if_neg h3,if_neg (by omega)]
theorem zo2 {s:B8}(h:s.size=0):s={ data:=#[] }:=by
 obtain⟨d⟩:=s;have:d=#[]:=Array.eq_empty_of_size_eq_zero h;rw[this]
theorem z3w (w:W8)(s:B8)(b:Bool)(hs:s.size<=2000000):
  Calls Tryz.prog 80 #[.string s,.bool b] w (Sc w s b):=by
 by_cases h0:s.size=0/\b=true
 ·obtain⟨h0,rfl⟩:=h0;obtain rfl:=zo2 h0;go_enter Tryz.func80,Tryz.ntmps80;go_wp2_with fail;go_ret;exact⟨Below.refl _ _,.inl ⟨rfl,rfl,rfl⟩⟩
 ·have BD:s.toList.isEmpty=false\/(s.toList.isEmpty=true/\b=false):=by
   cases hl:s.toList with
   | cons x r=>exact .inl rfl
   | nil=>
    refine .inr ⟨rfl,?_⟩
    cases b with
    | false=>rfl
    | true=>
     refine absurd ⟨?_,rfl⟩ h0;have:s.toList.length=s.size:=by rw[ByteArray.toList_eq];rfl
     rw[hl] at this;exact this.symm
  have pk:∀ u,(Instr.makeSlice 47 (.int .i64 ((s.size:Int)+8)) (.int .i64 ((s.size:Int)+8))).run Tryz.prog u=_:=zv3 (s.size+8) (by omega);have P5:=run_copy_row_string (P:=Tryz.prog) (w.alloc (.cells (madeCells #[.int .u8 0] (s.size+8)) 5)) 47 9 3 5 w.heap.size 0 (s.size+8) (s.size+8) s (madeCells #[.int .u8 0] (s.size+8)) 5 Tryz.underlying47 (by kernel_rfl) (heap_alloc_new w _) (by omega) (by rw[zfx,za4];omega);rw[zzs] at P5;have k0:Below w.heap.size w ((w.alloc (.cells (madeCells #[.int .u8 0] (s.size+8)) 5)).setRow w.heap.size (zc4 (s.size+8) (zdl s s.size))):=by
   have aM:Below w.heap.size w (w.alloc (.cells (madeCells #[.int .u8 0] (s.size+8)) 5)):=(Below.refl _ w).alloc L9 _;exact aM.trans ⟨rfl,rfl,rfl,by simp,λ k hk=>setRow_other _ _ _ _ (by omega)⟩
  have r0:ql ((w.alloc (.cells (madeCells #[.int .u8 0] (s.size+8)) 5)).setRow w.heap.size (zc4 (s.size+8) (zdl s s.size))) w.heap.size 5 (s.size+8) (zdl s s.size):=setRow_heap _ _ _ _ _ _ (heap_alloc_new w _);have K0:=zC k0;have R0:=zC r0;have Rj:(s.size:Int)<=2000000:=by omega
  clear k0 r0;clear h0;rcases BD with BD | ⟨BD,rfl⟩
  all_goals
   go_enter Tryz.func80,Tryz.ntmps80;go_wp2_with fail
   go_loopg [6] 8 (λ gg i wr=>∃ k:Nat,k<=8/\gg=8-k/\i=.int .i64 ((s.size:Int)+(k:Nat))/\Below w.heap.size w wr/\ql wr w.heap.size 5 (s.size+8) (zdl s (s.size+k)))
   exact⟨0,Nat.zero_le _,rfl,by simp,zA K0,zA R0⟩
   case round=>
    clear K0 R0 P5 pk;obtain⟨k,hk,iZ,rfl,hB,hR⟩:=hrel
    by_cases aE:k<8
    ·have c0:=hR.cell (i:=s.size+k) (by omega);have f0:=hR.fz (s.size+k);have HN:=zC (hR.set (s.size+k) (.int .u8 77));have HB:=zC (hB.setCell (p:=⟨w.heap.size,s.size+k,none⟩) L9 (.int .u8 77));have nC:(k:Int)<8:=(by omega);clear hB hR;go_wp2_with fail;go_roundg (8-(k+1));exact⟨k+1,by omega,rfl,by go_num,zA HB,by rw[zvy s (s.size+k) (by omega)] at HN;exact zA HN⟩;omega
    ·have kn:k=8:=(by omega);subst kn;have HN:=zC hR;have HB:=zC hB;clear hR hB;go_wp2_with fail;go_ret;exact⟨zA HB,.inr ⟨rfl,zA HN⟩⟩
def zjl (w w2:W8)(e:Ending)(w3:W8):Prop:=e=.returned (.bool true)/\Below w.heap.size w2 w3
theorem Zr (w w2:W8):Calls Tryz.prog 81 #[.slice none 0 0,.string { data:=#[] }] w2 (zjl w w2):=by
 have heq:=run_eql_slice_nil (P:=Tryz.prog) w2 47 5 none 0 0 Tryz.underlying47;go_enter Tryz.func81,Tryz.ntmps81;go_wp2_with fail;go_ret;exact⟨by simp,Below.refl _ _⟩
theorem zyh (w w2:W8)(g:Nat)(s:B8)(hs:s.size<=2000000)(hr:ql w2 g 5 (s.size+8) (zdl s (s.size+8)))(hg:w.heap.size<=g):Calls Tryz.prog 81 #[.slice (some ⟨g,0,none⟩) s.size (s.size+8),.string s] w2 (zjl w w2):=by
 have K6:(convert 47 9 (.slice (some ⟨g,0,none⟩) s.size (s.size+8))).run Tryz.prog w2=.ok (.string s) w2:=by
  have h:=run_convert_bytes_back (P:=Tryz.prog) w2 47 9 5 ⟨g,0,none⟩ (s.size+8) s.data.toList Tryz.underlying47 Tryz.underlying5 Tryz.underlying9 (λ j hj=>by
   have AI:j<s.size:=hj;have e:(⟨g,0,none⟩:Addr).add j=⟨g,j,none⟩:=(by unfold Addr.add;simp;omega);rw[e,hr.cell (by omega)];unfold zdl zc2;rw[if_pos AI,List.getElem?_map,List.getElem?_eq_getElem hj]
   rfl)
  exact h
 have heq:=run_eql_slice_nil (P:=Tryz.prog) w2 47 5 (some ⟨g,0,none⟩) s.size (s.size+8) Tryz.underlying47;have HR:=zC hr;have Rj:(s.size:Int)<=2000000:=by omega
 clear hr;go_enter Tryz.func81,Tryz.ntmps81;go_wp2_with fail
 go_loopg [5,7] (s.size+8) (λ gg v i wr=>∃ k:Nat,k<=s.size+8/\gg=s.size+8-k/\v=.bool true/\i=.int .i64 (k:Nat)/\Below w.heap.size w2 wr/\ql wr g 5 (s.size+8) (λ j=>if j<k then .int .u8 78 else zdl s (s.size+8) j))
 exact⟨0,Nat.zero_le _,rfl,by simp,rfl,Below.refl _ _,by simpa using zA HR⟩
 case round=>
  clear HR K6;obtain⟨k,hk,iZ,rfl,rfl,hB,hR⟩:=hrel
  by_cases aE:k<s.size+8
  ·have c0:=hR.cell (i:=k) aE;have f0:=hR.fz k;rw[if_neg (Nat.lt_irrefl k)] at c0;have HN:=zC (hR.set k (.int .u8 78));have HB:=zC (hB.setCell (p:=⟨g,k,none⟩) hg (.int .u8 78));have nC:(k:Int)<(s.size:Int)+8:=(by omega);have hF:(λ j=>if j=k then Value.int .u8 78 else if j<k then .int .u8 78 else zdl s (s.size+8) j)=λ j=>if j<k+1 then .int .u8 78 else zdl s (s.size+8) j:=by
    funext j
    by_cases h1:j=k
    ·rw[if_pos h1,if_pos (by omega)]
    ·rw[if_neg h1]
     by_cases h2:j<k
     ·rw[if_pos h2,if_pos (by omega)]
     ·rw[if_neg h2,if_neg (by omega)]
   rw[hF] at HN;clear hB hR hF
   by_cases Fs:k<s.size
   ·have QB:(k:Int)<s.size:=(by omega);go_wp2_with fail;go_roundg (s.size+8-(k+1));exact⟨k+1,by omega,rfl,by simp,by go_num,zA HB,zA HN⟩;omega
   ·have QB:¬ (k:Int)<s.size:=(by omega);have IY:zdl s (s.size+8) k=.int .u8 77:=(by unfold zdl;rw[if_neg Fs,if_pos aE]);rw[IY] at c0;clear IY;go_wp2_with fail;go_roundg (s.size+8-(k+1));exact⟨k+1,by omega,rfl,by simp,by go_num,zA HB,zA HN⟩;omega
  ·have kn:k=s.size+8:=(by omega);subst kn;have HB:=zC hB;clear hR hB;go_wp2_with fail;go_ret;exact⟨rfl,zA HB⟩
end
section
open Go.RowKit Go.Lib
theorem Sc.use {w w1:W8}{b:B8}{nn:Bool}{e:Ending}(h:Sc w b nn e w1)(hb:b.size<=2000000):∃ (a:O8) (c:Nat),e=.returned (.slice a (zc2 b).length c)/\nJ w1 a c (zc2 b)/\∀ w2,Below w1.heap.size w1 w2->Calls Tryz.prog 81 #[.slice a (zc2 b).length c,.string b] w2 (zjl w w2):=by
 obtain⟨aM,⟨h0,_,rfl⟩ | ⟨rfl,hr⟩⟩:=h
 ·obtain rfl:=zo2 h0;refine⟨none,0,rfl,?_,λ w2 _=>Zr w w2⟩;exact nJ.none _ _ (by unfold maxLen;omega)
 ·refine⟨_,_,by rw[qE],⟨by rw[qE];omega,by unfold maxLen;omega,zjw b,λ _=>⟨_,_,rfl,hr.lt,λ j hj=>?_⟩⟩,λ w2 h2=>?_⟩
  ·rw[qE] at hj;rw[Nat.zero_add,hr.cell (by omega)];unfold zdl;rw[if_pos hj,List.getElem?_eq_getElem (by rw[qE];exact hj)];rfl
  ·rw[qE];exact zyh w w2 _ b hb (hr.below h2) L9
theorem zo1 (w:W8)(b:B8)(hb:b.size<=2000000):nJ (w.drew.alloc (.cells (bytesRow b (grownCap w b.size 0 5)) 5 ((bytesRow b (grownCap w b.size 0 5)).size,(bytesRow b (grownCap w b.size 0 5)).size+1))) (some ⟨w.heap.size,0,none⟩) (grownCap w b.size 0 5) (zc2 b):=by
 refine⟨by rw[qE];exact grownCap_ge _ _ _ _,grownCap_le_maxLen _ _ _ _ (by unfold maxLen;omega),zjw b,λ _=>⟨_,_,rfl,by simp,λ j hj=>?_⟩⟩;have AI:j<b.size:=by rw[qE] at hj;exact hj
 have hh:(w.drew.alloc (.cells (bytesRow b (grownCap w b.size 0 5)) 5 ((bytesRow b (grownCap w b.size 0 5)).size,(bytesRow b (grownCap w b.size 0 5)).size+1))).heap[w.heap.size]?=some (.cells (bytesRow b (grownCap w b.size 0 5)) 5 ((bytesRow b (grownCap w b.size 0 5)).size,(bytesRow b (grownCap w b.size 0 5)).size+1)):=by
  show (w.heap.push _)[w.heap.size]?=_
  simp
 rw[Nat.zero_add];unfold World.cell?;simp only[hh];have hs:b.data.size=b.size:=rfl;simp[bytesRow,zc2,Array.getElem?_append,AI,hs]
theorem zo4 (w:W8)(s q b:B8)(nn:Bool)(hs:s.size<=maxLen)(hq:q.size<=2000000)(hb:b.size<=2000000):
  Calls Tryz.prog 49 #[.string s,.string q,.string b,.bool nn] w (jC w):=by
 have hL:=z3w w b nn hb;go_enter Tryz.func49,Tryz.ntmps49;go_wp2_with fail;refine hL.mono ?_;rintro e w1 h1;have B1:=zC h1.1;obtain⟨a,c,rfl,cX,sd⟩:=h1.use hb;have tr:=zC sd;have hC:=zwd w1 s q hs hq a c (zc2 b) cX;clear hL h1 cX sd;go_wp2_with fail;refine hC.mono ?_;rintro e w2 ⟨hP,aH⟩;obtain⟨n,rfl⟩:=hP.int;have HP:=zC hP;have hK:=zA tr w2 aH;have B2:=zC ((zA B1).trans (aH.mono (zA B1).size));clear hC hP aH tr;go_wp2_with fail;refine hK.mono ?_;rintro e w3 ⟨rfl,eG⟩;have B3:=zC ((zA B2).trans eG);have K6:=run_bytes_of_string (P:=Tryz.prog) w3 9 47 5 b Tryz.underlying9 Tryz.underlying47 Tryz.underlying5;have cX:=zo1 w3 b hb;have B4:Hid (Below w.heap.size w (w3.drew.alloc (.cells (bytesRow b (grownCap w3 b.size 0 5)) 5 ((bytesRow b (grownCap w3 b.size 0 5)).size,(bytesRow b (grownCap w3 b.size 0 5)).size+1)))):=zC ((zA B3).drew.alloc (zA B3).size _);generalize (w3.drew.alloc (.cells (bytesRow b (grownCap w3 b.size 0 5)) 5 ((bytesRow b (grownCap w3 b.size 0 5)).size,(bytesRow b (grownCap w3 b.size 0 5)).size+1)))=w4 at *;have hR:=zwl w4 s q hq _ _ (zc2 b) cX (by rw[qE];omega);rw[qE] at hR;clear hK eG B1 B2 cX;go_wp2_with fail;refine hR.mono ?_;rintro e w5 ⟨TD,eH⟩;obtain rfl:=z85 (zA HP) TD;have B5:=zC ((zA B4).trans (eH.mono (zA B4).size));clear hR TD eH B3 B4 HP K6;go_wp2_with fail;go_ret;exact⟨by simp,zA B5⟩
end
end Go.Proofs.YtldkpahaocjdpaaGreat
