/-
  affidavitkeep: Matched, walked.
-/
import Derived.Test.YtldkpahaocjdpaaGreatM50
import Derived.Deep.CutRange
set_option maxHeartbeats 16000000
set_option maxRecDepth 1000000
namespace Go.Proofs.YtldkpahaocjdpaaGreat
section
open Go.RowKit Go.Maps
theorem z7l {ps:P9}(h:zqf ps):xZ ps { data:=#[101,40,88,44,89,41] }=some (zwk 0):=zgw (k:=0) h z3c (zhw (by decide)) rfl
attribute [local go_sem] zat
theorem ztj (w:W8)(la:O8)(n c:Nat)(R:Nat->Raw)(hL:BO w la n R)(dG:n<=c)(dx:c<=maxLen)(kk aa:Int)(kg:inR kk)(MO:inR aa):Calls Tryz.prog 11 #[.slice la n c,.int .i64 kk,.int .i64 aa] w (z4e w):=by
 have HL:=zC hL;have HN:=zC (And.intro dG dx);have tz:=zC kg;have MG:=zC MO;clear hL dG dx kg MO;go_enter Tryz.func11,Tryz.ntmps11;go_wp2_with fail;refine (ybp w).mono ?_;rintro e w1 ⟨rfl,aT⟩;have cR:=zC aT;have HT:=zC (ycv w1 la n c R ((zA HL).below aT) (zA HN).1 (zA HN).2 14 (by decide));clear aT;go_wp2_with fail;refine (zA HT).mono ?_;rintro e w2 ⟨rfl,aU⟩;have HK:=zC (z6u R (n:=min n 14) (by omega));have wW:=zC (z9p R (n:=min n 14) (by omega))
 have HF:=zC (show (KL.fact 0 1).rule∈(zN (aB (aL (λ i=>bW (R i)) (min n 14)))).2.2.1 by
  rw[(zj7 (λ i=>bW (R i)) (min n 14) (by omega) (λ i _=>zk3 _ _ _ _)).2];exact List.mem_cons_self)
 generalize aB (aL (λ i=>bW (R i)) (min n 14))=s at *;have ep:=zC ((zA cR).trans (aU.mono (zA cR).size));have Ed:=zC (ybq w2 s (zA HK).sz (zA HK).ok);clear aU HT cR HN HL;go_wp2_with fail;refine (zA Ed).mono ?_;rintro e w3 ⟨xb,rs,rfl,hP,cE⟩;have HP:=zC hP;have gh:=zC ((zA ep).trans (cE.mono (zA ep).size));have HA:=zC (yc9 w3 s xb _ rs hP (zA HK).two);clear hP cE ep Ed;go_wp2_with fail;refine (zA HA).mono ?_;intro e w4 bh;obtain⟨a1,c1,zs,sm,rfl,Fc,sf,EP,bQ⟩:=bh.pW;have HZ:=zC Fc;have wY:=zC ((zA HP).below bQ);have eC:=zC ((zA gh).trans (bQ.mono (zA gh).size));clear bh Fc EP bQ HA HP gh
 cases sm with
 | false=>
  clear sf;go_wp2_with fail;go_ret;exact⟨rfl,zA eC⟩
 | true=>
  obtain⟨S,m,K,hM,AK⟩:=sf;have ev:K.length<=50:=by
   obtain⟨_,_,⟨e0,_⟩ | ⟨_,_,e0,_,_,h⟩⟩:=hM.uniq (zA wY).cg hM
   ·cases e0
   ·obtain rfl:=Option.some.inj e0;exact h
  have B5:=z8u (hM.vc (zA wY) (zA HK).two (zA wW));have oe:1<=K.length:=by
   have:=z88 (zA wY) (hM.Mv (zA wY)) (zA HF);obtain⟨x,hx,_⟩:=List.mem_map.1 (show thK 0 0 1∈K.map (·.1) from this);exact List.length_pos_of_mem hx
  have ql:=(yG kk (n:=4) (by decide)).1;have uJ:=(yG aa (n:=4) (by decide)).1;have nU:=zC (z9k (zA wY) (zA HK).two (zA wW) hM ql uJ);rw[<-AK] at nU B5;have JD:zs.length<=50:=by omega
  have qh:1<=zs.length:=by omega
  have MH:=zC B5;clear B5 oe ev;have HM:=zC hM;have H2:=zC (zdp w4 kk 4 (by decide) (by decide) (zA tz).1 (zA tz).2);have Hw:=zC (λ W=>zxh W aa (zA MG).1 (zA MG).2);generalize zG kk 4=p at *;generalize zG aa 4=nn at *;have eT:=zC (λ W=>zg8 W p ql);have MM:=(Below.refl w4.heap.size w4).alloc L9 aK;have I4:=MM.alloc (by simp) fp;have Ms:((w4.alloc aK).alloc fp).heap.size=w4.heap.size+1+1:=by simp
  obtain⟨w5,pI⟩:∃ w5,w5=(w4.alloc aK).alloc fp:=⟨_,rfl⟩;rw[<-pI] at I4;have MJ:=zC pI;have Bn:=zC ((zA wY).below I4);have MK:=zC ((zA HZ).below I4);have jn:=zC ((zA eC).trans (I4.mono (zA eC).size));have kJ:=zC (zao (zA Bn) (yH (pdU p)++{ data:=#[40] }++yH (nmU nn)++{ data:=#[44,88,41] }) (by simp only[ByteArray.size_append,zat];decide) 50);clear hM AK MM I4 Ms pI wY HZ eC;go_wp2_with fail;refine (zA H2).mono ?_;rintro e w6 ⟨rfl,Du⟩;have Du:=Du.symm;subst Du;go_wp2_with fail;refine (zA eT _).mono ?_;rintro e w6 ⟨rfl,rfl⟩;go_wp2_with fail;refine (zA Hw _).mono ?_;rintro e w6 ⟨rfl,Du⟩;rw[<-zA MJ] at Du;have Du:=Du.symm;subst Du;clear MJ H2 eT;go_wp2_with fail;refine (zA kJ).mono ?_;rintro e w6 ⟨ho,iA⟩;obtain⟨ax,cx,rfl,hX⟩:=zip (zA Bn).cg (zA HM) (ya8 (zA HK).two p nn) ho;generalize zp2 K (yce p nn)=X at *;have HX:=zC hX;have Bo:=zC ((zA Bn).below iA);have ML:=zC ((zA MK).below iA);have mU:=zC ((zA jn).trans (iA.mono (zA jn).size));have En:=zC (zao (zA Bo) (yH (pdU p)++{ data:=#[40,88,44] }++yH (nmU nn)++{ data:=#[41] }) (by simp only[ByteArray.size_append,zat];decide) 50);clear ho iA hX kJ Bn MK jn;go_wp2_with fail;refine (zA En).mono ?_;rintro e w7 ⟨ho,mB⟩;obtain⟨ay,cy,rfl,hY⟩:=zip (zA Bo).cg (zA HM) (ya9 (zA HK).two p nn) ho;generalize zp2 K (ycf p nn)=Y at *;have HY:=zC hY;have Iv:=zC ((zA HX).below mB);have Bp:=zC ((zA Bo).below mB);have ID:=zC ((zA ML).below mB);have Eo:=zC ((zA mU).trans (mB.mono (zA mU).size));have MI:=zC (zao (zA Bp) (yH (pdU p)++{ data:=#[40,88,44,88,41] }) (by simp only[ByteArray.size_append,zat];decide) 50);clear ho mB hY En Bo ML mU HX;go_wp2_with fail;refine (zA MI).mono ?_;rintro e w8 ⟨ho,ue⟩;obtain⟨az,cz,rfl,hZ⟩:=zip (zA Bp).cg (zA HM) (yba (zA HK).two p) ho;generalize zp2 K (ycg p)=Z at *;generalize (λ c=>cY K p c&&decide (c/4=nn))=F1 at *;generalize (λ c=>cY K p c&&decide (c%4=nn))=F2 at *;generalize (λ c=>cY K p c&&decide (c/4=c%4))=F3 at *
  have Ma:=zC hZ;have Iw:=zC ((zA Iv).below ue);have L8:=zC ((zA HY).below ue);have M1:=zC ((zA Bp).below ue);have LS:=zC ((zA ID).below ue);have Ep:=zC ((zA Eo).trans (ue.mono (zA Eo).size));have hxc:=(zA Iw).cap;have pK:=(zA Iw).max;have hyc:=(zA L8).cap;have Na:=(zA L8).max;have Gs:=(zA Ma).cap;have Nb:=(zA Ma).max;have hac:=(zA LS).cap;have M7:=(zA LS).max;unfold maxLen at pK Na Nb M7;clear ho ue hZ MI Bp ID Eo Iv HY Hw
  have Hw:=zC (λ (W:W8) (i:Nat) (hi:i<16)=>(show Calls Tryz.prog 21 #[.int .i64 (i:Nat)] W λ e w'=>e=.returned (.string (yH (nmU (i%4))))/\w'=W.alloc fp from by
   have:=zxh W (i:Nat) (by omega) (by omega)
   rwa [z1v] at this))
  have rH:=zC (show ag F1 0=0/\ag F2 0=0/\ag F3 0=0 from ⟨rfl,rfl,rfl⟩);go_wp2_with fail
  go_loopg [20,21,22,23] 16 (λ gg i j mm cv wr=>∃ c:Nat,c<=16/\gg=16-c/\i=.int .i64 (ag F1 c:Nat)/\j=.int .i64 (ag F2 c:Nat)/\mm=.int .i64 (ag F3 c:Nat)/\cv=.int .i64 (c:Nat)/\Below w8.heap.size w8 wr)
  exact⟨0,by omega,rfl,by rw[(zA rH).1];rfl,by rw[(zA rH).2.1];rfl,by rw[(zA rH).2.2];rfl,rfl,Below.refl _ _⟩
  case round=>
   clear rH;obtain⟨c,M8,hgc,rfl,rfl,rfl,rfl,iD⟩:=hrel;have kr:=zC iD
   by_cases bP:c<16
   ·have CV:(c:Int)<16:=by omega
    have vu:Hid (Calls Tryz.prog 21 #[.int .i64 ((c:Int)/4)] wr λ e w'=>e=.returned (.string (yH (nmU (c/4))))/\w'=wr.alloc fp):=zC (by
     have:=zA Hw wr (c/4) (by omega);rw[show c/4%4=c/4 by omega] at this
     rw[show (c:Int)/4=((c/4:Nat):Int) by omega];exact this)
    have MN:=(Below.refl wr.heap.size wr).alloc L9 fp;have Mm:=MN.alloc (by simp) fp;obtain⟨wA,Gg⟩:∃ wA,wA=(wr.alloc fp).alloc fp:=⟨_,rfl⟩;rw[<-Gg] at Mm;have M3:=zC Gg;have rF:=zC (iD.trans (Mm.mono iD.size));have Hr:=zC (zA Hw (wr.alloc fp) c bP);rw[<-Gg] at Hr;have Er:=zC (yb3 p c);have hi1:=zs2 F1 c;have hi2:=zs2 F2 c;have hi3:=zs2 F3 c;have Hq:=zC (show ∀ b:Bool,cY K p c=b->zfv (zmc p c) zs=b from λ b hb=>((zA nU).am c bP).trans hb);have M0:=zC (λ t=>ybo wA a1 c1 zs t ((zA LS).below (zA rF)));have Ix:=zC ((zA Iw).below (zA rF));have M4:=zC ((zA L8).below (zA rF));have M5:=zC ((zA Ma).below (zA rF));have Mt:=(zbc (nmU (c/4)) (nmU nn)).trans (zns (c/4) (by omega) nn uJ);have sS:=(zbc (nmU (c%4)) (nmU nn)).trans (zns (c%4) (by omega) nn uJ);have Mu:=(zbc (nmU (c/4)) (nmU (c%4))).trans (zns (c/4) (by omega) (c%4) (by omega));have ni:=zC (show ∀ bb,F1 c=bb->(bb=false->ag F1 (c+1)=ag F1 c)/\(bb=true->ag F1 (c+1)=ag F1 c+1/\∃ h:ag F1 c<X.length,X[ag F1 c]=zmc p c) from λ bb e=>⟨λ h=>by rw[zcq,e,h];rfl,λ h=>⟨by rw[zcq,e,h];rfl,(zA nU).x.at_ c bP (e.trans h)⟩⟩);have Ad:=zC (show ∀ bb,F2 c=bb->(bb=false->ag F2 (c+1)=ag F2 c)/\(bb=true->ag F2 (c+1)=ag F2 c+1/\∃ h:ag F2 c<Y.length,Y[ag F2 c]=zmc p c) from λ bb e=>⟨λ h=>by rw[zcq,e,h];rfl,λ h=>⟨by rw[zcq,e,h];rfl,(zA nU).y.at_ c bP (e.trans h)⟩⟩);have L7:=zC (show ∀ bb,F3 c=bb->(bb=false->ag F3 (c+1)=ag F3 c)/\(bb=true->ag F3 (c+1)=ag F3 c+1/\∃ h:ag F3 c<Z.length,Z[ag F3 c]=zmc p c) from λ bb e=>⟨λ h=>by rw[zcq,e,h];rfl,λ h=>⟨by rw[zcq,e,h];rfl,(zA nU).z.at_ c bP (e.trans h)⟩⟩);obtain⟨b,hb⟩:∃ b,cY K p c=b:=⟨_,rfl⟩;obtain⟨b1,aT⟩:∃ b1,decide (c/4=nn)=b1:=⟨_,rfl⟩;obtain⟨b2,aU⟩:∃ b2,decide (c%4=nn)=b2:=⟨_,rfl⟩;obtain⟨b3,cE⟩:∃ b3,decide (c/4=c%4)=b3:=⟨_,rfl⟩;have HF:=zC (show F1 c=(b&&b1)/\F2 c=(b&&b2)/\F3 c=(b&&b3) from ⟨by rw[(zA nU).f1,hb,aT],by rw[(zA nU).f2,hb,aU],by rw[(zA nU).f3,hb,cE]⟩);have Hq:=zC (zA Hq b hb);rw[aT] at Mt
    rw[aU] at sS;rw[cE] at Mu;have Im:=zC (And.intro Mt (And.intro sS Mu));obtain⟨d1,Mp⟩:∃ d,F1 c=d:=⟨_,rfl⟩;obtain⟨d2,Mq⟩:∃ d,F2 c=d:=⟨_,rfl⟩;obtain⟨d3,Mr⟩:∃ d,F3 c=d:=⟨_,rfl⟩;have ni:=zC (zA ni d1 Mp);have Ad:=zC (zA Ad d2 Mq);have L7:=zC (zA L7 d3 Mr);rw[Mp,Mq,Mr] at HF;clear iD MN Mm Gg hb aT aU cE Mt sS Mu Mp Mq Mr;go_upto_region 25 with (first | (go_at_call 21;refine (zA vu).mono ?_;rintro e w9 ⟨rfl,rfl⟩) | (go_at_call 21;refine (zA Hr).mono ?_;rintro e w9 ⟨rfl,ln⟩;have ln:=ln.symm;subst ln));rw[zA Er];generalize zmc p c=t at *;generalize yH (nmU (c/4))=u at *;generalize yH (nmU (c%4))=v at *;generalize yH (nmU nn)=nS at *;clear Er vu Hr M3;go_upto_region 26 with (go_at_call 22;refine (zA M0 t).mono ?_;rintro e w9 ⟨rfl,ln⟩;have ln:=ln.symm;subst ln);rw[zA Hq];have htt:(t.toList==t.toList)=true:=yD.2 rfl
    go_cut [113] from 88 to 167 (λ s wc=>s=.bool d1/\wc=wA)
    case first=>
     have hq:=(zA Im).1;have hd:=(zA HF).1
     cases b <;> cases b1
     all_goals
      have HD:=zC hd;clear hd;go_wp2_with fail;go_meet
      case rel=>exact⟨by rw[zA HD];rfl,rfl⟩
    case rest=>
     obtain⟨rfl,aR⟩:=hcut;have aR:=aR.symm;subst aR
     go_upto_if 113 with fail
     go_cut [20] from 88 to 167 (λ i wc=>i=.int .i64 (ag F1 (c+1):Nat)/\wc=wA)
     case first=>
      obtain⟨nI,js⟩:=zA ni
      cases d1
      case false=>
       have aP:=zC (nI rfl);clear nI js;generalize ag F1 (c+1)=i2 at *;generalize ag F1 c=i1 at *;go_wp2_with fail;go_meet
       case rel=>exact⟨by rw[zA aP],rfl⟩
      case true=>
       obtain⟨dj,CW,hx⟩:=js rfl;obtain⟨g,rfl,hg,dV⟩:=(zA Ix).at_ (ag F1 c) CW;rw[hx] at dV;have Lh:¬ ((X.length:Int)<=(ag F1 c:Nat)):=(by omega);have Li:((ag F1 c:Nat):Int)<X.length:=(by omega);have aP:=zC dj;clear nI js hx dj;generalize ag F1 (c+1)=i2 at *;generalize ag F1 c=i1 at *;go_wp2_with fail;go_meet
       case rel=>exact⟨by rw[zA aP];go_num,rfl⟩
     case rest=>
      obtain⟨rfl,aR⟩:=hcut;have aR:=aR.symm;subst aR;go_upto_region 30 with fail
      go_cut [133] from 88 to 167 (λ s wc=>s=.bool d2/\wc=wA)
      case first=>
       have hq:=(zA Im).2.1;have hd:=(zA HF).2.1
       cases b <;> cases b2
       all_goals
        have HD:=zC hd;clear hd;go_wp2_with fail;go_meet
        case rel=>exact⟨by rw[zA HD];rfl,rfl⟩
      case rest=>
       obtain⟨rfl,aR⟩:=hcut;have aR:=aR.symm;subst aR
       go_upto_if 133 with fail
       go_cut [21] from 88 to 167 (λ i wc=>i=.int .i64 (ag F2 (c+1):Nat)/\wc=wA)
       case first=>
        obtain⟨nI,js⟩:=zA Ad
        cases d2
        case false=>
         have aP:=zC (nI rfl);clear nI js;generalize ag F2 (c+1)=i2 at *;generalize ag F2 c=i1 at *;go_wp2_with fail;go_meet
         case rel=>exact⟨by rw[zA aP],rfl⟩
        case true=>
         obtain⟨dj,CW,hx⟩:=js rfl;obtain⟨g,rfl,hg,dV⟩:=(zA M4).at_ (ag F2 c) CW;rw[hx] at dV;have Lh:¬ ((Y.length:Int)<=(ag F2 c:Nat)):=(by omega);have Li:((ag F2 c:Nat):Int)<Y.length:=(by omega);have aP:=zC dj;clear nI js hx dj;generalize ag F2 (c+1)=i2 at *;generalize ag F2 c=i1 at *;go_wp2_with fail;go_meet
         case rel=>exact⟨by rw[zA aP];go_num,rfl⟩
       case rest=>
        obtain⟨rfl,aR⟩:=hcut;have aR:=aR.symm;subst aR;go_upto_region 34 with fail
        go_cut [153] from 88 to 167 (λ s wc=>s=.bool d3/\wc=wA)
        case first=>
         have hq:=(zA Im).2.2;have hd:=(zA HF).2.2
         cases b <;> cases b3
         all_goals
          have HD:=zC hd;clear hd;go_wp2_with fail;go_meet
          case rel=>exact⟨by rw[zA HD];rfl,rfl⟩
        case rest=>
         obtain⟨rfl,aR⟩:=hcut;have aR:=aR.symm;subst aR;obtain⟨nI,js⟩:=zA L7
         cases d3
         case false=>
          have aP:=zC (nI rfl);clear nI js;generalize ag F3 c=i1 at *;go_wp2_with fail;go_roundg (16-(c+1));exact⟨c+1,by omega,rfl,rfl,rfl,by rw[zA aP],by go_num,zA rF⟩;omega
         case true=>
          obtain⟨dj,CW,hx⟩:=js rfl;obtain⟨g,rfl,hg,dV⟩:=(zA M5).at_ (ag F3 c) CW;rw[hx] at dV;have Lh:¬ ((Z.length:Int)<=(ag F3 c:Nat)):=(by omega);have Li:((ag F3 c:Nat):Int)<Z.length:=(by omega);have aP:=zC dj;clear nI js hx dj;generalize ag F3 c=i1 at *;go_wp2_with fail;go_roundg (16-(c+1));exact⟨c+1,by omega,rfl,rfl,rfl,by rw[zA aP];go_num,by go_num,zA rF⟩;omega
   ·have hc:c=16:=(by omega);subst hc;rw[<-(zA nU).x.len,<-(zA nU).y.len,<-(zA nU).z.len];have L4:=zC ((zA M1).below iD);have LU:=zC ((zA Ep).trans (iD.mono (zA Ep).size));have kJ:=zC (zao (zA L4) { data:=#[101,40,88,44,89,41] } (by decide) (zs.length:Nat));clear iD nU Iw L8 Ma LS Hw kr;go_wp2_with fail;refine (zA kJ).mono ?_;rintro e w9 ⟨ho,Fj⟩;obtain⟨ae,ne,ce,rfl⟩:=(znz (zA HM) qh JD (z7l (zA HK).two) ho).1 (by have:=zA MH;omega);have fV:=zC ((zA LU).trans (Fj.mono (zA LU).size))
    by_cases h1:1<zs.length
    ·have M6:(1:Int)<zs.length:=(by omega);have En:=zC (zao ((zA L4).below Fj) { data:=#[101,40,88,44,89,41] } (by decide) ((zs.length:Nat)-1:Int));clear ho Fj kJ L4 LU;go_wp2_with fail;refine (zA En).mono ?_;rintro e w10 ⟨ho,KU⟩;rw[show ((zs.length:Nat):Int)-1=((zs.length-1:Nat):Int) by omega] at ho;have he:=(znz (zA HM) (by omega) (by omega) (z7l (zA HK).two) ho).2 (by have:=zA MH;omega);subst he;have Mk:=zC ((zA fV).trans (KU.mono (zA fV).size));clear ho KU En fV;go_wp2_with fail;go_ret;exact⟨rfl,zA Mk⟩
    ·have M6:¬ (1:Int)<zs.length:=(by omega);clear ho Fj kJ L4 LU;go_wp2_with fail;go_ret;exact⟨rfl,zA fV⟩
end
end Go.Proofs.YtldkpahaocjdpaaGreat
