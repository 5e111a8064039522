/-
  Proved here: whatever lines and numbers are handed in, affidavitkeep.Matched answers true, and they read afterwards as they read before. Conditions: none beyond the form's own.
-/
import Derived.Test.YtldkpahaocjdpaaGreatR01
import Derived.Test.YtldkpahaocjdpaaGreatR50
import Derived.Deep.CutRange
set_option maxHeartbeats 16000000
set_option maxRecDepth 1000000
namespace Go.Proofs.YtldkpahaocjdpaaGreat
section
open Go.ChangeShapes Go.WideShapes Go.ChangeAt Go.RowKit Go.Deep
variable {p:List MemPlace} {W:W8} {H:Type}
theorem zq0 {enc:TypeId × Value->H}{k:Int}{d:DataW H}(h:DataW.Trod enc Tryz.prog W 0 (λ _=>true) true 3 (.int .i64 k) d p):inR k:=by
 obtain⟨fuel,hf⟩:=h;obtain⟨n,e,_,r⟩:=DataW.trod_int Tryz.underlying3 hf;have e:k=n:=by simpa[Value.cells] using e
 subst e;exact Ld r
theorem z34 {enc:TypeId × Value->H}{s:B8}{d:DataW H}(h:DataW.Trod enc Tryz.prog W 0 (λ _=>true) true 9 (.string s) d p):s.size<=maxLen:=by
 obtain⟨fuel,hf⟩:=h;obtain⟨n,e,_,r⟩:=DataW.trod_string Tryz.underlying9 hf;have e:s=n:=by simpa[Value.cells] using e
 subst e;exact r
theorem zuj {enc:TypeId × Value->H}{P:Program}{w:W8}{base:Nat}{spare:Nat->Bool}{held:Bool}{t0 t1 t2:TypeId}{args:Array Value}{ds:List (DataW H)}{ps:List MemPlace}(h:DataW.TrodAll enc P w base spare held [t0,t1,t2] args.toList ds ps):
  ∃ v0 v1 v2 d0 d1 d2 p0 p1 p2,args=#[v0,v1,v2]/\ds=[d0,d1,d2]/\ps=p0++(p1++p2)/\DataW.Trod enc P w base spare held t0 v0 d0 p0/\DataW.Trod enc P w base spare held t1 v1 d1 p1/\DataW.Trod enc P w base spare held t2 v2 d2 p2:=by
 obtain⟨v0,vs0,d0,e0,p0,q0,ha,rfl,rfl,h0,r0⟩:=trodAll_cons h;obtain⟨v1,vs1,d1,e1,p1,q1,rfl,rfl,rfl,h1,r1⟩:=trodAll_cons r0;obtain⟨v2,vs2,d2,e2,p2,q2,rfl,rfl,rfl,h2,r2⟩:=trodAll_cons r1;obtain⟨rfl,rfl,rfl⟩:=trodAll_nil r2;exact⟨v0,v1,v2,d0,d1,d2,p0,p1,p2,by cases args;simp_all,rfl,by simp,h0,h1,h2⟩
end
section
open Go
theorem zqm:Rows.matchedRow.wf (OpenSpec.ofChange (Rows.matchedSpec))=true:=by kernel_rfl
theorem zqn:Tryz.f11.params.all (Tryz.prog.readableRec ·)=true:=by kernel_rfl
theorem zqo:namedTie Tryz.prog Rows.matchedRow.named (Rows.matchedSpec).vars=true:=by kernel_rfl
theorem zqp:(Rows.matchedRow.stops==[])=true:=by kernel_rfl
theorem zqq:(Rows.matchedRow.knobs==[])=true:=by kernel_rfl
theorem zqr:(Rows.matchedRow.inPlace==Tryz.prog.inPlace 11)=true:=by kernel_rfl
theorem zm7:(Rows.matchedRow.unfollowed==Tryz.prog.unfollowed 11)=true:=by kernel_rfl
theorem zm8:(Rows.matchedRow.recurses==Tryz.prog.recurses 11)=true:=by kernel_rfl
theorem zm9:(Rows.matchedRow.named==Tryz.prog.varsNamed 11)=true:=by kernel_rfl
theorem zna:(Rows.matchedRow.maps==(Tryz.f11.params.toList++(Rows.matchedSpec).plain.varTypes Tryz.prog).any (Tryz.prog.mapsRec ·))=true:=by kernel_rfl
theorem znb:(Rows.matchedRow.ifaces==(Tryz.f11.params.toList++(Rows.matchedSpec).plain.varTypes Tryz.prog).any (Tryz.prog.ifacesRec ·))=true:=by kernel_rfl
theorem znc:(Rows.matchedRow.mapsOut==Tryz.prog.mapsAmong Tryz.f11.resultTypes.toList)=true:=by kernel_rfl
theorem znd:(Rows.matchedRow.loops==(Tryz.f11.params.toList++(Rows.matchedSpec).plain.varTypes Tryz.prog).any (Tryz.prog.loopsFrom ·))=true:=by kernel_rfl
theorem zne:(Rows.matchedRow.wideKeys==(Tryz.f11.params.toList++(Rows.matchedSpec).plain.varTypes Tryz.prog++Tryz.f11.resultTypes.toList).any (Tryz.prog.wideKeysFrom ·))=true:=by kernel_rfl
theorem znf:(Rows.matchedSpec).vars.all (Tryz.prog.varReadable ·)=true:=by kernel_rfl
theorem zng:Tryz.f11.resultTypes.all (λ t=>Tryz.prog.readableRec t&&decide (t<Tryz.prog.types.size))=true:=by kernel_rfl
theorem znh:(Rows.matchedRow.ifacesOut==Tryz.f11.resultTypes.toList.any (Tryz.prog.ifacesRec ·))=true:=by kernel_rfl
theorem zni:(Rows.matchedRow.loopsOut==Tryz.f11.resultTypes.toList.any (Tryz.prog.loopsFrom ·))=true:=by kernel_rfl
theorem znj:(Rows.matchedRow.plainKeys==Tryz.prog.plainKeys)=true:=by kernel_rfl
theorem znk:Rows.matchedRow.shortTexts.isNone=true:=by kernel_rfl
theorem znl:(Rows.matchedRow.lifted==Tryz.prog.liftsFinal)=true:=by kernel_rfl
theorem znm:(Tryz.prog.make==some Rows.matchedRow.make)=true:=by kernel_rfl
theorem znn:(Rows.matchedRow.pinned==Rows.matchedRow.pinnedBy)=true:=by kernel_rfl
theorem zno:(Rows.matchedRow.veiled==(Tryz.f11.params.toList++(Rows.matchedSpec).plain.varTypes Tryz.prog++Tryz.f11.resultTypes.toList).any (Tryz.prog.veiledRec ·))=true:=by kernel_rfl
theorem znp:Rows.matchedRow.veiledFits Tryz.prog Tryz.f11.params.toList (Tryz.f11.params.toList++(Rows.matchedSpec).plain.varTypes Tryz.prog++Tryz.f11.resultTypes.toList)=true:=by kernel_rfl
theorem znq:Tryz.prog.funcNamed Rows.matchedRow.func=some 11:=by kernel_rfl
theorem zqs:joinedFacts Tryz.prog 11 Tryz.f11 (Rows.matchedSpec) Rows.matchedRow=true:=by
 unfold joinedFacts;exact (qV (qV (qV (qV (qV (qV (qV (qV (qV (qV (qV (qV (qV (qV (qV (qV (qV (qV (qV (qV (qV (qV (qV (qV (qV (qV (qV (qV (qV (qV (qV zqm zsi) zos) zqn) zqo) zqp) zot) zqq) zor) zqr) zm7) zm8) zm9) zna) znb) znc) znd) zne) znf) zng) znh) zni) znj) znk) zoq) zxh) znl) znm) (by kernel_rfl)) znn) zno) znp)
end
section
open Go.RowKit Go.Maps
theorem z96 {ps:P9}(h:zro ps):vC ps { data:=#[101,40,88,44,89,41] }=some (zyw 0):=zhk (k:=0) h z5z (zil (by decide)) rfl
attribute [local go_sem] za4
theorem zvh (w:W8)(la:O8)(n c:Nat)(R:Nat->Raw)(hL:EW w la n R)(dG:n<=c)(dx:c<=maxLen)(kk aa:Int)(kg:inR kk)(N1:inR aa):Calls Tryz.prog 11 #[.slice la n c,.int .i64 kk,.int .i64 aa] w (zwx w):=by
 have HL:=zC hL;have HN:=zC (And.intro dG dx);have tz:=zC kg;have NN:=zC N1;clear hL dG dx kg N1;go_enter Tryz.func11,Tryz.ntmps11;go_wp2_with fail;refine (yah w).mono ?_;rintro e w1 ⟨rfl,aT⟩;have cR:=zC aT;have HT:=zC (yef w1 la n c R ((zA HL).below aT) (zA HN).1 (zA HN).2 14 (by decide));clear aT;go_wp2_with fail;refine (zA HT).mono ?_;rintro e w2 ⟨rfl,aU⟩;have HK:=zC (zyj R (n:=min n 14) (by omega));have wW:=zC (yca R (n:=min n 14) (by omega))
 have HF:=zC (show (KL.fact 0 1).rule∈(zJ (aC (aW (λ i=>aZ (R i)) (min n 14)))).2.2.1 by
  rw[(zij (λ i=>aZ (R i)) (min n 14) (by omega) (λ i _=>zhx _ _ _ _)).2];exact List.mem_cons_self)
 generalize aC (aW (λ i=>aZ (R i)) (min n 14))=s at *;have ep:=zC ((zA cR).trans (aU.mono (zA cR).size));have Ed:=zC (z3a w2 s (zA HK).sz (zA HK).ok);clear aU HT cR HN HL;go_wp2_with fail;refine (zA Ed).mono ?_;rintro e w3 ⟨xb,rs,rfl,hP,cE⟩;have HP:=zC hP;have gh:=zC ((zA ep).trans (cE.mono (zA ep).size));have HA:=zC (yf8 w3 s xb _ rs hP (zA HK).two);clear hP cE ep Ed;go_wp2_with fail;refine (zA HA).mono ?_;intro e w4 bh;obtain⟨a1,c1,zs,sm,rfl,Fc,sf,EP,bQ⟩:=bh.pW;have HZ:=zC Fc;have wY:=zC ((zA HP).below bQ);have eC:=zC ((zA gh).trans (bQ.mono (zA gh).size));clear bh Fc EP bQ HA HP gh
 cases sm with
 | false=>
  clear sf;go_wp2_with fail;go_ret;exact⟨rfl,zA eC⟩
 | true=>
  obtain⟨S,m,K,hM,AK⟩:=sf;have fo:K.length<=50:=by
   obtain⟨_,_,⟨e0,_⟩ | ⟨_,_,e0,_,_,h⟩⟩:=hM.uniq (zA wY).cg hM
   ·cases e0
   ·obtain rfl:=Option.some.inj e0;exact h
  have B5:=ybe (hM.vc (zA wY) (zA HK).two (zA wW));have oe:1<=K.length:=by
   have:=ybt (zA wY) (hM.NB (zA wY)) (zA HF);obtain⟨x,hx,_⟩:=List.mem_map.1 (show thK 0 0 1∈K.map (·.1) from this);exact List.length_pos_of_mem hx
  have ql:=(yI kk (n:=4) (by decide)).1;have uJ:=(yI aa (n:=4) (by decide)).1;have nU:=zC (yb5 (zA wY) (zA HK).two (zA wW) hM ql uJ);rw[<-AK] at nU B5;have JD:zs.length<=50:=by omega
  have qh:1<=zs.length:=by omega
  have NP:=zC B5;clear B5 oe fo;have HM:=zC hM;have H2:=zC (zc9 w4 kk 4 (by decide) (by decide) (zA tz).1 (zA tz).2);have Hw:=zC (λ W=>zso W aa (zA NN).1 (zA NN).2);generalize zH kk 4=p at *;generalize zH aa 4=nn at *;have fR:=zC (λ W=>zg6 W p ql);have NY:=(Below.refl w4.heap.size w4).alloc L9 aP;have LC:=NY.alloc (by simp) dc;have Nw:((w4.alloc aP).alloc dc).heap.size=w4.heap.size+1+1:=by simp
  obtain⟨w5,pI⟩:∃ w5,w5=(w4.alloc aP).alloc dc:=⟨_,rfl⟩;rw[<-pI] at LC;have NT:=zC pI;have Bn:=zC ((zA wY).below LC);have NV:=zC ((zA HZ).below LC);have jn:=zC ((zA eC).trans (LC.mono (zA eC).size));have tw:=zC (zay (zA Bn) (yJ (pdU p)++{ data:=#[40] }++yJ (nmU nn)++{ data:=#[44,88,41] }) (by simp only[ByteArray.size_append,za4];decide) 50);clear hM AK NY LC Nw pI wY HZ eC;go_wp2_with fail;refine (zA H2).mono ?_;rintro e w6 ⟨rfl,Du⟩;have Du:=Du.symm;subst Du;go_wp2_with fail;refine (zA fR _).mono ?_;rintro e w6 ⟨rfl,rfl⟩;go_wp2_with fail;refine (zA Hw _).mono ?_;rintro e w6 ⟨rfl,Du⟩;rw[<-zA NT] at Du;have Du:=Du.symm;subst Du;clear NT H2 fR;go_wp2_with fail;refine (zA tw).mono ?_;rintro e w6 ⟨ho,iA⟩;obtain⟨ax,cx,rfl,hX⟩:=zje (zA Bn).cg (zA HM) (ydy (zA HK).two p nn) ho;generalize zrp K (ye6 p nn)=X at *;have HX:=zC hX;have Bo:=zC ((zA Bn).below iA);have NW:=zC ((zA NV).below iA);have mU:=zC ((zA jn).trans (iA.mono (zA jn).size));have En:=zC (zay (zA Bo) (yJ (pdU p)++{ data:=#[40,88,44] }++yJ (nmU nn)++{ data:=#[41] }) (by simp only[ByteArray.size_append,za4];decide) 50);clear ho iA hX tw Bn NV jn;go_wp2_with fail;refine (zA En).mono ?_;rintro e w7 ⟨ho,mB⟩;obtain⟨ay,cy,rfl,hY⟩:=zje (zA Bo).cg (zA HM) (ydz (zA HK).two p nn) ho;generalize zrp K (ye7 p nn)=Y at *;have HY:=zC hY;have Iv:=zC ((zA HX).below mB);have Bp:=zC ((zA Bo).below mB);have ID:=zC ((zA NW).below mB);have iw:=zC ((zA mU).trans (mB.mono (zA mU).size));have NR:=zC (zay (zA Bp) (yJ (pdU p)++{ data:=#[40,88,44,88,41] }) (by simp only[ByteArray.size_append,za4];decide) 50);clear ho mB hY En Bo NW mU HX;go_wp2_with fail;refine (zA NR).mono ?_;rintro e w8 ⟨ho,ue⟩;obtain⟨az,cz,rfl,hZ⟩:=zje (zA Bp).cg (zA HM) (yd0 (zA HK).two p) ho;generalize zrp K (ye8 p)=Z at *;generalize (λ c=>dM K p c&&decide (c/4=nn))=F1 at *;generalize (λ c=>dM K p c&&decide (c%4=nn))=F2 at *;generalize (λ c=>dM K p c&&decide (c/4=c%4))=F3 at *
  have M0:=zC hZ;have Iw:=zC ((zA Iv).below ue);have MZ:=zC ((zA HY).below ue);have Oe:=zC ((zA Bp).below ue);have MN:=zC ((zA ID).below ue);have Ln:=zC ((zA iw).trans (ue.mono (zA iw).size));have hxc:=(zA Iw).cap;have pK:=(zA Iw).max;have hyc:=(zA MZ).cap;have Ov:=(zA MZ).max;have Gs:=(zA M0).cap;have Ox:=(zA M0).max;have hac:=(zA MN).cap;have Om:=(zA MN).max;unfold maxLen at pK Ov Ox Om;clear ho ue hZ NR Bp ID iw Iv HY Hw
  have Hw:=zC (λ (W:W8) (i:Nat) (hi:i<16)=>(show Calls Tryz.prog 21 #[.int .i64 (i:Nat)] W λ e w'=>e=.returned (.string (yJ (nmU (i%4))))/\w'=W.alloc dc from by
   have:=zso W (i:Nat) (by omega) (by omega)
   rwa [zl8] at this))
  have rH:=zC (show aB F1 0=0/\aB F2 0=0/\aB F3 0=0 from ⟨rfl,rfl,rfl⟩);go_wp2_with fail
  go_loopg [20,21,22,23] 16 (λ gg i j mm cv wr=>∃ c:Nat,c<=16/\gg=16-c/\i=.int .i64 (aB F1 c:Nat)/\j=.int .i64 (aB F2 c:Nat)/\mm=.int .i64 (aB F3 c:Nat)/\cv=.int .i64 (c:Nat)/\Below w8.heap.size w8 wr)
  exact⟨0,by omega,rfl,by rw[(zA rH).1];rfl,by rw[(zA rH).2.1];rfl,by rw[(zA rH).2.2];rfl,rfl,Below.refl _ _⟩
  case round=>
   clear rH;obtain⟨c,On,hgc,rfl,rfl,rfl,rfl,iD⟩:=hrel;have kr:=zC iD
   by_cases bP:c<16
   ·have CV:(c:Int)<16:=by omega
    have vu:Hid (Calls Tryz.prog 21 #[.int .i64 ((c:Int)/4)] wr λ e w'=>e=.returned (.string (yJ (nmU (c/4))))/\w'=wr.alloc dc):=zC (by
     have:=zA Hw wr (c/4) (by omega);rw[show c/4%4=c/4 by omega] at this
     rw[show (c:Int)/4=((c/4:Nat):Int) by omega];exact this)
    have NZ:=(Below.refl wr.heap.size wr).alloc L9 dc;have Nq:=NZ.alloc (by simp) dc;obtain⟨wA,Gg⟩:∃ wA,wA=(wr.alloc dc).alloc dc:=⟨_,rfl⟩;rw[<-Gg] at Nq;have Of:=zC Gg;have rF:=zC (iD.trans (Nq.mono iD.size));have Hr:=zC (zA Hw (wr.alloc dc) c bP);rw[<-Gg] at Hr;have Lo:=zC (yev p c);have hi1:=zu2 F1 c;have N2:=zu2 F2 c;have hi3:=zu2 F3 c;have Hq:=zC (show ∀ b:Bool,dM K p c=b->zgj (aM p c) zs=b from λ b hb=>((zA nU).am c bP).trans hb);have Od:=zC (λ t=>yee wA a1 c1 zs t ((zA MN).below (zA rF)));have Ix:=zC ((zA Iw).below (zA rF));have Og:=zC ((zA MZ).below (zA rF));have Oh:=zC ((zA M0).below (zA rF));have Nx:=(zbm (nmU (c/4)) (nmU nn)).trans (zo4 (c/4) (by omega) nn uJ);have sS:=(zbm (nmU (c%4)) (nmU nn)).trans (zo4 (c%4) (by omega) nn uJ);have Ny:=(zbm (nmU (c/4)) (nmU (c%4))).trans (zo4 (c/4) (by omega) (c%4) (by omega));have ni:=zC (show ∀ bb,F1 c=bb->(bb=false->aB F1 (c+1)=aB F1 c)/\(bb=true->aB F1 (c+1)=aB F1 c+1/\∃ h:aB F1 c<X.length,X[aB F1 c]=aM p c) from λ bb e=>⟨λ h=>by rw[zc3,e,h];rfl,λ h=>⟨by rw[zc3,e,h];rfl,(zA nU).x.at_ c bP (e.trans h)⟩⟩);have Ad:=zC (show ∀ bb,F2 c=bb->(bb=false->aB F2 (c+1)=aB F2 c)/\(bb=true->aB F2 (c+1)=aB F2 c+1/\∃ h:aB F2 c<Y.length,Y[aB F2 c]=aM p c) from λ bb e=>⟨λ h=>by rw[zc3,e,h];rfl,λ h=>⟨by rw[zc3,e,h];rfl,(zA nU).y.at_ c bP (e.trans h)⟩⟩);have MY:=zC (show ∀ bb,F3 c=bb->(bb=false->aB F3 (c+1)=aB F3 c)/\(bb=true->aB F3 (c+1)=aB F3 c+1/\∃ h:aB F3 c<Z.length,Z[aB F3 c]=aM p c) from λ bb e=>⟨λ h=>by rw[zc3,e,h];rfl,λ h=>⟨by rw[zc3,e,h];rfl,(zA nU).z.at_ c bP (e.trans h)⟩⟩);obtain⟨b,hb⟩:∃ b,dM K p c=b:=⟨_,rfl⟩;obtain⟨b1,aT⟩:∃ b1,decide (c/4=nn)=b1:=⟨_,rfl⟩;obtain⟨b2,aU⟩:∃ b2,decide (c%4=nn)=b2:=⟨_,rfl⟩;obtain⟨b3,cE⟩:∃ b3,decide (c/4=c%4)=b3:=⟨_,rfl⟩;have HF:=zC (show F1 c=(b&&b1)/\F2 c=(b&&b2)/\F3 c=(b&&b3) from ⟨by rw[(zA nU).f1,hb,aT],by rw[(zA nU).f2,hb,aU],by rw[(zA nU).f3,hb,cE]⟩);have Hq:=zC (zA Hq b hb);rw[aT] at Nx
    rw[aU] at sS;rw[cE] at Ny;have Im:=zC (And.intro Nx (And.intro sS Ny));obtain⟨d1,Nt⟩:∃ d,F1 c=d:=⟨_,rfl⟩;obtain⟨d2,Nu⟩:∃ d,F2 c=d:=⟨_,rfl⟩;obtain⟨d3,Nv⟩:∃ d,F3 c=d:=⟨_,rfl⟩;have ni:=zC (zA ni d1 Nt);have Ad:=zC (zA Ad d2 Nu);have MY:=zC (zA MY d3 Nv);rw[Nt,Nu,Nv] at HF;clear iD NZ Nq Gg hb aT aU cE Nx sS Ny Nt Nu Nv;go_upto_region 25 with (first | (go_at_call 21;refine (zA vu).mono ?_;rintro e w9 ⟨rfl,rfl⟩) | (go_at_call 21;refine (zA Hr).mono ?_;rintro e w9 ⟨rfl,gB⟩;have gB:=gB.symm;subst gB));rw[zA Lo];generalize aM p c=t at *;generalize yJ (nmU (c/4))=u at *;generalize yJ (nmU (c%4))=v at *;generalize yJ (nmU nn)=nS at *;clear Lo vu Hr Of;go_upto_region 26 with (go_at_call 22;refine (zA Od t).mono ?_;rintro e w9 ⟨rfl,gB⟩;have gB:=gB.symm;subst gB);rw[zA Hq];have htt:(t.toList==t.toList)=true:=yB.2 rfl
    go_cut [113] from 88 to 167 (λ s wc=>s=.bool d1/\wc=wA)
    case first=>
     have hq:=(zA Im).1;have hd:=(zA HF).1
     cases b <;> cases b1
     all_goals
      have HD:=zC hd;clear hd;go_wp2_with fail;go_meet
      case rel=>exact⟨by rw[zA HD];rfl,rfl⟩
    case rest=>
     obtain⟨rfl,bk⟩:=hcut;have bk:=bk.symm;subst bk
     go_upto_if 113 with fail
     go_cut [20] from 88 to 167 (λ i wc=>i=.int .i64 (aB F1 (c+1):Nat)/\wc=wA)
     case first=>
      obtain⟨nI,js⟩:=zA ni
      cases d1
      case false=>
       have bg:=zC (nI rfl);clear nI js;generalize aB F1 (c+1)=i2 at *;generalize aB F1 c=i1 at *;go_wp2_with fail;go_meet
       case rel=>exact⟨by rw[zA bg],rfl⟩
      case true=>
       obtain⟨dj,CW,hx⟩:=js rfl;obtain⟨g,rfl,hg,dV⟩:=(zA Ix).at_ (aB F1 c) CW;rw[hx] at dV;have Md:¬ ((X.length:Int)<=(aB F1 c:Nat)):=(by omega);have Me:((aB F1 c:Nat):Int)<X.length:=(by omega);have bg:=zC dj;clear nI js hx dj;generalize aB F1 (c+1)=i2 at *;generalize aB F1 c=i1 at *;go_wp2_with fail;go_meet
       case rel=>exact⟨by rw[zA bg];go_num,rfl⟩
     case rest=>
      obtain⟨rfl,bk⟩:=hcut;have bk:=bk.symm;subst bk;go_upto_region 30 with fail
      go_cut [133] from 88 to 167 (λ s wc=>s=.bool d2/\wc=wA)
      case first=>
       have hq:=(zA Im).2.1;have hd:=(zA HF).2.1
       cases b <;> cases b2
       all_goals
        have HD:=zC hd;clear hd;go_wp2_with fail;go_meet
        case rel=>exact⟨by rw[zA HD];rfl,rfl⟩
      case rest=>
       obtain⟨rfl,bk⟩:=hcut;have bk:=bk.symm;subst bk
       go_upto_if 133 with fail
       go_cut [21] from 88 to 167 (λ i wc=>i=.int .i64 (aB F2 (c+1):Nat)/\wc=wA)
       case first=>
        obtain⟨nI,js⟩:=zA Ad
        cases d2
        case false=>
         have bg:=zC (nI rfl);clear nI js;generalize aB F2 (c+1)=i2 at *;generalize aB F2 c=i1 at *;go_wp2_with fail;go_meet
         case rel=>exact⟨by rw[zA bg],rfl⟩
        case true=>
         obtain⟨dj,CW,hx⟩:=js rfl;obtain⟨g,rfl,hg,dV⟩:=(zA Og).at_ (aB F2 c) CW;rw[hx] at dV;have Md:¬ ((Y.length:Int)<=(aB F2 c:Nat)):=(by omega);have Me:((aB F2 c:Nat):Int)<Y.length:=(by omega);have bg:=zC dj;clear nI js hx dj;generalize aB F2 (c+1)=i2 at *;generalize aB F2 c=i1 at *;go_wp2_with fail;go_meet
         case rel=>exact⟨by rw[zA bg];go_num,rfl⟩
       case rest=>
        obtain⟨rfl,bk⟩:=hcut;have bk:=bk.symm;subst bk;go_upto_region 34 with fail
        go_cut [153] from 88 to 167 (λ s wc=>s=.bool d3/\wc=wA)
        case first=>
         have hq:=(zA Im).2.2;have hd:=(zA HF).2.2
         cases b <;> cases b3
         all_goals
          have HD:=zC hd;clear hd;go_wp2_with fail;go_meet
          case rel=>exact⟨by rw[zA HD];rfl,rfl⟩
        case rest=>
         obtain⟨rfl,bk⟩:=hcut;have bk:=bk.symm;subst bk;obtain⟨nI,js⟩:=zA MY
         cases d3
         case false=>
          have bg:=zC (nI rfl);clear nI js;generalize aB F3 c=i1 at *;go_wp2_with fail;go_roundg (16-(c+1));exact⟨c+1,by omega,rfl,rfl,rfl,by rw[zA bg],by go_num,zA rF⟩;omega
         case true=>
          obtain⟨dj,CW,hx⟩:=js rfl;obtain⟨g,rfl,hg,dV⟩:=(zA Oh).at_ (aB F3 c) CW;rw[hx] at dV;have Md:¬ ((Z.length:Int)<=(aB F3 c:Nat)):=(by omega);have Me:((aB F3 c:Nat):Int)<Z.length:=(by omega);have bg:=zC dj;clear nI js hx dj;generalize aB F3 c=i1 at *;go_wp2_with fail;go_roundg (16-(c+1));exact⟨c+1,by omega,rfl,rfl,rfl,by rw[zA bg];go_num,by go_num,zA rF⟩;omega
   ·have hc:c=16:=(by omega);subst hc;rw[<-(zA nU).x.len,<-(zA nU).y.len,<-(zA nU).z.len];have MV:=zC ((zA Oe).below iD);have MO:=zC ((zA Ln).trans (iD.mono (zA Ln).size));have tw:=zC (zay (zA MV) { data:=#[101,40,88,44,89,41] } (by decide) (zs.length:Nat));clear iD nU Iw MZ M0 MN Hw kr;go_wp2_with fail;refine (zA tw).mono ?_;rintro e w9 ⟨ho,Fj⟩;obtain⟨ae,ne,ce,rfl⟩:=(zpc (zA HM) qh JD (z96 (zA HK).two) ho).1 (by have:=zA NP;omega);have ir:=zC ((zA MO).trans (Fj.mono (zA MO).size))
    by_cases h1:1<zs.length
    ·have Oi:(1:Int)<zs.length:=(by omega);have En:=zC (zay ((zA MV).below Fj) { data:=#[101,40,88,44,89,41] } (by decide) ((zs.length:Nat)-1:Int));clear ho Fj tw MV MO;go_wp2_with fail;refine (zA En).mono ?_;rintro e w10 ⟨ho,fp⟩;rw[show ((zs.length:Nat):Int)-1=((zs.length-1:Nat):Int) by omega] at ho;have he:=(zpc (zA HM) (by omega) (by omega) (z96 (zA HK).two) ho).2 (by have:=zA NP;omega);subst he;have fh:=zC ((zA ir).trans (fp.mono (zA ir).size));clear ho fp En ir;go_wp2_with fail;go_ret;exact⟨rfl,zA fh⟩
    ·have Oi:¬ (1:Int)<zs.length:=(by omega);clear ho Fj tw MV MO;go_wp2_with fail;go_ret;exact⟨rfl,zA ir⟩
end
section
open Go.ChangeShapes Go.WideShapes Go.ChangeAt Go.RowKit Go.Deep
theorem znr (os:Os)(started:os.Started)(H:Type)(enc:TypeId × Value->H):
  ReturnsInHanded {} Tryz.checked os 11 .any (Rows.matchedSpec.pre6 enc Tryz.prog Tryz.f11 Rows.matchedRow.domain false) (Rows.matchedSpec.post enc Tryz.prog Tryz.f11 false true false false):=by
 refine returnsInHanded_of_change_sized (C:=Tryz.checked) yfx started (by kernel_rfl) Tryz.func11
  (ChangeSpec.witness6 (enc:=enc) (C:=Tryz.checked) false ⟨#[],#[.slice none 0 0,.int .i64 0,.int .i64 0],[]⟩ 8 (by kernel_rfl) (by kernel_rfl) (by kernel_rfl) (by kernel_rfl)) ?_
 intro W base args ds gs before hval0 hW _ hsz0 _;clear hsz0;have fD:∀ (j:Nat) t v,Tryz.f11.params[j]?=some t->args[j]?=some v->Value.okWide Tryz.prog W .any base t v:=hval0;have dZ:=hW;obtain⟨p,q,mS,hV,rfl,_,_⟩:=hW;have hA:DataW.TrodAll enc Tryz.prog W 0 (λ _=>true) true Tryz.f11.params.toList args.toList ds p:=mS;rw[Tryz.params11] at hA fD;obtain⟨v0,v1,v2,d0,d1,d2,p0,p1,p2,rfl,rfl,rfl,h0,h1,h2⟩:=zuj hA;obtain⟨rfl,rfl⟩:=trodVars_none hV;clear mS hval0;simp only[List.append_nil] at dZ;have bP:∀ x∈p0++(p1++p2),x.block<W.heap.size:=λ x hx=>by simpa using dZ.lt x hx
 obtain⟨a0,n0,c0,rfl⟩:=okWide_slice Tryz.underlying28 (fD 0 28 v0 rfl rfl);obtain⟨k1,rfl⟩:=okWide_int Tryz.underlying3 (fD 1 3 v1 rfl rfl);have de:=zq0 h1;obtain⟨k2,rfl⟩:=okWide_int Tryz.underlying3 (fD 2 3 v2 rfl rfl);have cN:=zq0 h2;have uc:∀ (W':W8),Below W.heap.size W W'->DataW.Trod enc Tryz.prog W' 0 (λ b=>decide (b<W.heap.size)) true 28 (.slice a0 n0 c0) d0 p0:=
  λ W' hn=>Below.trod zzq (by kernel_rfl) (of_decide_eq_true (by kernel_rfl)) h0 hn (λ x hx=>bP x (by simp[hx]))
 have ud:∀ (W':W8),Below W.heap.size W W'->DataW.Trod enc Tryz.prog W' 0 (λ b=>decide (b<W.heap.size)) true 3 (.int .i64 k1) d1 p1:=
  λ W' hn=>Below.trod zzq (by kernel_rfl) (of_decide_eq_true (by kernel_rfl)) h1 hn (λ x hx=>bP x (by simp[hx]))
 have ew:∀ (W':W8),Below W.heap.size W W'->DataW.Trod enc Tryz.prog W' 0 (λ b=>decide (b<W.heap.size)) true 3 (.int .i64 k2) d2 p2:=
  λ W' hn=>Below.trod zzq (by kernel_rfl) (of_decide_eq_true (by kernel_rfl)) h2 hn (λ x hx=>bP x (by simp[hx]))
 obtain⟨jz,uD,R,hR⟩:=zo6 h0;refine (zvh W a0 n0 c0 R hR jz uD k1 k2 de cN).mono λ e W' ⟨he,hB⟩=>?_
 subst he;exact⟨_,rfl,⟨_,_,_,[],p0++(p1++p2),[],dZ,trodAll_mk1 (shut_bool Tryz.underlying4 true),⟨_,_,uc _ hB,trodAll_mk2 (ud _ hB) (ew _ hB),rfl⟩,rfl,hB.frame _,λ h=>by cases h⟩⟩
theorem matched_holds:Rows.MatchedSaid:=
 OpenClaim.holds_of_wide 11 Tryz.f11 rfl rfl rfl rfl rfl rfl rfl ⟨rfl,rfl,rfl,rfl,rfl⟩ rfl rfl rfl rfl rfl znq Tryz.func11 zqs
  (of_decide_eq_true (by kernel_rfl)) (by unfold Func.isWrapper;first | (rw[if_pos (by decide +kernel)];kernel_rfl) | (rw[if_neg (by decide +kernel)];exact⟨rfl,rfl⟩))
  (λ os started H enc _=>znr os started H enc)
#print axioms matched_holds
end
end Go.Proofs.YtldkpahaocjdpaaGreat
