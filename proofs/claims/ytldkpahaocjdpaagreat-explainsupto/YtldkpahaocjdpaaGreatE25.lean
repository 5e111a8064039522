/-
  The reference's match: an atom with a thing.
-/
import Derived.Test.YtldkpahaocjdpaaGreatE24
import Derived.Deep.RegionHeld3
set_option maxHeartbeats 16000000
set_option maxRecDepth 1000000
namespace Go.Proofs.YtldkpahaocjdpaaGreat
section
open Go.RowKit
def zku (w:W8)(nv tv:Value)(r:Option Env):Ending->W8->Prop:=λ e w'=>Below w.heap.size w w'/\(r=none->e=.returned (.tuple #[.agg #[nv,tv],.bool false]))/\(∀ E',r=some E'->∃ du bY,e=.returned (.tuple #[.agg #[du,bY],.bool true])/\nR w' w.heap.size E' du bY)
variable {wr w:W8} {E:Env} {nv tv av bv du bY:Value} {A T:zL}
theorem iy.env (h:iy w A T nv tv av bv (E.map (·.1)) (E.map (·.2)) du bY wr):nR wr (w.heap.size+5) E du bY:=by
 have h1:=h.rn;have h2:=h.rt;simp only[List.length_map,zj8,List.map_map] at h1 h2;exact⟨h1,h2,λ e=>⟨h.nn (by simp[e]),h.tn (by simp[e])⟩⟩
theorem z8d (w:W8)(A T:zL)(an fC aa ba:O8)(n cn ct ca cb:Nat)(bF:(A.pred.toList==T.pred.toList&&A.ae.length==T.ae.length)=false):
  Calls Tryz.prog 139 #[.agg #[.slice an n cn,.slice fC n ct],.agg #[.string A.pred,.slice aa A.ae.length ca,.bool A.no,.int .i64 A.at_,.int .i64 A.az],.agg #[.string T.pred,.slice ba T.ae.length cb,.bool T.no,.int .i64 T.at_,.int .i64 T.az]] w (λ e w'=>Below w.heap.size w w'/\e=.returned (.tuple #[.agg #[.slice an n cn,.slice fC n ct],.bool false])):=by
 cases hp:A.pred.toList==T.pred.toList with
 | false=>
  clear bF;go_enter Tryz.func139,Tryz.ntmps139;go_wp2_with fail;refine bodyPost_ret (v:=.tuple #[.agg #[.slice an n cn,.slice fC n ct],.bool false]) (by simp[results,Tryz.results139,go_sem]) rfl ⟨?_,rfl⟩;exact ((((Below.refl _ w).alloc L9 _).alloc (by simp) _).alloc (by simp;omega) _).alloc (by simp;omega) _
 | true=>
  have hl:((A.ae.length:Int)==(T.ae.length:Int))=false:=by
   rw[hp] at bF;simp at bF ⊢;omega
  clear bF;go_enter Tryz.func139,Tryz.ntmps139;go_wp2_with fail;refine bodyPost_ret (v:=.tuple #[.agg #[.slice an n cn,.slice fC n ct],.bool false]) (by simp[results,Tryz.results139,go_sem]) rfl ⟨?_,rfl⟩;exact ((((Below.refl _ w).alloc L9 _).alloc (by simp) _).alloc (by simp;omega) _).alloc (by simp;omega) _
theorem ydi {a b:B8}:(E++[(a,b)]).map (·.1)=E.map (·.1)++[a]/\(E++[(a,b)]).map (·.2)=E.map (·.2)++[b]:=by simp
theorem iy.ret (h:iy w A T nv tv av bv (E.map (·.1)) (E.map (·.2)) du bY wr)(u v:Value):nR ((wr.setCell ⟨w.heap.size+1+1+1,0,none⟩ u).setCell ⟨w.heap.size+1+1+1,1,none⟩ v) w.heap.size E du bY:=by
 obtain⟨_,h1,h2⟩:=h.fin u v;simp only[List.length_map,zj8,List.map_map] at h1 h2;exact⟨h1,h2,λ e=>⟨h.nn (by simp[e]),h.tn (by simp[e])⟩⟩
theorem z1v (w:W8)(base:Nat)(E:Env)(A T:zL)(an fC aa ba:O8)(cn ct ca cb:Nat)(he:nR w base E (.slice an E.length cn) (.slice fC E.length ct))(hA:w.ownsRow base 317 3 (.slice aa A.ae.length ca) A.ae.length (cellsOf A.ae))(hT:w.ownsRow base 317 3 (.slice ba T.ae.length cb) T.ae.length (cellsOf T.ae))(qv:E.length+A.ae.length<=1000)(hp:(A.pred.toList==T.pred.toList)=true)(hl:A.ae.length=T.ae.length):
  Calls Tryz.prog 139 #[.agg #[.slice an E.length cn,.slice fC E.length ct],.agg #[.string A.pred,.slice aa A.ae.length ca,.bool A.no,.int .i64 A.at_,.int .i64 A.az],.agg #[.string T.pred,.slice ba T.ae.length cb,.bool T.no,.int .i64 T.at_,.int .i64 T.az]] w (zku w (.slice an E.length cn) (.slice fC E.length ct) (jB E A.ae T.ae)):=by
 obtain⟨i0,hi,bL,aY,bf⟩:=info_parts zf5;have ot:((A.ae.length:Int)==(T.ae.length:Int))=true:=by simp;omega
 have h0:=iy.start w A T (.slice an E.length cn) (.slice fC E.length ct) (.slice aa A.ae.length ca) (.slice ba T.ae.length cb);have H0:=zC h0;have HE:=zC he;have HA:=zC hA;have HT:=zC hT;have HL:=zC hl;clear h0 he hA hT hl;go_enter Tryz.func139,Tryz.ntmps139;go_upto_region 3 with fail
 go_cut [8] (λ p wc=>p=.pointer (some ⟨w.heap.size+1+1+1+1,0,none⟩)/\iy w A T (.slice an E.length cn) (.slice fC E.length ct) (.slice aa A.ae.length ca) (.slice ba T.ae.length cb) [] [] (.slice none 0 0) (.slice none 0 0) wc)
 case first=>
  go_wp2_with fail;go_meet
  case rel=>exact⟨rfl,zA H0⟩
 case rest=>
 clear H0;obtain⟨rfl,Ci⟩:=hcut;obtain⟨p0,B7⟩:=zB Ci.b0 0;obtain⟨q0,Bz⟩:=zB Ci.b4 0;have MV:=zC Ci;have uM:=Ci.lt;clear Ci B7;go_upto_region 4 with fail
 go_cut [] (λ wc=>∃ du,iy w A T (.slice an E.length cn) (.slice fC E.length ct) (.slice aa A.ae.length ca) (.slice ba T.ae.length cb) (E.map (·.1)) [] du (.slice none 0 0) wc)
 case first=>
  by_cases hE:E=[]
  ·subst hE;obtain⟨e1,e2⟩:=(zA HE).nil rfl;injection e1 with e1 _ e3
   injection e2 with e2 _ e4
   subst e1 e2 e3 e4;go_wp2_with fail;go_meet
   case rel=>exact⟨_,(zA MV).same rfl⟩
  ·have aJ:0<E.length:=by
    cases E with
    | nil=>exact absurd rfl hE
    | cons _ _=>simp
   obtain⟨g1,c1,im,-,-,-,-⟩:=zca (zA HE).ns aJ;injection im with i1 i2 i3
   subst i1 i3;have dt:=zC (zpg (zJ (zA HE).ns (zA MV).below (λ g e=>((zA HE).ns.lt g e).2)));have dM:=zC (λ (w5:W8) (g cap:Nat) hg ay dv=>iy.LX (w5:=w5) (g:=g) (cap:=cap) (m:=E.length) (news:=E.map (·.1)) (zA MV) (zK.refl [] _) hg (by simp) aJ ay dv);go_wp2_with (at_builtin;go_must (refine wpList_append_lies _ rfl _ _ _ rfl (w.heap.size+5) 9 i0 (.string { data:=#[] }) 1 16 Tryz.underlying33 hi bL aY bf rfl (by decide) (.slice none 0 0) 0 [] rfl (World.ownsRow_nil _ _ _ _) ⟨g1,0,none⟩ E.length cn (zj8 (E.map (·.1))) rfl (by simp[zj8]) (by simpa[zj8,List.map_map] using zA dt) zvq aJ (by unfold maxLen;omega) (by omega) uM _ rfl ?_;intro g cap w5 aq aU bW hlt5;obtain⟨e1,e2⟩:=zA dM w5 g cap aU aq bW;obtain⟨z0,mW⟩:=zB e2 0));go_meet
   case rel=>exact⟨_,by simpa using e1⟩
 case rest=>
 clear MV p0 q0 Bz uM;obtain⟨nv1,dJ⟩:=hcut;obtain⟨a1,c1,rfl⟩:=zD dJ.rn;obtain⟨p1,xn⟩:=zB dJ.b0 1;obtain⟨q1,yp⟩:=zB dJ.b4 1;have iv:=zC dJ;have sT:=dJ.lt;clear dJ xn;go_upto_region 5 with fail
 go_cut [] (λ wc=>∃ du bY,iy w A T (.slice an E.length cn) (.slice fC E.length ct) (.slice aa A.ae.length ca) (.slice ba T.ae.length cb) (E.map (·.1)) (E.map (·.2)) du bY wc)
 case first=>
  by_cases hE:E=[]
  ·subst hE;obtain⟨e1,e2⟩:=(zA HE).nil rfl;injection e1 with e1 _ e3
   injection e2 with e2 _ e4
   subst e1 e2 e3 e4;go_wp2_with fail;go_meet
   case rel=>exact⟨_,_,(zA iv).same rfl⟩
  ·have aJ:0<E.length:=by
    cases E with
    | nil=>exact absurd rfl hE
    | cons _ _=>simp
   obtain⟨g1,NK,im,-,-,-,-⟩:=zca (zA HE).ts aJ;injection im with i1 i2 i3
   subst i1 i3;have dt:=zC (zpg (zJ (zA HE).ts (zA iv).below (λ g e=>((zA HE).ts.lt g e).2)));have dM:=zC (λ (w5:W8) (g cap:Nat) hg ay dv=>iy.JX (w5:=w5) (g:=g) (cap:=cap) (m:=E.length) (news:=E.map (·.2)) (zA iv) (zK.refl [] _) hg (by simp) aJ ay dv);go_wp2_with (at_builtin;go_must (refine wpList_append_lies _ rfl _ _ _ rfl (w.heap.size+5) 9 i0 (.string { data:=#[] }) 1 16 Tryz.underlying33 hi bL aY bf rfl (by decide) (.slice none 0 0) 0 [] rfl (World.ownsRow_nil _ _ _ _) ⟨g1,0,none⟩ E.length ct (zj8 (E.map (·.2))) rfl (by simp[zj8]) (by simpa[zj8,List.map_map] using zA dt) zvq aJ (by unfold maxLen;omega) (by omega) sT _ rfl ?_;intro g cap w5 aq aU bW hlt5;obtain⟨e1,e2⟩:=zA dM w5 g cap aU aq bW;obtain⟨z0,mW⟩:=zB e2 1));go_meet
   case rel=>exact⟨_,_,by simpa using e1⟩
 case rest=>
 clear iv p1 q1 yp sT;obtain⟨Wx,Iw,dC⟩:=hcut;have xh:=zC dC;clear dC;go_wp2_with fail
 go_loopg [9] A.ae.length (λ gg i wr=>∃ (k:Nat) (E':Env) (du bY:Value),k<=A.ae.length/\gg=A.ae.length-k/\i=.int .i64 k/\E'.length<=E.length+k/\jB E' (A.ae.drop k) (T.ae.drop k)=jB E A.ae T.ae/\iy w A T (.slice an E.length cn) (.slice fC E.length ct) (.slice aa A.ae.length ca) (.slice ba T.ae.length cb) (E'.map (·.1)) (E'.map (·.2)) du bY wr)
 exact⟨0,E,Wx,Iw,Nat.zero_le _,rfl,rfl,by omega,rfl,zA xh⟩
 case round=>
  clear xh;obtain⟨k,E',du,bY,hk,eA,rfl,hE',aE,hm⟩:=hrel;obtain⟨D6,Em,rfl⟩:=zD hm.rn;obtain⟨vl,IZ,rfl⟩:=zD hm.rt;simp only[List.length_map] at hm;have aH:=hm.lt;obtain⟨p1,xn⟩:=zB hm.b1 1;obtain⟨r1,Fk⟩:=zB hm.b2 1;obtain⟨o0,KO⟩:=zB hm.b0 0;obtain⟨o1,Jz⟩:=zB hm.b0 1;obtain⟨q0,Bz⟩:=zB hm.b4 0;obtain⟨q1,yp⟩:=zB hm.b4 1;obtain⟨t0,PU⟩:=zB hm.b3 0;obtain⟨t1,OW⟩:=zB hm.b3 1;have HM:=zC hm;have HF:=zC aE;clear hm aE xn Fk KO Jz
  by_cases aF:k<A.ae.length
  ·have RH:k<T.ae.length:=(by rw[<-zA HL];exact aF);have dD:=zC ((zA HF).symm.trans (zsc aF RH));have nz:(k:Int)<A.ae.length:=(by omega);have hkT:(k:Int)<T.ae.length:=(by omega);clear HF;go_wp2_with fail;refine zcz 6 z2a (by kernel_rfl) λ W hW=>?_
   simp only[List.take_succ_cons,List.take_zero,List.drop_succ_cons,List.drop_zero];have lk:Hid (iy w A T (.slice an E.length cn) (.slice fC E.length ct) (.slice aa A.ae.length ca) (.slice ba T.ae.length cb) (E'.map (·.1)) (E'.map (·.2)) (.slice D6 E'.length Em) (.slice vl E'.length IZ) W):=(by rw[hW];exact (zA HM).dN B9.drew);clear hW HM p1 r1 o0 o1 q0 q1 Bz yp t0 PU t1 OW aH;obtain⟨p1,xn⟩:=zB (zA lk).b1 1;obtain⟨q0,Bz⟩:=zB (zA lk).b4 0;obtain⟨q1,yp⟩:=zB (zA lk).b4 1;obtain⟨ga,NK,im,-,-,bO,bP,d0,d1,d2⟩:=zap (zJ (zA HA) (zA lk).below (λ g e=>((zA HA).lt g e).2)) k aF;injection im with i1 i2 i3
   subst i1 i3;clear xn Bz yp
   repeat still_step
   refine wpStill_nil ?_;clear p1 q0 q1;go_wp2_with fail;refine (znw W (w.heap.size+5) E' D6 vl Em IZ (zA lk).env A.ae[k].text A.ae[k].isVar A.ae[k].at_).mono ?_;rintro e w1 ⟨rfl,aL⟩;have iv:=zC ((zA lk).dN aL);clear lk aL d0 d1 d2;obtain⟨r1,Fk⟩:=zB (zA iv).b2 1;obtain⟨gb,c2',Dk,-,-,LL,Mg,f0,f1,f2⟩:=zap (zJ (zA HT) (zA iv).below (λ g e=>((zA HT).lt g e).2)) k RH;injection Dk with i1 i2 i3
   subst i1 i3;clear Fk f1 f2;have Cm:nT E' ⟨A.ae[k].text,A.ae[k].isVar,A.ae[k].at_⟩=nT E' A.ae[k]:=rfl;rw[Cm];clear Cm;generalize nT E' A.ae[k]=x at *
   cases hx:x.toList==[] with
   | true=>
    have Ro:=(zA dD).trans (by rw[if_pos hx]);obtain⟨ta,Gy⟩:∃ ta,A.ae[k].text=ta:=⟨_,rfl⟩;obtain⟨tt,P8⟩:∃ tt,T.ae[k].text=tt:=⟨_,rfl⟩;rw[Gy,P8] at Ro;rw[P8] at f0;have aC:=zC Ro;have YQ:=zC Gy;clear Ro Gy P8;clear dD;go_upto_region 12 with fail
    go_cut [] (λ wc=>∃ Tn,iy w A T (.slice an E.length cn) (.slice fC E.length ct) (.slice (some ⟨ga,0,none⟩) A.ae.length ca) (.slice (some ⟨gb,0,none⟩) T.ae.length cb) (E'.map (·.1)++[ta]) (E'.map (·.2)) Tn (.slice vl E'.length IZ) wc)
    case first=>
     clear r1 f0;obtain⟨p1,xn⟩:=zB (zA iv).b1 1;obtain⟨q0,Bz⟩:=zB (zA iv).b4 0;obtain⟨ga',NK,im,-,aZ,wu,AX,d0,d1,d2⟩:=zap (zJ (zA HA) (zA iv).below (λ g e=>((zA HA).lt g e).2)) k aF;injection im with i1 i2 i3
     injection i1 with i1
     injection i1 with i1
     subst i1 i3;rw[zA YQ] at d0;have QA:=(zA iv).lt;have vb:ga<w.heap.size:=((zA HA).lt ga rfl).2;have l4:w.heap.size+1+1+1+1<w1.heap.size:=(by omega);have l1:w.heap.size+1<w1.heap.size:=(by omega);have aB:=(zA iv).rn;simp only[List.length_map] at aB;have dM:=zC (λ (w5:W8) (g cap:Nat) hg ay dv=>iy.LX (w5:=w5) (W:=(w1.alloc (.cells #[.string ta] 9)).drew) (g:=g) (cap:=cap) (m:=1) (news:=[ta]) (zA iv) (((zK.refl [] _).alloc _).drew) hg rfl (by decide) ay dv);have bX:=zC (zh2 ((w1.alloc (.cells #[.string ta] 9)).drew) w1.heap.size (.string ta) 9 (heap_alloc_new w1 _));have s1:Hid (((w1.alloc (.cells #[.string ta] 9)).drew).ownsRow (w.heap.size+5) 9 1 (.slice D6 E'.length Em) E'.length (zj8 (E'.map (·.1)))):=zC (aB.alloc _);have s4:Hid (E'.length+1<=maxLen):=(by show _<=_;unfold maxLen;omega);have s5:Hid ((E'.length+1)*16<=140737488355328):=(by show _<=_;omega);have s6:Hid (w.heap.size+5<=((w1.alloc (.cells #[.string ta] 9)).drew).heap.size):=(by show _<=_;simp;omega);have s3:Hid (∀ u∈([.string ta]:V8),u.oneCell'=true):=by show ∀ u∈_,_;intro u hu;simp at hu;subst hu;rfl
     have lx:Hid (∀ w5:W8,((w1.alloc (.cells #[.string ta] 9)).drew).grownBy w5 (Value.slice D6 E'.length Em).ownBlock->w5.cell? ⟨w.heap.size+1,1,none⟩=some (.slice (some ⟨ga,0,none⟩) A.ae.length ca)/\w5.cell? ⟨ga,k*3,none⟩=some (.string ta)):=zC (λ w5 hg=>by
      have kk:=(((zK.refl _ w1).alloc _).drew).grown hg (λ k e=>.inr (show k∈(Value.slice D6 E'.length Em).ownBlock.toList by simp[e]));have eG:∀ b,b<w.heap.size+5->b∉(Value.slice D6 E'.length Em).ownBlock.toList:=λ b hb hm=>by have:=(aB.lt b (by simpa using hm)).1;omega
      exact⟨(kk.cell (p:=⟨w.heap.size+1,1,none⟩) (by simp;omega) (eG (w.heap.size+1) (by omega))).trans p1,(kk.cell (p:=⟨ga,k*3,none⟩) (by simp;omega) (eG ga (by omega))).trans d0⟩)
     clear d1 d2 aB;simp only[List.length_map] at dM;simp only[List.getElem?_toArray,List.getElem?_cons_zero,List.getElem?_cons_succ] at p1 q0
     go_region_law (refine step_append_lies _ rfl (.tmp 62) (.tmp 69) 33 rfl (w.heap.size+5) 9 i0 (.string { data:=#[] }) 1 16 Tryz.underlying33 hi bL aY bf rfl (by decide) (.slice D6 E'.length Em) E'.length (zj8 (E'.map (·.1))) (by simp[Act.eval]) (zA s1) ⟨w1.heap.size,0,none⟩ 1 1 [.string ta] (by simp[Act.eval]) rfl (zA bX) (zA s3) (by decide) (zA s4) (zA s5) (zA s6) _ rfl ?_;intro g cap w5 aq aU bW hlt5;obtain⟨e1,e2⟩:=zA dM w5 g cap aU aq bW;obtain⟨y1,y2⟩:=zA lx w5 aU;obtain⟨z0,mW⟩:=zB e2 0)
     all_goals
      go_wp2_with fail;go_meet
      case rel=>exact⟨_,e1⟩
    case rest=>
     clear iv r1 f0;obtain⟨Tn,fm⟩:=hcut;obtain⟨a3,c3,rfl⟩:=zD fm.rn;obtain⟨q1,yp⟩:=zB fm.b4 1;have aB:=fm.rt;simp only[List.length_map] at aB;have QA:=fm.lt;have dM:=zC (λ (w5:W8) (g cap:Nat) hg ay dv=>iy.JX (w5:=w5) (W:=wc.alloc (.cells #[.string tt] 9)) (g:=g) (cap:=cap) (m:=1) (news:=[tt]) fm ((zK.refl [] _).alloc _) hg rfl (by decide) ay dv);simp only[List.length_map] at dM;have bX:=zC (zh2 (wc.alloc (.cells #[.string tt] 9)) wc.heap.size (.string tt) 9 (heap_alloc_new wc _));have HR:=zC aB;clear aB fm;go_wp2_with (at_builtin;go_must (refine wpList_append_lies _ rfl _ _ _ rfl (w.heap.size+5) 9 i0 (.string { data:=#[] }) 1 16 Tryz.underlying33 hi bL aY bf rfl (by decide) (.slice vl E'.length IZ) E'.length (zj8 (E'.map (·.2))) rfl ((zA HR).alloc _) ⟨wc.heap.size,0,none⟩ 1 1 [.string tt] rfl rfl (zA bX) (by simp[Value.oneCell']) (by decide) (by unfold maxLen;omega) (by omega) (by simp;omega) _ rfl ?_;intro g cap w5 aq aU bW hlt5;obtain⟨e1,e2⟩:=zA dM w5 g cap aU aq bW;obtain⟨z0,mW⟩:=zB e2 1));go_roundg (A.ae.length-(k+1));exact⟨k+1,E'++[(ta,tt)],_,_,by omega,rfl,by go_num,by simp;omega,(zA aC).symm,by rw[ydi.1,ydi.2];exact e1⟩;omega
   | false=>
    cases hy:x.toList==T.ae[k].text.toList with
    | true=>
     have aC:=zC ((zA dD).trans (by rw[if_neg (by rw[hx];decide),if_pos hy]));clear dD;go_wp2_with fail;go_roundg (A.ae.length-(k+1));exact⟨k+1,E',_,_,by omega,rfl,by go_num,by omega,(zA aC).symm,zA iv⟩;omega
    | false=>
     have aC:=zC ((zA dD).trans (by rw[if_neg (by rw[hx];decide),if_neg (by rw[hy];decide)]));obtain⟨o0,KO⟩:=zB (zA iv).b0 0;obtain⟨o1,Jz⟩:=zB (zA iv).b0 1;obtain⟨t0,PU⟩:=zB (zA iv).b3 0;obtain⟨t1,OW⟩:=zB (zA iv).b3 1;clear dD KO Jz;go_wp2_with fail;refine bodyPost_ret (v:=.tuple #[.agg #[.slice an E.length cn,.slice fC E.length ct],.bool false]) (by simp[results,Tryz.results139,go_sem,t0,t1]) rfl ⟨((zA iv).fin _ _).1,λ _=>rfl,λ E2 h2=>?_⟩;rw[zA aC] at h2
     cases h2
  ·have aC:=zC (show jB E A.ae T.ae=some E' by rw[<-zA HF,List.drop_of_length_le (by omega)];rfl);clear HF r1 o0 o1 Bz yp;go_wp2_with fail;refine bodyPost_ret (v:=.tuple #[.agg #[.slice D6 E'.length Em,.slice vl E'.length IZ],.bool true]) (by simp[results,Tryz.results139,go_sem,t0,t1]) rfl ⟨((zA HM).fin _ _).1,λ h2=>?_,λ E2 h2=>⟨_,_,rfl,?_⟩⟩
   ·rw[zA aC] at h2;cases h2
   ·rw[zA aC] at h2
    cases h2
    exact (zA HM).ret _ _
end
section
open Go.RowKit
theorem zym (w:W8)(base:Nat)(E:Env)(A T:zL)(an fC aa ba:O8)(cn ct ca cb:Nat)(he:nR w base E (.slice an E.length cn) (.slice fC E.length ct))(hA:w.ownsRow base 317 3 (.slice aa A.ae.length ca) A.ae.length (cellsOf A.ae))(hT:w.ownsRow base 317 3 (.slice ba T.ae.length cb) T.ae.length (cellsOf T.ae))(qv:E.length+A.ae.length<=1000):
  Calls Tryz.prog 139 #[.agg #[.slice an E.length cn,.slice fC E.length ct],.agg #[.string A.pred,.slice aa A.ae.length ca,.bool A.no,.int .i64 A.at_,.int .i64 A.az],.agg #[.string T.pred,.slice ba T.ae.length cb,.bool T.no,.int .i64 T.at_,.int .i64 T.az]] w (zku w (.slice an E.length cn) (.slice fC E.length ct) (qA E A T)):=by
 cases h:A.pred.toList==T.pred.toList&&A.ae.length==T.ae.length with
 | false=>
  have e:qA E A T=none:=by unfold qA;rw[h];rfl
  rw[e];refine (z8d w A T an fC aa ba E.length cn ct ca cb h).mono ?_;rintro e w' ⟨hb,rfl⟩;exact⟨hb,λ _=>rfl,λ _ h=>by cases h⟩
 | true=>
  have e:qA E A T=jB E A.ae T.ae:=by unfold qA;rw[h];rfl
  rw[e];simp only[Bool.and_eq_true,beq_iff_eq] at h;exact z1v w base E A T an fC aa ba cn ct ca cb he hA hT qv (beq_iff_eq.2 h.1) h.2
structure so (w:W8)(A:zL)(nv tv av:Value)(l:List xE)(v:Value)(wr:W8):Prop where
 below:Below w.heap.size w wr
 b0:wr.heap[w.heap.size]?=some (.cells #[nv,tv] 258 (0,0))
 b1:wr.heap[w.heap.size+1]?=some (.cells #[.string A.pred,av,.bool A.no,.int .i64 A.at_,.int .i64 A.az] 243 (0,0))
 b2:wr.heap[w.heap.size+1+1]?=some (.cells #[.string { data:=#[] },.slice none 0 0,.bool false,.int .i64 0,.int .i64 0] 243 (0,0))
 b3:wr.heap[w.heap.size+1+1+1]?=some (.cells #[.string A.pred,v,.bool false,.int .i64 0,.int .i64 0] 243 (0,0))
 row:wr.ownsRow (w.heap.size+4) 317 3 v l.length (cellsOf l)
variable {wr w:W8} {v nv tv av:Value} {l:List xE} {A:zL}
theorem so.lt (h:so w A nv tv av l v wr):w.heap.size+4<=wr.heap.size:=(Array.getElem?_eq_some_iff.1 h.b3).1
theorem so.dN {w':W8}(h:so w A nv tv av l v wr)(k:Below wr.heap.size wr w'):so w A nv tv av l v w':=by
 have hl:=h.lt;exact⟨h.below.trans (k.mono (by omega)),(k.block _ (by omega)).trans h.b0,(k.block _ (by omega)).trans h.b1,(k.block _ (by omega)).trans h.b2,(k.block _ (by omega)).trans h.b3,zJ h.row k (λ g e=>(h.row.lt g e).2)⟩
theorem so.start (w:W8)(A:zL)(nv tv av:Value):so w A nv tv av [] (.slice none 0 0)
  ((((w.alloc (.cells #[nv,tv] 258)).alloc (.cells #[.string A.pred,av,.bool A.no,.int .i64 A.at_,.int .i64 A.az] 243)).alloc (.cells #[.string { data:=#[] },.slice none 0 0,.bool false,.int .i64 0,.int .i64 0] 243)).alloc (.cells #[.string A.pred,.slice none 0 0,.bool false,.int .i64 0,.int .i64 0] 243)):=by
 refine⟨(((((Below.refl _ w).alloc L9 _).alloc (by simp) _).alloc (by simp;omega) _).alloc (by simp;omega) _),?_,?_,?_,?_,World.ownsRow_nil _ _ _ _⟩
 ·rw[Below.heap_alloc _ _ _ (by simp <;> omega),Below.heap_alloc _ _ _ (by simp <;> omega),Below.heap_alloc _ _ _ (by simp)];exact heap_alloc_new w _
 ·rw[Below.heap_alloc _ _ _ (by simp <;> omega),Below.heap_alloc _ _ _ (by simp)];have:=heap_alloc_new (w.alloc (.cells #[nv,tv] 258)) (.cells #[.string A.pred,av,.bool A.no,.int .i64 A.at_,.int .i64 A.az] 243);simpa using this
 ·rw[Below.heap_alloc _ _ _ (by simp)];have:=heap_alloc_new ((w.alloc (.cells #[nv,tv] 258)).alloc (.cells #[.string A.pred,av,.bool A.no,.int .i64 A.at_,.int .i64 A.az] 243)) (.cells #[.string { data:=#[] },.slice none 0 0,.bool false,.int .i64 0,.int .i64 0] 243);simpa using this
 ·have:=heap_alloc_new (((w.alloc (.cells #[nv,tv] 258)).alloc (.cells #[.string A.pred,av,.bool A.no,.int .i64 A.at_,.int .i64 A.az] 243)).alloc (.cells #[.string { data:=#[] },.slice none 0 0,.bool false,.int .i64 0,.int .i64 0] 243)) (.cells #[.string A.pred,.slice none 0 0,.bool false,.int .i64 0,.int .i64 0] 243);simpa using this
theorem so.add {W w5:W8}(h:so w A nv tv av l v wr)(hW:zK [] wr W)(hg:W.grownBy w5 v.ownBlock){v':Value}{t:xE}
  (ay:w5.ownsRow (w.heap.size+4) 317 3 v' (l.length+1) (cellsOf l++t.cells)):
  so w A nv tv av (l++[t]) v' (w5.setCell ⟨w.heap.size+1+1+1,1,none⟩ v')/\w5.heap[w.heap.size+1+1+1]?=some (.cells #[.string A.pred,v,.bool false,.int .i64 0,.int .i64 0] 243 (0,0)):=by
 have hl:=h.lt;have hz:=hW.size;have k5:zK v.ownBlock.toList wr w5:=(hW.mono (by simp)).trans (zK.aR hg);have eG:∀ b,b<w.heap.size+4->b∉v.ownBlock.toList:=λ b hb hm=>by have:=(h.row.lt b (by simpa using hm)).1;omega
 have bq:∀ b,b<w.heap.size+4->w5.heap[b]?=wr.heap[b]?:=λ b hb=>k5.block b (by omega) (eG b hb)
 have kS:∀ b,b≠w.heap.size+1+1+1->(w5.setCell ⟨w.heap.size+1+1+1,1,none⟩ v').heap[b]?=w5.heap[b]?:=λ b hb=>Below.heap_setCell _ _ _ _ (by simpa using hb)
 have Tl:=(bq (w.heap.size+1+1+1) (by omega)).trans h.b3;have s5:=k5.size;refine⟨⟨?_,?_,?_,?_,?_,?_⟩,Tl⟩
 ·refine⟨k5.os.trans h.below.os,k5.tape.trans h.below.tape,k5.output.trans h.below.output,by simp;omega,λ b hb=>?_⟩;rw[kS b (by omega),bq b (by omega)];exact h.below.block b hb
 ·rw[kS _ (by omega),bq _ (by omega)];exact h.b0
 ·rw[kS _ (by omega),bq _ (by omega)];exact h.b1
 ·rw[kS _ (by omega),bq _ (by omega)];exact h.b2
 ·rw[heap_setCell_same _ _ _ _ _ _ Tl];rfl
 ·rw[zjz,List.length_append];exact ownsRow_setCell_below ay (by simp) _
theorem so.fin (h:so w A nv tv av l v wr)(u0 u1 u2 u3 u4:Value):Below w.heap.size w (((((wr.setCell ⟨w.heap.size+1+1,0,none⟩ u0).setCell ⟨w.heap.size+1+1,1,none⟩ u1).setCell ⟨w.heap.size+1+1,2,none⟩ u2).setCell ⟨w.heap.size+1+1,3,none⟩ u3).setCell ⟨w.heap.size+1+1,4,none⟩ u4)/\(((((wr.setCell ⟨w.heap.size+1+1,0,none⟩ u0).setCell ⟨w.heap.size+1+1,1,none⟩ u1).setCell ⟨w.heap.size+1+1,2,none⟩ u2).setCell ⟨w.heap.size+1+1,3,none⟩ u3).setCell ⟨w.heap.size+1+1,4,none⟩ u4).ownsRow w.heap.size 317 3 v l.length (cellsOf l):=
 ⟨((((h.below.setCell (by simp;omega) _).setCell (by simp;omega) _).setCell (by simp;omega) _).setCell (by simp;omega) _).setCell (by simp;omega) _,zG (ownsRow_setCell_below (ownsRow_setCell_below (ownsRow_setCell_below (ownsRow_setCell_below (ownsRow_setCell_below h.row (by simp) _) (by simp) _) (by simp) _) (by simp) _) (by simp) _) (by omega)⟩
def z3d (w:W8)(E:Env)(A:zL):Ending->W8->Prop:=λ e w'=>∃ v,e=.returned (.agg #[.string A.pred,v,.bool false,.int .i64 0,.int .i64 0])/\w'.ownsRow w.heap.size 317 3 v (eN E A).ae.length (cellsOf (eN E A).ae)/\Below w.heap.size w w'
theorem ybr {E:Env}{k:Nat}(h:k<l.length):(l.take (k+1)).map (ofT E)=(l.take k).map (ofT E)++[ofT E l[k]]:=by
 rw[List.take_succ_eq_append_getElem h,List.map_append];rfl
theorem z4n (w:W8)(base:Nat)(E:Env)(A:zL)(an fC aa:O8)(cn ct ca:Nat)(he:nR w base E (.slice an E.length cn) (.slice fC E.length ct))(hA:w.ownsRow base 317 3 (.slice aa A.ae.length ca) A.ae.length (cellsOf A.ae))(qv:A.ae.length<=1000):
  Calls Tryz.prog 192 #[.agg #[.slice an E.length cn,.slice fC E.length ct],.agg #[.string A.pred,.slice aa A.ae.length ca,.bool A.no,.int .i64 A.at_,.int .i64 A.az]] w (z3d w E A):=by
 obtain⟨i0,hi,bL,aY,bf⟩:=info_parts zqk;have H0:=zC (so.start w A (.slice an E.length cn) (.slice fC E.length ct) (.slice aa A.ae.length ca));have HE:=zC he;have HA:=zC hA;clear he hA;go_enter Tryz.func192,Tryz.ntmps192;go_wp2_with fail
 go_loopg [6] A.ae.length (λ gg i wr=>∃ (k:Nat) (v:Value),k<=A.ae.length/\gg=A.ae.length-k/\i=.int .i64 k/\so w A (.slice an E.length cn) (.slice fC E.length ct) (.slice aa A.ae.length ca) ((A.ae.take k).map (ofT E)) v wr)
 exact⟨0,_,Nat.zero_le _,rfl,rfl,zA H0⟩
 case round=>
  clear H0;obtain⟨k,v,hk,eA,rfl,hm⟩:=hrel;have nD:((A.ae.take k).map (ofT E)).length=k:=by simp;omega
  obtain⟨a1,c1,hv⟩:=zD hm.row;rw[nD] at hv;subst hv;obtain⟨p1,xn⟩:=zB hm.b1 1;have HM:=zC hm;have wU:=zC nD;clear hm xn nD
  by_cases aF:k<A.ae.length
  ·have nz:(k:Int)<A.ae.length:=(by omega);go_wp2_with fail;refine zcz 6 z2a (by kernel_rfl) λ W hW=>?_
   simp only[List.take_succ_cons,List.take_zero,List.drop_succ_cons,List.drop_zero];have lk:Hid (so w A (.slice an E.length cn) (.slice fC E.length ct) (.slice aa A.ae.length ca) ((A.ae.take k).map (ofT E)) (.slice a1 k c1) W):=(by rw[hW];exact (zA HM).dN B9.drew);clear hW HM p1;obtain⟨p1,xn⟩:=zB (zA lk).b1 1;obtain⟨q0,Bz⟩:=zB (zA lk).b0 0;obtain⟨q1,yp⟩:=zB (zA lk).b0 1;obtain⟨ga,NK,im,-,-,bO,bP,d0,d1,d2⟩:=zap (zJ (zA HA) (zA lk).below (λ g e=>((zA HA).lt g e).2)) k aF;injection im with i1 i2 i3
   subst i1 i3;clear xn Bz yp
   repeat still_step
   refine wpStill_nil ?_;clear p1 q0 q1;go_wp2_with fail;refine (znw W base E an fC cn ct ((zA HE).below (zA lk).below) A.ae[k].text A.ae[k].isVar A.ae[k].at_).mono ?_;rintro e w1 ⟨rfl,aL⟩;have iv:=zC ((zA lk).dN aL);clear lk aL d0 d1 d2;obtain⟨x,hx⟩:∃ x,nT E A.ae[k]=x:=⟨_,rfl⟩;have Cm:nT E ⟨A.ae[k].text,A.ae[k].isVar,A.ae[k].at_⟩=x:=hx;rw[Cm];have HT:=zC (show (A.ae.take (k+1)).map (ofT E)=(A.ae.take k).map (ofT E)++[⟨x,false,0⟩] by rw[ybr aF,ofT,hx]);clear Cm hx;obtain⟨r1,Fk⟩:=zB (zA iv).b3 1;have sT:=(zA iv).lt;have aB:=(zA iv).row;rw[zA wU] at aB;have dM:=zC (λ (w5:W8) (v':Value) hg ay=>so.add (w5:=w5) (v':=v') (W:=w1.alloc (.cells #[.string x,.bool false,.int .i64 0] 317)) (t:=⟨x,false,0⟩) (zA iv) ((zK.refl [] _).alloc _) hg ay);rw[zA wU] at dM;have bX:=zC (World.news_of_block (heap_alloc_new w1 (.cells #[.string x,.bool false,.int .i64 0] 317)));have HR:=zC (aB.alloc (.cells #[.string x,.bool false,.int .i64 0] 317));clear aB;go_wp2_with (at_builtin;go_must (refine wpList_append_lies _ rfl _ _ _ rfl (w.heap.size+4) 317 i0 (.agg #[.string { data:=#[] },.bool false,.int .i64 0]) 3 32 Tryz.underlying241 hi bL aY bf rfl (by decide) (.slice a1 k c1) k _ rfl (zA HR) ⟨w1.heap.size,0,none⟩ 1 1 [.string x,.bool false,.int .i64 0] rfl rfl (zA bX) (by simp[Value.oneCell']) (by decide) (by unfold maxLen;omega) (by omega) (by simp;omega) _ rfl ?_;intro g cap w5 aq aU bW hlt5;obtain⟨e1,e2⟩:=zA dM w5 _ aU aq;obtain⟨z0,mW⟩:=zB e2 1));go_roundg (A.ae.length-(k+1));exact⟨k+1,_,by omega,rfl,by go_num,by rw[zA HT];exact e1⟩;omega
  ·have lx:k=A.ae.length:=(by omega);have HK:=zC lx;clear lx;obtain⟨t0,PU⟩:=zB (zA HM).b2 0;obtain⟨t1,OW⟩:=zB (zA HM).b2 1;obtain⟨t2,tf2⟩:=zB (zA HM).b2 2;obtain⟨t3,tf3⟩:=zB (zA HM).b2 3;obtain⟨t4,tf4⟩:=zB (zA HM).b2 4;obtain⟨o0,KO⟩:=zB (zA HM).b3 0;obtain⟨o1,Jz⟩:=zB (zA HM).b3 1;obtain⟨o2,Rz⟩:=zB (zA HM).b3 2;obtain⟨o3,Rp⟩:=zB (zA HM).b3 3;obtain⟨o4,WI⟩:=zB (zA HM).b3 4;clear KO Jz Rz Rp WI;go_wp2_with fail;refine bodyPost_ret (v:=.agg #[.string A.pred,.slice a1 k c1,.bool false,.int .i64 0,.int .i64 0]) (by simp[results,Tryz.results192,go_sem,t0,t1,t2,t3,t4]) rfl ⟨_,rfl,?_,((zA HM).fin _ _ _ _ _).1⟩;have:=((zA HM).fin (.string A.pred) (.slice a1 k c1) (.bool false) (.int .i64 0) (.int .i64 0)).2;rw[zA HK,List.take_length] at this;rw[zA HK];exact this
end
section
open Go.RowKit
structure zP where
 aj:zL
 text:B8
 s:Nat
 h:Nat
 r:Nat
 fr:List Nat
structure FG where
 F:zP
 tv:Value
 fv:Value
def FG.cells (f:FG):V8:=[.string f.F.aj.pred,f.tv,.bool f.F.aj.no,.int .i64 f.F.aj.at_,.int .i64 f.F.aj.az,.string f.F.text,.int .i64 f.F.s,.int .i64 f.F.h,.int .i64 f.F.r,f.fv]
def zx6 (l:List Nat):V8:=l.map λ (x:Nat)=>.int .i64 x
structure qZ (w:W8)(base:Nat)(f:FG):Prop where
 t:w.ownsRow base 317 3 f.tv f.F.aj.ae.length (cellsOf f.F.aj.ae)
 i:w.ownsRow base 3 1 f.fv f.F.fr.length (zx6 f.F.fr)
structure xB (w:W8)(base:Nat)(v:Value)(fs:List FG):Prop where
 row:w.ownsRow base 262 10 v fs.length (fs.flatMap FG.cells)
 each:∀ f∈fs,qZ w base f
variable {f:FG} {base:Nat} {w w':W8}
theorem qZ.below (h:qZ w base f)(k:Below w.heap.size w w'):qZ w' base f:=⟨zJ h.t k (λ g e=>(h.t.lt g e).2),zJ h.i k (λ g e=>(h.i.lt g e).2)⟩
variable {fs:List FG} {v:Value}
theorem xB.below (h:xB w base v fs)(k:Below w.heap.size w w'):xB w' base v fs:=⟨zJ h.row k (λ g e=>(h.row.lt g e).2),λ f hf=>(h.each f hf).below k⟩
theorem qZ.low {base':Nat}(h:qZ w base f)(hb:base'<=base):qZ w base' f:=⟨zG h.t hb,zG h.i hb⟩
variable {k:Nat}
theorem zb0 (h:w.ownsRow base 262 10 v fs.length (fs.flatMap FG.cells))(hk:k<fs.length):∃ g cap,v=.slice (some ⟨g,0,none⟩) fs.length cap/\base<=g/\g<w.heap.size/\fs.length<=cap/\cap<=maxLen/\∀ j,j<10->w.cell? ⟨g,k*10+j,none⟩=(fs[k].cells)[j]?:=
 vU (f:=FG.cells) (λ _=>rfl) h k hk
def zaz (t:B8):List zP->Nat->Int
 | [],_=>-1
 | x::r,k=>if x.text.toList==t.toList then k else zaz t r (k+1)
def jE (l:List zP)(t:B8):Int:=zaz t l 0
theorem z5h {t:B8}{l:List zP}(h:k<l.length):zaz t (l.drop k) k=if l[k].text.toList==t.toList then (k:Int) else zaz t (l.drop (k+1)) (k+1):=by
 rw[List.drop_eq_getElem_cons h];rfl
theorem zkc (w:W8)(base:Nat)(a:O8)(c:Nat)(fs:List FG)(t:B8)(h:w.ownsRow base 262 10 (.slice a fs.length c) fs.length (fs.flatMap FG.cells)):
  Calls Tryz.prog 133 #[.slice a fs.length c,.string t] w λ e w'=>e=.returned (.int .i64 (jE (fs.map (·.F)) t))/\w'=w:=by
 have gL:=yU h;unfold maxLen at gL;have HH:=zC h;clear h;go_enter Tryz.func133,Tryz.ntmps133;go_wp2_with fail
 go_loop [5] (λ i=>∃ k:Nat,k<=fs.length/\i=.int .i64 k/\zaz t ((fs.map (·.F)).drop k) k=jE (fs.map (·.F)) t) (λ i=>fs.length-(intOf i).toNat)
 exact⟨0,Nat.zero_le _,rfl,rfl⟩
 case round=>
  obtain⟨k,hk,rfl,nj⟩:=hrel;have HX:=zC nj;clear nj
  by_cases aF:k<fs.length
  ·obtain⟨g,cap,hv,-,aZ,bO,bP,hc⟩:=zb0 (zA HH) aF;injection hv with h1 h2 h3
   subst h1 h3;have p5:=hc 5 (by decide);have HS:=zC (z5h (t:=t) (l:=fs.map (·.F)) (k:=k) (by simpa using aF));simp only[FG.cells,List.getElem?_cons_succ,List.getElem?_cons_zero] at p5;clear hc;rw[List.getElem_map] at HS
   cases hq:fs[k].F.text.toList==t.toList with
   | true=>
    go_wp2_with fail;go_ret;exact⟨by rw[<-zA HX,zA HS,if_pos hq];rfl,rfl⟩
   | false=>
    go_wp2_with fail
    go_round
    case rel=>exact⟨k+1,by omega,by go_num,by rw[<-zA HX,zA HS,if_neg (by rw[hq];decide)]⟩
    case measure=>simp[intOf];omega
  ·go_wp2_with fail;go_ret;exact⟨by rw[<-zA HX,List.drop_of_length_le (by simp;omega)];rfl,rfl⟩
def jD (a b:zP):Bool:=if a.s != b.s then decide (a.s<b.s) else if a.h != b.h then decide (a.h<b.h) else zag a.text b.text
theorem z5o (w:W8)(A B:zP)(a1 a2 b1 b2:O8)(n1 n2 m1 m2 c1 c2 d1 d2:Nat):
  Calls Tryz.prog 231 #[.agg #[.string A.aj.pred,.slice a1 n1 c1,.bool A.aj.no,.int .i64 A.aj.at_,.int .i64 A.aj.az,.string A.text,.int .i64 A.s,.int .i64 A.h,.int .i64 A.r,.slice a2 n2 c2],.agg #[.string B.aj.pred,.slice b1 m1 d1,.bool B.aj.no,.int .i64 B.aj.at_,.int .i64 B.aj.az,.string B.text,.int .i64 B.s,.int .i64 B.h,.int .i64 B.r,.slice b2 m2 d2]] w λ e w'=>e=.returned (.bool (jD A B))/\Below w.heap.size w w':=by
 have b0:=((Below.refl w.heap.size w).alloc L9 (.cells #[.string A.aj.pred,.slice a1 n1 c1,.bool A.aj.no,.int .i64 A.aj.at_,.int .i64 A.aj.az,.string A.text,.int .i64 A.s,.int .i64 A.h,.int .i64 A.r,.slice a2 n2 c2] 262)).alloc (by simp) (.cells #[.string B.aj.pred,.slice b1 m1 d1,.bool B.aj.no,.int .i64 B.aj.at_,.int .i64 B.aj.az,.string B.text,.int .i64 B.s,.int .i64 B.h,.int .i64 B.r,.slice b2 m2 d2] 262)
 cases h1:((A.s:Int) != (B.s:Int)) with
 | true=>
  have hs:(A.s != B.s)=true:=by simp at h1 ⊢;omega
  have HE:=zC (show jD A B=decide ((A.s:Int)<(B.s:Int)) by unfold jD;rw[if_pos hs];simp);clear hs;go_enter Tryz.func231,Tryz.ntmps231;go_wp2_with fail
  all_goals
   go_ret;exact⟨by rw[zA HE];first | rfl | simp[*],b0⟩
 | false=>
  have hs:(A.s != B.s)=false:=by simp at h1 ⊢;omega
  cases h2:((A.h:Int) != (B.h:Int)) with
  | true=>
   have hh:(A.h != B.h)=true:=(by simp at h2 ⊢;omega);have HE:=zC (show jD A B=decide ((A.h:Int)<(B.h:Int)) by unfold jD;rw[if_neg (by rw[hs];decide),if_pos hh];simp);clear hs hh;go_enter Tryz.func231,Tryz.ntmps231;go_wp2_with fail
   all_goals
    go_ret;exact⟨by rw[zA HE];first | rfl | simp[*],b0⟩
  | false=>
   have hh:(A.h != B.h)=false:=(by simp at h2 ⊢;omega);have HE:=zC (show jD A B=zag A.text B.text by unfold jD;rw[if_neg (by rw[hs];decide),if_neg (by rw[hh];decide)]);clear hs hh;go_enter Tryz.func231,Tryz.ntmps231;go_wp2_with fail
   all_goals
    go_ret;exact⟨by rw[zA HE];rfl,b0⟩
end
section
open Go.RowKit
abbrev Way:=Env × List Nat
def zht (a:zL)(x:Way):List zP->Nat->List Way
 | [],_=>[]
 | f::r,i=>(match qA x.1 a f.aj with | some e=>[(e,x.2++[i])] | none=>[])++zht a x r (i+1)
def zgk (a:zL)(l:List zP)(now:List Way):List Way:=now.flatMap λ x=>zht a x l 0
def zip (l:List zP):List zL->List Way->List Way
 | [],now=>now
 | a::r,now=>zip l r (if a.no then now else zgk a l now)
def xP (A:zL):B8:=⟨(jG A).toArray⟩
def ztj (l:List zP)(e:Env)(a:zL):Bool:=!a.no||decide (jE l (xP (eN e a))<0)
def ze3 (R:zS)(l:List zP):List Way:=(zip l R.body [([],[])]).filter λ x=>R.body.all (ztj l x.1)
variable {k:Nat} {l:List zP} {a:zL}
theorem z0n {x:Way}(h:k<l.length):zht a x (l.drop k) k=(match qA x.1 a l[k].aj with | some e=>[(e,x.2++[k])] | none=>[])++zht a x (l.drop (k+1)) (k+1):=by
 rw[List.drop_eq_getElem_cons h];rfl
variable {now:List Way}
theorem z4g {b:List zL}(h:k<b.length):zip l (b.drop k) now=zip l (b.drop (k+1)) (if b[k].no then now else zgk b[k] l now):=by
 rw[List.drop_eq_getElem_cons h];rfl
theorem z20 {i:Nat}(h:i<now.length):zgk a l (now.drop i)=zht a now[i] l 0++zgk a l (now.drop (i+1)):=by
 unfold zgk;rw[List.drop_eq_getElem_cons h,List.flatMap_cons]
theorem zxk (a:zL)(x:Way):∀ (l:List zP) (i:Nat),(zht a x l i).length<=l.length
 | [],_=>Nat.le_refl _
 | f::r,i=>by
  rw[zht,List.length_append,List.length_cons];have:=zxk a x r (i+1)
  split <;> simp <;> omega
theorem zwo (a:zL)(l:List zP):∀ now:List Way,(zgk a l now).length<=now.length*l.length
 | []=>by simp[zgk]
 | x::r=>by
  have h1:=zxk a x l 0;have h2:=zwo a l r;have e:zgk a l (x::r)=zht a x l 0++zgk a l r:=by simp[zgk]
  rw[e,List.length_append,List.length_cons,Nat.succ_mul];omega
theorem zhf:∀ (ts us:List xE) (e e':Env),jB e ts us=some e'->e'.length<=e.length+ts.length
 | [],us,e,e',h=>by cases us <;> (rw[jB] at h <;> first | (cases h;simp) | simp_all)
 | t::ts,[],e,e',h=>by rw[jB] at h <;> first | (cases h;simp) | simp_all
 | t::ts,u::us,e,e',h=>by
  rw[jB] at h
  split at h
  ·have:=zhf ts us _ _ h;simp at this ⊢;omega
  ·split at h
   ·have:=zhf ts us _ _ h;simp;omega
   ·cases h
theorem zn2 {e e':Env}{t:zL}(h:qA e a t=some e'):e'.length<=e.length+a.ae.length:=by
 unfold qA at h
 split at h
 ·exact zhf _ _ _ _ h
 ·cases h
structure WG where
 e:Env
 fr:List Nat
 nv:Value
 tv:Value
 fv:Value
def WG.W (x:WG):Way:=(x.e,x.fr)
def WG.cells (x:WG):V8:=[x.nv,x.tv,x.fv]
structure vk (w:W8)(base:Nat)(x:WG):Prop where
 env:nR w base x.e x.nv x.tv
 fr:w.ownsRow base 3 1 x.fv x.fr.length (zx6 x.fr)
 nil:x.fr=[]->x.fv=.slice none 0 0
structure rm (w:W8)(base:Nat)(v:Value)(ws:List WG):Prop where
 row:w.ownsRow base 325 3 v ws.length (ws.flatMap WG.cells)
 each:∀ x∈ws,vk w base x
variable {x:WG} {base:Nat} {w w':W8}
theorem vk.below (h:vk w base x)(k:Below w.heap.size w w'):vk w' base x:=⟨h.env.below k,zJ h.fr k (λ g e=>(h.fr.lt g e).2),h.nil⟩
variable {ws:List WG} {v:Value}
theorem rm.below (h:rm w base v ws)(k:Below w.heap.size w w'):rm w' base v ws:=⟨zJ h.row k (λ g e=>(h.row.lt g e).2),λ x hx=>(h.each x hx).below k⟩
theorem vk.low {base':Nat}(h:vk w base x)(hb:base'<=base):vk w base' x:=⟨⟨zG h.env.ns hb,zG h.env.ts hb,h.env.nil⟩,zG h.fr hb,h.nil⟩
theorem vk.bu {B:List Nat}(h:vk w base x)(k:zK B w w')(h1:∀ b∈B,dW w 9 b)(h2:∀ b∈B,dW w 3 b):vk w' base x:=
 ⟨⟨xD h.env.ns k (λ b hb=>.inr (h1 b hb)),xD h.env.ts k (λ b hb=>.inr (h1 b hb)),h.env.nil⟩,xD h.fr k (λ b hb=>.inr (h2 b hb)),h.nil⟩
variable {wX W w5:W8}
theorem rm.add {v':Value}(h:rm wX base v ws)(hx:vk wX base x)(hW:zK [] wX W)(hg:W.grownBy w5 v.ownBlock)(ay:w5.ownsRow base 325 3 v' (ws.length+1) (ws.flatMap WG.cells++x.cells)):rm w5 base v' (ws++[x]):=by
 have k5:zK v.ownBlock.toList wX w5:=(hW.mono (by simp)).trans (zK.aR hg);have n1:∀ b∈v.ownBlock.toList,dW wX 9 b:=yH h.row (by decide);have n2:∀ b∈v.ownBlock.toList,dW wX 3 b:=yH h.row (by decide);refine⟨?_,λ y hy=>?_⟩
 ·rw[List.length_append,List.flatMap_append];simpa using ay
 ·rcases List.mem_append.1 hy with hy | hy
  ·exact (h.each y hy).bu k5 n1 n2
  ·rw[List.mem_singleton.1 hy];exact hx.bu k5 n1 n2
theorem rm.other {u:Value}{us:List WG}(h:rm wX base v ws)(hu:rm wX base u us)(bF:∀ g,v.ownBlock=some g->u.ownBlock≠some g)(hW:zK [] wX W)(hg:W.grownBy w5 v.ownBlock):rm w5 base u us:=by
 have k5:zK v.ownBlock.toList wX w5:=(hW.mono (by simp)).trans (zK.aR hg);have n1:∀ b∈v.ownBlock.toList,dW wX 9 b:=yH h.row (by decide);have n2:∀ b∈v.ownBlock.toList,dW wX 3 b:=yH h.row (by decide);exact⟨zZ hu.row (λ g e=>k5.block g (hu.row.lt g e).2 (λ hm=>bF g (by simpa using hm) e)),λ y hy=>(hu.each y hy).bu k5 n1 n2⟩
theorem zvs (h:w.ownsRow base 325 3 v ws.length (ws.flatMap WG.cells))(hk:k<ws.length):∃ g cap,v=.slice (some ⟨g,0,none⟩) ws.length cap/\base<=g/\g<w.heap.size/\ws.length<=cap/\cap<=maxLen/\w.cell? ⟨g,k*3,none⟩=some ws[k].nv/\w.cell? ⟨g,k*3+1,none⟩=some ws[k].tv/\w.cell? ⟨g,k*3+2,none⟩=some ws[k].fv:=by
 obtain⟨g,cap,hv,hb,aZ,bO,bP,hc⟩:=vU (f:=WG.cells) (λ _=>rfl) h k hk;exact⟨g,cap,hv,hb,aZ,bO,bP,hc 0 (by decide),hc 1 (by decide),hc 2 (by decide)⟩
theorem z18:(Tryz.prog.info? 325).map (λ i=>(i.zero,i.size,i.bytes))=some (some (.agg #[.slice none 0 0,.slice none 0 0,.slice none 0 0]),3,72):=by kernel_rfl
theorem zpi:(Tryz.prog.info? 262).map (λ i=>(i.zero,i.size,i.bytes))=some (some (.agg #[.string { data:=#[] },.slice none 0 0,.bool false,.int .i64 0,.int .i64 0,.string { data:=#[] },.int .i64 0,.int .i64 0,.int .i64 0,.slice none 0 0]),10,128):=by kernel_rfl
theorem z87 {l:List Nat}:∀ u∈zx6 l,u.oneCell'=true:=by
 intro u hu;obtain⟨x,_,rfl⟩:=List.mem_map.1 hu;rfl
theorem Xc (a b:List Nat):zx6 (a++b)=zx6 a++zx6 b:=List.map_append
end
end Go.Proofs.YtldkpahaocjdpaaGreat
