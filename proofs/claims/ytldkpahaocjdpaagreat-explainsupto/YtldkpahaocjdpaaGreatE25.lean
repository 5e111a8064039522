/-
  The reference's match: an atom with a thing.
-/
import Derived.Test.YtldkpahaocjdpaaGreatE24
import Derived.Deep.RegionHeld3
set_option maxHeartbeats 16000000
set_option maxRecDepth 1000000
namespace Go.Proofs.YtldkpahaocjdpaaGreat
section
open Go.RowKit
def zkr (w:W8)(nv tv:Value)(r:Option Env):Ending->W8->Prop:=λ e w'=>Below w.heap.size w w'/\(r=none->e=.returned (.tuple #[.agg #[nv,tv],.bool false]))/\(∀ E',r=some E'->∃ dv bY,e=.returned (.tuple #[.agg #[dv,bY],.bool true])/\om w' w.heap.size E' dv bY)
variable {wr w:W8} {E:Env} {nv tv av bv dv bY:Value} {A T:zL}
theorem iv.env (h:iv w A T nv tv av bv (E.map (·.1)) (E.map (·.2)) dv bY wr):om wr (w.heap.size+5) E dv bY:=by
 have h1:=h.rn;have h2:=h.rt;simp only[List.length_map,zj9,List.map_map] at h1 h2;exact⟨h1,h2,λ e=>⟨h.nn (by simp[e]),h.tn (by simp[e])⟩⟩
theorem z7h (w:W8)(A T:zL)(an fy aa ba:O8)(n cn ct ca cb:Nat)(bF:(A.pred.toList==T.pred.toList&&A.ae.length==T.ae.length)=false):
  Calls Tryz.prog 139 #[.agg #[.slice an n cn,.slice fy n ct],.agg #[.string A.pred,.slice aa A.ae.length ca,.bool A.no,.int .i64 A.at_,.int .i64 A.az],.agg #[.string T.pred,.slice ba T.ae.length cb,.bool T.no,.int .i64 T.at_,.int .i64 T.az]] w (λ e w'=>Below w.heap.size w w'/\e=.returned (.tuple #[.agg #[.slice an n cn,.slice fy n ct],.bool false])):=by
 cases hp:A.pred.toList==T.pred.toList with
 | false=>
  clear bF;go_enter Tryz.func139,Tryz.ntmps139;go_wp2_with fail;refine bodyPost_ret (v:=.tuple #[.agg #[.slice an n cn,.slice fy n ct],.bool false]) (by simp[results,Tryz.results139,go_sem]) rfl ⟨?_,rfl⟩;exact ((((Below.refl _ w).alloc L9 _).alloc (by simp) _).alloc (by simp;omega) _).alloc (by simp;omega) _
 | true=>
  have hl:((A.ae.length:Int)==(T.ae.length:Int))=false:=by
   rw[hp] at bF;simp at bF ⊢;omega
  clear bF;go_enter Tryz.func139,Tryz.ntmps139;go_wp2_with fail;refine bodyPost_ret (v:=.tuple #[.agg #[.slice an n cn,.slice fy n ct],.bool false]) (by simp[results,Tryz.results139,go_sem]) rfl ⟨?_,rfl⟩;exact ((((Below.refl _ w).alloc L9 _).alloc (by simp) _).alloc (by simp;omega) _).alloc (by simp;omega) _
theorem yc8 {a b:B8}:(E++[(a,b)]).map (·.1)=E.map (·.1)++[a]/\(E++[(a,b)]).map (·.2)=E.map (·.2)++[b]:=by simp
theorem iv.ret (h:iv w A T nv tv av bv (E.map (·.1)) (E.map (·.2)) dv bY wr)(u v:Value):om ((wr.setCell ⟨w.heap.size+1+1+1,0,none⟩ u).setCell ⟨w.heap.size+1+1+1,1,none⟩ v) w.heap.size E dv bY:=by
 obtain⟨_,h1,h2⟩:=h.fin u v;simp only[List.length_map,zj9,List.map_map] at h1 h2;exact⟨h1,h2,λ e=>⟨h.nn (by simp[e]),h.tn (by simp[e])⟩⟩
theorem z3k (w:W8)(base:Nat)(E:Env)(A T:zL)(an fy aa ba:O8)(cn ct ca cb:Nat)(he:om w base E (.slice an E.length cn) (.slice fy E.length ct))(hA:w.ownsRow base 317 3 (.slice aa A.ae.length ca) A.ae.length (cellsOf A.ae))(hT:w.ownsRow base 317 3 (.slice ba T.ae.length cb) T.ae.length (cellsOf T.ae))(qo:E.length+A.ae.length<=1000)(hp:(A.pred.toList==T.pred.toList)=true)(hl:A.ae.length=T.ae.length):
  Calls Tryz.prog 139 #[.agg #[.slice an E.length cn,.slice fy E.length ct],.agg #[.string A.pred,.slice aa A.ae.length ca,.bool A.no,.int .i64 A.at_,.int .i64 A.az],.agg #[.string T.pred,.slice ba T.ae.length cb,.bool T.no,.int .i64 T.at_,.int .i64 T.az]] w (zkr w (.slice an E.length cn) (.slice fy E.length ct) (jB E A.ae T.ae)):=by
 obtain⟨i0,hi,bL,aY,bg⟩:=info_parts zf9;have oG:((A.ae.length:Int)==(T.ae.length:Int))=true:=by simp;omega
 have h0:=iv.start w A T (.slice an E.length cn) (.slice fy E.length ct) (.slice aa A.ae.length ca) (.slice ba T.ae.length cb);have H0:=zC h0;have HE:=zC he;have HA:=zC hA;have HT:=zC hT;have HL:=zC hl;clear h0 he hA hT hl;go_enter Tryz.func139,Tryz.ntmps139;go_upto_region 3 with fail
 go_cut [8] (λ p wc=>p=.pointer (some ⟨w.heap.size+1+1+1+1,0,none⟩)/\iv w A T (.slice an E.length cn) (.slice fy E.length ct) (.slice aa A.ae.length ca) (.slice ba T.ae.length cb) [] [] (.slice none 0 0) (.slice none 0 0) wc)
 case first=>
  go_wp2_with fail;go_meet
  case rel=>exact⟨rfl,zA H0⟩
 case rest=>
 clear H0;obtain⟨rfl,Cd⟩:=hcut;obtain⟨p0,Cj⟩:=zB Cd.b0 0;obtain⟨q0,Bb⟩:=zB Cd.b4 0;have MC:=zC Cd;have vk:=Cd.lt;clear Cd Cj;go_upto_region 4 with fail
 go_cut [] (λ wc=>∃ dv,iv w A T (.slice an E.length cn) (.slice fy E.length ct) (.slice aa A.ae.length ca) (.slice ba T.ae.length cb) (E.map (·.1)) [] dv (.slice none 0 0) wc)
 case first=>
  by_cases hE:E=[]
  ·subst hE;obtain⟨e1,e2⟩:=(zA HE).nil rfl;injection e1 with e1 _ e3
   injection e2 with e2 _ e4
   subst e1 e2 e3 e4;go_wp2_with fail;go_meet
   case rel=>exact⟨_,(zA MC).same rfl⟩
  ·have aJ:0<E.length:=by
    cases E with
    | nil=>exact absurd rfl hE
    | cons _ _=>simp
   obtain⟨g1,c1,im,-,-,-,-⟩:=zce (zA HE).ns aJ;injection im with i1 i2 i3
   subst i1 i3;have dt:=zC (zp2 (zJ (zA HE).ns (zA MC).below (λ g e=>((zA HE).ns.lt g e).2)));have dO:=zC (λ (w5:W8) (g cap:Nat) hg ay du=>iv.JJ (w5:=w5) (g:=g) (cap:=cap) (m:=E.length) (news:=E.map (·.1)) (zA MC) (zK.refl [] _) hg (by simp) aJ ay du);go_wp2_with (at_builtin;go_must (refine wpList_append_lies _ rfl _ _ _ rfl (w.heap.size+5) 9 i0 (.string { data:=#[] }) 1 16 Tryz.underlying33 hi bL aY bg rfl (by decide) (.slice none 0 0) 0 [] rfl (World.ownsRow_nil _ _ _ _) ⟨g1,0,none⟩ E.length cn (zj9 (E.map (·.1))) rfl (by simp[zj9]) (by simpa[zj9,List.map_map] using zA dt) zw8 aJ (by unfold maxLen;omega) (by omega) vk _ rfl ?_;intro g cap w5 aq aU bW hlt5;obtain⟨e1,e2⟩:=zA dO w5 g cap aU aq bW;obtain⟨z0,na⟩:=zB e2 0));go_meet
   case rel=>exact⟨_,by simpa using e1⟩
 case rest=>
 clear MC p0 q0 Bb vk;obtain⟨nv1,dH⟩:=hcut;obtain⟨a1,c1,rfl⟩:=zD dH.rn;obtain⟨p1,xx⟩:=zB dH.b0 1;obtain⟨q1,Bc⟩:=zB dH.b4 1;have iu:=zC dH;have sR:=dH.lt;clear dH xx;go_upto_region 5 with fail
 go_cut [] (λ wc=>∃ dv bY,iv w A T (.slice an E.length cn) (.slice fy E.length ct) (.slice aa A.ae.length ca) (.slice ba T.ae.length cb) (E.map (·.1)) (E.map (·.2)) dv bY wc)
 case first=>
  by_cases hE:E=[]
  ·subst hE;obtain⟨e1,e2⟩:=(zA HE).nil rfl;injection e1 with e1 _ e3
   injection e2 with e2 _ e4
   subst e1 e2 e3 e4;go_wp2_with fail;go_meet
   case rel=>exact⟨_,_,(zA iu).same rfl⟩
  ·have aJ:0<E.length:=by
    cases E with
    | nil=>exact absurd rfl hE
    | cons _ _=>simp
   obtain⟨g1,MQ,im,-,-,-,-⟩:=zce (zA HE).ts aJ;injection im with i1 i2 i3
   subst i1 i3;have dt:=zC (zp2 (zJ (zA HE).ts (zA iu).below (λ g e=>((zA HE).ts.lt g e).2)));have dO:=zC (λ (w5:W8) (g cap:Nat) hg ay du=>iv.JK (w5:=w5) (g:=g) (cap:=cap) (m:=E.length) (news:=E.map (·.2)) (zA iu) (zK.refl [] _) hg (by simp) aJ ay du);go_wp2_with (at_builtin;go_must (refine wpList_append_lies _ rfl _ _ _ rfl (w.heap.size+5) 9 i0 (.string { data:=#[] }) 1 16 Tryz.underlying33 hi bL aY bg rfl (by decide) (.slice none 0 0) 0 [] rfl (World.ownsRow_nil _ _ _ _) ⟨g1,0,none⟩ E.length ct (zj9 (E.map (·.2))) rfl (by simp[zj9]) (by simpa[zj9,List.map_map] using zA dt) zw8 aJ (by unfold maxLen;omega) (by omega) sR _ rfl ?_;intro g cap w5 aq aU bW hlt5;obtain⟨e1,e2⟩:=zA dO w5 g cap aU aq bW;obtain⟨z0,na⟩:=zB e2 1));go_meet
   case rel=>exact⟨_,_,by simpa using e1⟩
 case rest=>
 clear iu p1 q1 Bc sR;obtain⟨Zf,IC,dD⟩:=hcut;have wU:=zC dD;clear dD;go_wp2_with fail
 go_loopg [9] A.ae.length (λ gg i wr=>∃ (k:Nat) (E':Env) (dv bY:Value),k<=A.ae.length/\gg=A.ae.length-k/\i=.int .i64 k/\E'.length<=E.length+k/\jB E' (A.ae.drop k) (T.ae.drop k)=jB E A.ae T.ae/\iv w A T (.slice an E.length cn) (.slice fy E.length ct) (.slice aa A.ae.length ca) (.slice ba T.ae.length cb) (E'.map (·.1)) (E'.map (·.2)) dv bY wr)
 exact⟨0,E,Zf,IC,Nat.zero_le _,rfl,rfl,by omega,rfl,zA wU⟩
 case round=>
  clear wU;obtain⟨k,E',dv,bY,hk,eD,rfl,hE',aE,hm⟩:=hrel;obtain⟨D4,D6,rfl⟩:=zD hm.rn;obtain⟨uP,JU,rfl⟩:=zD hm.rt;simp only[List.length_map] at hm;have aH:=hm.lt;obtain⟨p1,xx⟩:=zB hm.b1 1;obtain⟨r1,GM⟩:=zB hm.b2 1;obtain⟨o0,L4⟩:=zB hm.b0 0;obtain⟨o1,L5⟩:=zB hm.b0 1;obtain⟨q0,Bb⟩:=zB hm.b4 0;obtain⟨q1,Bc⟩:=zB hm.b4 1;obtain⟨t0,Rw⟩:=zB hm.b3 0;obtain⟨t1,Rx⟩:=zB hm.b3 1;have HM:=zC hm;have HF:=zC aE;clear hm aE xx GM L4 L5
  by_cases aF:k<A.ae.length
  ·have Qf:k<T.ae.length:=(by rw[<-zA HL];exact aF);have dB:=zC ((zA HF).symm.trans (zrz aF Qf));have nu:(k:Int)<A.ae.length:=(by omega);have hkT:(k:Int)<T.ae.length:=(by omega);clear HF;go_wp2_with fail;refine zc0 6 z3q (by kernel_rfl) λ W hW=>?_
   simp only[List.take_succ_cons,List.take_zero,List.drop_succ_cons,List.drop_zero];have lf:Hid (iv w A T (.slice an E.length cn) (.slice fy E.length ct) (.slice aa A.ae.length ca) (.slice ba T.ae.length cb) (E'.map (·.1)) (E'.map (·.2)) (.slice D4 E'.length D6) (.slice uP E'.length JU) W):=(by rw[hW];exact (zA HM).dQ B9.drew);clear hW HM p1 r1 o0 o1 q0 q1 Bb Bc t0 Rw t1 Rx aH;obtain⟨p1,xx⟩:=zB (zA lf).b1 1;obtain⟨q0,Bb⟩:=zB (zA lf).b4 0;obtain⟨q1,Bc⟩:=zB (zA lf).b4 1;obtain⟨ga,MQ,im,-,-,bO,bQ,d0,d1,d2⟩:=zat (zJ (zA HA) (zA lf).below (λ g e=>((zA HA).lt g e).2)) k aF;injection im with i1 i2 i3
   subst i1 i3;clear xx Bb Bc
   repeat still_step
   refine wpStill_nil ?_;clear p1 q0 q1;go_wp2_with fail;refine (zom W (w.heap.size+5) E' D4 uP D6 JU (zA lf).env A.ae[k].text A.ae[k].isVar A.ae[k].at_).mono ?_;rintro e w1 ⟨rfl,aL⟩;have iu:=zC ((zA lf).dQ aL);clear lf aL d0 d1 d2;obtain⟨r1,GM⟩:=zB (zA iu).b2 1;obtain⟨gb,c2',Dr,-,-,K7,Kw,f0,f1,f2⟩:=zat (zJ (zA HT) (zA iu).below (λ g e=>((zA HT).lt g e).2)) k Qf;injection Dr with i1 i2 i3
   subst i1 i3;clear GM f1 f2;have Cb:oh E' ⟨A.ae[k].text,A.ae[k].isVar,A.ae[k].at_⟩=oh E' A.ae[k]:=rfl;rw[Cb];clear Cb;generalize oh E' A.ae[k]=x at *
   cases hx:x.toList==[] with
   | true=>
    have Pq:=(zA dB).trans (by rw[if_pos hx]);obtain⟨ta,Gz⟩:∃ ta,A.ae[k].text=ta:=⟨_,rfl⟩;obtain⟨tt,Q4⟩:∃ tt,T.ae[k].text=tt:=⟨_,rfl⟩;rw[Gz,Q4] at Pq;rw[Q4] at f0;have aC:=zC Pq;have WJ:=zC Gz;clear Pq Gz Q4;clear dB;go_upto_region 12 with fail
    go_cut [] (λ wc=>∃ UZ,iv w A T (.slice an E.length cn) (.slice fy E.length ct) (.slice (some ⟨ga,0,none⟩) A.ae.length ca) (.slice (some ⟨gb,0,none⟩) T.ae.length cb) (E'.map (·.1)++[ta]) (E'.map (·.2)) UZ (.slice uP E'.length JU) wc)
    case first=>
     clear r1 f0;obtain⟨p1,xx⟩:=zB (zA iu).b1 1;obtain⟨q0,Bb⟩:=zB (zA iu).b4 0;obtain⟨ga',MQ,im,-,aZ,vm,zv,d0,d1,d2⟩:=zat (zJ (zA HA) (zA iu).below (λ g e=>((zA HA).lt g e).2)) k aF;injection im with i1 i2 i3
     injection i1 with i1
     injection i1 with i1
     subst i1 i3;rw[zA WJ] at d0;have Qn:=(zA iu).lt;have vc:ga<w.heap.size:=((zA HA).lt ga rfl).2;have l4:w.heap.size+1+1+1+1<w1.heap.size:=(by omega);have l1:w.heap.size+1<w1.heap.size:=(by omega);have aB:=(zA iu).rn;simp only[List.length_map] at aB;have dO:=zC (λ (w5:W8) (g cap:Nat) hg ay du=>iv.JJ (w5:=w5) (W:=(w1.alloc (.cells #[.string ta] 9)).drew) (g:=g) (cap:=cap) (m:=1) (news:=[ta]) (zA iu) (((zK.refl [] _).alloc _).drew) hg rfl (by decide) ay du);have bX:=zC (zie ((w1.alloc (.cells #[.string ta] 9)).drew) w1.heap.size (.string ta) 9 (heap_alloc_new w1 _));have s1:Hid (((w1.alloc (.cells #[.string ta] 9)).drew).ownsRow (w.heap.size+5) 9 1 (.slice D4 E'.length D6) E'.length (zj9 (E'.map (·.1)))):=zC (aB.alloc _);have s4:Hid (E'.length+1<=maxLen):=(by show _<=_;unfold maxLen;omega);have s5:Hid ((E'.length+1)*16<=140737488355328):=(by show _<=_;omega);have s6:Hid (w.heap.size+5<=((w1.alloc (.cells #[.string ta] 9)).drew).heap.size):=(by show _<=_;simp;omega);have s3:Hid (∀ u∈([.string ta]:V8),u.oneCell'=true):=by show ∀ u∈_,_;intro u hu;simp at hu;subst hu;rfl
     have lz:Hid (∀ w5:W8,((w1.alloc (.cells #[.string ta] 9)).drew).grownBy w5 (Value.slice D4 E'.length D6).ownBlock->w5.cell? ⟨w.heap.size+1,1,none⟩=some (.slice (some ⟨ga,0,none⟩) A.ae.length ca)/\w5.cell? ⟨ga,k*3,none⟩=some (.string ta)):=zC (λ w5 hg=>by
      have kk:=(((zK.refl _ w1).alloc _).drew).grown hg (λ k e=>.inr (show k∈(Value.slice D4 E'.length D6).ownBlock.toList by simp[e]));have eI:∀ b,b<w.heap.size+5->b∉(Value.slice D4 E'.length D6).ownBlock.toList:=λ b hb hm=>by have:=(aB.lt b (by simpa using hm)).1;omega
      exact⟨(kk.cell (p:=⟨w.heap.size+1,1,none⟩) (by simp;omega) (eI (w.heap.size+1) (by omega))).trans p1,(kk.cell (p:=⟨ga,k*3,none⟩) (by simp;omega) (eI ga (by omega))).trans d0⟩)
     clear d1 d2 aB;simp only[List.length_map] at dO;simp only[List.getElem?_toArray,List.getElem?_cons_zero,List.getElem?_cons_succ] at p1 q0
     go_region_law (refine step_append_lies _ rfl (.tmp 62) (.tmp 69) 33 rfl (w.heap.size+5) 9 i0 (.string { data:=#[] }) 1 16 Tryz.underlying33 hi bL aY bg rfl (by decide) (.slice D4 E'.length D6) E'.length (zj9 (E'.map (·.1))) (by simp[Act.eval]) (zA s1) ⟨w1.heap.size,0,none⟩ 1 1 [.string ta] (by simp[Act.eval]) rfl (zA bX) (zA s3) (by decide) (zA s4) (zA s5) (zA s6) _ rfl ?_;intro g cap w5 aq aU bW hlt5;obtain⟨e1,e2⟩:=zA dO w5 g cap aU aq bW;obtain⟨y1,y2⟩:=zA lz w5 aU;obtain⟨z0,na⟩:=zB e2 0)
     all_goals
      go_wp2_with fail;go_meet
      case rel=>exact⟨_,e1⟩
    case rest=>
     clear iu r1 f0;obtain⟨UZ,fq⟩:=hcut;obtain⟨a3,c3,rfl⟩:=zD fq.rn;obtain⟨q1,Bc⟩:=zB fq.b4 1;have aB:=fq.rt;simp only[List.length_map] at aB;have Qn:=fq.lt;have dO:=zC (λ (w5:W8) (g cap:Nat) hg ay du=>iv.JK (w5:=w5) (W:=wc.alloc (.cells #[.string tt] 9)) (g:=g) (cap:=cap) (m:=1) (news:=[tt]) fq ((zK.refl [] _).alloc _) hg rfl (by decide) ay du);simp only[List.length_map] at dO;have bX:=zC (zie (wc.alloc (.cells #[.string tt] 9)) wc.heap.size (.string tt) 9 (heap_alloc_new wc _));have HR:=zC aB;clear aB fq;go_wp2_with (at_builtin;go_must (refine wpList_append_lies _ rfl _ _ _ rfl (w.heap.size+5) 9 i0 (.string { data:=#[] }) 1 16 Tryz.underlying33 hi bL aY bg rfl (by decide) (.slice uP E'.length JU) E'.length (zj9 (E'.map (·.2))) rfl ((zA HR).alloc _) ⟨wc.heap.size,0,none⟩ 1 1 [.string tt] rfl rfl (zA bX) (by simp[Value.oneCell']) (by decide) (by unfold maxLen;omega) (by omega) (by simp;omega) _ rfl ?_;intro g cap w5 aq aU bW hlt5;obtain⟨e1,e2⟩:=zA dO w5 g cap aU aq bW;obtain⟨z0,na⟩:=zB e2 1));go_roundg (A.ae.length-(k+1));exact⟨k+1,E'++[(ta,tt)],_,_,by omega,rfl,by go_num,by simp;omega,(zA aC).symm,by rw[yc8.1,yc8.2];exact e1⟩;omega
   | false=>
    cases hy:x.toList==T.ae[k].text.toList with
    | true=>
     have aC:=zC ((zA dB).trans (by rw[if_neg (by rw[hx];decide),if_pos hy]));clear dB;go_wp2_with fail;go_roundg (A.ae.length-(k+1));exact⟨k+1,E',_,_,by omega,rfl,by go_num,by omega,(zA aC).symm,zA iu⟩;omega
    | false=>
     have aC:=zC ((zA dB).trans (by rw[if_neg (by rw[hx];decide),if_neg (by rw[hy];decide)]));obtain⟨o0,L4⟩:=zB (zA iu).b0 0;obtain⟨o1,L5⟩:=zB (zA iu).b0 1;obtain⟨t0,Rw⟩:=zB (zA iu).b3 0;obtain⟨t1,Rx⟩:=zB (zA iu).b3 1;clear dB L4 L5;go_wp2_with fail;refine bodyPost_ret (v:=.tuple #[.agg #[.slice an E.length cn,.slice fy E.length ct],.bool false]) (by simp[results,Tryz.results139,go_sem,t0,t1]) rfl ⟨((zA iu).fin _ _).1,λ _=>rfl,λ E2 h2=>?_⟩;rw[zA aC] at h2
     cases h2
  ·have aC:=zC (show jB E A.ae T.ae=some E' by rw[<-zA HF,List.drop_of_length_le (by omega)];rfl);clear HF r1 o0 o1 Bb Bc;go_wp2_with fail;refine bodyPost_ret (v:=.tuple #[.agg #[.slice D4 E'.length D6,.slice uP E'.length JU],.bool true]) (by simp[results,Tryz.results139,go_sem,t0,t1]) rfl ⟨((zA HM).fin _ _).1,λ h2=>?_,λ E2 h2=>⟨_,_,rfl,?_⟩⟩
   ·rw[zA aC] at h2;cases h2
   ·rw[zA aC] at h2
    cases h2
    exact (zA HM).ret _ _
end
section
open Go.RowKit
theorem zze (w:W8)(base:Nat)(E:Env)(A T:zL)(an fy aa ba:O8)(cn ct ca cb:Nat)(he:om w base E (.slice an E.length cn) (.slice fy E.length ct))(hA:w.ownsRow base 317 3 (.slice aa A.ae.length ca) A.ae.length (cellsOf A.ae))(hT:w.ownsRow base 317 3 (.slice ba T.ae.length cb) T.ae.length (cellsOf T.ae))(qo:E.length+A.ae.length<=1000):
  Calls Tryz.prog 139 #[.agg #[.slice an E.length cn,.slice fy E.length ct],.agg #[.string A.pred,.slice aa A.ae.length ca,.bool A.no,.int .i64 A.at_,.int .i64 A.az],.agg #[.string T.pred,.slice ba T.ae.length cb,.bool T.no,.int .i64 T.at_,.int .i64 T.az]] w (zkr w (.slice an E.length cn) (.slice fy E.length ct) (qA E A T)):=by
 cases h:A.pred.toList==T.pred.toList&&A.ae.length==T.ae.length with
 | false=>
  have e:qA E A T=none:=by unfold qA;rw[h];rfl
  rw[e];refine (z7h w A T an fy aa ba E.length cn ct ca cb h).mono ?_;rintro e w' ⟨hb,rfl⟩;exact⟨hb,λ _=>rfl,λ _ h=>by cases h⟩
 | true=>
  have e:qA E A T=jB E A.ae T.ae:=by unfold qA;rw[h];rfl
  rw[e];simp only[Bool.and_eq_true,beq_iff_eq] at h;exact z3k w base E A T an fy aa ba cn ct ca cb he hA hT qo (beq_iff_eq.2 h.1) h.2
structure rU (w:W8)(A:zL)(nv tv av:Value)(l:List xD)(v:Value)(wr:W8):Prop where
 below:Below w.heap.size w wr
 b0:wr.heap[w.heap.size]?=some (.cells #[nv,tv] 258 (0,0))
 b1:wr.heap[w.heap.size+1]?=some (.cells #[.string A.pred,av,.bool A.no,.int .i64 A.at_,.int .i64 A.az] 243 (0,0))
 b2:wr.heap[w.heap.size+1+1]?=some (.cells #[.string { data:=#[] },.slice none 0 0,.bool false,.int .i64 0,.int .i64 0] 243 (0,0))
 b3:wr.heap[w.heap.size+1+1+1]?=some (.cells #[.string A.pred,v,.bool false,.int .i64 0,.int .i64 0] 243 (0,0))
 row:wr.ownsRow (w.heap.size+4) 317 3 v l.length (cellsOf l)
variable {wr w:W8} {v nv tv av:Value} {l:List xD} {A:zL}
theorem rU.lt (h:rU w A nv tv av l v wr):w.heap.size+4<=wr.heap.size:=(Array.getElem?_eq_some_iff.1 h.b3).1
theorem rU.dQ {w':W8}(h:rU w A nv tv av l v wr)(k:Below wr.heap.size wr w'):rU w A nv tv av l v w':=by
 have hl:=h.lt;exact⟨h.below.trans (k.mono (by omega)),(k.block _ (by omega)).trans h.b0,(k.block _ (by omega)).trans h.b1,(k.block _ (by omega)).trans h.b2,(k.block _ (by omega)).trans h.b3,zJ h.row k (λ g e=>(h.row.lt g e).2)⟩
theorem rU.start (w:W8)(A:zL)(nv tv av:Value):rU w A nv tv av [] (.slice none 0 0)
  ((((w.alloc (.cells #[nv,tv] 258)).alloc (.cells #[.string A.pred,av,.bool A.no,.int .i64 A.at_,.int .i64 A.az] 243)).alloc (.cells #[.string { data:=#[] },.slice none 0 0,.bool false,.int .i64 0,.int .i64 0] 243)).alloc (.cells #[.string A.pred,.slice none 0 0,.bool false,.int .i64 0,.int .i64 0] 243)):=by
 refine⟨(((((Below.refl _ w).alloc L9 _).alloc (by simp) _).alloc (by simp;omega) _).alloc (by simp;omega) _),?_,?_,?_,?_,World.ownsRow_nil _ _ _ _⟩
 ·rw[Below.heap_alloc _ _ _ (by simp <;> omega),Below.heap_alloc _ _ _ (by simp <;> omega),Below.heap_alloc _ _ _ (by simp)];exact heap_alloc_new w _
 ·rw[Below.heap_alloc _ _ _ (by simp <;> omega),Below.heap_alloc _ _ _ (by simp)];have:=heap_alloc_new (w.alloc (.cells #[nv,tv] 258)) (.cells #[.string A.pred,av,.bool A.no,.int .i64 A.at_,.int .i64 A.az] 243);simpa using this
 ·rw[Below.heap_alloc _ _ _ (by simp)];have:=heap_alloc_new ((w.alloc (.cells #[nv,tv] 258)).alloc (.cells #[.string A.pred,av,.bool A.no,.int .i64 A.at_,.int .i64 A.az] 243)) (.cells #[.string { data:=#[] },.slice none 0 0,.bool false,.int .i64 0,.int .i64 0] 243);simpa using this
 ·have:=heap_alloc_new (((w.alloc (.cells #[nv,tv] 258)).alloc (.cells #[.string A.pred,av,.bool A.no,.int .i64 A.at_,.int .i64 A.az] 243)).alloc (.cells #[.string { data:=#[] },.slice none 0 0,.bool false,.int .i64 0,.int .i64 0] 243)) (.cells #[.string A.pred,.slice none 0 0,.bool false,.int .i64 0,.int .i64 0] 243);simpa using this
theorem rU.add {W w5:W8}(h:rU w A nv tv av l v wr)(hW:zK [] wr W)(hg:W.grownBy w5 v.ownBlock){v':Value}{t:xD}
  (ay:w5.ownsRow (w.heap.size+4) 317 3 v' (l.length+1) (cellsOf l++t.cells)):
  rU w A nv tv av (l++[t]) v' (w5.setCell ⟨w.heap.size+1+1+1,1,none⟩ v')/\w5.heap[w.heap.size+1+1+1]?=some (.cells #[.string A.pred,v,.bool false,.int .i64 0,.int .i64 0] 243 (0,0)):=by
 have hl:=h.lt;have hz:=hW.size;have k5:zK v.ownBlock.toList wr w5:=(hW.mono (by simp)).trans (zK.aR hg);have eI:∀ b,b<w.heap.size+4->b∉v.ownBlock.toList:=λ b hb hm=>by have:=(h.row.lt b (by simpa using hm)).1;omega
 have bp:∀ b,b<w.heap.size+4->w5.heap[b]?=wr.heap[b]?:=λ b hb=>k5.block b (by omega) (eI b hb)
 have kS:∀ b,b≠w.heap.size+1+1+1->(w5.setCell ⟨w.heap.size+1+1+1,1,none⟩ v').heap[b]?=w5.heap[b]?:=λ b hb=>Below.heap_setCell _ _ _ _ (by simpa using hb)
 have SL:=(bp (w.heap.size+1+1+1) (by omega)).trans h.b3;have s5:=k5.size;refine⟨⟨?_,?_,?_,?_,?_,?_⟩,SL⟩
 ·refine⟨k5.os.trans h.below.os,k5.tape.trans h.below.tape,k5.output.trans h.below.output,by simp;omega,λ b hb=>?_⟩;rw[kS b (by omega),bp b (by omega)];exact h.below.block b hb
 ·rw[kS _ (by omega),bp _ (by omega)];exact h.b0
 ·rw[kS _ (by omega),bp _ (by omega)];exact h.b1
 ·rw[kS _ (by omega),bp _ (by omega)];exact h.b2
 ·rw[heap_setCell_same _ _ _ _ _ _ SL];rfl
 ·rw[zjn,List.length_append];exact ownsRow_setCell_below ay (by simp) _
theorem rU.fin (h:rU w A nv tv av l v wr)(u0 u1 u2 u3 u4:Value):Below w.heap.size w (((((wr.setCell ⟨w.heap.size+1+1,0,none⟩ u0).setCell ⟨w.heap.size+1+1,1,none⟩ u1).setCell ⟨w.heap.size+1+1,2,none⟩ u2).setCell ⟨w.heap.size+1+1,3,none⟩ u3).setCell ⟨w.heap.size+1+1,4,none⟩ u4)/\(((((wr.setCell ⟨w.heap.size+1+1,0,none⟩ u0).setCell ⟨w.heap.size+1+1,1,none⟩ u1).setCell ⟨w.heap.size+1+1,2,none⟩ u2).setCell ⟨w.heap.size+1+1,3,none⟩ u3).setCell ⟨w.heap.size+1+1,4,none⟩ u4).ownsRow w.heap.size 317 3 v l.length (cellsOf l):=
 ⟨((((h.below.setCell (by simp;omega) _).setCell (by simp;omega) _).setCell (by simp;omega) _).setCell (by simp;omega) _).setCell (by simp;omega) _,zG (ownsRow_setCell_below (ownsRow_setCell_below (ownsRow_setCell_below (ownsRow_setCell_below (ownsRow_setCell_below h.row (by simp) _) (by simp) _) (by simp) _) (by simp) _) (by simp) _) (by omega)⟩
def z0n (w:W8)(E:Env)(A:zL):Ending->W8->Prop:=λ e w'=>∃ v,e=.returned (.agg #[.string A.pred,v,.bool false,.int .i64 0,.int .i64 0])/\w'.ownsRow w.heap.size 317 3 v (fa E A).ae.length (cellsOf (fa E A).ae)/\Below w.heap.size w w'
theorem ycd {E:Env}{k:Nat}(h:k<l.length):(l.take (k+1)).map (ofT E)=(l.take k).map (ofT E)++[ofT E l[k]]:=by
 rw[List.take_succ_eq_append_getElem h,List.map_append];rfl
theorem z4u (w:W8)(base:Nat)(E:Env)(A:zL)(an fy aa:O8)(cn ct ca:Nat)(he:om w base E (.slice an E.length cn) (.slice fy E.length ct))(hA:w.ownsRow base 317 3 (.slice aa A.ae.length ca) A.ae.length (cellsOf A.ae))(qo:A.ae.length<=1000):
  Calls Tryz.prog 192 #[.agg #[.slice an E.length cn,.slice fy E.length ct],.agg #[.string A.pred,.slice aa A.ae.length ca,.bool A.no,.int .i64 A.at_,.int .i64 A.az]] w (z0n w E A):=by
 obtain⟨i0,hi,bL,aY,bg⟩:=info_parts zph;have H0:=zC (rU.start w A (.slice an E.length cn) (.slice fy E.length ct) (.slice aa A.ae.length ca));have HE:=zC he;have HA:=zC hA;clear he hA;go_enter Tryz.func192,Tryz.ntmps192;go_wp2_with fail
 go_loopg [6] A.ae.length (λ gg i wr=>∃ (k:Nat) (v:Value),k<=A.ae.length/\gg=A.ae.length-k/\i=.int .i64 k/\rU w A (.slice an E.length cn) (.slice fy E.length ct) (.slice aa A.ae.length ca) ((A.ae.take k).map (ofT E)) v wr)
 exact⟨0,_,Nat.zero_le _,rfl,rfl,zA H0⟩
 case round=>
  clear H0;obtain⟨k,v,hk,eD,rfl,hm⟩:=hrel;have nG:((A.ae.take k).map (ofT E)).length=k:=by simp;omega
  obtain⟨a1,c1,hv⟩:=zD hm.row;rw[nG] at hv;subst hv;obtain⟨p1,xx⟩:=zB hm.b1 1;have HM:=zC hm;have wS:=zC nG;clear hm xx nG
  by_cases aF:k<A.ae.length
  ·have nu:(k:Int)<A.ae.length:=(by omega);go_wp2_with fail;refine zc0 6 z3q (by kernel_rfl) λ W hW=>?_
   simp only[List.take_succ_cons,List.take_zero,List.drop_succ_cons,List.drop_zero];have lf:Hid (rU w A (.slice an E.length cn) (.slice fy E.length ct) (.slice aa A.ae.length ca) ((A.ae.take k).map (ofT E)) (.slice a1 k c1) W):=(by rw[hW];exact (zA HM).dQ B9.drew);clear hW HM p1;obtain⟨p1,xx⟩:=zB (zA lf).b1 1;obtain⟨q0,Bb⟩:=zB (zA lf).b0 0;obtain⟨q1,Bc⟩:=zB (zA lf).b0 1;obtain⟨ga,MQ,im,-,-,bO,bQ,d0,d1,d2⟩:=zat (zJ (zA HA) (zA lf).below (λ g e=>((zA HA).lt g e).2)) k aF;injection im with i1 i2 i3
   subst i1 i3;clear xx Bb Bc
   repeat still_step
   refine wpStill_nil ?_;clear p1 q0 q1;go_wp2_with fail;refine (zom W base E an fy cn ct ((zA HE).below (zA lf).below) A.ae[k].text A.ae[k].isVar A.ae[k].at_).mono ?_;rintro e w1 ⟨rfl,aL⟩;have iu:=zC ((zA lf).dQ aL);clear lf aL d0 d1 d2;obtain⟨x,hx⟩:∃ x,oh E A.ae[k]=x:=⟨_,rfl⟩;have Cb:oh E ⟨A.ae[k].text,A.ae[k].isVar,A.ae[k].at_⟩=x:=hx;rw[Cb];have HT:=zC (show (A.ae.take (k+1)).map (ofT E)=(A.ae.take k).map (ofT E)++[⟨x,false,0⟩] by rw[ycd aF,ofT,hx]);clear Cb hx;obtain⟨r1,GM⟩:=zB (zA iu).b3 1;have sR:=(zA iu).lt;have aB:=(zA iu).row;rw[zA wS] at aB;have dO:=zC (λ (w5:W8) (v':Value) hg ay=>rU.add (w5:=w5) (v':=v') (W:=w1.alloc (.cells #[.string x,.bool false,.int .i64 0] 317)) (t:=⟨x,false,0⟩) (zA iu) ((zK.refl [] _).alloc _) hg ay);rw[zA wS] at dO;have bX:=zC (World.news_of_block (heap_alloc_new w1 (.cells #[.string x,.bool false,.int .i64 0] 317)));have HR:=zC (aB.alloc (.cells #[.string x,.bool false,.int .i64 0] 317));clear aB;go_wp2_with (at_builtin;go_must (refine wpList_append_lies _ rfl _ _ _ rfl (w.heap.size+4) 317 i0 (.agg #[.string { data:=#[] },.bool false,.int .i64 0]) 3 32 Tryz.underlying241 hi bL aY bg rfl (by decide) (.slice a1 k c1) k _ rfl (zA HR) ⟨w1.heap.size,0,none⟩ 1 1 [.string x,.bool false,.int .i64 0] rfl rfl (zA bX) (by simp[Value.oneCell']) (by decide) (by unfold maxLen;omega) (by omega) (by simp;omega) _ rfl ?_;intro g cap w5 aq aU bW hlt5;obtain⟨e1,e2⟩:=zA dO w5 _ aU aq;obtain⟨z0,na⟩:=zB e2 1));go_roundg (A.ae.length-(k+1));exact⟨k+1,_,by omega,rfl,by go_num,by rw[zA HT];exact e1⟩;omega
  ·have lz:k=A.ae.length:=(by omega);have HK:=zC lz;clear lz;obtain⟨t0,Rw⟩:=zB (zA HM).b2 0;obtain⟨t1,Rx⟩:=zB (zA HM).b2 1;obtain⟨t2,tf2⟩:=zB (zA HM).b2 2;obtain⟨t3,tf3⟩:=zB (zA HM).b2 3;obtain⟨t4,tf4⟩:=zB (zA HM).b2 4;obtain⟨o0,L4⟩:=zB (zA HM).b3 0;obtain⟨o1,L5⟩:=zB (zA HM).b3 1;obtain⟨o2,Rm⟩:=zB (zA HM).b3 2;obtain⟨o3,Rn⟩:=zB (zA HM).b3 3;obtain⟨o4,Zg⟩:=zB (zA HM).b3 4;clear L4 L5 Rm Rn Zg;go_wp2_with fail;refine bodyPost_ret (v:=.agg #[.string A.pred,.slice a1 k c1,.bool false,.int .i64 0,.int .i64 0]) (by simp[results,Tryz.results192,go_sem,t0,t1,t2,t3,t4]) rfl ⟨_,rfl,?_,((zA HM).fin _ _ _ _ _).1⟩;have:=((zA HM).fin (.string A.pred) (.slice a1 k c1) (.bool false) (.int .i64 0) (.int .i64 0)).2;rw[zA HK,List.take_length] at this;rw[zA HK];exact this
end
section
open Go.RowKit
structure zP where
 aj:zL
 text:B8
 s:Nat
 h:Nat
 r:Nat
 fr:List Nat
structure FG where
 F:zP
 tv:Value
 fv:Value
def FG.cells (f:FG):V8:=[.string f.F.aj.pred,f.tv,.bool f.F.aj.no,.int .i64 f.F.aj.at_,.int .i64 f.F.aj.az,.string f.F.text,.int .i64 f.F.s,.int .i64 f.F.h,.int .i64 f.F.r,f.fv]
def zym (l:List Nat):V8:=l.map λ (x:Nat)=>.int .i64 x
structure qZ (w:W8)(base:Nat)(f:FG):Prop where
 t:w.ownsRow base 317 3 f.tv f.F.aj.ae.length (cellsOf f.F.aj.ae)
 i:w.ownsRow base 3 1 f.fv f.F.fr.length (zym f.F.fr)
structure yZ (w:W8)(base:Nat)(v:Value)(fs:List FG):Prop where
 row:w.ownsRow base 262 10 v fs.length (fs.flatMap FG.cells)
 each:∀ f∈fs,qZ w base f
variable {f:FG} {base:Nat} {w w':W8}
theorem qZ.below (h:qZ w base f)(k:Below w.heap.size w w'):qZ w' base f:=⟨zJ h.t k (λ g e=>(h.t.lt g e).2),zJ h.i k (λ g e=>(h.i.lt g e).2)⟩
variable {fs:List FG} {v:Value}
theorem yZ.below (h:yZ w base v fs)(k:Below w.heap.size w w'):yZ w' base v fs:=⟨zJ h.row k (λ g e=>(h.row.lt g e).2),λ f hf=>(h.each f hf).below k⟩
theorem qZ.low {base':Nat}(h:qZ w base f)(hb:base'<=base):qZ w base' f:=⟨zG h.t hb,zG h.i hb⟩
variable {k:Nat}
theorem zb1 (h:w.ownsRow base 262 10 v fs.length (fs.flatMap FG.cells))(hk:k<fs.length):∃ g cap,v=.slice (some ⟨g,0,none⟩) fs.length cap/\base<=g/\g<w.heap.size/\fs.length<=cap/\cap<=maxLen/\∀ j,j<10->w.cell? ⟨g,k*10+j,none⟩=(fs[k].cells)[j]?:=
 vX (f:=FG.cells) (λ _=>rfl) h k hk
def za1 (t:B8):List zP->Nat->Int
 | [],_=>-1
 | x::r,k=>if x.text.toList==t.toList then k else za1 t r (k+1)
def jE (l:List zP)(t:B8):Int:=za1 t l 0
theorem z2c {t:B8}{l:List zP}(h:k<l.length):za1 t (l.drop k) k=if l[k].text.toList==t.toList then (k:Int) else za1 t (l.drop (k+1)) (k+1):=by
 rw[List.drop_eq_getElem_cons h];rfl
theorem zkg (w:W8)(base:Nat)(a:O8)(c:Nat)(fs:List FG)(t:B8)(h:w.ownsRow base 262 10 (.slice a fs.length c) fs.length (fs.flatMap FG.cells)):
  Calls Tryz.prog 133 #[.slice a fs.length c,.string t] w λ e w'=>e=.returned (.int .i64 (jE (fs.map (·.F)) t))/\w'=w:=by
 have gR:=yU h;unfold maxLen at gR;have HH:=zC h;clear h;go_enter Tryz.func133,Tryz.ntmps133;go_wp2_with fail
 go_loop [5] (λ i=>∃ k:Nat,k<=fs.length/\i=.int .i64 k/\za1 t ((fs.map (·.F)).drop k) k=jE (fs.map (·.F)) t) (λ i=>fs.length-(intOf i).toNat)
 exact⟨0,Nat.zero_le _,rfl,rfl⟩
 case round=>
  obtain⟨k,hk,rfl,np⟩:=hrel;have HX:=zC np;clear np
  by_cases aF:k<fs.length
  ·obtain⟨g,cap,hv,-,aZ,bO,bQ,hc⟩:=zb1 (zA HH) aF;injection hv with h1 h2 h3
   subst h1 h3;have p5:=hc 5 (by decide);have HS:=zC (z2c (t:=t) (l:=fs.map (·.F)) (k:=k) (by simpa using aF));simp only[FG.cells,List.getElem?_cons_succ,List.getElem?_cons_zero] at p5;clear hc;rw[List.getElem_map] at HS
   cases hq:fs[k].F.text.toList==t.toList with
   | true=>
    go_wp2_with fail;go_ret;exact⟨by rw[<-zA HX,zA HS,if_pos hq];rfl,rfl⟩
   | false=>
    go_wp2_with fail
    go_round
    case rel=>exact⟨k+1,by omega,by go_num,by rw[<-zA HX,zA HS,if_neg (by rw[hq];decide)]⟩
    case measure=>simp[intOf];omega
  ·go_wp2_with fail;go_ret;exact⟨by rw[<-zA HX,List.drop_of_length_le (by simp;omega)];rfl,rfl⟩
def jD (a b:zP):Bool:=if a.s != b.s then decide (a.s<b.s) else if a.h != b.h then decide (a.h<b.h) else zaf a.text b.text
theorem z03 (w:W8)(A B:zP)(a1 a2 b1 b2:O8)(n1 n2 m1 m2 c1 c2 d1 d2:Nat):
  Calls Tryz.prog 231 #[.agg #[.string A.aj.pred,.slice a1 n1 c1,.bool A.aj.no,.int .i64 A.aj.at_,.int .i64 A.aj.az,.string A.text,.int .i64 A.s,.int .i64 A.h,.int .i64 A.r,.slice a2 n2 c2],.agg #[.string B.aj.pred,.slice b1 m1 d1,.bool B.aj.no,.int .i64 B.aj.at_,.int .i64 B.aj.az,.string B.text,.int .i64 B.s,.int .i64 B.h,.int .i64 B.r,.slice b2 m2 d2]] w λ e w'=>e=.returned (.bool (jD A B))/\Below w.heap.size w w':=by
 have b0:=((Below.refl w.heap.size w).alloc L9 (.cells #[.string A.aj.pred,.slice a1 n1 c1,.bool A.aj.no,.int .i64 A.aj.at_,.int .i64 A.aj.az,.string A.text,.int .i64 A.s,.int .i64 A.h,.int .i64 A.r,.slice a2 n2 c2] 262)).alloc (by simp) (.cells #[.string B.aj.pred,.slice b1 m1 d1,.bool B.aj.no,.int .i64 B.aj.at_,.int .i64 B.aj.az,.string B.text,.int .i64 B.s,.int .i64 B.h,.int .i64 B.r,.slice b2 m2 d2] 262)
 cases h1:((A.s:Int) != (B.s:Int)) with
 | true=>
  have hs:(A.s != B.s)=true:=by simp at h1 ⊢;omega
  have HE:=zC (show jD A B=decide ((A.s:Int)<(B.s:Int)) by unfold jD;rw[if_pos hs];simp);clear hs;go_enter Tryz.func231,Tryz.ntmps231;go_wp2_with fail
  all_goals
   go_ret;exact⟨by rw[zA HE];first | rfl | simp[*],b0⟩
 | false=>
  have hs:(A.s != B.s)=false:=by simp at h1 ⊢;omega
  cases h2:((A.h:Int) != (B.h:Int)) with
  | true=>
   have hh:(A.h != B.h)=true:=(by simp at h2 ⊢;omega);have HE:=zC (show jD A B=decide ((A.h:Int)<(B.h:Int)) by unfold jD;rw[if_neg (by rw[hs];decide),if_pos hh];simp);clear hs hh;go_enter Tryz.func231,Tryz.ntmps231;go_wp2_with fail
   all_goals
    go_ret;exact⟨by rw[zA HE];first | rfl | simp[*],b0⟩
  | false=>
   have hh:(A.h != B.h)=false:=(by simp at h2 ⊢;omega);have HE:=zC (show jD A B=zaf A.text B.text by unfold jD;rw[if_neg (by rw[hs];decide),if_neg (by rw[hh];decide)]);clear hs hh;go_enter Tryz.func231,Tryz.ntmps231;go_wp2_with fail
   all_goals
    go_ret;exact⟨by rw[zA HE];rfl,b0⟩
end
section
open Go.RowKit
abbrev Way:=Env × List Nat
def zht (a:zL)(x:Way):List zP->Nat->List Way
 | [],_=>[]
 | f::r,i=>(match qA x.1 a f.aj with | some e=>[(e,x.2++[i])] | none=>[])++zht a x r (i+1)
def zgl (a:zL)(l:List zP)(now:List Way):List Way:=now.flatMap λ x=>zht a x l 0
def ziq (l:List zP):List zL->List Way->List Way
 | [],now=>now
 | a::r,now=>ziq l r (if a.no then now else zgl a l now)
def xP (A:zL):B8:=⟨(jH A).toArray⟩
def ztj (l:List zP)(e:Env)(a:zL):Bool:=!a.no||decide (jE l (xP (fa e a))<0)
def ze4 (R:zS)(l:List zP):List Way:=(ziq l R.body [([],[])]).filter λ x=>R.body.all (ztj l x.1)
variable {k:Nat} {l:List zP}
theorem z5s {a:zL}{x:Way}(h:k<l.length):zht a x (l.drop k) k=(match qA x.1 a l[k].aj with | some e=>[(e,x.2++[k])] | none=>[])++zht a x (l.drop (k+1)) (k+1):=by
 rw[List.drop_eq_getElem_cons h];rfl
variable {now:List Way}
theorem z5v {b:List zL}(h:k<b.length):ziq l (b.drop k) now=ziq l (b.drop (k+1)) (if b[k].no then now else zgl b[k] l now):=by
 rw[List.drop_eq_getElem_cons h];rfl
theorem z5t {a:zL}{i:Nat}(h:i<now.length):zgl a l (now.drop i)=zht a now[i] l 0++zgl a l (now.drop (i+1)):=by
 unfold zgl;rw[List.drop_eq_getElem_cons h,List.flatMap_cons]
theorem zxm (a:zL)(x:Way):∀ (l:List zP) (i:Nat),(zht a x l i).length<=l.length
 | [],_=>Nat.le_refl _
 | f::r,i=>by
  rw[zht,List.length_append,List.length_cons];have:=zxm a x r (i+1)
  split <;> simp <;> omega
theorem zxn (a:zL)(l:List zP):∀ now:List Way,(zgl a l now).length<=now.length*l.length
 | []=>by simp[zgl]
 | x::r=>by
  have h1:=zxm a x l 0;have h2:=zxn a l r;have e:zgl a l (x::r)=zht a x l 0++zgl a l r:=by simp[zgl]
  rw[e,List.length_append,List.length_cons,Nat.succ_mul];omega
theorem zhf:∀ (ts us:List xD) (e e':Env),jB e ts us=some e'->e'.length<=e.length+ts.length
 | [],us,e,e',h=>by cases us <;> (rw[jB] at h <;> first | (cases h;simp) | simp_all)
 | t::ts,[],e,e',h=>by rw[jB] at h <;> first | (cases h;simp) | simp_all
 | t::ts,u::us,e,e',h=>by
  rw[jB] at h
  split at h
  ·have:=zhf ts us _ _ h;simp at this ⊢;omega
  ·split at h
   ·have:=zhf ts us _ _ h;simp;omega
   ·cases h
theorem zn9 {e e':Env}{a t:zL}(h:qA e a t=some e'):e'.length<=e.length+a.ae.length:=by
 unfold qA at h
 split at h
 ·exact zhf _ _ _ _ h
 ·cases h
structure WG where
 e:Env
 fr:List Nat
 nv:Value
 tv:Value
 fv:Value
def WG.W (x:WG):Way:=(x.e,x.fr)
def WG.cells (x:WG):V8:=[x.nv,x.tv,x.fv]
structure wN (w:W8)(base:Nat)(x:WG):Prop where
 env:om w base x.e x.nv x.tv
 fr:w.ownsRow base 3 1 x.fv x.fr.length (zym x.fr)
 nil:x.fr=[]->x.fv=.slice none 0 0
structure rN (w:W8)(base:Nat)(v:Value)(ws:List WG):Prop where
 row:w.ownsRow base 325 3 v ws.length (ws.flatMap WG.cells)
 each:∀ x∈ws,wN w base x
variable {base:Nat} {w w':W8}
theorem wN.below {x:WG}(h:wN w base x)(k:Below w.heap.size w w'):wN w' base x:=⟨h.env.below k,zJ h.fr k (λ g e=>(h.fr.lt g e).2),h.nil⟩
variable {ws:List WG} {v:Value}
theorem rN.below (h:rN w base v ws)(k:Below w.heap.size w w'):rN w' base v ws:=⟨zJ h.row k (λ g e=>(h.row.lt g e).2),λ x hx=>(h.each x hx).below k⟩
theorem wN.low {base':Nat}{x:WG}(h:wN w base x)(hb:base'<=base):wN w base' x:=⟨⟨zG h.env.ns hb,zG h.env.ts hb,h.env.nil⟩,zG h.fr hb,h.nil⟩
theorem wN.bu {B:List Nat}{x:WG}(h:wN w base x)(k:zK B w w')(h1:∀ b∈B,dW w 9 b)(h2:∀ b∈B,dW w 3 b):wN w' base x:=
 ⟨⟨xF h.env.ns k (λ b hb=>.inr (h1 b hb)),xF h.env.ts k (λ b hb=>.inr (h1 b hb)),h.env.nil⟩,xF h.fr k (λ b hb=>.inr (h2 b hb)),h.nil⟩
variable {wX w5:W8}
theorem rN.add {W:W8}{v':Value}{x:WG}(h:rN wX base v ws)(hx:wN wX base x)(hW:zK [] wX W)(hg:W.grownBy w5 v.ownBlock)(ay:w5.ownsRow base 325 3 v' (ws.length+1) (ws.flatMap WG.cells++x.cells)):rN w5 base v' (ws++[x]):=by
 have k5:zK v.ownBlock.toList wX w5:=(hW.mono (by simp)).trans (zK.aR hg);have n1:∀ b∈v.ownBlock.toList,dW wX 9 b:=yH h.row (by decide);have n2:∀ b∈v.ownBlock.toList,dW wX 3 b:=yH h.row (by decide);refine⟨?_,λ y hy=>?_⟩
 ·rw[List.length_append,List.flatMap_append];simpa using ay
 ·rcases List.mem_append.1 hy with hy | hy
  ·exact (h.each y hy).bu k5 n1 n2
  ·rw[List.mem_singleton.1 hy];exact hx.bu k5 n1 n2
theorem rN.other {W:W8}{u:Value}{us:List WG}(h:rN wX base v ws)(hu:rN wX base u us)(bF:∀ g,v.ownBlock=some g->u.ownBlock≠some g)(hW:zK [] wX W)(hg:W.grownBy w5 v.ownBlock):rN w5 base u us:=by
 have k5:zK v.ownBlock.toList wX w5:=(hW.mono (by simp)).trans (zK.aR hg);have n1:∀ b∈v.ownBlock.toList,dW wX 9 b:=yH h.row (by decide);have n2:∀ b∈v.ownBlock.toList,dW wX 3 b:=yH h.row (by decide);exact⟨zZ hu.row (λ g e=>k5.block g (hu.row.lt g e).2 (λ hm=>bF g (by simpa using hm) e)),λ y hy=>(hu.each y hy).bu k5 n1 n2⟩
theorem zxp (h:w.ownsRow base 325 3 v ws.length (ws.flatMap WG.cells))(hk:k<ws.length):∃ g cap,v=.slice (some ⟨g,0,none⟩) ws.length cap/\base<=g/\g<w.heap.size/\ws.length<=cap/\cap<=maxLen/\w.cell? ⟨g,k*3,none⟩=some ws[k].nv/\w.cell? ⟨g,k*3+1,none⟩=some ws[k].tv/\w.cell? ⟨g,k*3+2,none⟩=some ws[k].fv:=by
 obtain⟨g,cap,hv,hb,aZ,bO,bQ,hc⟩:=vX (f:=WG.cells) (λ _=>rfl) h k hk;exact⟨g,cap,hv,hb,aZ,bO,bQ,hc 0 (by decide),hc 1 (by decide),hc 2 (by decide)⟩
theorem z2q:(Tryz.prog.info? 325).map (λ i=>(i.zero,i.size,i.bytes))=some (some (.agg #[.slice none 0 0,.slice none 0 0,.slice none 0 0]),3,72):=by kernel_rfl
theorem zpg:(Tryz.prog.info? 262).map (λ i=>(i.zero,i.size,i.bytes))=some (some (.agg #[.string { data:=#[] },.slice none 0 0,.bool false,.int .i64 0,.int .i64 0,.string { data:=#[] },.int .i64 0,.int .i64 0,.int .i64 0,.slice none 0 0]),10,128):=by kernel_rfl
theorem z7c {l:List Nat}:∀ u∈zym l,u.oneCell'=true:=by
 intro u hu;obtain⟨x,_,rfl⟩:=List.mem_map.1 hu;rfl
theorem Zv (a b:List Nat):zym (a++b)=zym a++zym b:=List.map_append
end
end Go.Proofs.YtldkpahaocjdpaaGreat
