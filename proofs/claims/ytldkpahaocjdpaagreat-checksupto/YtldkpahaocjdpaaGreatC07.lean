/-
  The reference's parser: atom, where no name comes next: what it answers is the plain text's atom (RefAtomS), its terms in a row of its own.
-/
import Derived.Test.YtldkpahaocjdpaaGreatC06
set_option maxHeartbeats 16000000
set_option maxRecDepth 1000000
namespace Go.Proofs.YtldkpahaocjdpaaGreat
section
open Go.RowKit
theorem zye (s:B8)(pos:Nat)(bad:Int)(b:Nat)(w:W8)(h:ib w b s pos bad)(aI:pos<=s.size)(hs:s.size<=maxLen)(ph:((tok s pos).kind != 110)=true):
  Calls Tryz.prog 184 #[.pointer (some ⟨b,0,none⟩)] w λ e w'=>∃ v,e=.returned (.agg #[.string (tok s pos).text,v,.bool false,.int .i64 (tok s pos).at_,.int .i64 0])/\zN [b] w w'/\ib w' b s (zI s pos bad).2.1 (zI s pos bad).2.2/\(zI s pos bad).2.1<=s.size/\w'.ownsRow w.heap.size 317 3 v (zI s pos bad).1.length (cellsOf (zI s pos bad).1):=by
 obtain⟨i0,hi,cQ,cz,cx⟩:=info_parts znf;have f93:=zy2;have h':=h;obtain⟨aG,c0,c1,c2,c3,c4,c5,fz⟩:=h;have hB:yB s pos bad=zab s pos bad:=by simp[yB,ph]
 go_enter Tryz.func184,Tryz.ntmps184;have HB:=zC hB;clear hB;go_wp2_with fail;refine (zai s pos bad b _ (h'.kept (((zN.refl [] _).alloc _).alloc _) (by simp))).mono ?_;rintro e w0 ⟨rfl,iW,lp⟩;rw[<-zA HB] at lp;go_wp2_with fail;refine (jL s pos (yB s pos bad) b _ lp aI hs).mono ?_;rintro e w1 ⟨rfl,Lr,cF⟩;have bg:=iW.trans Lr;clear Lr iW lp;unfold vC;obtain⟨r1,r2⟩:=bg.rules;have hz:w.heap.size+1<w1.heap.size:=by have:=bg.size;simp at this;omega
 go_wp2_with fail;clear f93;refine (qW s _ _ _ b _ (cF.kept ((zN.refl [w.heap.size+1] _).setCell (by simp) _) (by simp;omega)) (zS _ _ _ aI) hs).mono ?_;rintro e w2 ⟨rfl,cy,iX⟩;have aP:=zlf aG (vS (zS _ _ _ aI)) bg cy iX;have tQ:zI s pos bad=if im s (zW s pos (yB s pos bad)) (zT s pos (yB s pos bad)) { data:=#[40] } then j9 s 5 (vA s (zW s pos (yB s pos bad)) (zT s pos (yB s pos bad)) { data:=#[40] }) (vM s (zW s pos (yB s pos bad)) (zT s pos (yB s pos bad)) { data:=#[40] }) [] else ([],vA s (zW s pos (yB s pos bad)) (zT s pos (yB s pos bad)) { data:=#[40] },vM s (zW s pos (yB s pos bad)) (zT s pos (yB s pos bad)) { data:=#[40] }):=rfl;clear bg cy cF iX r1 r2 c0 c1 c2 c3 c4 c5 fz h' HB ph hz;generalize vA s (zW s pos (yB s pos bad)) (zT s pos (yB s pos bad)) { data:=#[40] }=p3 at *;generalize vM s (zW s pos (yB s pos bad)) (zT s pos (yB s pos bad)) { data:=#[40] }=b3 at *;generalize im s (zW s pos (yB s pos bad)) (zT s pos (yB s pos bad)) { data:=#[40] }=o3 at *;have HR:=zC tQ;clear tQ;go_wp2_with fail
 go_loopg [4] 7 (λ g op wr=>∃ (l:List xK) (p:Nat) (bd:Int) (o:Bool) (v:Value),op=.bool o/\(o=true->l.length<=4)/\(if o then 7-l.length else 0)<=g/\qV w b s (tok s pos).text (tok s pos).at_ l p bd v wr/\zI s pos bad=(if o then j9 s (5-l.length) p bd l else (l,p,bd)))
 exact⟨[],p3,b3,o3,_,rfl,by simp,by split <;> simp,aP,zA HR⟩
 case round=>
  clear HR aP;obtain⟨l,p,bd,o,v,rfl,Fo,hg,hinv,ax⟩:=hrel;have HF:=zC ax;clear ax;obtain⟨a0,dS,rfl⟩:=zD hinv.own;have vm:=hinv.b9;have b8:=hinv.hp;have aT:=hinv.sz
  cases o with
  | false=>
   obtain⟨x0,x1,x2,x3,x4,xf⟩:=hinv.ac;obtain⟨y0,y1,y2,y3,y4,yf⟩:=hinv.rc;clear Fo;go_wp2_with fail;obtain⟨q0,q1,q2,q3,q4⟩:=z41 y0 y1 y2 y3 y4 (.string (tok s pos).text) (.slice a0 l.length dS) (.bool false) (.int .i64 (tok s pos).at_) (.int .i64 0);have vd:=hinv.ends (znh wr w.heap.size (.string (tok s pos).text) (.slice a0 l.length dS) (.bool false) (.int .i64 (tok s pos).at_) (.int .i64 0));have hF:zI s pos bad=(l,p,bd):=zA HF;refine bodyPost_ret (v:=.agg #[.string (tok s pos).text,.slice a0 l.length dS,.bool false,.int .i64 (tok s pos).at_,.int .i64 0]) (by simp[results,Tryz.results184,go_sem,q0,q1,q2,q3,q4]) rfl ⟨.slice a0 l.length dS,rfl,?_⟩;rw[hF];exact vd
  | true=>
   have nD:l.length<=4:=Fo rfl;clear Fo;have aP:=zkt s p bd l nD;have az:=zC ((zA HF).trans aP);clear HF aP;have Qs:(l.length:Int)<=4:=(by omega);obtain⟨G1,c0,c1,c2,c3,c4,c5,fz⟩:=hinv.b9;obtain⟨x0,x1,x2,x3,x4,xf⟩:=hinv.ac;have Gj:(((tok s p).kind != 110)=true/\((tok s p).kind != 118)=true/\zR s p bd l.length=zab s p bd) \/
     (((tok s p).kind != 110)=false/\((l.length:Int)==4)=true/\zR s p bd l.length=zab s p bd) \/
     (((tok s p).kind != 110)=true/\((tok s p).kind != 118)=false/\((l.length:Int)==4)=true/\zR s p bd l.length=zab s p bd) \/
     (((tok s p).kind != 110)=false/\((l.length:Int)==4)=false/\zR s p bd l.length=bd) \/
     (((tok s p).kind != 110)=true/\((tok s p).kind != 118)=false/\((l.length:Int)==4)=false/\zR s p bd l.length=bd):=zpg s p bd l
   rcases Gj with⟨t1,t2,tb⟩ | ⟨t1,t2,tb⟩ | ⟨t1,t2,t3,tb⟩ | ⟨t1,t2,tb⟩ | ⟨t1,t2,t3,tb⟩
   ·skip
    have TB:=zC tb;clear tb;go_wp2_with fail;refine (zai s p bd b _ vm).mono ?_;rintro e w0 ⟨rfl,iW,lp⟩;rw[<-zA TB] at lp;have aK:=hinv.call iW lp b8;clear iW lp c0 c1 c2 c3 c4 c5 fz x0 x1 x2 x3 x4 xf;go_wp2_with fail;refine (jL s p (zR s p bd l.length) b _ aK.b9 b8 hs).mono ?_;rintro e w1 ⟨rfl,bg,cF⟩;unfold vC;have aD:=aK.call bg cF (zS _ _ _ b8);have aH:w.heap.size+1<w1.heap.size:=(by have:=aD.sz;omega);obtain⟨d0,d1,d2,d3,d4,mW⟩:=aD.ac;have aS:=aD.own;clear bg cF aK;go_wp2_with (at_builtin;refine wpList_append_own _ rfl _ _ 241 rfl (w.heap.size+2) 317 i0 _ 3 32 Tryz.underlying241 hi cQ cz cx rfl (by decide) _ _ _ rfl ((aS.alloc _).alloc _) ⟨w1.heap.size+1,0,none⟩ 1 1 (yD s p).cells rfl rfl (qS w1 _ (yD s p)) (za8 _) (by unfold maxLen;omega) (by omega) (by simp;omega) ?_);intro v5 w5 aj aU hne5;clear hne5;obtain⟨a5,ie,rfl⟩:=zD aj;obtain⟨aF,e0,e1,e2,e3,e4,oY⟩:=aD.append (yD s p) aj aU;have eH:w.heap.size+1<w5.heap.size:=(by have:=aF.sz;simp at this;omega);clear aj aU d0 d1 d2 d3 d4 mW aS aD;go_wp2_with fail;refine (qW s _ _ _ b _ aF.b9 (zS _ _ _ b8) hs).mono ?_;rintro e w7 ⟨rfl,ia,lr⟩;have aA:=aF.call ia lr (vS (zS _ _ _ b8));clear ia lr aF e0 e1 e2 e3 e4 oY eH
    cases hm:im s (zW s p (zR s p bd l.length)) (zT s p (zR s p bd l.length)) { data:=#[44] } with
    | true=>
     have aQ:=zC ((zA az).trans (if_pos hm));have bh:=zc0 nD hm;clear hm az;go_wp2_with fail;go_roundg (7-(l++[yD s p]).length);exact⟨l++[yD s p],_,_,true,_,rfl,λ _=>by simp;omega,by simp,aA,zA aQ⟩;simp at hg ⊢;omega
    | false=>
     have aQ:=zC ((zA az).trans (if_neg (by rw[hm];decide)));clear hm az;go_wp2_with fail;refine (zaq s _ _ _ b _ aA.b9 aA.hp hs).mono ?_;rintro e w8 ⟨rfl,kn,kx⟩;have cU:=aA.call kn kx (zS _ _ _ aA.hp);clear kn kx aA;go_wp2_with fail;go_roundg 0;exact⟨l++[yD s p],_,_,false,_,rfl,by simp,by simp,cU,zA aQ⟩;simp at hg ⊢;omega
   ·skip
    have TB:=zC tb;clear tb;go_wp2_with fail;refine (zai s p bd b _ vm).mono ?_;rintro e w0 ⟨rfl,iW,lp⟩;rw[<-zA TB] at lp;have aK:=hinv.call iW lp b8;clear iW lp c0 c1 c2 c3 c4 c5 fz x0 x1 x2 x3 x4 xf;go_wp2_with fail;refine (jL s p (zR s p bd l.length) b _ aK.b9 b8 hs).mono ?_;rintro e w1 ⟨rfl,bg,cF⟩;unfold vC;have aD:=aK.call bg cF (zS _ _ _ b8);have aH:w.heap.size+1<w1.heap.size:=(by have:=aD.sz;omega);obtain⟨d0,d1,d2,d3,d4,mW⟩:=aD.ac;have aS:=aD.own;clear bg cF aK;go_wp2_with (at_builtin;refine wpList_append_own _ rfl _ _ 241 rfl (w.heap.size+2) 317 i0 _ 3 32 Tryz.underlying241 hi cQ cz cx rfl (by decide) _ _ _ rfl ((aS.alloc _).alloc _) ⟨w1.heap.size+1,0,none⟩ 1 1 (yD s p).cells rfl rfl (qS w1 _ (yD s p)) (za8 _) (by unfold maxLen;omega) (by omega) (by simp;omega) ?_);intro v5 w5 aj aU hne5;clear hne5;obtain⟨a5,ie,rfl⟩:=zD aj;obtain⟨aF,e0,e1,e2,e3,e4,oY⟩:=aD.append (yD s p) aj aU;have eH:w.heap.size+1<w5.heap.size:=(by have:=aF.sz;simp at this;omega);clear aj aU d0 d1 d2 d3 d4 mW aS aD;go_wp2_with fail;refine (qW s _ _ _ b _ aF.b9 (zS _ _ _ b8) hs).mono ?_;rintro e w7 ⟨rfl,ia,lr⟩;have aA:=aF.call ia lr (vS (zS _ _ _ b8));clear ia lr aF e0 e1 e2 e3 e4 oY eH
    cases hm:im s (zW s p (zR s p bd l.length)) (zT s p (zR s p bd l.length)) { data:=#[44] } with
    | true=>
     have aQ:=zC ((zA az).trans (if_pos hm));have bh:=zc0 nD hm;clear hm az;go_wp2_with fail;go_roundg (7-(l++[yD s p]).length);exact⟨l++[yD s p],_,_,true,_,rfl,λ _=>by simp;omega,by simp,aA,zA aQ⟩;simp at hg ⊢;omega
    | false=>
     have aQ:=zC ((zA az).trans (if_neg (by rw[hm];decide)));clear hm az;go_wp2_with fail;refine (zaq s _ _ _ b _ aA.b9 aA.hp hs).mono ?_;rintro e w8 ⟨rfl,kn,kx⟩;have cU:=aA.call kn kx (zS _ _ _ aA.hp);clear kn kx aA;go_wp2_with fail;go_roundg 0;exact⟨l++[yD s p],_,_,false,_,rfl,by simp,by simp,cU,zA aQ⟩;simp at hg ⊢;omega
   ·skip
    have TB:=zC tb;clear tb;go_wp2_with fail;refine (zai s p bd b _ vm).mono ?_;rintro e w0 ⟨rfl,iW,lp⟩;rw[<-zA TB] at lp;have aK:=hinv.call iW lp b8;clear iW lp c0 c1 c2 c3 c4 c5 fz x0 x1 x2 x3 x4 xf;go_wp2_with fail;refine (jL s p (zR s p bd l.length) b _ aK.b9 b8 hs).mono ?_;rintro e w1 ⟨rfl,bg,cF⟩;unfold vC;have aD:=aK.call bg cF (zS _ _ _ b8);have aH:w.heap.size+1<w1.heap.size:=(by have:=aD.sz;omega);obtain⟨d0,d1,d2,d3,d4,mW⟩:=aD.ac;have aS:=aD.own;clear bg cF aK;go_wp2_with (at_builtin;refine wpList_append_own _ rfl _ _ 241 rfl (w.heap.size+2) 317 i0 _ 3 32 Tryz.underlying241 hi cQ cz cx rfl (by decide) _ _ _ rfl ((aS.alloc _).alloc _) ⟨w1.heap.size+1,0,none⟩ 1 1 (yD s p).cells rfl rfl (qS w1 _ (yD s p)) (za8 _) (by unfold maxLen;omega) (by omega) (by simp;omega) ?_);intro v5 w5 aj aU hne5;clear hne5;obtain⟨a5,ie,rfl⟩:=zD aj;obtain⟨aF,e0,e1,e2,e3,e4,oY⟩:=aD.append (yD s p) aj aU;have eH:w.heap.size+1<w5.heap.size:=(by have:=aF.sz;simp at this;omega);clear aj aU d0 d1 d2 d3 d4 mW aS aD;go_wp2_with fail;refine (qW s _ _ _ b _ aF.b9 (zS _ _ _ b8) hs).mono ?_;rintro e w7 ⟨rfl,ia,lr⟩;have aA:=aF.call ia lr (vS (zS _ _ _ b8));clear ia lr aF e0 e1 e2 e3 e4 oY eH
    cases hm:im s (zW s p (zR s p bd l.length)) (zT s p (zR s p bd l.length)) { data:=#[44] } with
    | true=>
     have aQ:=zC ((zA az).trans (if_pos hm));have bh:=zc0 nD hm;clear hm az;go_wp2_with fail;go_roundg (7-(l++[yD s p]).length);exact⟨l++[yD s p],_,_,true,_,rfl,λ _=>by simp;omega,by simp,aA,zA aQ⟩;simp at hg ⊢;omega
    | false=>
     have aQ:=zC ((zA az).trans (if_neg (by rw[hm];decide)));clear hm az;go_wp2_with fail;refine (zaq s _ _ _ b _ aA.b9 aA.hp hs).mono ?_;rintro e w8 ⟨rfl,kn,kx⟩;have cU:=aA.call kn kx (zS _ _ _ aA.hp);clear kn kx aA;go_wp2_with fail;go_roundg 0;exact⟨l++[yD s p],_,_,false,_,rfl,by simp,by simp,cU,zA aQ⟩;simp at hg ⊢;omega
   ·skip
    have TB:=zC tb;clear tb;go_wp2_with fail;have aK:qV w b s (tok s pos).text (tok s pos).at_ l p (zR s p bd l.length) (.slice a0 l.length dS) wr:=(by rw[zA TB];exact hinv);clear c0 c1 c2 c3 c4 c5 fz x0 x1 x2 x3 x4 xf;refine (jL s p (zR s p bd l.length) b _ aK.b9 b8 hs).mono ?_;rintro e w1 ⟨rfl,bg,cF⟩;unfold vC;have aD:=aK.call bg cF (zS _ _ _ b8);have aH:w.heap.size+1<w1.heap.size:=(by have:=aD.sz;omega);obtain⟨d0,d1,d2,d3,d4,mW⟩:=aD.ac;have aS:=aD.own;clear bg cF aK;go_wp2_with (at_builtin;refine wpList_append_own _ rfl _ _ 241 rfl (w.heap.size+2) 317 i0 _ 3 32 Tryz.underlying241 hi cQ cz cx rfl (by decide) _ _ _ rfl ((aS.alloc _).alloc _) ⟨w1.heap.size+1,0,none⟩ 1 1 (yD s p).cells rfl rfl (qS w1 _ (yD s p)) (za8 _) (by unfold maxLen;omega) (by omega) (by simp;omega) ?_);intro v5 w5 aj aU hne5;clear hne5;obtain⟨a5,ie,rfl⟩:=zD aj;obtain⟨aF,e0,e1,e2,e3,e4,oY⟩:=aD.append (yD s p) aj aU;have eH:w.heap.size+1<w5.heap.size:=(by have:=aF.sz;simp at this;omega);clear aj aU d0 d1 d2 d3 d4 mW aS aD;go_wp2_with fail;refine (qW s _ _ _ b _ aF.b9 (zS _ _ _ b8) hs).mono ?_;rintro e w7 ⟨rfl,ia,lr⟩;have aA:=aF.call ia lr (vS (zS _ _ _ b8));clear ia lr aF e0 e1 e2 e3 e4 oY eH
    cases hm:im s (zW s p (zR s p bd l.length)) (zT s p (zR s p bd l.length)) { data:=#[44] } with
    | true=>
     have aQ:=zC ((zA az).trans (if_pos hm));have bh:=zc0 nD hm;clear hm az;go_wp2_with fail;go_roundg (7-(l++[yD s p]).length);exact⟨l++[yD s p],_,_,true,_,rfl,λ _=>by simp;omega,by simp,aA,zA aQ⟩;simp at hg ⊢;omega
    | false=>
     have aQ:=zC ((zA az).trans (if_neg (by rw[hm];decide)));clear hm az;go_wp2_with fail;refine (zaq s _ _ _ b _ aA.b9 aA.hp hs).mono ?_;rintro e w8 ⟨rfl,kn,kx⟩;have cU:=aA.call kn kx (zS _ _ _ aA.hp);clear kn kx aA;go_wp2_with fail;go_roundg 0;exact⟨l++[yD s p],_,_,false,_,rfl,by simp,by simp,cU,zA aQ⟩;simp at hg ⊢;omega
   ·skip
    have TB:=zC tb;clear tb;go_wp2_with fail;have aK:qV w b s (tok s pos).text (tok s pos).at_ l p (zR s p bd l.length) (.slice a0 l.length dS) wr:=(by rw[zA TB];exact hinv);clear c0 c1 c2 c3 c4 c5 fz x0 x1 x2 x3 x4 xf;refine (jL s p (zR s p bd l.length) b _ aK.b9 b8 hs).mono ?_;rintro e w1 ⟨rfl,bg,cF⟩;unfold vC;have aD:=aK.call bg cF (zS _ _ _ b8);have aH:w.heap.size+1<w1.heap.size:=(by have:=aD.sz;omega);obtain⟨d0,d1,d2,d3,d4,mW⟩:=aD.ac;have aS:=aD.own;clear bg cF aK;go_wp2_with (at_builtin;refine wpList_append_own _ rfl _ _ 241 rfl (w.heap.size+2) 317 i0 _ 3 32 Tryz.underlying241 hi cQ cz cx rfl (by decide) _ _ _ rfl ((aS.alloc _).alloc _) ⟨w1.heap.size+1,0,none⟩ 1 1 (yD s p).cells rfl rfl (qS w1 _ (yD s p)) (za8 _) (by unfold maxLen;omega) (by omega) (by simp;omega) ?_);intro v5 w5 aj aU hne5;clear hne5;obtain⟨a5,ie,rfl⟩:=zD aj;obtain⟨aF,e0,e1,e2,e3,e4,oY⟩:=aD.append (yD s p) aj aU;have eH:w.heap.size+1<w5.heap.size:=(by have:=aF.sz;simp at this;omega);clear aj aU d0 d1 d2 d3 d4 mW aS aD;go_wp2_with fail;refine (qW s _ _ _ b _ aF.b9 (zS _ _ _ b8) hs).mono ?_;rintro e w7 ⟨rfl,ia,lr⟩;have aA:=aF.call ia lr (vS (zS _ _ _ b8));clear ia lr aF e0 e1 e2 e3 e4 oY eH
    cases hm:im s (zW s p (zR s p bd l.length)) (zT s p (zR s p bd l.length)) { data:=#[44] } with
    | true=>
     have aQ:=zC ((zA az).trans (if_pos hm));have bh:=zc0 nD hm;clear hm az;go_wp2_with fail;go_roundg (7-(l++[yD s p]).length);exact⟨l++[yD s p],_,_,true,_,rfl,λ _=>by simp;omega,by simp,aA,zA aQ⟩;simp at hg ⊢;omega
    | false=>
     have aQ:=zC ((zA az).trans (if_neg (by rw[hm];decide)));clear hm az;go_wp2_with fail;refine (zaq s _ _ _ b _ aA.b9 aA.hp hs).mono ?_;rintro e w8 ⟨rfl,kn,kx⟩;have cU:=aA.call kn kx (zS _ _ _ aA.hp);clear kn kx aA;go_wp2_with fail;go_roundg 0;exact⟨l++[yD s p],_,_,false,_,rfl,by simp,by simp,cU,zA aQ⟩;simp at hg ⊢;omega
end
section
open Go.RowKit
theorem MH (s:B8)(pos:Nat)(bad:Int)(b:Nat)(w:W8)(h:ib w b s pos bad)(aI:pos<=s.size)(hs:s.size<=maxLen):
  Calls Tryz.prog 184 #[.pointer (some ⟨b,0,none⟩)] w λ e w'=>∃ v,e=.returned (.agg #[.string (tok s pos).text,v,.bool false,.int .i64 (tok s pos).at_,.int .i64 0])/\zN [b] w w'/\ib w' b s (zI s pos bad).2.1 (zI s pos bad).2.2/\(zI s pos bad).2.1<=s.size/\w'.ownsRow w.heap.size 317 3 v (zI s pos bad).1.length (cellsOf (zI s pos bad).1):=by
 cases hk:(tok s pos).kind != 110 with
 | false=>exact zyd s pos bad b w h aI hs hk
 | true=>exact zye s pos bad b w h aI hs hk
end
section
open Go.RowKit
def zix (s:B8)(pos:Nat)(bad:Int):Bool:=decide (bad<0)&&(tok s pos).kind==119
def xE (s:B8)(pos:Nat)(bad:Int):Nat:=if zix s pos bad then zW s pos bad else pos
def vQ (s:B8)(pos:Nat)(bad:Int):Int:=if zix s pos bad then zT s pos bad else bad
def xY (s:B8)(pos:Nat)(bad:Int):zL:=
 ⟨(tok s (xE s pos bad)).text,(zI s (xE s pos bad) (vQ s pos bad)).1,zix s pos bad,(tok s (xE s pos bad)).at_,(tok s pos).at_⟩
def yG (s:B8)(pos:Nat)(bad:Int):Nat × Int:=(zI s (xE s pos bad) (vQ s pos bad)).2
def zL.val (A:zL)(tv:Value):Value:=.agg #[.string A.pred,tv,.bool A.no,.int .i64 A.at_,.int .i64 A.ak]
theorem vK (w:W8)(a b c d e:Value)(t:TypeId)(j:Nat):(w.alloc (.cells #[a,b,c,d,e] t)).cell? ⟨w.heap.size,j,none⟩=#[a,b,c,d,e][j]?:=by
 rw[World.cell?_alloc_at _ _ _ _ rfl]
variable {w:W8}
theorem qI {n j:Nat}{v:Value}(h:w.cell? ⟨n,j,none⟩=some v)(o:Obj):(w.alloc o).cell? ⟨n,j,none⟩=some v:=by
 rw[World.cell?_alloc_past _ _ _ (World.block_lt_of_cell? w ⟨n,j,none⟩ h)];exact h
variable {bad:Int} {pos:Nat} {s:B8}
theorem Sb (h:pos<=s.size):xE s pos bad<=s.size:=by
 unfold xE;split
 ·exact zS s pos bad h
 ·exact h
theorem zru {b:Nat}{w2 w':W8}{o:Obj}{tv:Value}(aG:b<w.heap.size)(cy:zN [b] (w.alloc o) w2)(iX:ib w2 b s (zI s (xE s pos bad) (vQ s pos bad)).2.1 (zI s (xE s pos bad) (vQ s pos bad)).2.2)
  (aC:w2.ownsRow w.heap.size 317 3 tv (zI s (xE s pos bad) (vQ s pos bad)).1.length (cellsOf (zI s (xE s pos bad) (vQ s pos bad)).1)) (sj:(zI s (xE s pos bad) (vQ s pos bad)).2.1<=s.size) (k:zN [w.heap.size] w2 w') (aB:∀ g,tv.ownBlock=some g->w.heap.size<g):
  zN [b] w w'/\ib w' b s (yG s pos bad).1 (yG s pos bad).2/\(yG s pos bad).1<=s.size/\w'.ownsRow w.heap.size 317 3 tv (xY s pos bad).ae.length (cellsOf (xY s pos bad).ae):=by
 have hx:=((zN.refl [b] w).alloc o).trans cy;refine⟨⟨k.os.trans hx.os,k.tape.trans hx.tape,k.output.trans hx.output,Nat.le_trans hx.size k.size,λ i hi hn=>(k.block i (Nat.lt_of_lt_of_le hi hx.size) (by simp;omega)).trans (hx.block i hi hn)⟩,iX.kept k (by simp;omega),sj,?_⟩;refine⟨aC.1,?_⟩;rcases aC.2 with hn | ⟨g,cap,cur,rfl,hb,dI,rest⟩
 ·exact .inl hn
 ·refine .inr ⟨g,cap,cur,rfl,hb,?_,rest⟩;have:=aB g rfl;rw[k.block g (Array.getElem?_eq_some_iff.1 dI).1 (by simp;omega)];exact dI
theorem zzv (s:B8)(pos:Nat)(bad:Int)(b:Nat)(w:W8)(h:ib w b s pos bad)(aI:pos<=s.size)(hs:s.size<=maxLen):
  Calls Tryz.prog 186 #[.pointer (some ⟨b,0,none⟩)] w λ e w'=>∃ tv,e=.returned ((xY s pos bad).val tv)/\zN [b] w w'/\ib w' b s (yG s pos bad).1 (yG s pos bad).2/\(yG s pos bad).1<=s.size/\w'.ownsRow w.heap.size 317 3 tv (xY s pos bad).ae.length (cellsOf (xY s pos bad).ae):=by
 have h':=h;obtain⟨aG,c0,c1,c2,c3,c4,c5,fz⟩:=h;have three:(bad<0/\((tok s pos).kind==119)=true/\zix s pos bad=true)\/(bad<0/\((tok s pos).kind==119)=false/\zix s pos bad=false)\/(0<=bad/\zix s pos bad=false):=by
  unfold zix
  by_cases hb:bad<0
  ·cases hk:(tok s pos).kind==119 <;> simp[hb]
  ·exact .inr (.inr ⟨by omega,by simp;omega⟩)
 rcases three with⟨hb,hk,aR⟩ | ⟨hb,hk,aR⟩ | ⟨hb,aR⟩
 ·have e1:xE s pos bad=zW s pos bad:=by simp[xE,aR]
  have e2:vQ s pos bad=zT s pos bad:=by simp[vQ,aR]
  have HN:=zC aR;have HE:=zC (And.intro e1 e2);clear aR e1 e2;go_enter Tryz.func186,Tryz.ntmps186;go_wp2_with fail;refine (jL s pos bad b _ (h'.kept ((zN.refl [] _).alloc _) (by simp)) aI hs).mono ?_;rintro e w1 ⟨rfl,bg,cF⟩;rw[<-(zA HE).1,<-(zA HE).2] at cF;clear c0 c1 c2 c3 c4 c5 fz;go_wp2_with fail;refine (MH s (xE s pos bad) (vQ s pos bad) b _ cF (Sb aI) hs).mono ?_;rintro e w2 ⟨tv,rfl,tK,iX,sj,iL⟩;have kQ:=zF iL (show w.heap.size<=w1.heap.size by have:=bg.size;simp at this;omega);have HG:=zC (λ g e=>Nat.lt_of_lt_of_le (show w.heap.size<w1.heap.size by have:=bg.size;simp at this;omega) (iL.lt g e).1);have cy:=bg.trans tK;clear tK bg cF iL;obtain⟨a0,dS,rfl⟩:=zD kQ;obtain⟨r1,r2⟩:=cy.rules;have hz:w.heap.size<w2.heap.size:=by have:=cy.size;simp at this;omega
  go_wp2_with fail;obtain⟨q0,q1,q2,q3,q4⟩:=z41 ((r1 _ _ aG (by simp)).trans (vK w _ _ _ _ _ _ 0)) ((r1 _ _ aG (by simp)).trans (vK w _ _ _ _ _ _ 1)) ((r1 _ _ aG (by simp)).trans (vK w _ _ _ _ _ _ 2)) ((r1 _ _ aG (by simp)).trans (vK w _ _ _ _ _ _ 3)) ((r1 _ _ aG (by simp)).trans (vK w _ _ _ _ _ _ 4)) (.string (tok s (xE s pos bad)).text) (.slice a0 (zI s (xE s pos bad) (vQ s pos bad)).fst.length dS) (.bool true) (.int .i64 (tok s (xE s pos bad)).at_) (.int .i64 (tok s pos).at_);have k5:=znh w2 w.heap.size (.string (tok s (xE s pos bad)).text) (.slice a0 (zI s (xE s pos bad) (vQ s pos bad)).fst.length dS) (.bool true) (.int .i64 (tok s (xE s pos bad)).at_) (.int .i64 (tok s pos).at_);have q0:=qI q0;have q1:=qI q1;have q2:=qI q2;have q3:=qI q3;have q4:=qI q4;refine bodyPost_ret (v:=(xY s pos bad).val (.slice a0 (zI s (xE s pos bad) (vQ s pos bad)).fst.length dS)) (by simp[results,Tryz.results186,go_sem,xY,zL.val,zA HN,q0,q1,q2,q3,q4]) rfl ⟨_,rfl,?_⟩;exact zru aG cy iX kQ sj (k5.alloc _) (zA HG)
 ·have BP:xE s pos bad=pos:=by simp[xE,aR]
  have e2:vQ s pos bad=bad:=by simp[vQ,aR]
  have cF:ib (w.alloc (Obj.cells #[.string { data:=#[] },.slice none 0 0,.bool false,.int IntKind.i64 0,.int IntKind.i64 0] 243)) b s (xE s pos bad) (vQ s pos bad):=by rw[BP,e2];exact h'.kept ((zN.refl [] _).alloc _) (by simp)
  have HN:=zC aR;clear aR BP e2;go_enter Tryz.func186,Tryz.ntmps186;go_wp2_with fail;clear c0 c1 c2 c3 c4 c5 fz;refine (MH s (xE s pos bad) (vQ s pos bad) b _ cF (Sb aI) hs).mono ?_;rintro e w2 ⟨tv,rfl,cy,iX,sj,iL⟩;have kQ:=zF iL (show w.heap.size<=_ by simp);have HG:=zC (λ g e=>Nat.lt_of_lt_of_le (show w.heap.size<_ by simp) (iL.lt g e).1);clear cF iL;obtain⟨a0,dS,rfl⟩:=zD kQ;obtain⟨r1,r2⟩:=cy.rules;have hz:w.heap.size<w2.heap.size:=by have:=cy.size;simp at this;omega
  go_wp2_with fail;obtain⟨q0,q1,q2,q3,q4⟩:=z41 ((r1 _ _ aG (by simp)).trans (vK w _ _ _ _ _ _ 0)) ((r1 _ _ aG (by simp)).trans (vK w _ _ _ _ _ _ 1)) ((r1 _ _ aG (by simp)).trans (vK w _ _ _ _ _ _ 2)) ((r1 _ _ aG (by simp)).trans (vK w _ _ _ _ _ _ 3)) ((r1 _ _ aG (by simp)).trans (vK w _ _ _ _ _ _ 4)) (.string (tok s (xE s pos bad)).text) (.slice a0 (zI s (xE s pos bad) (vQ s pos bad)).fst.length dS) (.bool false) (.int .i64 (tok s (xE s pos bad)).at_) (.int .i64 (tok s pos).at_);have k5:=znh w2 w.heap.size (.string (tok s (xE s pos bad)).text) (.slice a0 (zI s (xE s pos bad) (vQ s pos bad)).fst.length dS) (.bool false) (.int .i64 (tok s (xE s pos bad)).at_) (.int .i64 (tok s pos).at_);have q0:=qI q0;have q1:=qI q1;have q2:=qI q2;have q3:=qI q3;have q4:=qI q4;refine bodyPost_ret (v:=(xY s pos bad).val (.slice a0 (zI s (xE s pos bad) (vQ s pos bad)).fst.length dS)) (by simp[results,Tryz.results186,go_sem,xY,zL.val,zA HN,q0,q1,q2,q3,q4]) rfl ⟨_,rfl,?_⟩;exact zru aG cy iX kQ sj (k5.alloc _) (zA HG)
 ·have BP:xE s pos bad=pos:=by simp[xE,aR]
  have e2:vQ s pos bad=bad:=by simp[vQ,aR]
  have cF:ib (w.alloc (Obj.cells #[.string { data:=#[] },.slice none 0 0,.bool false,.int IntKind.i64 0,.int IntKind.i64 0] 243)) b s (xE s pos bad) (vQ s pos bad):=by rw[BP,e2];exact h'.kept ((zN.refl [] _).alloc _) (by simp)
  have HN:=zC aR;clear aR BP e2;go_enter Tryz.func186,Tryz.ntmps186;go_wp2_with fail;clear c0 c1 c2 c3 c4 c5 fz;refine (MH s (xE s pos bad) (vQ s pos bad) b _ cF (Sb aI) hs).mono ?_;rintro e w2 ⟨tv,rfl,cy,iX,sj,iL⟩;have kQ:=zF iL (show w.heap.size<=_ by simp);have HG:=zC (λ g e=>Nat.lt_of_lt_of_le (show w.heap.size<_ by simp) (iL.lt g e).1);clear cF iL;obtain⟨a0,dS,rfl⟩:=zD kQ;obtain⟨r1,r2⟩:=cy.rules;have hz:w.heap.size<w2.heap.size:=by have:=cy.size;simp at this;omega
  go_wp2_with fail;obtain⟨q0,q1,q2,q3,q4⟩:=z41 ((r1 _ _ aG (by simp)).trans (vK w _ _ _ _ _ _ 0)) ((r1 _ _ aG (by simp)).trans (vK w _ _ _ _ _ _ 1)) ((r1 _ _ aG (by simp)).trans (vK w _ _ _ _ _ _ 2)) ((r1 _ _ aG (by simp)).trans (vK w _ _ _ _ _ _ 3)) ((r1 _ _ aG (by simp)).trans (vK w _ _ _ _ _ _ 4)) (.string (tok s (xE s pos bad)).text) (.slice a0 (zI s (xE s pos bad) (vQ s pos bad)).fst.length dS) (.bool false) (.int .i64 (tok s (xE s pos bad)).at_) (.int .i64 (tok s pos).at_);have k5:=znh w2 w.heap.size (.string (tok s (xE s pos bad)).text) (.slice a0 (zI s (xE s pos bad) (vQ s pos bad)).fst.length dS) (.bool false) (.int .i64 (tok s (xE s pos bad)).at_) (.int .i64 (tok s pos).at_);have q0:=qI q0;have q1:=qI q1;have q2:=qI q2;have q3:=qI q3;have q4:=qI q4;refine bodyPost_ret (v:=(xY s pos bad).val (.slice a0 (zI s (xE s pos bad) (vQ s pos bad)).fst.length dS)) (by simp[results,Tryz.results186,go_sem,xY,zL.val,zA HN,q0,q1,q2,q3,q4]) rfl ⟨_,rfl,?_⟩;exact zru aG cy iX kQ sj (k5.alloc _) (zA HG)
end
end Go.Proofs.YtldkpahaocjdpaaGreat
