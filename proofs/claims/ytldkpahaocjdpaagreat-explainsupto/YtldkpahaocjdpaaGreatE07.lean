/-
  The reference's parser: atom, where no name comes next: what it answers is the plain text's atom (RefAtomS), its terms in a row of its own.
-/
import Derived.Test.YtldkpahaocjdpaaGreatE05
set_option maxHeartbeats 16000000
set_option maxRecDepth 1000000
namespace Go.Proofs.YtldkpahaocjdpaaGreat
section
open Go.RowKit
theorem z1c (s:B8)(pos:Nat)(bad:Int)(b:Nat)(w:W8)(h:dS w b s pos bad)(aJ:pos<=s.size)(hs:s.size<=maxLen)(sP:((tok s pos).kind != 110)=true):
  Calls Tryz.prog 184 #[.pointer (some ⟨b,0,none⟩)] w λ e w'=>∃ v,e=.returned (.agg #[.string (tok s pos).text,v,.bool false,.int .i64 (tok s pos).at_,.int .i64 0])/\zK [b] w w'/\dS w' b s (zH s pos bad).2.1 (zH s pos bad).2.2/\(zH s pos bad).2.1<=s.size/\w'.ownsRow w.heap.size 317 3 v (zH s pos bad).1.length (cellsOf (zH s pos bad).1):=by
 obtain⟨i0,hi,bL,aY,bg⟩:=info_parts zph;have f93:=z2a;have h':=h;obtain⟨aH,c0,c1,c2,c3,c4,c5,fz⟩:=h;have hB:z6 s pos bad=zaw s pos bad:=by simp[z6,sP]
 go_enter Tryz.func184,Tryz.ntmps184;have HB:=zC hB;clear hB;go_wp2_with fail;refine (za0 s pos bad b _ (h'.kept (((zK.refl [] _).alloc _).alloc _) (by simp))).mono ?_;rintro e w0 ⟨rfl,iA,dV⟩;rw[<-zA HB] at dV;go_wp2_with fail;refine (jQ s pos (z6 s pos bad) b _ dV aJ hs).mono ?_;rintro e w1 ⟨rfl,KN,bI⟩;have aW:=iA.trans KN;clear KN iA dV;unfold vH;obtain⟨r1,r2⟩:=aW.rules;have hz:w.heap.size+1<w1.heap.size:=by have:=aW.size;simp at this;omega
 go_wp2_with fail;clear f93;refine (zao s _ _ _ b _ (bI.kept ((zK.refl [w.heap.size+1] _).setCell (by simp) _) (by simp;omega)) (zR _ _ _ aJ) hs).mono ?_;rintro e w2 ⟨rfl,bn,eZ⟩;have aP:=znx aH (vT (zR _ _ _ aJ)) aW bn eZ;have n9:zH s pos bad=if dZ s (zW s pos (z6 s pos bad)) (zU s pos (z6 s pos bad)) { data:=#[40] } then qG s 5 (vF s (zW s pos (z6 s pos bad)) (zU s pos (z6 s pos bad)) { data:=#[40] }) (vO s (zW s pos (z6 s pos bad)) (zU s pos (z6 s pos bad)) { data:=#[40] }) [] else ([],vF s (zW s pos (z6 s pos bad)) (zU s pos (z6 s pos bad)) { data:=#[40] },vO s (zW s pos (z6 s pos bad)) (zU s pos (z6 s pos bad)) { data:=#[40] }):=rfl;clear aW bn bI eZ r1 r2 c0 c1 c2 c3 c4 c5 fz h' HB sP hz;generalize vF s (zW s pos (z6 s pos bad)) (zU s pos (z6 s pos bad)) { data:=#[40] }=p3 at *;generalize vO s (zW s pos (z6 s pos bad)) (zU s pos (z6 s pos bad)) { data:=#[40] }=b3 at *;generalize dZ s (zW s pos (z6 s pos bad)) (zU s pos (z6 s pos bad)) { data:=#[40] }=o3 at *;have HR:=zC n9;clear n9;go_wp2_with fail
 go_loopg [4] 7 (λ g op wr=>∃ (l:List xD) (p:Nat) (bd:Int) (o:Bool) (v:Value),op=.bool o/\(o=true->l.length<=4)/\(if o then 7-l.length else 0)<=g/\ud w b s (tok s pos).text (tok s pos).at_ l p bd v wr/\zH s pos bad=(if o then qG s (5-l.length) p bd l else (l,p,bd)))
 exact⟨[],p3,b3,o3,_,rfl,by simp,by split <;> simp,aP,zA HR⟩
 case round=>
  clear HR aP;obtain⟨l,p,bd,o,v,rfl,El,hg,hinv,aE⟩:=hrel;have HF:=zC aE;clear aE;obtain⟨a0,cH,rfl⟩:=zD hinv.own;have sY:=hinv.bq;have bt:=hinv.hp;have bj:=hinv.sz
  cases o with
  | false=>
   obtain⟨x0,x1,x2,x3,x4,xf⟩:=hinv.ac;obtain⟨y0,y1,y2,y3,y4,yf⟩:=hinv.rc;clear El;go_wp2_with fail;obtain⟨q0,q1,q2,q3,q4⟩:=z8l y0 y1 y2 y3 y4 (.string (tok s pos).text) (.slice a0 l.length cH) (.bool false) (.int .i64 (tok s pos).at_) (.int .i64 0);have mN:=hinv.ends (zpi wr w.heap.size (.string (tok s pos).text) (.slice a0 l.length cH) (.bool false) (.int .i64 (tok s pos).at_) (.int .i64 0));have hF:zH s pos bad=(l,p,bd):=zA HF;refine bodyPost_ret (v:=.agg #[.string (tok s pos).text,.slice a0 l.length cH,.bool false,.int .i64 (tok s pos).at_,.int .i64 0]) (by simp[results,Tryz.results184,go_sem,q0,q1,q2,q3,q4]) rfl ⟨.slice a0 l.length cH,rfl,?_⟩;rw[hF];exact mN
  | true=>
   have lA:l.length<=4:=El rfl;clear El;have aP:=zm0 s p bd l lA;have aC:=zC ((zA HF).trans aP);clear HF aP;have Qe:(l.length:Int)<=4:=(by omega);obtain⟨Gg,c0,c1,c2,c3,c4,c5,fz⟩:=hinv.bq;obtain⟨x0,x1,x2,x3,x4,xf⟩:=hinv.ac;have FK:(((tok s p).kind != 110)=true/\((tok s p).kind != 118)=true/\zQ s p bd l.length=zaw s p bd) \/
     (((tok s p).kind != 110)=false/\((l.length:Int)==4)=true/\zQ s p bd l.length=zaw s p bd) \/
     (((tok s p).kind != 110)=true/\((tok s p).kind != 118)=false/\((l.length:Int)==4)=true/\zQ s p bd l.length=zaw s p bd) \/
     (((tok s p).kind != 110)=false/\((l.length:Int)==4)=false/\zQ s p bd l.length=bd) \/
     (((tok s p).kind != 110)=true/\((tok s p).kind != 118)=false/\((l.length:Int)==4)=false/\zQ s p bd l.length=bd):=zri s p bd l
   rcases FK with⟨t1,t2,tb⟩ | ⟨t1,t2,tb⟩ | ⟨t1,t2,t3,tb⟩ | ⟨t1,t2,tb⟩ | ⟨t1,t2,t3,tb⟩
   ·skip
    have TB:=zC tb;clear tb;go_wp2_with fail;refine (za0 s p bd b _ sY).mono ?_;rintro e w0 ⟨rfl,iA,dV⟩;rw[<-zA TB] at dV;have aM:=hinv.call iA dV bt;clear iA dV c0 c1 c2 c3 c4 c5 fz x0 x1 x2 x3 x4 xf;go_wp2_with fail;refine (jQ s p (zQ s p bd l.length) b _ aM.bq bt hs).mono ?_;rintro e w1 ⟨rfl,aW,bI⟩;unfold vH;have aG:=aM.call aW bI (zR _ _ _ bt);have aK:w.heap.size+1<w1.heap.size:=(by have:=aG.sz;omega);obtain⟨d0,d1,d2,d3,d4,lg⟩:=aG.ac;have aN:=aG.own;clear aW bI aM;go_wp2_with (at_builtin;refine wpList_append_own _ rfl _ _ 241 rfl (w.heap.size+2) 317 i0 _ 3 32 Tryz.underlying241 hi bL aY bg rfl (by decide) _ _ _ rfl ((aN.alloc _).alloc _) ⟨w1.heap.size+1,0,none⟩ 1 1 (z7 s p).cells rfl rfl (zai w1 _ (z7 s p)) (zbq _) (by unfold maxLen;omega) (by omega) (by simp;omega) ?_);intro v5 w5 aq aU hne5;clear hne5;obtain⟨a5,eH,rfl⟩:=zD aq;obtain⟨aI,e0,e1,e2,e3,e4,mI⟩:=aG.append (z7 s p) aq aU;have dC:w.heap.size+1<w5.heap.size:=(by have:=aI.sz;simp at this;omega);clear aq aU d0 d1 d2 d3 d4 lg aN aG;go_wp2_with fail;refine (zao s _ _ _ b _ aI.bq (zR _ _ _ bt) hs).mono ?_;rintro e w7 ⟨rfl,dR,ic⟩;have aD:=aI.call dR ic (vT (zR _ _ _ bt));clear dR ic aI e0 e1 e2 e3 e4 mI dC
    cases hm:dZ s (zW s p (zQ s p bd l.length)) (zU s p (zQ s p bd l.length)) { data:=#[44] } with
    | true=>
     have aO:=zC ((zA aC).trans (if_pos hm));have bh:=zdq lA hm;clear hm aC;go_wp2_with fail;go_roundg (7-(l++[z7 s p]).length);exact⟨l++[z7 s p],_,_,true,_,rfl,λ _=>by simp;omega,by simp,aD,zA aO⟩;simp at hg ⊢;omega
    | false=>
     have aO:=zC ((zA aC).trans (if_neg (by rw[hm];decide)));clear hm aC;go_wp2_with fail;refine (za8 s _ _ _ b _ aD.bq aD.hp hs).mono ?_;rintro e w8 ⟨rfl,gB,ft⟩;have bU:=aD.call gB ft (zR _ _ _ aD.hp);clear gB ft aD;go_wp2_with fail;go_roundg 0;exact⟨l++[z7 s p],_,_,false,_,rfl,by simp,by simp,bU,zA aO⟩;simp at hg ⊢;omega
   ·skip
    have TB:=zC tb;clear tb;go_wp2_with fail;refine (za0 s p bd b _ sY).mono ?_;rintro e w0 ⟨rfl,iA,dV⟩;rw[<-zA TB] at dV;have aM:=hinv.call iA dV bt;clear iA dV c0 c1 c2 c3 c4 c5 fz x0 x1 x2 x3 x4 xf;go_wp2_with fail;refine (jQ s p (zQ s p bd l.length) b _ aM.bq bt hs).mono ?_;rintro e w1 ⟨rfl,aW,bI⟩;unfold vH;have aG:=aM.call aW bI (zR _ _ _ bt);have aK:w.heap.size+1<w1.heap.size:=(by have:=aG.sz;omega);obtain⟨d0,d1,d2,d3,d4,lg⟩:=aG.ac;have aN:=aG.own;clear aW bI aM;go_wp2_with (at_builtin;refine wpList_append_own _ rfl _ _ 241 rfl (w.heap.size+2) 317 i0 _ 3 32 Tryz.underlying241 hi bL aY bg rfl (by decide) _ _ _ rfl ((aN.alloc _).alloc _) ⟨w1.heap.size+1,0,none⟩ 1 1 (z7 s p).cells rfl rfl (zai w1 _ (z7 s p)) (zbq _) (by unfold maxLen;omega) (by omega) (by simp;omega) ?_);intro v5 w5 aq aU hne5;clear hne5;obtain⟨a5,eH,rfl⟩:=zD aq;obtain⟨aI,e0,e1,e2,e3,e4,mI⟩:=aG.append (z7 s p) aq aU;have dC:w.heap.size+1<w5.heap.size:=(by have:=aI.sz;simp at this;omega);clear aq aU d0 d1 d2 d3 d4 lg aN aG;go_wp2_with fail;refine (zao s _ _ _ b _ aI.bq (zR _ _ _ bt) hs).mono ?_;rintro e w7 ⟨rfl,dR,ic⟩;have aD:=aI.call dR ic (vT (zR _ _ _ bt));clear dR ic aI e0 e1 e2 e3 e4 mI dC
    cases hm:dZ s (zW s p (zQ s p bd l.length)) (zU s p (zQ s p bd l.length)) { data:=#[44] } with
    | true=>
     have aO:=zC ((zA aC).trans (if_pos hm));have bh:=zdq lA hm;clear hm aC;go_wp2_with fail;go_roundg (7-(l++[z7 s p]).length);exact⟨l++[z7 s p],_,_,true,_,rfl,λ _=>by simp;omega,by simp,aD,zA aO⟩;simp at hg ⊢;omega
    | false=>
     have aO:=zC ((zA aC).trans (if_neg (by rw[hm];decide)));clear hm aC;go_wp2_with fail;refine (za8 s _ _ _ b _ aD.bq aD.hp hs).mono ?_;rintro e w8 ⟨rfl,gB,ft⟩;have bU:=aD.call gB ft (zR _ _ _ aD.hp);clear gB ft aD;go_wp2_with fail;go_roundg 0;exact⟨l++[z7 s p],_,_,false,_,rfl,by simp,by simp,bU,zA aO⟩;simp at hg ⊢;omega
   ·skip
    have TB:=zC tb;clear tb;go_wp2_with fail;refine (za0 s p bd b _ sY).mono ?_;rintro e w0 ⟨rfl,iA,dV⟩;rw[<-zA TB] at dV;have aM:=hinv.call iA dV bt;clear iA dV c0 c1 c2 c3 c4 c5 fz x0 x1 x2 x3 x4 xf;go_wp2_with fail;refine (jQ s p (zQ s p bd l.length) b _ aM.bq bt hs).mono ?_;rintro e w1 ⟨rfl,aW,bI⟩;unfold vH;have aG:=aM.call aW bI (zR _ _ _ bt);have aK:w.heap.size+1<w1.heap.size:=(by have:=aG.sz;omega);obtain⟨d0,d1,d2,d3,d4,lg⟩:=aG.ac;have aN:=aG.own;clear aW bI aM;go_wp2_with (at_builtin;refine wpList_append_own _ rfl _ _ 241 rfl (w.heap.size+2) 317 i0 _ 3 32 Tryz.underlying241 hi bL aY bg rfl (by decide) _ _ _ rfl ((aN.alloc _).alloc _) ⟨w1.heap.size+1,0,none⟩ 1 1 (z7 s p).cells rfl rfl (zai w1 _ (z7 s p)) (zbq _) (by unfold maxLen;omega) (by omega) (by simp;omega) ?_);intro v5 w5 aq aU hne5;clear hne5;obtain⟨a5,eH,rfl⟩:=zD aq;obtain⟨aI,e0,e1,e2,e3,e4,mI⟩:=aG.append (z7 s p) aq aU;have dC:w.heap.size+1<w5.heap.size:=(by have:=aI.sz;simp at this;omega);clear aq aU d0 d1 d2 d3 d4 lg aN aG;go_wp2_with fail;refine (zao s _ _ _ b _ aI.bq (zR _ _ _ bt) hs).mono ?_;rintro e w7 ⟨rfl,dR,ic⟩;have aD:=aI.call dR ic (vT (zR _ _ _ bt));clear dR ic aI e0 e1 e2 e3 e4 mI dC
    cases hm:dZ s (zW s p (zQ s p bd l.length)) (zU s p (zQ s p bd l.length)) { data:=#[44] } with
    | true=>
     have aO:=zC ((zA aC).trans (if_pos hm));have bh:=zdq lA hm;clear hm aC;go_wp2_with fail;go_roundg (7-(l++[z7 s p]).length);exact⟨l++[z7 s p],_,_,true,_,rfl,λ _=>by simp;omega,by simp,aD,zA aO⟩;simp at hg ⊢;omega
    | false=>
     have aO:=zC ((zA aC).trans (if_neg (by rw[hm];decide)));clear hm aC;go_wp2_with fail;refine (za8 s _ _ _ b _ aD.bq aD.hp hs).mono ?_;rintro e w8 ⟨rfl,gB,ft⟩;have bU:=aD.call gB ft (zR _ _ _ aD.hp);clear gB ft aD;go_wp2_with fail;go_roundg 0;exact⟨l++[z7 s p],_,_,false,_,rfl,by simp,by simp,bU,zA aO⟩;simp at hg ⊢;omega
   ·skip
    have TB:=zC tb;clear tb;go_wp2_with fail;have aM:ud w b s (tok s pos).text (tok s pos).at_ l p (zQ s p bd l.length) (.slice a0 l.length cH) wr:=(by rw[zA TB];exact hinv);clear c0 c1 c2 c3 c4 c5 fz x0 x1 x2 x3 x4 xf;refine (jQ s p (zQ s p bd l.length) b _ aM.bq bt hs).mono ?_;rintro e w1 ⟨rfl,aW,bI⟩;unfold vH;have aG:=aM.call aW bI (zR _ _ _ bt);have aK:w.heap.size+1<w1.heap.size:=(by have:=aG.sz;omega);obtain⟨d0,d1,d2,d3,d4,lg⟩:=aG.ac;have aN:=aG.own;clear aW bI aM;go_wp2_with (at_builtin;refine wpList_append_own _ rfl _ _ 241 rfl (w.heap.size+2) 317 i0 _ 3 32 Tryz.underlying241 hi bL aY bg rfl (by decide) _ _ _ rfl ((aN.alloc _).alloc _) ⟨w1.heap.size+1,0,none⟩ 1 1 (z7 s p).cells rfl rfl (zai w1 _ (z7 s p)) (zbq _) (by unfold maxLen;omega) (by omega) (by simp;omega) ?_);intro v5 w5 aq aU hne5;clear hne5;obtain⟨a5,eH,rfl⟩:=zD aq;obtain⟨aI,e0,e1,e2,e3,e4,mI⟩:=aG.append (z7 s p) aq aU;have dC:w.heap.size+1<w5.heap.size:=(by have:=aI.sz;simp at this;omega);clear aq aU d0 d1 d2 d3 d4 lg aN aG;go_wp2_with fail;refine (zao s _ _ _ b _ aI.bq (zR _ _ _ bt) hs).mono ?_;rintro e w7 ⟨rfl,dR,ic⟩;have aD:=aI.call dR ic (vT (zR _ _ _ bt));clear dR ic aI e0 e1 e2 e3 e4 mI dC
    cases hm:dZ s (zW s p (zQ s p bd l.length)) (zU s p (zQ s p bd l.length)) { data:=#[44] } with
    | true=>
     have aO:=zC ((zA aC).trans (if_pos hm));have bh:=zdq lA hm;clear hm aC;go_wp2_with fail;go_roundg (7-(l++[z7 s p]).length);exact⟨l++[z7 s p],_,_,true,_,rfl,λ _=>by simp;omega,by simp,aD,zA aO⟩;simp at hg ⊢;omega
    | false=>
     have aO:=zC ((zA aC).trans (if_neg (by rw[hm];decide)));clear hm aC;go_wp2_with fail;refine (za8 s _ _ _ b _ aD.bq aD.hp hs).mono ?_;rintro e w8 ⟨rfl,gB,ft⟩;have bU:=aD.call gB ft (zR _ _ _ aD.hp);clear gB ft aD;go_wp2_with fail;go_roundg 0;exact⟨l++[z7 s p],_,_,false,_,rfl,by simp,by simp,bU,zA aO⟩;simp at hg ⊢;omega
   ·skip
    have TB:=zC tb;clear tb;go_wp2_with fail;have aM:ud w b s (tok s pos).text (tok s pos).at_ l p (zQ s p bd l.length) (.slice a0 l.length cH) wr:=(by rw[zA TB];exact hinv);clear c0 c1 c2 c3 c4 c5 fz x0 x1 x2 x3 x4 xf;refine (jQ s p (zQ s p bd l.length) b _ aM.bq bt hs).mono ?_;rintro e w1 ⟨rfl,aW,bI⟩;unfold vH;have aG:=aM.call aW bI (zR _ _ _ bt);have aK:w.heap.size+1<w1.heap.size:=(by have:=aG.sz;omega);obtain⟨d0,d1,d2,d3,d4,lg⟩:=aG.ac;have aN:=aG.own;clear aW bI aM;go_wp2_with (at_builtin;refine wpList_append_own _ rfl _ _ 241 rfl (w.heap.size+2) 317 i0 _ 3 32 Tryz.underlying241 hi bL aY bg rfl (by decide) _ _ _ rfl ((aN.alloc _).alloc _) ⟨w1.heap.size+1,0,none⟩ 1 1 (z7 s p).cells rfl rfl (zai w1 _ (z7 s p)) (zbq _) (by unfold maxLen;omega) (by omega) (by simp;omega) ?_);intro v5 w5 aq aU hne5;clear hne5;obtain⟨a5,eH,rfl⟩:=zD aq;obtain⟨aI,e0,e1,e2,e3,e4,mI⟩:=aG.append (z7 s p) aq aU;have dC:w.heap.size+1<w5.heap.size:=(by have:=aI.sz;simp at this;omega);clear aq aU d0 d1 d2 d3 d4 lg aN aG;go_wp2_with fail;refine (zao s _ _ _ b _ aI.bq (zR _ _ _ bt) hs).mono ?_;rintro e w7 ⟨rfl,dR,ic⟩;have aD:=aI.call dR ic (vT (zR _ _ _ bt));clear dR ic aI e0 e1 e2 e3 e4 mI dC
    cases hm:dZ s (zW s p (zQ s p bd l.length)) (zU s p (zQ s p bd l.length)) { data:=#[44] } with
    | true=>
     have aO:=zC ((zA aC).trans (if_pos hm));have bh:=zdq lA hm;clear hm aC;go_wp2_with fail;go_roundg (7-(l++[z7 s p]).length);exact⟨l++[z7 s p],_,_,true,_,rfl,λ _=>by simp;omega,by simp,aD,zA aO⟩;simp at hg ⊢;omega
    | false=>
     have aO:=zC ((zA aC).trans (if_neg (by rw[hm];decide)));clear hm aC;go_wp2_with fail;refine (za8 s _ _ _ b _ aD.bq aD.hp hs).mono ?_;rintro e w8 ⟨rfl,gB,ft⟩;have bU:=aD.call gB ft (zR _ _ _ aD.hp);clear gB ft aD;go_wp2_with fail;go_roundg 0;exact⟨l++[z7 s p],_,_,false,_,rfl,by simp,by simp,bU,zA aO⟩;simp at hg ⊢;omega
end
section
open Go.RowKit
theorem Mn (s:B8)(pos:Nat)(bad:Int)(b:Nat)(w:W8)(h:dS w b s pos bad)(aJ:pos<=s.size)(hs:s.size<=maxLen):
  Calls Tryz.prog 184 #[.pointer (some ⟨b,0,none⟩)] w λ e w'=>∃ v,e=.returned (.agg #[.string (tok s pos).text,v,.bool false,.int .i64 (tok s pos).at_,.int .i64 0])/\zK [b] w w'/\dS w' b s (zH s pos bad).2.1 (zH s pos bad).2.2/\(zH s pos bad).2.1<=s.size/\w'.ownsRow w.heap.size 317 3 v (zH s pos bad).1.length (cellsOf (zH s pos bad).1):=by
 cases hk:(tok s pos).kind != 110 with
 | false=>exact z1b s pos bad b w h aJ hs hk
 | true=>exact z1c s pos bad b w h aJ hs hk
end
section
open Go.RowKit
def zj4 (s:B8)(pos:Nat)(bad:Int):Bool:=decide (bad<0)&&(tok s pos).kind==119
def yW (s:B8)(pos:Nat)(bad:Int):Nat:=if zj4 s pos bad then zW s pos bad else pos
def vS (s:B8)(pos:Nat)(bad:Int):Int:=if zj4 s pos bad then zU s pos bad else bad
def vB (s:B8)(pos:Nat)(bad:Int):zL:=
 ⟨(tok s (yW s pos bad)).text,(zH s (yW s pos bad) (vS s pos bad)).1,zj4 s pos bad,(tok s (yW s pos bad)).at_,(tok s pos).at_⟩
def yE (s:B8)(pos:Nat)(bad:Int):Nat × Int:=(zH s (yW s pos bad) (vS s pos bad)).2
def zL.val (A:zL)(tv:Value):Value:=.agg #[.string A.pred,tv,.bool A.no,.int .i64 A.at_,.int .i64 A.az]
theorem vM (w:W8)(a b c d e:Value)(t:TypeId)(j:Nat):(w.alloc (.cells #[a,b,c,d,e] t)).cell? ⟨w.heap.size,j,none⟩=#[a,b,c,d,e][j]?:=by
 rw[World.cell?_alloc_at _ _ _ _ rfl]
variable {w:W8}
theorem qY {n j:Nat}{v:Value}(h:w.cell? ⟨n,j,none⟩=some v)(o:Obj):(w.alloc o).cell? ⟨n,j,none⟩=some v:=by
 rw[World.cell?_alloc_past _ _ _ (World.block_lt_of_cell? w ⟨n,j,none⟩ h)];exact h
variable {bad:Int} {pos:Nat} {s:B8}
theorem RT (h:pos<=s.size):yW s pos bad<=s.size:=by
 unfold yW;split
 ·exact zR s pos bad h
 ·exact h
theorem zud {b:Nat}{w2 w':W8}{o:Obj}{tv:Value}(aH:b<w.heap.size)(bn:zK [b] (w.alloc o) w2)(eZ:dS w2 b s (zH s (yW s pos bad) (vS s pos bad)).2.1 (zH s (yW s pos bad) (vS s pos bad)).2.2)
  (ay:w2.ownsRow w.heap.size 317 3 tv (zH s (yW s pos bad) (vS s pos bad)).1.length (cellsOf (zH s (yW s pos bad) (vS s pos bad)).1)) (lh:(zH s (yW s pos bad) (vS s pos bad)).2.1<=s.size) (k:zK [w.heap.size] w2 w') (aB:∀ g,tv.ownBlock=some g->w.heap.size<g):
  zK [b] w w'/\dS w' b s (yE s pos bad).1 (yE s pos bad).2/\(yE s pos bad).1<=s.size/\w'.ownsRow w.heap.size 317 3 tv (vB s pos bad).ae.length (cellsOf (vB s pos bad).ae):=by
 have hx:=((zK.refl [b] w).alloc o).trans bn;refine⟨⟨k.os.trans hx.os,k.tape.trans hx.tape,k.output.trans hx.output,Nat.le_trans hx.size k.size,λ i hi hn=>(k.block i (Nat.lt_of_lt_of_le hi hx.size) (by simp;omega)).trans (hx.block i hi hn)⟩,eZ.kept k (by simp;omega),lh,?_⟩;refine⟨ay.1,?_⟩;rcases ay.2 with hn | ⟨g,cap,cur,rfl,hb,bS,rest⟩
 ·exact .inl hn
 ·refine .inr ⟨g,cap,cur,rfl,hb,?_,rest⟩;have:=aB g rfl;rw[k.block g (Array.getElem?_eq_some_iff.1 bS).1 (by simp;omega)];exact bS
theorem z27 (s:B8)(pos:Nat)(bad:Int)(b:Nat)(w:W8)(h:dS w b s pos bad)(aJ:pos<=s.size)(hs:s.size<=maxLen):
  Calls Tryz.prog 186 #[.pointer (some ⟨b,0,none⟩)] w λ e w'=>∃ tv,e=.returned ((vB s pos bad).val tv)/\zK [b] w w'/\dS w' b s (yE s pos bad).1 (yE s pos bad).2/\(yE s pos bad).1<=s.size/\w'.ownsRow w.heap.size 317 3 tv (vB s pos bad).ae.length (cellsOf (vB s pos bad).ae):=by
 have h':=h;obtain⟨aH,c0,c1,c2,c3,c4,c5,fz⟩:=h;have three:(bad<0/\((tok s pos).kind==119)=true/\zj4 s pos bad=true)\/(bad<0/\((tok s pos).kind==119)=false/\zj4 s pos bad=false)\/(0<=bad/\zj4 s pos bad=false):=by
  unfold zj4
  by_cases hb:bad<0
  ·cases hk:(tok s pos).kind==119 <;> simp[hb]
  ·exact .inr (.inr ⟨by omega,by simp;omega⟩)
 rcases three with⟨hb,hk,aX⟩ | ⟨hb,hk,aX⟩ | ⟨hb,aX⟩
 ·have e1:yW s pos bad=zW s pos bad:=by simp[yW,aX]
  have e2:vS s pos bad=zU s pos bad:=by simp[vS,aX]
  have HN:=zC aX;have HE:=zC (And.intro e1 e2);clear aX e1 e2;go_enter Tryz.func186,Tryz.ntmps186;go_wp2_with fail;refine (jQ s pos bad b _ (h'.kept ((zK.refl [] _).alloc _) (by simp)) aJ hs).mono ?_;rintro e w1 ⟨rfl,aW,bI⟩;rw[<-(zA HE).1,<-(zA HE).2] at bI;clear c0 c1 c2 c3 c4 c5 fz;go_wp2_with fail;refine (Mn s (yW s pos bad) (vS s pos bad) b _ bI (RT aJ) hs).mono ?_;rintro e w2 ⟨tv,rfl,qw,eZ,lh,ev⟩;have ep:=zG ev (show w.heap.size<=w1.heap.size by have:=aW.size;simp at this;omega);have HG:=zC (λ g e=>Nat.lt_of_lt_of_le (show w.heap.size<w1.heap.size by have:=aW.size;simp at this;omega) (ev.lt g e).1);have bn:=aW.trans qw;clear qw aW bI ev;obtain⟨a0,cH,rfl⟩:=zD ep;obtain⟨r1,r2⟩:=bn.rules;have hz:w.heap.size<w2.heap.size:=by have:=bn.size;simp at this;omega
  go_wp2_with fail;obtain⟨q0,q1,q2,q3,q4⟩:=z8l ((r1 _ _ aH (by simp)).trans (vM w _ _ _ _ _ _ 0)) ((r1 _ _ aH (by simp)).trans (vM w _ _ _ _ _ _ 1)) ((r1 _ _ aH (by simp)).trans (vM w _ _ _ _ _ _ 2)) ((r1 _ _ aH (by simp)).trans (vM w _ _ _ _ _ _ 3)) ((r1 _ _ aH (by simp)).trans (vM w _ _ _ _ _ _ 4)) (.string (tok s (yW s pos bad)).text) (.slice a0 (zH s (yW s pos bad) (vS s pos bad)).fst.length cH) (.bool true) (.int .i64 (tok s (yW s pos bad)).at_) (.int .i64 (tok s pos).at_);have k5:=zpi w2 w.heap.size (.string (tok s (yW s pos bad)).text) (.slice a0 (zH s (yW s pos bad) (vS s pos bad)).fst.length cH) (.bool true) (.int .i64 (tok s (yW s pos bad)).at_) (.int .i64 (tok s pos).at_);have q0:=qY q0;have q1:=qY q1;have q2:=qY q2;have q3:=qY q3;have q4:=qY q4;refine bodyPost_ret (v:=(vB s pos bad).val (.slice a0 (zH s (yW s pos bad) (vS s pos bad)).fst.length cH)) (by simp[results,Tryz.results186,go_sem,vB,zL.val,zA HN,q0,q1,q2,q3,q4]) rfl ⟨_,rfl,?_⟩;exact zud aH bn eZ ep lh (k5.alloc _) (zA HG)
 ·have Aj:yW s pos bad=pos:=by simp[yW,aX]
  have e2:vS s pos bad=bad:=by simp[vS,aX]
  have bI:dS (w.alloc (Obj.cells #[.string { data:=#[] },.slice none 0 0,.bool false,.int IntKind.i64 0,.int IntKind.i64 0] 243)) b s (yW s pos bad) (vS s pos bad):=by rw[Aj,e2];exact h'.kept ((zK.refl [] _).alloc _) (by simp)
  have HN:=zC aX;clear aX Aj e2;go_enter Tryz.func186,Tryz.ntmps186;go_wp2_with fail;clear c0 c1 c2 c3 c4 c5 fz;refine (Mn s (yW s pos bad) (vS s pos bad) b _ bI (RT aJ) hs).mono ?_;rintro e w2 ⟨tv,rfl,bn,eZ,lh,ev⟩;have ep:=zG ev (show w.heap.size<=_ by simp);have HG:=zC (λ g e=>Nat.lt_of_lt_of_le (show w.heap.size<_ by simp) (ev.lt g e).1);clear bI ev;obtain⟨a0,cH,rfl⟩:=zD ep;obtain⟨r1,r2⟩:=bn.rules;have hz:w.heap.size<w2.heap.size:=by have:=bn.size;simp at this;omega
  go_wp2_with fail;obtain⟨q0,q1,q2,q3,q4⟩:=z8l ((r1 _ _ aH (by simp)).trans (vM w _ _ _ _ _ _ 0)) ((r1 _ _ aH (by simp)).trans (vM w _ _ _ _ _ _ 1)) ((r1 _ _ aH (by simp)).trans (vM w _ _ _ _ _ _ 2)) ((r1 _ _ aH (by simp)).trans (vM w _ _ _ _ _ _ 3)) ((r1 _ _ aH (by simp)).trans (vM w _ _ _ _ _ _ 4)) (.string (tok s (yW s pos bad)).text) (.slice a0 (zH s (yW s pos bad) (vS s pos bad)).fst.length cH) (.bool false) (.int .i64 (tok s (yW s pos bad)).at_) (.int .i64 (tok s pos).at_);have k5:=zpi w2 w.heap.size (.string (tok s (yW s pos bad)).text) (.slice a0 (zH s (yW s pos bad) (vS s pos bad)).fst.length cH) (.bool false) (.int .i64 (tok s (yW s pos bad)).at_) (.int .i64 (tok s pos).at_);have q0:=qY q0;have q1:=qY q1;have q2:=qY q2;have q3:=qY q3;have q4:=qY q4;refine bodyPost_ret (v:=(vB s pos bad).val (.slice a0 (zH s (yW s pos bad) (vS s pos bad)).fst.length cH)) (by simp[results,Tryz.results186,go_sem,vB,zL.val,zA HN,q0,q1,q2,q3,q4]) rfl ⟨_,rfl,?_⟩;exact zud aH bn eZ ep lh (k5.alloc _) (zA HG)
 ·have Aj:yW s pos bad=pos:=by simp[yW,aX]
  have e2:vS s pos bad=bad:=by simp[vS,aX]
  have bI:dS (w.alloc (Obj.cells #[.string { data:=#[] },.slice none 0 0,.bool false,.int IntKind.i64 0,.int IntKind.i64 0] 243)) b s (yW s pos bad) (vS s pos bad):=by rw[Aj,e2];exact h'.kept ((zK.refl [] _).alloc _) (by simp)
  have HN:=zC aX;clear aX Aj e2;go_enter Tryz.func186,Tryz.ntmps186;go_wp2_with fail;clear c0 c1 c2 c3 c4 c5 fz;refine (Mn s (yW s pos bad) (vS s pos bad) b _ bI (RT aJ) hs).mono ?_;rintro e w2 ⟨tv,rfl,bn,eZ,lh,ev⟩;have ep:=zG ev (show w.heap.size<=_ by simp);have HG:=zC (λ g e=>Nat.lt_of_lt_of_le (show w.heap.size<_ by simp) (ev.lt g e).1);clear bI ev;obtain⟨a0,cH,rfl⟩:=zD ep;obtain⟨r1,r2⟩:=bn.rules;have hz:w.heap.size<w2.heap.size:=by have:=bn.size;simp at this;omega
  go_wp2_with fail;obtain⟨q0,q1,q2,q3,q4⟩:=z8l ((r1 _ _ aH (by simp)).trans (vM w _ _ _ _ _ _ 0)) ((r1 _ _ aH (by simp)).trans (vM w _ _ _ _ _ _ 1)) ((r1 _ _ aH (by simp)).trans (vM w _ _ _ _ _ _ 2)) ((r1 _ _ aH (by simp)).trans (vM w _ _ _ _ _ _ 3)) ((r1 _ _ aH (by simp)).trans (vM w _ _ _ _ _ _ 4)) (.string (tok s (yW s pos bad)).text) (.slice a0 (zH s (yW s pos bad) (vS s pos bad)).fst.length cH) (.bool false) (.int .i64 (tok s (yW s pos bad)).at_) (.int .i64 (tok s pos).at_);have k5:=zpi w2 w.heap.size (.string (tok s (yW s pos bad)).text) (.slice a0 (zH s (yW s pos bad) (vS s pos bad)).fst.length cH) (.bool false) (.int .i64 (tok s (yW s pos bad)).at_) (.int .i64 (tok s pos).at_);have q0:=qY q0;have q1:=qY q1;have q2:=qY q2;have q3:=qY q3;have q4:=qY q4;refine bodyPost_ret (v:=(vB s pos bad).val (.slice a0 (zH s (yW s pos bad) (vS s pos bad)).fst.length cH)) (by simp[results,Tryz.results186,go_sem,vB,zL.val,zA HN,q0,q1,q2,q3,q4]) rfl ⟨_,rfl,?_⟩;exact zud aH bn eZ ep lh (k5.alloc _) (zA HG)
end
section
open Go.RowKit
def zL.cells (A:zL)(tv:Value):V8:=[.string A.pred,tv,.bool A.no,.int .i64 A.at_,.int .i64 A.az]
def za4 (bs:List (zL × Value)):V8:=bs.flatMap λ x=>x.1.cells x.2
theorem zpm (l:List (zL × Value))(A:zL)(tv:Value):za4 (l++[(A,tv)])=za4 l++A.cells tv:=by simp[za4]
def zX (s:B8)(p:Nat)(bd:Int)(n:Nat):Int:=if n==3 then zaw s p bd else bd
def zco (s:B8):Nat->Nat->Int->List zL->List zL × Nat × Int
 | 0,p,bd,l=>(l,p,bd)
 | f+1,p,bd,l=>
  if dZ s (yE s p (zX s p bd l.length)).1 (yE s p (zX s p bd l.length)).2 { data:=#[44] } then
   zco s f (vF s (yE s p (zX s p bd l.length)).1 (yE s p (zX s p bd l.length)).2 { data:=#[44] }) (vO s (yE s p (zX s p bd l.length)).1 (yE s p (zX s p bd l.length)).2 { data:=#[44] }) (l++[vB s p (zX s p bd l.length)])
  else (l++[vB s p (zX s p bd l.length)],vF s (yE s p (zX s p bd l.length)).1 (yE s p (zX s p bd l.length)).2 { data:=#[44] },vO s (yE s p (zX s p bd l.length)).1 (yE s p (zX s p bd l.length)).2 { data:=#[44] })
structure zS where
 head:zL
 body:List zL
def zI (s:B8)(pos:Nat)(bad:Int):zL:=⟨(tok s pos).text,(zH s pos bad).1,false,(tok s pos).at_,0⟩
def jM (s:B8)(pos:Nat)(bad:Int):List zL × Nat × Int:=
 if dZ s (zH s pos bad).2.1 (zH s pos bad).2.2 { data:=#[58,45] } then
  zco s 4 (vF s (zH s pos bad).2.1 (zH s pos bad).2.2 { data:=#[58,45] }) (vO s (zH s pos bad).2.1 (zH s pos bad).2.2 { data:=#[58,45] }) []
 else ([],vF s (zH s pos bad).2.1 (zH s pos bad).2.2 { data:=#[58,45] },vO s (zH s pos bad).2.1 (zH s pos bad).2.2 { data:=#[58,45] })
def zb2 (s:B8)(pos:Nat)(bad:Int):Nat:=zW s (jM s pos bad).2.1 (xM s (jM s pos bad).2.1 (jM s pos bad).2.2 { data:=#[46] })
def jK (s:B8)(pos:Nat)(bad:Int):Int:=zU s (jM s pos bad).2.1 (xM s (jM s pos bad).2.1 (jM s pos bad).2.2 { data:=#[46] })
variable {wd s:B8} {bd:Int} {p:Nat}
theorem zbv (h:0<=bd):0<=vO s p bd wd:=by
 unfold vO;split
 ·exact jL h
 ·exact h
theorem zoc (h:0<=bd):0<=xM s p bd wd:=by
 unfold xM;split
 ·exact h
 ·exact j7 _ _ _
variable {n:Nat}
theorem zp8 (h:0<=bd):0<=zQ s p bd n:=by
 unfold zQ;split
 ·exact j7 _ _ _
 ·exact h
theorem zvb (f:Nat):∀ {p:Nat} {bd:Int} {l:List xD},0<=bd->0<=(qG s f p bd l).2.2:=by
 induction f with
 | zero=>intro p bd l h;exact h
 | succ f ih=>
  intro p bd l h;have h1:0<=zU s p (zQ s p bd l.length):=jL (zp8 h);rw[qG]
  split
  ·exact ih (zbv h1)
  ·exact jL (zoc (zbv h1))
theorem zny (h:0<=bd):0<=(zH s p bd).2.2:=by
 have h0:0<=z6 s p bd:=by
  unfold z6;split
  ·exact j7 _ _ _
  ·exact h
 have h1:0<=zaj s p bd:=jL h0;unfold zH
 split
 ·exact zvb 5 (zbv h1)
 ·exact zbv h1
theorem zrs (h:0<=bd):0<=(yE s p bd).2:=by
 unfold yE;refine zny ?_;unfold vS;split
 ·exact jL h
 ·exact h
theorem zwg (h3:n<=3)(h:dZ s (yE s p (zX s p bd n)).1 (yE s p (zX s p bd n)).2 wd=true):n+1<=3:=by
 rcases Nat.lt_or_ge n 3 with h1 | h1
 ·omega
 ·have e:n=3:=by omega
  subst e;have h2:=z2s h;have h4:0<=zX s p bd 3:=by simp[zX];exact j7 _ _ _
  have h5:=zrs (s:=s) (p:=p) h4;omega
theorem zxv (s:B8)(p:Nat)(bd:Int)(l:List zL)(h:l.length<=3):zco s (4-l.length) p bd l =
  if dZ s (yE s p (zX s p bd l.length)).1 (yE s p (zX s p bd l.length)).2 { data:=#[44] } then
   zco s (4-(l++[vB s p (zX s p bd l.length)]).length) (vF s (yE s p (zX s p bd l.length)).1 (yE s p (zX s p bd l.length)).2 { data:=#[44] }) (vO s (yE s p (zX s p bd l.length)).1 (yE s p (zX s p bd l.length)).2 { data:=#[44] }) (l++[vB s p (zX s p bd l.length)])
  else (l++[vB s p (zX s p bd l.length)],vF s (yE s p (zX s p bd l.length)).1 (yE s p (zX s p bd l.length)).2 { data:=#[44] },vO s (yE s p (zX s p bd l.length)).1 (yE s p (zX s p bd l.length)).2 { data:=#[44] }):=by
 have e1:4-l.length=(3-l.length)+1:=by omega
 have e2:4-(l++[vB s p (zX s p bd l.length)]).length=3-l.length:=by simp
 rw[e1,e2,zco]
structure Cn (w:W8)(n:Nat)(A:zL)(hv bv:Value):Prop where
 c0:w.cell? ⟨n,0,none⟩=some (.string A.pred)
 c1:w.cell? ⟨n,1,none⟩=some hv
 c2:w.cell? ⟨n,2,none⟩=some (.bool A.no)
 c3:w.cell? ⟨n,3,none⟩=some (.int .i64 A.at_)
 c4:w.cell? ⟨n,4,none⟩=some (.int .i64 A.az)
 c5:w.cell? ⟨n,5,none⟩=some bv
 fz:∀ o,w.frozen? ⟨n,o,none⟩=false
variable {hv bv:Value} {A:zL} {w w':W8}
theorem Cn.kept {B:List Nat}(h:Cn w n A hv bv)(k:zK B w w')(aH:n<w.heap.size)(hn:n∉B):Cn w' n A hv bv:=
 ⟨(k.cell aH hn).trans h.c0,(k.cell aH hn).trans h.c1,(k.cell aH hn).trans h.c2,(k.cell aH hn).trans h.c3,(k.cell aH hn).trans h.c4,(k.cell aH hn).trans h.c5,λ o=>(k.frozen aH hn).trans (h.fz o)⟩
theorem z30 {base base':Nat}{e e':TypeId}{size uD:Nat}{v v':Value}{n':Nat}{xs NK:V8}(h:w.ownsRow base e size v n xs)(h':w.ownsRow base' e' uD v' n' NK)(bF:e≠e'):v.ownBlock=none\/v.ownBlock≠v'.ownBlock:=by
 rcases h.2 with⟨rfl,_⟩ | ⟨g,cap,cur,rfl,_,hg,_⟩
 ·exact .inl rfl
 ·refine .inr ?_;rcases h'.2 with⟨rfl,_⟩ | ⟨g',dn,Pe,rfl,_,nE,_⟩
  ·simp[Value.ownBlock]
  ·simp only[Value.ownBlock];intro e1;injection e1 with e1
   subst e1;rw[hg] at nE;injection nE with nE
   injection nE with _ nE _
   exact bF nE
def z88:zL:=⟨{ data:=#[] },[],false,0,0⟩
structure BO (w:W8)(b m:Nat)(s:B8)(H:zL)(hv:Value)(bs:List (zL × Value))(p:Nat)(bd:Int)(bv:Value)(wr:W8):Prop where
 bq:dS wr b s p bd
 hp:p<=s.size
 kept:zK [b] w wr
 rc:Cn wr m H hv bv
 zc:Cn wr w.heap.size z88 (.slice none 0 0) (.slice none 0 0)
 sz:m+1<=wr.heap.size
 nm:w.heap.size<m
 own:wr.ownsRow (m+1) 243 5 bv bs.length (za4 bs)
 hd:wr.ownsRow (w.heap.size+1) 317 3 hv H.ae.length (cellsOf H.ae)
 hm:∀ k,hv.ownBlock=some k->k<m
 bl:∀ x∈bs,wr.ownsRow (m+1) 317 3 x.2 x.1.ae.length (cellsOf x.1.ae)
 blt:b<w.heap.size
variable {wr w1:W8} {bs:List (zL × Value)} {H:zL} {b m:Nat}
theorem BO.call {p':Nat}{D5:Int}(h:BO w b m s H hv bs p bd bv wr)(k:zK [b] wr w1)(hp:dS w1 b s p' D5)(hl:p'<=s.size):BO w b m s H hv bs p' D5 bv w1:=
 have aH:=h.blt;have sV:=h.nm;have bj:=h.sz
 ⟨hp,hl,h.kept.trans k,h.rc.kept k (by omega) (by simp;omega),h.zc.kept k (by omega) (by simp;omega),Nat.le_trans h.sz k.size,h.nm,yI h.own k (by simp;omega),yI h.hd k (by simp;omega),h.hm,λ x hx=>yI (h.bl x hx) k (by simp;omega),h.blt⟩
theorem BO.append {w5:W8}(h:BO w b m s H hv bs p bd bv w1){o1 o2:Obj}{tv nC:Value}
  (ht:w1.ownsRow (m+1) 317 3 tv A.ae.length (cellsOf A.ae))
  (ay:w5.ownsRow (m+1) 243 5 nC (bs.length+1) (za4 bs++A.cells tv)) (hg:((w1.alloc o1).alloc o2).grownBy w5 bv.ownBlock):
  BO w b m s H hv (bs++[(A,tv)]) p bd nC (w5.setCell ⟨m,5,none⟩ nC)/\Cn w5 m H hv bv:=by
 have aH:=h.blt;have sV:=h.nm;have bj:=h.sz;have aB:∀ k,bv.ownBlock=some k->m+1<=k:=λ k e=>(h.own.lt k e).1
 have k5:zK bv.ownBlock.toList w1 w5:=(((zK.refl _ w1).alloc o1).alloc o2).grown hg (λ k e=>.inr (by simp[e]));have kR:∀ k,k<m+1->k∉bv.ownBlock.toList:=by
  intro k hk nx
  cases hv:bv.ownBlock with
  | none=>simp[hv] at nx
  | some x=>simp[hv] at nx;have:=aB x hv;omega
 have r5:=h.rc.kept k5 (by omega) (kR _ (by omega));have eI:∀ {base:Nat} {v:Value} {n:Nat} {xs:V8},w1.ownsRow base 317 3 v n xs->w5.ownsRow base 317 3 v n xs:=λ {base v n xs} hx=>
  World.ownsRow.kept ((hx.alloc o1).alloc o2) hg (z30 hx h.own (by decide))
 have DH:∀ {base:Nat} {e:TypeId} {size:Nat} {v:Value} {n:Nat} {xs:V8},w5.ownsRow base e size v n xs->(∀ k,v.ownBlock=some k->k≠m)->(w5.setCell ⟨m,5,none⟩ nC).ownsRow base e size v n xs:=by
  intro base e size v n xs hx hk;refine⟨hx.1,?_⟩;rcases hx.2 with hn | ⟨g,cap,cur,rfl,hb,bS,rest⟩
  ·exact .inl hn
  ·exact .inr ⟨g,cap,cur,rfl,hb,by rw[Below.heap_setCell _ _ _ _ (hk g rfl)];exact bS,rest⟩
 refine⟨⟨?_,h.hp,?_,?_,?_,?_,h.nm,?_,?_,h.hm,?_,h.blt⟩,r5⟩
 ·exact (h.bq.kept k5 (kR _ (by omega))).kept ((zK.refl [m] _).setCell (by simp) _) (by simp;omega)
 ·exact ((((h.kept.alloc o1).alloc o2).grown hg (λ k e=>.inl (by have:=aB k e;omega)))).setCell (.inr (by simp;omega)) _
 ·obtain⟨x0,x1,x2,x3,x4,x5,xf⟩:=r5;exact⟨by go_simp,by go_simp,by go_simp,by go_simp,by go_simp,by go_simp,by go_simp⟩
 ·exact (h.zc.kept k5 (by omega) (kR _ (by omega))).kept ((zK.refl [m] _).setCell (by simp) _) (by have:=k5.size;omega) (by simp;omega)
 ·have:=k5.size;simp;omega
 ·rw[zpm,List.length_append];exact DH ay (λ k e=>by have:=(ay.lt k e).1;omega)
 ·exact DH (eI h.hd) (λ k e=>by have:=h.hm k e;omega)
 ·intro x hx;rcases List.mem_append.1 hx with hx | hx
  ·exact DH (eI (h.bl x hx)) (λ k e=>by have:=((h.bl x hx).lt k e).1;omega)
  ·simp at hx;subst hx;exact DH (eI ht) (λ k e=>by have:=(ht.lt k e).1;omega)
structure nA (w:W8)(base:Nat)(R:zS)(hv:Value)(bs:List (zL × Value))(bv:Value):Prop where
 hd:w.ownsRow base 317 3 hv R.head.ae.length (cellsOf R.head.ae)
 bo:w.ownsRow base 243 5 bv bs.length (za4 bs)
 bl:∀ x∈bs,w.ownsRow base 317 3 x.2 x.1.ae.length (cellsOf x.1.ae)
 eq:R.body=bs.map (·.1)
theorem BO.ends (h:BO w b m s H hv bs p bd bv wr)(k:zK [w.heap.size] wr w'):
  zK [b] w w'/\dS w' b s p bd/\p<=s.size/\nA w' w.heap.size ⟨H,bs.map (·.1)⟩ hv bs bv:=by
 have aH:=h.blt;have sV:=h.nm;refine⟨⟨k.os.trans h.kept.os,k.tape.trans h.kept.tape,k.output.trans h.kept.output,Nat.le_trans h.kept.size k.size,λ i hi hn=>(k.block i (Nat.lt_of_lt_of_le hi h.kept.size) (by simp;omega)).trans (h.kept.block i hi hn)⟩,h.bq.kept k (by simp;omega),h.hp,⟨?_,?_,?_,rfl⟩⟩
 ·exact zG (yI h.hd k (by simp)) (by omega)
 ·exact zG (yI h.own k (by simp;omega)) (by omega)
 ·exact λ x hx=>zG (yI (h.bl x hx) k (by simp;omega)) (by omega)
theorem zzg {pos:Nat}{bad:Int}(aH:b<w.heap.size)
  (aW:zK [b] (w.alloc (Obj.cells #[.string { data:=#[] },.slice none 0 0,.bool false,.int IntKind.i64 0,.int IntKind.i64 0,.slice none 0 0] 246)) w1)
  (bI:dS w1 b s (zH s pos bad).2.1 (zH s pos bad).2.2) (rW:(zH s pos bad).2.1<=s.size)
  (aN:w1.ownsRow (w.heap.size+1) 317 3 hv (zH s pos bad).1.length (cellsOf (zH s pos bad).1)):
  BO w b w1.heap.size s (zI s pos bad) hv [] (zH s pos bad).2.1 (zH s pos bad).2.2 (.slice none 0 0)
   (w1.alloc (Obj.cells #[.string (tok s pos).text,hv,.bool false,.int IntKind.i64 ↑(tok s pos).at_,.int IntKind.i64 0,.slice none 0 0] 246)):=by
 have aY:=aW.size;simp at aY;refine⟨bI.kept ((zK.refl [] _).alloc _) (by simp),rW,(((zK.refl [b] w).alloc _).trans aW).alloc _,?_,?_,by simp,by omega,World.ownsRow_nil _ _ _ _,aN.alloc _,λ k e=>(aN.lt k e).2,by simp,aH⟩
 ·refine⟨?_,?_,?_,?_,?_,?_,?_⟩
  all_goals first | (rw[World.cell?_alloc_at _ _ _ _ rfl];rfl) | (intro o;rw[World.frozen?_alloc_at _ _ _ _ rfl])
 ·refine Cn.kept (Cn.kept ⟨?_,?_,?_,?_,?_,?_,?_⟩ aW (by simp) (by simp;omega)) ((zK.refl [] _).alloc _) (by omega) (by simp)
  all_goals first | (rw[World.cell?_alloc_at _ _ _ _ rfl];rfl) | (intro o;rw[World.frozen?_alloc_at _ _ _ _ rfl])
theorem yeu {u0 u1 u2 u3 u4 u5:Value}(h0:w1.cell? ⟨n,0,none⟩=some u0)(h1:w1.cell? ⟨n,1,none⟩=some u1)(h2:w1.cell? ⟨n,2,none⟩=some u2)(h3:w1.cell? ⟨n,3,none⟩=some u3)(h4:w1.cell? ⟨n,4,none⟩=some u4)(h5:w1.cell? ⟨n,5,none⟩=some u5)(v0 v1 v2 v3 v4 v5:Value):
  ((((((w1.setCell ⟨n,0,none⟩ v0).setCell ⟨n,1,none⟩ v1).setCell ⟨n,2,none⟩ v2).setCell ⟨n,3,none⟩ v3).setCell ⟨n,4,none⟩ v4).setCell ⟨n,5,none⟩ v5).cell? ⟨n,0,none⟩=some v0 /\
  ((((((w1.setCell ⟨n,0,none⟩ v0).setCell ⟨n,1,none⟩ v1).setCell ⟨n,2,none⟩ v2).setCell ⟨n,3,none⟩ v3).setCell ⟨n,4,none⟩ v4).setCell ⟨n,5,none⟩ v5).cell? ⟨n,1,none⟩=some v1 /\
  ((((((w1.setCell ⟨n,0,none⟩ v0).setCell ⟨n,1,none⟩ v1).setCell ⟨n,2,none⟩ v2).setCell ⟨n,3,none⟩ v3).setCell ⟨n,4,none⟩ v4).setCell ⟨n,5,none⟩ v5).cell? ⟨n,2,none⟩=some v2 /\
  ((((((w1.setCell ⟨n,0,none⟩ v0).setCell ⟨n,1,none⟩ v1).setCell ⟨n,2,none⟩ v2).setCell ⟨n,3,none⟩ v3).setCell ⟨n,4,none⟩ v4).setCell ⟨n,5,none⟩ v5).cell? ⟨n,3,none⟩=some v3 /\
  ((((((w1.setCell ⟨n,0,none⟩ v0).setCell ⟨n,1,none⟩ v1).setCell ⟨n,2,none⟩ v2).setCell ⟨n,3,none⟩ v3).setCell ⟨n,4,none⟩ v4).setCell ⟨n,5,none⟩ v5).cell? ⟨n,4,none⟩=some v4 /\
  ((((((w1.setCell ⟨n,0,none⟩ v0).setCell ⟨n,1,none⟩ v1).setCell ⟨n,2,none⟩ v2).setCell ⟨n,3,none⟩ v3).setCell ⟨n,4,none⟩ v4).setCell ⟨n,5,none⟩ v5).cell? ⟨n,5,none⟩=some v5:=by
 refine⟨?_,?_,?_,?_,?_,?_⟩ <;> go_simp
theorem yef (w1:W8)(n:Nat)(v0 v1 v2 v3 v4 v5:Value):zK [n] w1 ((((((w1.setCell ⟨n,0,none⟩ v0).setCell ⟨n,1,none⟩ v1).setCell ⟨n,2,none⟩ v2).setCell ⟨n,3,none⟩ v3).setCell ⟨n,4,none⟩ v4).setCell ⟨n,5,none⟩ v5):=
 ((((((zK.refl [n] w1).setCell (by simp) _).setCell (by simp) _).setCell (by simp) _).setCell (by simp) _).setCell (by simp) _).setCell (by simp) _
end
section
open Go.RowKit
theorem z68:(Tryz.prog.info? 243).map (λ i=>(i.zero,i.size,i.bytes))=some (some (.agg #[.string { data:=#[] },.slice none 0 0,.bool false,.int .i64 0,.int .i64 0]),5,64):=by kernel_rfl
theorem zwf (w1:W8)(o:Obj)(A:zL)(tv:Value)(j:Nat)(u:Value)(h:(A.cells tv)[j]?=some u):((w1.alloc o).alloc (Obj.cells #[.string A.pred,tv,.bool A.no,.int IntKind.i64 ↑A.at_,.int IntKind.i64 ↑A.az] 243)).cell? ((⟨w1.heap.size+1,0,none⟩:Addr).add j)=some u:=by
 have e:(⟨w1.heap.size+1,0,none⟩:Addr).add j=⟨w1.heap.size+1,j,none⟩:=by unfold Addr.add;split <;> simp_all
 rw[e,World.cell?_alloc_at _ _ _ _ (by simp)];simpa[zL.cells] using h
theorem z29 (A:zL)(a:O8)(n c:Nat):∀ u∈A.cells (.slice a n c),u.oneCell'=true:=by
 intro u hu;simp[zL.cells] at hu;rcases hu with rfl | rfl | rfl | rfl | rfl <;> rfl
variable {X D E:List zL × Nat × Int} {c:Bool}
theorem zvu (h:X=if c then D else E)(hm:c=true):X=D:=by rw[hm] at h;simpa using h
theorem z1j (h:X=if c then D else E)(hm:c=false):X=E:=by rw[hm] at h;simpa using h
def zb3 (H:zL)(hv bv:Value):Value:=.agg #[.string H.pred,hv,.bool H.no,.int .i64 H.at_,.int .i64 H.az,bv]
theorem zw2 (s:B8)(pos:Nat)(bad:Int)(b:Nat)(w:W8)(h:dS w b s pos bad)(aJ:pos<=s.size)(hs:s.size<=maxLen):
  Calls Tryz.prog 125 #[.pointer (some ⟨b,0,none⟩)] w λ e w'=>∃ hv bs bv,e=.returned (zb3 (zI s pos bad) hv bv)/\zK [b] w w'/\dS w' b s (zb2 s pos bad) (jK s pos bad)/\zb2 s pos bad<=s.size/\nA w' w.heap.size ⟨zI s pos bad,(jM s pos bad).1⟩ hv bs bv:=by
 have h':=h;obtain⟨i0,hi,bL,aY,bg⟩:=info_parts z68;obtain⟨aH,c0,c1,c2,c3,c4,c5,fz⟩:=h;go_enter Tryz.func125,Tryz.ntmps125;go_wp2_with fail;refine (Mn s pos bad b _ (h'.kept ((zK.refl [] _).alloc _) (by simp)) aJ hs).mono ?_;rintro e w1 ⟨hv,rfl,aW,bI,rW,aN⟩;have td:=zzg aH aW bI rW (by simpa using aN);obtain⟨a0,cH,rfl⟩:=zD aN;clear c0 c1 c2 c3 c4 c5 fz h' bI aW aN;have iG:jM s pos bad=_:=jM.eq_1 s pos bad;have HB:=zC iG;clear iG;go_wp2_with fail;refine (zao s _ _ _ b _ td.bq td.hp hs).mono ?_;rintro e w2 ⟨rfl,bn,eZ⟩;have aP:=td.call bn eZ (vT rW);clear bn eZ td;generalize vF s (zH s pos bad).2.1 (zH s pos bad).2.2 { data:=#[58,45] }=p3 at *;generalize vO s (zH s pos bad).2.1 (zH s pos bad).2.2 { data:=#[58,45] }=b3 at *;generalize dZ s (zH s pos bad).2.1 (zH s pos bad).2.2 { data:=#[58,45] }=o3 at *;go_wp2_with fail
 go_loopg [4] 6 (λ g op wr=>∃ (bs:List (zL × Value)) (p:Nat) (bd:Int) (o:Bool) (bv:Value),op=.bool o/\(o=true->bs.length<=3)/\(if o then 6-bs.length else 0)<=g/\BO w b w1.heap.size s (zI s pos bad) (.slice a0 (zH s pos bad).fst.length cH) bs p bd bv wr/\jM s pos bad=(if o then zco s (4-(bs.map (·.1)).length) p bd (bs.map (·.1)) else (bs.map (·.1),p,bd)))
 exact⟨[],p3,b3,o3,_,rfl,by simp,by split <;> simp,aP,zA HB⟩
 case round=>
  clear HB aP;obtain⟨bs,p,bd,o,bv,rfl,mf,hg,hinv,aE⟩:=hrel;have HF:=zC aE;clear aE;obtain⟨a1,ei,rfl⟩:=zD hinv.own;have bt:=hinv.hp;have bj:=hinv.sz
  cases o with
  | false=>
   clear mf;have hF:jM s pos bad=(bs.map (·.1),p,bd):=zA HF;have Og:=zC hF;clear hF HF;go_wp2_with fail;refine (za8 s _ _ _ b _ hinv.bq bt hs).mono ?_;rintro e w9 ⟨rfl,T0,Ue⟩;have Ai:=hinv.call T0 Ue (zR _ _ _ bt);obtain⟨x0,x1,x2,x3,x4,x5,xf⟩:=Ai.rc;obtain⟨y0,y1,y2,y3,y4,y5,yf⟩:=Ai.zc;clear T0 Ue hinv;go_wp2_with fail;obtain⟨q0,q1,q2,q3,q4,q5⟩:=yeu y0 y1 y2 y3 y4 y5 (.string (zI s pos bad).pred) (.slice a0 (zH s pos bad).fst.length cH) (.bool (zI s pos bad).no) (.int .i64 (zI s pos bad).at_) (.int .i64 (zI s pos bad).az) (.slice a1 bs.length ei);have mN:=Ai.ends (yef w9 w.heap.size (.string (zI s pos bad).pred) (.slice a0 (zH s pos bad).fst.length cH) (.bool (zI s pos bad).no) (.int .i64 (zI s pos bad).at_) (.int .i64 (zI s pos bad).az) (.slice a1 bs.length ei));have eP:zb2 s pos bad=zW s p (xM s p bd { data:=#[46] }):=(by rw[zb2,zA Og]);have eB:jK s pos bad=zU s p (xM s p bd { data:=#[46] }):=(by rw[jK,zA Og]);have eF:(jM s pos bad).1=bs.map (·.1):=(by rw[zA Og]);refine bodyPost_ret (v:=zb3 (zI s pos bad) (.slice a0 (zH s pos bad).fst.length cH) (.slice a1 bs.length ei)) (by simp[results,Tryz.results125,go_sem,zb3,q0,q1,q2,q3,q4,q5]) rfl ⟨_,bs,_,rfl,?_⟩;rw[eP,eB,eF];exact mN
  | true=>
   have Gc:bs.length<=3:=mf rfl;clear mf;have aP:=zxv s p bd (bs.map (·.1)) (by simpa using Gc);have oE:=(show jM s pos bad=zco s (4-(bs.map (·.1)).length) p bd (bs.map (·.1)) from zA HF).trans aP;rw[List.length_map] at oE;have aC:=zC oE;clear HF aP oE;have Qe:(bs.length:Int)<=3:=(by omega);obtain⟨x0,x1,x2,x3,x4,x5,xf⟩:=hinv.rc
   by_cases t3:bs.length=3
   ·have tb:zX s p bd bs.length=zaw s p bd:=(by simp[zX,t3]);have Zn:((bs.length:Int)==3)=true:=(by simp;omega);have TB:=zC tb;clear tb t3;go_wp2_with fail;refine (za0 s p bd b _ hinv.bq).mono ?_;rintro e w0 ⟨rfl,iA,dV⟩;rw[<-zA TB] at dV;have aM:=hinv.call iA dV bt;have bj:=aM.sz;clear iA dV x0 x1 x2 x3 x4 x5 xf;go_wp2_with fail;refine (z27 s p (zX s p bd bs.length) b _ aM.bq bt hs).mono ?_;rintro e w3 ⟨tv,rfl,eE,sW,mf,mU⟩;obtain⟨a3,CL,rfl⟩:=zD mU;have bf:=aM.call eE sW mf;obtain⟨d0,d1,d2,d3,d4,d5,lg⟩:=bf.rc;have bH:=bf.own;have aK:w1.heap.size<w3.heap.size:=(by have:=bf.sz;omega);clear eE sW aM;unfold zL.val;go_wp2_with (at_builtin;refine wpList_append_own _ rfl _ _ 244 rfl (w1.heap.size+1) 243 i0 _ 5 64 Tryz.underlying244 hi bL aY bg rfl (by decide) _ _ _ rfl ((bH.alloc _).alloc _) ⟨w3.heap.size+1,0,none⟩ 1 1 ((vB s p (zX s p bd bs.length)).cells (.slice a3 (vB s p (zX s p bd bs.length)).ae.length CL)) rfl rfl (zwf w3 _ _ _) (z29 _ _ _ _) (by unfold maxLen;omega) (by omega) (by simp;omega) ?_);intro v5 w5 aq aU hne5;clear hne5;obtain⟨a5,eH,rfl⟩:=zD aq;obtain⟨aI,e0,e1,e2,e3,e4,e5,mI⟩:=bf.append (zG mU bj) aq aU;have dC:w1.heap.size<w5.heap.size:=(by have:=aI.sz;simp at this;omega);clear aq aU d0 d1 d2 d3 d4 d5 lg bH bf mU;go_wp2_with fail;refine (zao s _ _ _ b _ aI.bq mf hs).mono ?_;rintro e w7 ⟨rfl,dR,ic⟩;have aD:=aI.call dR ic (vT mf);clear dR ic aI e0 e1 e2 e3 e4 e5 mI dC
    cases hm:dZ s (yE s p (zX s p bd bs.length)).1 (yE s p (zX s p bd bs.length)).2 { data:=#[44] } with
    | true=>
     have bh:=zwg Gc hm;have aO:=zC (zvu (zA aC) hm);clear hm aC;go_wp2_with fail;go_roundg (6-(bs.length+1));exact⟨_,_,_,true,_,rfl,λ _=>by simp;omega,by simp,aD,by rw[List.map_append];exact zA aO⟩;simp at hg ⊢;omega
    | false=>
     have aO:=zC (z1j (zA aC) hm);clear hm aC;go_wp2_with fail;go_roundg 0;exact⟨_,_,_,false,_,rfl,by simp,by simp,aD,by rw[List.map_append];exact zA aO⟩;simp at hg ⊢;omega
   ·have tb:zX s p bd bs.length=bd:=(by simp[zX,t3]);have Zn:((bs.length:Int)==3)=false:=(by simp;omega);have TB:=zC tb;clear tb t3;go_wp2_with fail;have aM:BO w b w1.heap.size s (zI s pos bad) (.slice a0 (zH s pos bad).fst.length cH) bs p (zX s p bd bs.length) (.slice a1 bs.length ei) wr:=(by rw[zA TB];exact hinv);clear x0 x1 x2 x3 x4 x5 xf;refine (z27 s p (zX s p bd bs.length) b _ aM.bq bt hs).mono ?_;rintro e w3 ⟨tv,rfl,eE,sW,mf,mU⟩;obtain⟨a3,CL,rfl⟩:=zD mU;have bf:=aM.call eE sW mf;obtain⟨d0,d1,d2,d3,d4,d5,lg⟩:=bf.rc;have bH:=bf.own;have aK:w1.heap.size<w3.heap.size:=(by have:=bf.sz;omega);clear eE sW aM;unfold zL.val;go_wp2_with (at_builtin;refine wpList_append_own _ rfl _ _ 244 rfl (w1.heap.size+1) 243 i0 _ 5 64 Tryz.underlying244 hi bL aY bg rfl (by decide) _ _ _ rfl ((bH.alloc _).alloc _) ⟨w3.heap.size+1,0,none⟩ 1 1 ((vB s p (zX s p bd bs.length)).cells (.slice a3 (vB s p (zX s p bd bs.length)).ae.length CL)) rfl rfl (zwf w3 _ _ _) (z29 _ _ _ _) (by unfold maxLen;omega) (by omega) (by simp;omega) ?_);intro v5 w5 aq aU hne5;clear hne5;obtain⟨a5,eH,rfl⟩:=zD aq;obtain⟨aI,e0,e1,e2,e3,e4,e5,mI⟩:=bf.append (zG mU bj) aq aU;have dC:w1.heap.size<w5.heap.size:=(by have:=aI.sz;simp at this;omega);clear aq aU d0 d1 d2 d3 d4 d5 lg bH bf mU;go_wp2_with fail;refine (zao s _ _ _ b _ aI.bq mf hs).mono ?_;rintro e w7 ⟨rfl,dR,ic⟩;have aD:=aI.call dR ic (vT mf);clear dR ic aI e0 e1 e2 e3 e4 e5 mI dC
    cases hm:dZ s (yE s p (zX s p bd bs.length)).1 (yE s p (zX s p bd bs.length)).2 { data:=#[44] } with
    | true=>
     have bh:=zwg Gc hm;have aO:=zC (zvu (zA aC) hm);clear hm aC;go_wp2_with fail;go_roundg (6-(bs.length+1));exact⟨_,_,_,true,_,rfl,λ _=>by simp;omega,by simp,aD,by rw[List.map_append];exact zA aO⟩;simp at hg ⊢;omega
    | false=>
     have aO:=zC (z1j (zA aC) hm);clear hm aC;go_wp2_with fail;go_roundg 0;exact⟨_,_,_,false,_,rfl,by simp,by simp,aD,by rw[List.map_append];exact zA aO⟩;simp at hg ⊢;omega
end
end Go.Proofs.YtldkpahaocjdpaaGreat
