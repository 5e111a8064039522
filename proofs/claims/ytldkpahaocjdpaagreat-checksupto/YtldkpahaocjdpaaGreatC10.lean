/-
  The reference's loose: the place of the first variable of an atom that stands in no positive literal of a rule, -1 if there is none.
-/
import Derived.Test.YtldkpahaocjdpaaGreatC09
set_option maxHeartbeats 16000000
set_option maxRecDepth 1000000
namespace Go.Proofs.YtldkpahaocjdpaaGreat
section
open Go.RowKit
def xJ (body:List zL):List xK->Int
 | []=>-1
 | t::r=>if t.isVar&&!zax t.text body then t.at_ else xJ body r
structure Jo (w:W8)(base:Nat)(R:zP)(hv:Value)(bs:List (zL × Value))(bv:Value)(A:zL)(tv:Value)(wr:W8):Prop where
 aX:j7 wr base R hv bs bv
 ae:wr.ownsRow base 317 3 tv A.ae.length (cellsOf A.ae)
 rc:Dn wr w.heap.size R.head hv bv
 box:wr.cell? ⟨w.heap.size+1,1,none⟩=some tv
 sz:w.heap.size+1<wr.heap.size
 below:Below w.heap.size w wr
variable {w1 w:W8}
theorem Jo.call {base:Nat}{R:zP}{hv:Value}{bs:List (zL × Value)}{bv:Value}{A:zL}{tv:Value}{wr:W8}(h:Jo w base R hv bs bv A tv wr)(k:Below wr.heap.size wr w1):Jo w base R hv bs bv A tv w1:=
 have hk:=(zN.refl [] wr).ai k;have hs:=h.sz
 ⟨h.aX.kept hk (by simp),yM h.ae hk (by simp),h.rc.kept hk (by omega) (by simp),(hk.cell (p:=⟨w.heap.size+1,1,none⟩) h.sz (by simp)).trans h.box,Nat.lt_of_lt_of_le h.sz k.size,h.below.trans (k.mono (by omega))⟩
theorem zv2 {body:List zL}{l:List xK}{k:Nat}(h:k<l.length):xJ body (l.drop k)=if l[k].isVar&&!zax l[k].text body then (l[k].at_:Int) else xJ body (l.drop (k+1)):=by
 rw[List.drop_eq_getElem_cons h];rfl
theorem Below.E3 (h:Below w.drew.heap.size w.drew w1):Below w.heap.size w w1:=⟨h.os,h.tape,h.output,h.size,h.block⟩
theorem zpn (w:W8)(base:Nat)(R:zP)(hv:Value)(bs:List (zL × Value))(bv:Value)(A:zL)(tv:Value)(h:j7 w base R hv bs bv)(ht:w.ownsRow base 317 3 tv A.ae.length (cellsOf A.ae)):
  Calls Tryz.prog 189 #[jU R.head hv bv,A.val tv] w λ e w'=>e=.returned (.int .i64 (xJ R.body A.ae))/\Below w.heap.size w w':=by
 obtain⟨ab,ku,rfl⟩:=zD h.bo;obtain⟨ah,lk,rfl⟩:=zD h.hd;obtain⟨bp,cA,rfl⟩:=zD ht;have mU:=yN ht;unfold maxLen at mU;unfold jU zL.val;have h0:Jo w base R (.slice ah R.head.ae.length lk) bs (.slice ab bs.length ku) A (.slice bp A.ae.length cA) ((w.alloc (.cells #[.string R.head.pred,.slice ah R.head.ae.length lk,.bool R.head.no,.int .i64 R.head.at_,.int .i64 R.head.ak,.slice ab bs.length ku] 246)).alloc (.cells #[.string A.pred,.slice bp A.ae.length cA,.bool A.no,.int .i64 A.at_,.int .i64 A.ak] 243)):=by
  refine⟨h.kept (((zN.refl [] _).alloc _).alloc _) (by simp),(ht.alloc _).alloc _,⟨?_,?_,?_,?_,?_,?_,?_⟩,by rw[World.cell?_alloc_at _ _ _ _ (by simp)];rfl,by simp,(B9.alloc L9 _).alloc (by simp) _⟩
  all_goals first | (rw[World.cell?_alloc_past _ _ _ (by simp),World.cell?_alloc_at _ _ _ _ rfl];rfl) | (intro o;rw[World.frozen?_alloc_past _ _ _ (by simp),World.frozen?_alloc_at _ _ _ _ rfl])
 clear h ht;go_enter Tryz.func189,Tryz.ntmps189;go_wp2_with fail
 go_loopg [5] A.ae.length (λ gg i wr=>∃ k:Nat,k<=A.ae.length/\gg=A.ae.length-k/\i=.int .i64 k/\Jo w base R (.slice ah R.head.ae.length lk) bs (.slice ab bs.length ku) A (.slice bp A.ae.length cA) wr/\xJ R.body A.ae=xJ R.body (A.ae.drop k))
 exact⟨0,Nat.zero_le _,rfl,rfl,h0,rfl⟩
 case round=>
  clear h0;obtain⟨k,hk,iZ,rfl,hinv,ax⟩:=hrel;have HF:=zC ax;clear ax;have ed:=hinv.box;have aT:=hinv.sz;obtain⟨x0,x1,x2,x3,x4,x5,xf⟩:=hinv.rc
  by_cases eU:k<A.ae.length
  ·obtain⟨gt,Kf,I9,P1,GJ,QQ,P4,p0,p1,p2⟩:=zaa hinv.ae k eU;injection I9 with h4 h5 h6
   subst h4 h6;have az:=zC ((zA HF).trans (zv2 eU));clear HF;go_upto_region 4 with fail
   go_cut [6] (λ s wc=>s=.bool (zax A.ae[k].text R.body)/\Jo w base R (.slice ah R.head.ae.length lk) bs (.slice ab bs.length ku) A (.slice (some ⟨gt,0,none⟩) A.ae.length cA) wc)
   case first=>
    go_region_with (go_at_call 227;refine (z4w _ base R _ bs _ _ (hinv.aX.kept ((zN.refl [] _).drew) (by simp))).mono ?_;rintro e w1 ⟨rfl,aM⟩)
    all_goals
     go_wp2_with fail;go_meet
     case rel=>exact⟨rfl,hinv.call (Below.E3 aM)⟩
   case rest=>
    obtain⟨rfl,ja⟩:=hcut;clear hinv ed aT x0 x1 x2 x3 x4 x5 xf p0 p1 p2 GJ;have ed:=ja.box;have aT:=ja.sz;obtain⟨gt',Kf,I9,TU,GJ,Um,T0,p0,p1,p2⟩:=zaa ja.ae k eU;injection I9 with h4 h5 h6
    injection h4 with h4
    injection h4 with h4
    subst h4 h6
    cases lB:A.ae[k].isVar with
    | false=>
     have aQ:=zC (show xJ R.body A.ae=xJ R.body (A.ae.drop (k+1)) by rw[zA az,lB];rfl);clear az;rw[lB] at p1;go_wp2_with fail;go_roundg (A.ae.length-(k+1));exact⟨k+1,by omega,rfl,by go_num,ja,zA aQ⟩;omega
    | true=>
     rw[lB] at p1
     cases NL:zax A.ae[k].text R.body with
     | true=>
      have aQ:=zC (show xJ R.body A.ae=xJ R.body (A.ae.drop (k+1)) by rw[zA az,lB,NL];rfl);clear az;go_wp2_with fail;go_roundg (A.ae.length-(k+1));exact⟨k+1,by omega,rfl,by go_num,ja,zA aQ⟩;omega
     | false=>
      have aQ:=zC (show xJ R.body A.ae=(A.ae[k].at_:Int) by rw[zA az,lB,NL];rfl);clear az;go_wp2_with fail;go_ret;exact⟨by rw[zA aQ];rfl,ja.below⟩
  ·have az:=zC (show xJ R.body A.ae=-1 by rw[zA HF,List.drop_of_length_le (by omega)];rfl);clear HF;go_wp2_with fail;go_ret;exact⟨by rw[zA az];rfl,hinv.below⟩
end
section
open Go.RowKit
def xL (body:List zL):List zL->Int
 | []=>-1
 | A::r=>if 0<=(if A.no then xJ body A.ae else -1) then xJ body A.ae else xL body r
def qD (R:zP):Int:=if 0<=xJ R.body R.head.ae then xJ R.body R.head.ae else xL R.body R.body
def xB:List zP->Int
 | []=>-1
 | R::r=>if 0<=qD R then qD R else xB r
variable {rs:List RR}
theorem zsu {k:Nat}(h:k<rs.length):xB ((rs.map (·.R)).drop k)=if 0<=qD rs[k].R then qD rs[k].R else xB ((rs.map (·.R)).drop (k+1)):=by
 rw[List.drop_eq_getElem_cons (by simpa using h)];simp[xB]
variable {bs:List (zL × Value)}
theorem zk8 {body:List zL}{j:Nat}(h:j<bs.length):xL body ((bs.map (·.1)).drop j)=if 0<=(if bs[j].1.no then xJ body bs[j].1.ae else -1) then xJ body bs[j].1.ae else xL body ((bs.map (·.1)).drop (j+1)):=by
 rw[zd9 h];rfl
theorem zv1 (w:W8)(base:Nat)(R:zP)(hv:Value)(bs:List (zL × Value))(bv:Value)(pd:B8)(ae:List xK)(no:Bool)(at_ ak:Nat)(tv:Value)(h:j7 w base R hv bs bv)(ht:w.ownsRow base 317 3 tv ae.length (cellsOf ae)):
  Calls Tryz.prog 189 #[.agg #[.string R.head.pred,hv,.bool R.head.no,.int .i64 R.head.at_,.int .i64 R.head.ak,bv],.agg #[.string pd,tv,.bool no,.int .i64 at_,.int .i64 ak]] w λ e w'=>e=.returned (.int .i64 (xJ R.body ae))/\Below w.heap.size w w':=
 zpn w base R hv bs bv ⟨pd,ae,no,at_,ak⟩ tv h ht
structure FU (w:W8)(o m:Nat)(rs:List RR)(ps qs:P9)(rv pv tv sv:Value)(R:zP)(hv:Value)(bs:List (zL × Value))(bv:Value)(wx:W8):Prop where
 mem:oS wx o rs ps qs rv pv tv sv
 aX:j7 wx (o+1) R hv bs bv
 rc:Dn wx m R.head hv bv
 sz:m<wx.heap.size
 below:Below w.heap.size w wx
variable {bv hv rv pv tv sv:Value} {ps qs:P9} {o:Nat} {w:W8}
theorem FU.call {m:Nat}{R:zP}{wx w1:W8}(h:FU w o m rs ps qs rv pv tv sv R hv bs bv wx)(k:Below wx.heap.size wx w1):FU w o m rs ps qs rv pv tv sv R hv bs bv w1:=
 have hk:=(zN.refl [] wx).ai k
 ⟨h.mem.kept hk (by simp),h.aX.kept hk (by simp),h.rc.kept hk h.sz (by simp),Nat.lt_of_lt_of_le h.sz k.size,h.below.trans (k.mono h.below.size)⟩
theorem FU.start {R:zP}{wr:W8}(hm:oS wr o rs ps qs rv pv tv sv)(ay:j7 wr (o+1) R hv bs bv)(hb:Below w.heap.size w wr):
  FU w o wr.heap.size rs ps qs rv pv tv sv R hv bs bv (wr.alloc (Obj.cells #[.string R.head.pred,hv,.bool R.head.no,.int .i64 R.head.at_,.int .i64 R.head.ak,bv] 246)):=by
 refine⟨hm.kept ((zN.refl [] _).alloc _) (by simp),ay.kept ((zN.refl [] _).alloc _) (by simp),⟨?_,?_,?_,?_,?_,?_,?_⟩,by simp,hb.alloc hb.size _⟩
 all_goals first | (rw[World.cell?_alloc_at _ _ _ _ rfl];rfl) | (intro o;rw[World.frozen?_alloc_at _ _ _ _ rfl])
theorem zxa (w:W8)(o:Nat)(rs:List RR)(ps qs:P9)(rv pv tv sv:Value)(h:oS w o rs ps qs rv pv tv sv):
  Calls Tryz.prog 127 #[.pointer (some ⟨o,0,none⟩)] w λ e w'=>e=.returned (.int .i64 (xB (rs.map (·.R))))/\Below w.heap.size w w':=by
 obtain⟨ar,eR,rfl⟩:=zD h.rules;have kX:=yN h.rules;unfold maxLen at kX;go_enter Tryz.func127,Tryz.ntmps127;go_wp2_with fail
 go_loopg [3,5] rs.length (λ gg i l5 wr=>∃ k:Nat,k<=rs.length/\gg=rs.length-k/\i=.int .i64 k/\oS wr o rs ps qs (.slice ar rs.length eR) pv tv sv/\Below w.heap.size w wr/\xB (rs.map (·.R))=xB ((rs.map (·.R)).drop k))
 exact⟨0,Nat.zero_le _,rfl,rfl,h,Below.refl _ _,rfl⟩
 case round=>
  obtain⟨k,hk,iZ,rfl,hm,hb,ax⟩:=hrel;have HF:=zC ax;clear ax;have qp:=hm;obtain⟨aG,c0,c1,c2,c3,fz,hr,he,hp,ht⟩:=hm
  by_cases aE:k<rs.length
  ·obtain⟨g,cap,hv,oN,bR,cZ,da,q0,q1,q2,q3,q4,q5⟩:=x7 hr k aE;injection hv with h1 h2 h3
   subst h1 h3;have Ch:=List.getElem_mem aE;have ay:=he rs[k] Ch;obtain⟨ah,lk,BK⟩:=zD ay.hd;obtain⟨ab,ku,kN⟩:=zD ay.bo;have o9:=yN ay.bo;unfold maxLen at o9;rw[BK] at q1;rw[kN] at q5;rw[BK,kN] at ay;have az:=zC ((zA HF).trans (zsu aE));clear hr he hp ht h2 h HF;go_wp2_with fail;have NR:=FU.start qp ay hb;refine (zpn _ (o+1) rs[k].R _ rs[k].bs _ rs[k].R.head _ NR.aX NR.aX.hd).mono ?_;rintro e w1 ⟨rfl,aM⟩;have En:=NR.call aM;clear NR aM c0 c1 c2 c3 fz q0 q1 q2 q3 q4 q5 qp ay aG bR;generalize wr.heap.size=m at *
   cases hq:decide (0<=xJ rs[k].R.body rs[k].R.head.ae) with
   | true=>
    have L0:0<=xJ rs[k].R.body rs[k].R.head.ae:=of_decide_eq_true hq;have ye:qD rs[k].R=xJ rs[k].R.body rs[k].R.head.ae:=(by unfold qD;rw[if_pos L0]);have aQ:=zC (show xB (rs.map (·.R))=xJ rs[k].R.body rs[k].R.head.ae by rw[zA az,ye,if_pos L0]);clear az hq ye;go_wp2_with fail;go_ret;exact⟨by rw[zA aQ];rfl,En.below⟩
   | false=>
    have L0:¬ 0<=xJ rs[k].R.body rs[k].R.head.ae:=of_decide_eq_false hq;have ye:qD rs[k].R=xL rs[k].R.body ((rs[k].bs.map (·.1)).drop 0):=(by unfold qD;rw[if_neg L0,List.drop_zero,<-En.aX.eq]);have aQ:=zC (show xB (rs.map (·.R))=if 0<=xL rs[k].R.body ((rs[k].bs.map (·.1)).drop 0) then xL rs[k].R.body ((rs[k].bs.map (·.1)).drop 0) else xB ((rs.map (·.R)).drop (k+1)) by rw[zA az,ye]);obtain⟨x0,x1,x2,x3,x4,x5,xf⟩:=En.rc;have aT:=En.sz;have Fx:xJ rs[k].R.body rs[k].R.head.ae<0:=(by omega);clear az hq ye L0;go_wp2_with fail
    go_loopg [5,6] rs[k].bs.length (λ gg l5 i wx=>∃ j:Nat,j<=rs[k].bs.length/\gg=rs[k].bs.length-j/\i=.int .i64 j/\FU w o m rs ps qs (.slice (some ⟨g,0,none⟩) rs.length eR) pv tv sv rs[k].R (.slice ah rs[k].R.head.ae.length lk) rs[k].bs (.slice ab rs[k].bs.length ku) wx/\xB (rs.map (·.R))=if 0<=xL rs[k].R.body ((rs[k].bs.map (·.1)).drop j) then xL rs[k].R.body ((rs[k].bs.map (·.1)).drop j) else xB ((rs.map (·.R)).drop (k+1)))
    exact⟨0,Nat.zero_le _,rfl,rfl,En,zA aQ⟩
    case round=>
     clear aQ En x0 x1 x2 x3 x4 x5 xf aT Fx;obtain⟨j,hj,dI,rfl,hu,ax⟩:=hrel;have HF:=zC ax;clear ax;obtain⟨x0,x1,x2,x3,x4,x5,xf⟩:=hu.rc;have aT:=hu.sz
     by_cases ig:j<rs[k].bs.length
     ·have aP:=zk8 (body:=rs[k].R.body) ig;obtain⟨gb,xr,oe,D5,zt,Ed,D7,p0,p1,p2,p3,p4⟩:=vE hu.aX.bo j ig;injection oe with hb11 hb12 o7
      subst hb11 o7;have NO:=hu.aX.bl _ (List.getElem_mem ig);obtain⟨bp,oW,km⟩:=zD NO;rw[km] at p1 NO
      cases aR:rs[k].bs[j].1.no with
      | false=>
       rw[aR] at p2
       have az:=zC (show xB (rs.map (·.R))=if 0<=xL rs[k].R.body ((rs[k].bs.map (·.1)).drop (j+1)) then xL rs[k].R.body ((rs[k].bs.map (·.1)).drop (j+1)) else xB ((rs.map (·.R)).drop (k+1)) by
        rw[zA HF,aP,aR];simp)
       clear HF aP;go_wp2_with fail;go_roundg (rs[k].bs.length-(j+1));exact⟨j+1,by omega,rfl,by go_num,hu,zA az⟩;omega
      | true=>
       rw[aR] at p2
       have az:=zC (show xB (rs.map (·.R))=if 0<=xJ rs[k].R.body rs[k].bs[j].1.ae then xJ rs[k].R.body rs[k].bs[j].1.ae else (if 0<=xL rs[k].R.body ((rs[k].bs.map (·.1)).drop (j+1)) then xL rs[k].R.body ((rs[k].bs.map (·.1)).drop (j+1)) else xB ((rs.map (·.R)).drop (k+1))) by
        rw[zA HF,aP,aR];simp only[if_true]
        by_cases hz:0<=xJ rs[k].R.body rs[k].bs[j].1.ae
        ·simp only[hz,if_true]
        ·simp only[hz,if_false])
       clear HF aP;go_upto_region 13 with fail
       go_cut [5] (λ s wc=>s=.int .i64 (xJ rs[k].R.body rs[k].bs[j].1.ae)/\FU w o m rs ps qs (.slice (some ⟨g,0,none⟩) rs.length eR) pv tv sv rs[k].R (.slice ah rs[k].R.head.ae.length lk) rs[k].bs (.slice (some ⟨gb,0,none⟩) rs[k].bs.length ku) wc)
       case first=>
        go_region_with (go_at_call 189;refine (zv1 _ (o+1) rs[k].R _ rs[k].bs _ _ rs[k].bs[j].1.ae _ _ _ _ (hu.aX.kept ((zN.refl [] _).drew) (by simp)) NO).mono ?_;rintro e w3 ⟨rfl,eG⟩)
        all_goals
         go_wp2_with fail;go_meet
         case rel=>exact⟨rfl,hu.call (Below.E3 eG)⟩
       case rest=>
        obtain⟨rfl,Rr⟩:=hcut;clear hu x0 x1 x2 x3 x4 x5 xf p0 p1 p2 p3 p4 NO km zt aT;have aT:=Rr.sz
        by_cases hz:0<=xJ rs[k].R.body rs[k].bs[j].1.ae
        ·have aQ:=zC (show xB (rs.map (·.R))=xJ rs[k].R.body rs[k].bs[j].1.ae by rw[zA az,if_pos hz]);clear az;go_wp2_with fail;go_ret;exact⟨by rw[zA aQ];rfl,Rr.below⟩
        ·have aQ:=zC (show xB (rs.map (·.R))=if 0<=xL rs[k].R.body ((rs[k].bs.map (·.1)).drop (j+1)) then xL rs[k].R.body ((rs[k].bs.map (·.1)).drop (j+1)) else xB ((rs.map (·.R)).drop (k+1)) by rw[zA az,if_neg hz]);have NU:xJ rs[k].R.body rs[k].bs[j].1.ae<0:=(by omega);clear az hz;go_wp2_with fail;go_roundg (rs[k].bs.length-(j+1));exact⟨j+1,by omega,rfl,by go_num,Rr,zA aQ⟩;omega
     ·have zw:(rs[k].bs.map (·.1)).drop j=[]:=List.drop_of_length_le (by simp;omega);have az:=zC (show xB (rs.map (·.R))=xB ((rs.map (·.R)).drop (k+1)) by rw[zA HF,zw];simp[xL]);clear HF;go_wp2_with fail;go_roundg (rs.length-(k+1));exact⟨k+1,by omega,rfl,by go_num,hu.mem,hu.below,zA az⟩;omega
  ·have az:=zC (show xB (rs.map (·.R))=-1 by rw[zA HF,List.drop_of_length_le (by simp;omega)];rfl);clear HF hr he hp ht;go_wp2_with fail;go_ret;exact⟨by rw[zA az];rfl,hb⟩
end
section
open Go.RowKit
variable {v:Value} {b o:Nat} {w:W8}
theorem Iq {u:Value}(h:w.cell? ⟨b,o,none⟩=some u):(w.setCell ⟨b,o,none⟩ v).cell? ⟨b,o,none⟩=some v:=by go_simp
theorem qU {b' o':Nat}(h:¬ (b=b'/\o=o')):(w.setCell ⟨b,o,none⟩ v).cell? ⟨b',o',none⟩=w.cell? ⟨b',o',none⟩:=by
 by_cases hb:b=b'
 ·subst hb;have ho:o≠o':=λ e=>h ⟨rfl,e⟩
  unfold World.cell? World.setCell;simp only[Array.getElem?_modify,if_true]
  cases w.heap[b]? with
  | none=>rfl
  | some x=>cases x <;> simp[ho]
 ·exact World.cell?_of_block (w:=w) (Below.heap_setCell w ⟨b,o,none⟩ v b' (by simp;omega))
def upd (M:Nat->Nat->Bool)(i j:Nat):Nat->Nat->Bool:=λ a b=>(decide (a=i)&&decide (b=j))||M a b
structure qw (w:W8)(gm n m:Nat)(M:Nat->Nat->Bool):Prop where
 sz:gm+1+m<=w.heap.size
 top:∀ i,i<m->w.cell? ⟨gm,i,none⟩=some (.slice (some ⟨gm+1+i,0,none⟩) n n)
 some_:∀ i,i<n->∃ u,w.cell? ⟨gm,i,none⟩=some u
 cell:∀ i j,i<m->j<n->w.cell? ⟨gm+1+i,j,none⟩=some (.bool (M i j))
 N0:∀ j,w.frozen? ⟨gm,j,none⟩=false
 fz:∀ i j,i<m->w.frozen? ⟨gm+1+i,j,none⟩=false
variable {M:Nat->Nat->Bool} {gm n m:Nat}
theorem qw.kept {B:List Nat}{w':W8}(h:qw w gm n m M)(k:zN B w w')(hB:∀ x∈B,x<gm):qw w' gm n m M:=by
 have hn:∀ x,gm<=x->x∉B:=λ x hx hm=>by have:=hB x hm;omega
 have hs:=h.sz
 exact⟨Nat.le_trans h.sz k.size,λ i hi=>(k.cell (p:=⟨gm,i,none⟩) (by simp;omega) (hn _ (by simp))).trans (h.top i hi),λ i hi=>by obtain⟨u,hu⟩:=h.some_ i hi;exact⟨u,(k.cell (p:=⟨gm,i,none⟩) (by simp;omega) (hn _ (by simp))).trans hu⟩,
  λ i j hi hj=>(k.cell (p:=⟨gm+1+i,j,none⟩) (by simp;omega) (hn _ (by simp;omega))).trans (h.cell i j hi hj),λ j=>(k.frozen (p:=⟨gm,j,none⟩) (by simp;omega) (hn _ (by simp))).trans (h.N0 j),λ i j hi=>(k.frozen (p:=⟨gm+1+i,j,none⟩) (by simp;omega) (hn _ (by simp;omega))).trans (h.fz i j hi)⟩
theorem qw.set (h:qw w gm n m M)(i j:Nat)(hi:i<m)(hj:j<n):qw (w.setCell ⟨gm+1+i,j,none⟩ (.bool true)) gm n m (upd M i j):=by
 have eT:=h.cell i j hi hj;refine⟨by simpa using h.sz,λ a ha=>?_,λ a ha=>?_,λ a b ha hb=>?_,λ b=>by simpa using h.N0 b,λ a b ha=>by simpa using h.fz a b ha⟩
 ·rw[World.cell?_of_block (w:=w) (Below.heap_setCell w ⟨gm+1+i,j,none⟩ _ gm (by simp;omega))];exact h.top a ha
 ·obtain⟨u,hu⟩:=h.some_ a ha;exact⟨u,by rw[World.cell?_of_block (w:=w) (Below.heap_setCell w ⟨gm+1+i,j,none⟩ _ gm (by simp;omega))];exact hu⟩
 ·by_cases KJ:a=i
  ·by_cases IS:b=j
   ·subst KJ IS;rw[Iq eT];simp[upd]
   ·rw[qU (by omega),h.cell a b ha hb];simp[upd,IS]
  ·rw[qU (by omega),h.cell a b ha hb];simp[upd,KJ]
theorem z3q:(Tryz.prog.info? 4).map (λ i=>(i.zero,i.size,i.bytes))=some (some (.bool false),1,1):=by kernel_rfl
theorem zzd:(Tryz.prog.info? 143).map (λ i=>(i.zero,i.size,i.bytes))=some (some (.slice none 0 0),1,24):=by kernel_rfl
theorem zz4 (n:Nat)(hn:n<=1000)(u:W8):(Instr.makeSlice 314 (.int .i64 n) (.int .i64 n)).run Tryz.prog u=.ok (.slice (some ⟨u.heap.size,0,none⟩) n n) (u.alloc (.cells (madeCells #[.slice none 0 0] n) 143)):=by
 obtain⟨i0,hi,cQ,cz,cx⟩:=info_parts zzd;have h:=run_make (P:=Tryz.prog) u 314 143 i0 (.slice none 0 0) Tryz.underlying314 hi cQ .i64 .i64 (n:Int) (n:Int) (by omega) (Int.le_refl _) (by rw[cx];omega) (by omega);simpa[cz,Value.cells] using h
theorem ztu (n:Nat)(hn:n<=1000)(u:W8):(Instr.makeSlice 143 (.int .i64 n) (.int .i64 n)).run Tryz.prog u=.ok (.slice (some ⟨u.heap.size,0,none⟩) n n) (u.alloc (.cells (madeCells #[.bool false] n) 4)):=by
 obtain⟨i0,hi,cQ,cz,cx⟩:=info_parts z3q;have h:=run_make (P:=Tryz.prog) u 143 4 i0 (.bool false) Tryz.underlying143 hi cQ .i64 .i64 (n:Int) (n:Int) (by omega) (Int.le_refl _) (by rw[cx];omega) (by omega);simpa[cz,Value.cells] using h
theorem N6 (z:Value)(n i:Nat)(h:i<n):(madeCells #[z] n)[i]?=some z:=by
 have:=toList_madeCells_one z n;rw[<-Array.getElem?_toList,this,List.getElem?_replicate,if_pos h]
theorem qw.start (w:W8)(n:Nat):qw (w.alloc (.cells (madeCells #[.slice none 0 0] n) 143)) w.heap.size n 0 (λ _ _=>false):=by
 refine⟨by simp,by omega,λ i hi=>⟨.slice none 0 0,?_⟩,by omega,λ j=>?_,by omega⟩
 ·rw[World.cell?_alloc_at _ _ _ _ rfl,N6 _ _ _ hi]
 ·rw[World.frozen?_alloc_at _ _ _ _ rfl]
theorem qw.row (h:qw w gm n m (λ _ _=>false))(hs:w.heap.size=gm+1+m)(hm:m<n):qw ((w.alloc (.cells (madeCells #[.bool false] n) 4)).setCell ⟨gm,m,none⟩ (.slice (some ⟨w.heap.size,0,none⟩) n n)) gm n (m+1) (λ _ _=>false):=by
 have k:=((zN.refl [] w).alloc (.cells (madeCells #[.bool false] n) 4));have h1:=h.kept k (by simp);obtain⟨u,hu⟩:=h1.some_ m hm;refine⟨by simp;omega,λ i hi=>?_,λ i hi=>?_,λ i j hi hj=>?_,λ j=>by simpa using h1.N0 j,λ i j hi=>?_⟩
 ·by_cases e:i=m
  ·subst e;rw[Iq hu,hs]
  ·rw[qU (by omega)];exact h1.top i (by omega)
 ·by_cases e:i=m
  ·subst e;exact⟨_,Iq hu⟩
  ·obtain⟨v,hv⟩:=h1.some_ i hi;exact⟨v,by rw[qU (by omega)];exact hv⟩
 ·rw[World.cell?_of_block (Below.heap_setCell _ ⟨gm,m,none⟩ _ (gm+1+i) (by simp;omega))]
  by_cases e:i=m
  ·subst e;rw[<-hs,World.cell?_alloc_at _ _ _ _ rfl,N6 _ _ _ hj]
  ·exact h1.cell i j (by omega) hj
 ·rw[World.frozen?_setCell]
  by_cases e:i=m
  ·subst e;rw[<-hs,World.frozen?_alloc_at _ _ _ _ rfl]
  ·exact h1.fz i j (by omega)
end
section
open Go.RowKit
def vZ (ps:P9)(nm:B8):Nat:=(zM ps nm).toNat
def zfg (ps:P9)(h:Nat):List zL->(Nat->Nat->Bool)->(Nat->Nat->Bool)
 | [],M=>M
 | A::r,M=>zfg ps h r (upd M h (vZ ps A.pred))
def zg0 (ps:P9):List zP->(Nat->Nat->Bool)->(Nat->Nat->Bool)
 | [],M=>M
 | R::r,M=>zg0 ps r (zfg ps (vZ ps R.head.pred) R.body M)
def fwK (n m i:Nat)(M:Nat->Nat->Bool)(k:Nat):Nat->Nat->Bool:=
 if k<n then fwK n m i (if M i m&&M m k then upd M i k else M) (k+1) else M
termination_by n-k
def fwI (n m:Nat)(M:Nat->Nat->Bool)(i:Nat):Nat->Nat->Bool:=
 if i<n then fwI n m (fwK n m i M 0) (i+1) else M
termination_by n-i
def fwM (n:Nat)(M:Nat->Nat->Bool)(m:Nat):Nat->Nat->Bool:=
 if m<n then fwM n (fwI n m M 0) (m+1) else M
termination_by n-m
variable {k n m i:Nat} {M:Nat->Nat->Bool}
theorem z55 (h:k<n):fwK n m i M k=fwK n m i (if M i m&&M m k then upd M i k else M) (k+1):=by rw[fwK,if_pos h]
theorem zy6 (h:¬ k<n):fwK n m i M k=M:=by rw[fwK,if_neg h]
theorem z54 (h:i<n):fwI n m M i=fwI n m (fwK n m i M 0) (i+1):=by rw[fwI,if_pos h]
theorem zy5 (h:¬ i<n):fwI n m M i=M:=by rw[fwI,if_neg h]
theorem zy7 (h:m<n):fwM n M m=fwM n (fwI n m M 0) (m+1):=by rw[fwM,if_pos h]
theorem zrp (h:¬ m<n):fwM n M m=M:=by rw[fwM,if_neg h]
def vF (ps:P9)(rs:List zP):Nat->Nat->Bool:=fwM ps.length (zg0 ps rs (λ _ _=>false)) 0
def zd2 (ps:P9)(l:List zL):Prop:=∀ A∈l,0<=zM ps A.pred
variable {rs:List RR} {ps:P9}
theorem zvk (h:k<rs.length):zg0 ps ((rs.map (·.R)).drop k) M=zg0 ps ((rs.map (·.R)).drop (k+1)) (zfg ps (vZ ps rs[k].R.head.pred) rs[k].R.body M):=by
 rw[List.drop_eq_getElem_cons (by simpa using h),zg0];simp
variable {j:Nat}
theorem zrl {h:Nat}{bs:List (zL × Value)}(hj:j<bs.length):zfg ps h ((bs.map (·.1)).drop j) M=zfg ps h ((bs.map (·.1)).drop (j+1)) (upd M h (vZ ps bs[j].1.pred)):=by
 rw[zd9 hj,zfg]
theorem zhs (h:zd2 ps (yR rs))(hk:k<rs.length):0<=zM ps rs[k].R.head.pred:=
 h _ (List.mem_flatMap.2 ⟨rs[k],List.getElem_mem hk,List.mem_cons_self⟩)
theorem zhr (h:zd2 ps (yR rs))(hk:k<rs.length)(he:rs[k].R.body=rs[k].bs.map (·.1))(hj:j<rs[k].bs.length):0<=zM ps rs[k].bs[j].1.pred:=
 h _ (List.mem_flatMap.2 ⟨rs[k],List.getElem_mem hk,List.mem_cons_of_mem _ (by rw[he];exact List.mem_map.2 ⟨_,List.getElem_mem hj,rfl⟩)⟩)
end
section
open Go.RowKit
theorem zy9 (w:W8)(o:Nat)(rs:List RR)(ps:P9)(rv pv tv sv:Value)(h:ziv w o rs ps rv pv tv sv)(hn:ps.length<=1000)(aL:zd2 ps (yR rs)):
  Calls Tryz.prog 190 #[.pointer (some ⟨o,0,none⟩)] w λ e w'=>e=.returned (.slice (some ⟨w.heap.size,0,none⟩) ps.length ps.length)/\qw w' w.heap.size ps.length ps.length (vF ps (rs.map (·.R)))/\Below w.heap.size w w':=by
 obtain⟨ar,eR,rfl⟩:=zD h.rules;obtain⟨ap,Pq,rfl⟩:=zD h.fC;have kX:=yN h.rules;unfold maxLen at kX;have YY:=zz4 ps.length hn;have YZ:=ztu ps.length hn;have c0:=h.c0;have c1:=h.c1;have aG:=h.lt;have tP:∀ nm wr,Below w.heap.size w wr->Calls Tryz.prog 135 #[.pointer (some ⟨o,0,none⟩),.string nm] wr λ e w'=>e=.returned (.int .i64 (zM ps nm))/\w'=wr:=λ nm wr hb=>qJ wr o rs ps _ _ _ _ nm (h.kept ((zN.refl [] w).ai hb) (by simp))
 have ir:=zC tP;have HH:=zC h;have HA:=zC aL;clear h tP aL;go_enter Tryz.func190,Tryz.ntmps190;go_wp2_with fail
 go_loopw [5] (λ i wr=>∃ m:Nat,m<=ps.length/\i=.int .i64 m/\qw wr w.heap.size ps.length m (λ _ _=>false)/\wr.heap.size=w.heap.size+1+m/\Below w.heap.size w wr) (λ i _=>ps.length-(intOf i).toNat)
 exact⟨0,Nat.zero_le _,rfl,qw.start w ps.length,by simp,B9.alloc L9 _⟩
 case round=>
  obtain⟨m,hm,rfl,cD,aT,hb⟩:=hrel
  by_cases bh:m<ps.length
  ·obtain⟨u,hu⟩:=cD.some_ m bh;have T6:=cD.N0 m;have XK:w.heap.size<wr.heap.size:=(by omega);have aB:=cD.row aT bh;rw[World.setCell_alloc_past _ _ _ _ XK] at aB;have HM:=zC aB;have HS:=zC aT;clear aB;clear cD aT c0 c1;go_wp2_with fail
   go_roundw
   case rel=>exact⟨m+1,by omega,by go_num,zA HM,by have:=zA HS;simp;omega,(hb.setCell L9 _).alloc (by simp;omega) _⟩
   case measure=>simp[intOf];omega
  ·have LG:m=ps.length:=(by omega);subst LG;clear YY YZ aT bh hm c0 c1;go_wp2_with fail
   go_loopg [6,7,8] rs.length (λ gg i h7 k8 wr=>∃ (k:Nat) (M:Nat->Nat->Bool),k<=rs.length/\gg=rs.length-k/\i=.int .i64 k/\qw wr w.heap.size ps.length ps.length M/\Below w.heap.size w wr/\vF ps (rs.map (·.R))=fwM ps.length (zg0 ps ((rs.map (·.R)).drop k) M) 0)
   exact⟨0,_,Nat.zero_le _,rfl,rfl,cD,hb,rfl⟩
   case round=>
    clear cD hb;obtain⟨k,M,hk,iZ,rfl,cD,hb,ax⟩:=hrel;have HF:=zC ax;clear ax;have hm:=(zA HH).kept ((zN.refl [] w).ai hb) (by simp);have c0:=hm.c0
    by_cases aE:k<rs.length
    ·obtain⟨g,cap,hv,oN,bR,cZ,da,q0,q1,q2,q3,q4,q5⟩:=x7 hm.rules k aE;injection hv with h1 h2 h3
     subst h1 h3;have ay:=hm.each _ (List.getElem_mem aE);obtain⟨ab,ku,kN⟩:=zD ay.bo;have o9:=yN ay.bo;unfold maxLen at o9;rw[kN] at q5;have ny:=ay.eq;have az:=zC ((zA HF).trans (congrArg (λ X=>fwM ps.length X 0) (zvk aE)));have Mf:=zhs (zA HA) aE;have AP:zM ps rs[k].R.head.pred<ps.length:=(by have:=xN Mf;omega);clear HF h2;go_wp2_with fail;refine (zA ir _ wr hb).mono ?_;rintro e w1 ⟨rfl,rfl⟩;go_wp2_with fail
     go_loopg [8] rs[k].bs.length (λ gg i wr=>∃ (j:Nat) (M:Nat->Nat->Bool),j<=rs[k].bs.length/\gg=rs[k].bs.length-j/\i=.int .i64 j/\qw wr w.heap.size ps.length ps.length M/\Below w.heap.size w wr/\vF ps (rs.map (·.R))=fwM ps.length (zg0 ps ((rs.map (·.R)).drop (k+1)) (zfg ps (vZ ps rs[k].R.head.pred) ((rs[k].bs.map (·.1)).drop j) M)) 0)
     exact⟨0,M,Nat.zero_le _,rfl,rfl,cD,hb,by rw[List.drop_zero,<-ny];exact zA az⟩
     case round=>
      clear cD hb az hm c0 q0 q1 q2 q3 q4 q5 ay bR;obtain⟨j,M,hj,BI,rfl,cD,hb,ax⟩:=hrel;have HF:=zC ax;clear ax;have hm:=(zA HH).kept ((zN.refl [] w).ai hb) (by simp);have c0:=hm.c0;obtain⟨g',kD,rK,D4,bR,Aa,BA,q0,q1,q2,q3,q4,q5⟩:=x7 hm.rules k aE;injection rK with h1 h2 h3
      injection h1 with h1
      injection h1 with h1
      subst h1 h3;have ay:=hm.each _ (List.getElem_mem aE);rw[kN] at q5
      by_cases ig:j<rs[k].bs.length
      ·obtain⟨gb,xr,oe,D5,zt,Ed,D7,p0,p1,p2,p3,p4⟩:=vE ay.bo j ig;rw[kN] at oe;injection oe with hb11 hb12 o7
       subst hb11 o7;have az:=zC ((zA HF).trans (congrArg (λ X=>fwM ps.length (zg0 ps ((rs.map (·.R)).drop (k+1)) X) 0) (zrl ig)));have Et:=zhr (zA HA) aE ny ig;have FK:zM ps rs[k].bs[j].1.pred<ps.length:=(by have:=xN Et;omega);have t1:=cD.top (zM ps rs[k].R.head.pred).toNat (by omega);have t2:=cD.cell (zM ps rs[k].R.head.pred).toNat (zM ps rs[k].bs[j].1.pred).toNat (by omega) (by omega);have t3:=cD.fz (zM ps rs[k].R.head.pred).toNat (zM ps rs[k].bs[j].1.pred).toNat (by omega);have HM:=zC (cD.set (vZ ps rs[k].R.head.pred) (vZ ps rs[k].bs[j].1.pred) (by unfold vZ;omega) (by unfold vZ;omega));have OO:=zC cD.sz;clear HF h2 hm cD ay hb12;go_wp2_with fail
       go_region_with (go_at_call 135;refine (zA ir _ _ hb.drew).mono ?_;rintro e w1 ⟨rfl,rfl⟩)
       all_goals
        go_wp2_with fail;go_roundg (rs[k].bs.length-(j+1));exact⟨j+1,_,by omega,rfl,by go_num,(zA HM).kept ((zN.refl [] _).drew) (by simp),(hb.setCell (by simp;omega) _).drew,zA az⟩;omega
      ·have zw:(rs[k].bs.map (·.1)).drop j=[]:=List.drop_of_length_le (by simp;omega);have az:=zC (show vF ps (rs.map (·.R))=fwM ps.length (zg0 ps ((rs.map (·.R)).drop (k+1)) M) 0 by rw[zA HF,zw];rfl);clear HF h2 hm;go_wp2_with fail;go_roundg (rs.length-(k+1));exact⟨k+1,M,by omega,rfl,by go_num,cD,hb,zA az⟩;omega
    ·have qn:(rs.map (·.R)).drop k=[]:=List.drop_of_length_le (by simp;omega);have az:=zC (show vF ps (rs.map (·.R))=fwM ps.length M 0 by rw[zA HF,qn];rfl);clear HF hm;go_wp2_with fail;clear c0
     go_loopg [9,10,11] ps.length (λ gg m9 i10 k11 wr=>∃ (m:Nat) (M:Nat->Nat->Bool),m<=ps.length/\gg=ps.length-m/\m9=.int .i64 m/\qw wr w.heap.size ps.length ps.length M/\Below w.heap.size w wr/\vF ps (rs.map (·.R))=fwM ps.length M m)
     exact⟨0,M,Nat.zero_le _,rfl,rfl,cD,hb,zA az⟩
     case round=>
      clear cD hb az;obtain⟨m,M,hm,hgm,rfl,cD,hb,ax⟩:=hrel;have HF:=zC ax;clear ax
      by_cases bh:m<ps.length
      ·have az:=zC ((zA HF).trans (zy7 bh));clear HF;go_wp2_with fail
       go_loopg [10,11] ps.length (λ gg i10 k11 wr=>∃ (i:Nat) (M:Nat->Nat->Bool),i<=ps.length/\gg=ps.length-i/\i10=.int .i64 i/\qw wr w.heap.size ps.length ps.length M/\Below w.heap.size w wr/\vF ps (rs.map (·.R))=fwM ps.length (fwI ps.length m M i) (m+1))
       exact⟨0,M,Nat.zero_le _,rfl,rfl,cD,hb,zA az⟩
       case round=>
        clear cD hb az;obtain⟨i,M,hi,IV,rfl,cD,hb,ax⟩:=hrel;have HF:=zC ax;clear ax
        by_cases lI:i<ps.length
        ·have az:=zC ((zA HF).trans (congrArg (λ X=>fwM ps.length X (m+1)) (z54 lI)));clear HF;go_wp2_with fail
         go_loopg [11] ps.length (λ gg k11 wr=>∃ (k:Nat) (M:Nat->Nat->Bool),k<=ps.length/\gg=ps.length-k/\k11=.int .i64 k/\qw wr w.heap.size ps.length ps.length M/\Below w.heap.size w wr/\vF ps (rs.map (·.R))=fwM ps.length (fwI ps.length m (fwK ps.length m i M k) (i+1)) (m+1))
         exact⟨0,M,Nat.zero_le _,rfl,rfl,cD,hb,zA az⟩
         case round=>
          clear cD hb az;obtain⟨k,M,hk,iZ,rfl,cD,hb,ax⟩:=hrel;have HF:=zC ax;clear ax
          by_cases eU:k<ps.length
          ·have aP:=(zA HF).trans (congrArg (λ X=>fwM ps.length (fwI ps.length m X (i+1)) (m+1)) (z55 eU));have t1:=cD.top i lI;have t2:=cD.cell i m lI bh;have t3:=cD.top m bh;have t4:=cD.cell m k bh eU;have t5:=cD.cell i k lI eU;have t6:=cD.fz i k lI
           cases e1:M i m with
           | false=>
            rw[e1] at t2;rw[e1,Bool.false_and,if_neg (by decide)] at aP;have az:=zC aP;clear HF aP t5;go_wp2_with fail;go_roundg (ps.length-(k+1));exact⟨k+1,M,by omega,rfl,by go_num,cD,hb,zA az⟩;omega
           | true=>
            rw[e1] at t2
            cases e2:M m k with
            | false=>
             rw[e2] at t4;rw[e1,e2,Bool.and_false,if_neg (by decide)] at aP;have az:=zC aP;clear HF aP t5;go_wp2_with fail;go_roundg (ps.length-(k+1));exact⟨k+1,M,by omega,rfl,by go_num,cD,hb,zA az⟩;omega
            | true=>
             rw[e2] at t4;rw[e1,e2,Bool.and_true,if_pos rfl] at aP;have az:=zC aP;have HM:=zC (cD.set i k lI eU);clear HF aP;go_wp2_with fail;go_roundg (ps.length-(k+1));exact⟨k+1,_,by omega,rfl,by go_num,zA HM,hb.setCell (by simp;omega) _,zA az⟩;omega
          ·have az:=zC ((zA HF).trans (congrArg (λ X=>fwM ps.length (fwI ps.length m X (i+1)) (m+1)) (zy6 eU)));clear HF;go_wp2_with fail;go_roundg (ps.length-(i+1));exact⟨i+1,M,by omega,rfl,by go_num,cD,hb,zA az⟩;omega
        ·have az:=zC ((zA HF).trans (congrArg (λ X=>fwM ps.length X (m+1)) (zy5 lI)));clear HF;go_wp2_with fail;go_roundg (ps.length-(m+1));exact⟨m+1,M,by omega,rfl,by go_num,cD,hb,zA az⟩;omega
      ·have az:=zC ((zA HF).trans (zrp bh));clear HF;go_wp2_with fail;go_ret;exact⟨rfl,by rw[zA az];exact cD,hb⟩
end
end Go.Proofs.YtldkpahaocjdpaaGreat
