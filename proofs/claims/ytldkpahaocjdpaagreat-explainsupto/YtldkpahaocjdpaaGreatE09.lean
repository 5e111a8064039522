/-
  The reference's said: whether a variable stands in a positive literal of a rule.
-/
import Derived.Test.YtldkpahaocjdpaaGreatE08
set_option maxHeartbeats 16000000
set_option maxRecDepth 1000000
namespace Go.Proofs.YtldkpahaocjdpaaGreat
section
open Go.RowKit
def Co (nm:B8)(t:xD):Bool:=t.isVar&&t.text.toList==nm.toList
def zzm (nm:B8)(A:zL):Bool:=!A.no&&A.ae.any (Co nm)
def zbf (nm:B8)(l:List zL):Bool:=l.any (zzm nm)
theorem z1o:∀ (l:List xD) (k j:Nat) (hk:k<l.length),j<3->(cellsOf l)[k*3+j]?=(l[k].cells)[j]?:=by
 intro l
 induction l with
 | nil=>intro k j hk;simp at hk
 | cons x r ih=>
  intro k j hk hj;have e:cellsOf (x::r)=x.cells++cellsOf r:=by simp[cellsOf]
  have hl:x.cells.length=3:=rfl
  cases k with
  | zero=>rw[e,List.getElem?_append_left (by omega)];simp
  | succ k=>
   rw[e,List.getElem?_append_right (by omega)];have e2:(k+1)*3+j-x.cells.length=k*3+j:=(by omega);rw[e2,ih k j (by simpa using hk) hj];simp
theorem zat {w:W8}{base:Nat}{tv:Value}{l:List xD}(h:w.ownsRow base 317 3 tv l.length (cellsOf l))(k:Nat)(hk:k<l.length):∃ g cap,tv=.slice (some ⟨g,0,none⟩) l.length cap/\base<=g/\g<w.heap.size/\l.length<=cap/\cap<=maxLen /\
  w.cell? ⟨g,k*3,none⟩=some (.string l[k].text)/\w.cell? ⟨g,k*3+1,none⟩=some (.bool l[k].isVar)/\w.cell? ⟨g,k*3+2,none⟩=some (.int .i64 l[k].at_):=by
 rcases h.2 with⟨_,h0⟩ | ⟨g,cap,cur,rfl,hb,hg,bO,bQ,ij,ht⟩
 ·omega
 ·have hl:=(Array.getElem?_eq_some_iff.1 hg).1;have hc:∀ j,j<3->w.cell? ⟨g,k*3+j,none⟩=(l[k].cells)[j]?:=λ j hj=>by
   rw[h.cellAt (k*3+j) (by omega),z1o l k j hk hj]
  exact⟨g,cap,rfl,hb,hl,bO,bQ,hc 0 (by omega),hc 1 (by omega),hc 2 (by omega)⟩
structure IL (w:W8)(base:Nat)(R:zS)(hv:Value)(bs:List (zL × Value))(bv:Value)(wr:W8):Prop where
 bJ:nA wr base R hv bs bv
 box:wr.cell? ⟨w.heap.size,5,none⟩=some bv
 sz:w.heap.size<wr.heap.size
 below:Below w.heap.size w wr
theorem IL.alloc {w:W8}{base:Nat}{R:zS}{hv:Value}{bs:List (zL × Value)}{bv:Value}{wr:W8}(h:IL w base R hv bs bv wr)(o:Obj):IL w base R hv bs bv (wr.alloc o):=
 ⟨h.bJ.kept ((zK.refl [] _).alloc _) (by simp),by rw[World.cell?_alloc_past _ _ _ h.sz];exact h.box,by have:=h.sz;simp;omega,h.below.alloc (by have:=h.sz;omega) _⟩
theorem z4y {nm:B8}{bs:List (zL × Value)}{i:Nat}(h:i<bs.length):zbf nm ((bs.map (·.1)).drop i)=(zzm nm bs[i].1||zbf nm ((bs.map (·.1)).drop (i+1))):=by
 rw[zfa h];simp[zbf]
theorem zkb {α:Type}{f:α->Bool}{l:List α}{k:Nat}(h:k<l.length):(l.drop k).any f=(f l[k]||(l.drop (k+1)).any f):=by
 rw[List.drop_eq_getElem_cons h,List.any_cons]
theorem z8h (w:W8)(base:Nat)(R:zS)(hv:Value)(bs:List (zL × Value))(bv:Value)(nm:B8)(h:nA w base R hv bs bv):
  Calls Tryz.prog 227 #[zb3 R.head hv bv,.string nm] w λ e w'=>e=.returned (.bool (zbf nm R.body))/\Below w.heap.size w w':=by
 obtain⟨ab,iy,rfl⟩:=zD h.bo;obtain⟨ah,ln,rfl⟩:=zD h.hd;have mL:=yU h.bo;unfold maxLen at mL;rw[h.eq];unfold zb3;have h0:IL w base R (.slice ah R.head.ae.length ln) bs (.slice ab bs.length iy) (w.alloc (.cells #[.string R.head.pred,.slice ah R.head.ae.length ln,.bool R.head.no,.int .i64 R.head.at_,.int .i64 R.head.az,.slice ab bs.length iy] 246)):=
  ⟨h.kept ((zK.refl [] _).alloc _) (by simp),by rw[World.cell?_alloc_at _ _ _ _ rfl];rfl,by simp,B9.alloc L9 _⟩
 clear h;go_enter Tryz.func227,Tryz.ntmps227;go_wp2_with fail
 go_loopg [5] bs.length (λ gg i wr=>∃ k:Nat,k<=bs.length/\gg=bs.length-k/\i=.int .i64 k/\IL w base R (.slice ah R.head.ae.length ln) bs (.slice ab bs.length iy) wr/\zbf nm (bs.map (·.1))=zbf nm ((bs.map (·.1)).drop k))
 exact⟨0,Nat.zero_le _,rfl,rfl,h0,rfl⟩
 case round=>
  clear h0;obtain⟨i,hi,eD,rfl,hinv,aE⟩:=hrel;have HF:=zC aE;clear aE;have dq:=hinv.box;have bj:=hinv.sz
  by_cases mQ:i<bs.length
  ·have aC:=zC ((zA HF).trans (z4y mQ));clear HF;obtain⟨g,cap,Q8,iF,aZ,bO,bQ,q0,q1,q2,q3,q4⟩:=jU hinv.bJ.bo i mQ;injection Q8 with h1 h2 h3
   subst h1 h3;obtain⟨br,mH,fo⟩:=zD (hinv.bJ.bl _ (List.getElem_mem mQ));have lN:=yU (hinv.bJ.bl _ (List.getElem_mem mQ));unfold maxLen at lN;rw[fo] at q1;go_wp2_with fail
   go_loopg [6] bs[i].1.ae.length (λ gg kk wr=>∃ k:Nat,k<=bs[i].1.ae.length/\gg=bs[i].1.ae.length-k/\kk=.int .i64 k/\IL w base R (.slice ah R.head.ae.length ln) bs (.slice (some ⟨g,0,none⟩) bs.length iy) wr/\zbf nm (bs.map (·.1))=(!bs[i].1.no&&(bs[i].1.ae.drop k).any (Co nm)||zbf nm ((bs.map (·.1)).drop (i+1))))
   exact⟨0,Nat.zero_le _,rfl,rfl,hinv,zA aC⟩
   case round=>
    clear aC hinv dq q0 q1 q2 q3 q4 aZ bj;obtain⟨k,hk,KJ,rfl,hinv,aE⟩:=hrel;have HF:=zC aE;clear aE;have dq:=hinv.box;have bj:=hinv.sz;obtain⟨g',dn,Q8,CV,aZ,vm,zv,q0,q1,q2,q3,q4⟩:=jU hinv.bJ.bo i mQ;injection Q8 with h1 h2 h3
    injection h1 with h1
    injection h1 with h1
    subst h1 h3;rw[fo] at q1
    by_cases dF:k<bs[i].1.ae.length
    ·obtain⟨gt,bD,Iy,PG,F1,QB,PO,p0,p1,p2⟩:=zat (hinv.bJ.bl _ (List.getElem_mem mQ)) k dF;rw[fo] at Iy;injection Iy with h4 h5 h6
     subst h4 h6
     cases aX:bs[i].1.no with
     | true=>
      rw[aX] at q2;have aC:=zC (show zbf nm (bs.map (·.1))=zbf nm ((bs.map (·.1)).drop (i+1)) by rw[zA HF,aX];rfl);clear HF;go_wp2_with fail;go_roundg (bs.length-(i+1));exact⟨i+1,by omega,rfl,by go_num,hinv,zA aC⟩;omega
     | false=>
      rw[aX] at q2;have HI:=zC (hinv.alloc (.cells #[.string bs[i].1.ae[k].text,.bool bs[i].1.ae[k].isVar,.int .i64 bs[i].1.ae[k].at_] 317))
      cases hv:Co nm bs[i].1.ae[k] with
      | true=>
       have aC:=zC (show zbf nm (bs.map (·.1))=true by rw[zA HF,aX,zkb dF,hv];rfl);have im:bs[i].1.ae[k].isVar=true:=(by unfold Co at hv;simp at hv;exact hv.1);have Dr:(bs[i].1.ae[k].text.toList==nm.toList)=true:=(by unfold Co at hv;rw[im] at hv;simpa using hv);clear HF hv;rw[im] at p1;go_wp2_with fail;go_ret;exact⟨by rw[zA aC];rfl,by have:=(zA HI).below;rw[im] at this;exact this⟩
      | false=>
       have aC:=zC (show zbf nm (bs.map (·.1))=(!bs[i].1.no&&(bs[i].1.ae.drop (k+1)).any (Co nm)||zbf nm ((bs.map (·.1)).drop (i+1))) by rw[zA HF,zkb dF,hv,Bool.false_or]);clear HF
       cases im:bs[i].1.ae[k].isVar with
       | false=>
        clear hv;rw[im] at p1 HI;go_wp2_with fail;go_roundg (bs[i].1.ae.length-(k+1));exact⟨k+1,by omega,rfl,by go_num,zA HI,zA aC⟩;omega
       | true=>
        have Dr:(bs[i].1.ae[k].text.toList==nm.toList)=false:=(by unfold Co at hv;rw[im] at hv;simpa using hv);clear hv;rw[im] at p1 HI;go_wp2_with fail;go_roundg (bs[i].1.ae.length-(k+1));exact⟨k+1,by omega,rfl,by go_num,zA HI,zA aC⟩;omega
    ·have aC:=zC (show zbf nm (bs.map (·.1))=zbf nm ((bs.map (·.1)).drop (i+1)) by rw[zA HF,List.drop_of_length_le (by omega)];simp);clear HF;go_wp2_with fail;go_roundg (bs.length-(i+1));exact⟨i+1,by omega,rfl,by go_num,hinv,zA aC⟩;omega
  ·have aC:=zC (show zbf nm (bs.map (·.1))=false by rw[zA HF,List.drop_of_length_le (by simp;omega)];rfl);clear HF;go_wp2_with fail;go_ret;exact⟨by rw[zA aC];rfl,hinv.below⟩
end
section
open Go.RowKit
def xC (body:List zL):List xD->Int
 | []=>-1
 | t::r=>if t.isVar&&!zbf t.text body then t.at_ else xC body r
structure II (w:W8)(base:Nat)(R:zS)(hv:Value)(bs:List (zL × Value))(bv:Value)(A:zL)(tv:Value)(wr:W8):Prop where
 bJ:nA wr base R hv bs bv
 ae:wr.ownsRow base 317 3 tv A.ae.length (cellsOf A.ae)
 rc:Cn wr w.heap.size R.head hv bv
 box:wr.cell? ⟨w.heap.size+1,1,none⟩=some tv
 sz:w.heap.size+1<wr.heap.size
 below:Below w.heap.size w wr
variable {w1 w:W8}
theorem II.call {base:Nat}{R:zS}{hv:Value}{bs:List (zL × Value)}{bv:Value}{A:zL}{tv:Value}{wr:W8}(h:II w base R hv bs bv A tv wr)(k:Below wr.heap.size wr w1):II w base R hv bs bv A tv w1:=
 have hk:=(zK.refl [] wr).ak k;have hs:=h.sz
 ⟨h.bJ.kept hk (by simp),yI h.ae hk (by simp),h.rc.kept hk (by omega) (by simp),(hk.cell (p:=⟨w.heap.size+1,1,none⟩) h.sz (by simp)).trans h.box,Nat.lt_of_lt_of_le h.sz k.size,h.below.trans (k.mono (by omega))⟩
theorem zyt {body:List zL}{l:List xD}{k:Nat}(h:k<l.length):xC body (l.drop k)=if l[k].isVar&&!zbf l[k].text body then (l[k].at_:Int) else xC body (l.drop (k+1)):=by
 rw[List.drop_eq_getElem_cons h];rfl
theorem Below.D7 (h:Below w.drew.heap.size w.drew w1):Below w.heap.size w w1:=⟨h.os,h.tape,h.output,h.size,h.block⟩
theorem zrx (w:W8)(base:Nat)(R:zS)(hv:Value)(bs:List (zL × Value))(bv:Value)(A:zL)(tv:Value)(h:nA w base R hv bs bv)(ht:w.ownsRow base 317 3 tv A.ae.length (cellsOf A.ae)):
  Calls Tryz.prog 189 #[zb3 R.head hv bv,A.val tv] w λ e w'=>e=.returned (.int .i64 (xC R.body A.ae))/\Below w.heap.size w w':=by
 obtain⟨ab,iy,rfl⟩:=zD h.bo;obtain⟨ah,ln,rfl⟩:=zD h.hd;obtain⟨br,bD,rfl⟩:=zD ht;have lN:=yU ht;unfold maxLen at lN;unfold zb3 zL.val;have h0:II w base R (.slice ah R.head.ae.length ln) bs (.slice ab bs.length iy) A (.slice br A.ae.length bD) ((w.alloc (.cells #[.string R.head.pred,.slice ah R.head.ae.length ln,.bool R.head.no,.int .i64 R.head.at_,.int .i64 R.head.az,.slice ab bs.length iy] 246)).alloc (.cells #[.string A.pred,.slice br A.ae.length bD,.bool A.no,.int .i64 A.at_,.int .i64 A.az] 243)):=by
  refine⟨h.kept (((zK.refl [] _).alloc _).alloc _) (by simp),(ht.alloc _).alloc _,⟨?_,?_,?_,?_,?_,?_,?_⟩,by rw[World.cell?_alloc_at _ _ _ _ (by simp)];rfl,by simp,(B9.alloc L9 _).alloc (by simp) _⟩
  all_goals first | (rw[World.cell?_alloc_past _ _ _ (by simp),World.cell?_alloc_at _ _ _ _ rfl];rfl) | (intro o;rw[World.frozen?_alloc_past _ _ _ (by simp),World.frozen?_alloc_at _ _ _ _ rfl])
 clear h ht;go_enter Tryz.func189,Tryz.ntmps189;go_wp2_with fail
 go_loopg [5] A.ae.length (λ gg i wr=>∃ k:Nat,k<=A.ae.length/\gg=A.ae.length-k/\i=.int .i64 k/\II w base R (.slice ah R.head.ae.length ln) bs (.slice ab bs.length iy) A (.slice br A.ae.length bD) wr/\xC R.body A.ae=xC R.body (A.ae.drop k))
 exact⟨0,Nat.zero_le _,rfl,rfl,h0,rfl⟩
 case round=>
  clear h0;obtain⟨k,hk,eD,rfl,hinv,aE⟩:=hrel;have HF:=zC aE;clear aE;have dq:=hinv.box;have bj:=hinv.sz;obtain⟨x0,x1,x2,x3,x4,x5,xf⟩:=hinv.rc
  by_cases dF:k<A.ae.length
  ·obtain⟨gt,JR,Iy,PG,F1,QB,PO,p0,p1,p2⟩:=zat hinv.ae k dF;injection Iy with h4 h5 h6
   subst h4 h6;have aC:=zC ((zA HF).trans (zyt dF));clear HF;go_upto_region 4 with fail
   go_cut [6] (λ s wc=>s=.bool (zbf A.ae[k].text R.body)/\II w base R (.slice ah R.head.ae.length ln) bs (.slice ab bs.length iy) A (.slice (some ⟨gt,0,none⟩) A.ae.length bD) wc)
   case first=>
    go_region_with (go_at_call 227;refine (z8h _ base R _ bs _ _ (hinv.bJ.kept ((zK.refl [] _).drew) (by simp))).mono ?_;rintro e w1 ⟨rfl,aL⟩)
    all_goals
     go_wp2_with fail;go_meet
     case rel=>exact⟨rfl,hinv.call (Below.D7 aL)⟩
   case rest=>
    obtain⟨rfl,eX⟩:=hcut;clear hinv dq bj x0 x1 x2 x3 x4 x5 xf p0 p1 p2 F1;have dq:=eX.box;have bj:=eX.sz;obtain⟨gt',JR,Iy,TE,F1,Ub,TJ,p0,p1,p2⟩:=zat eX.ae k dF;injection Iy with h4 h5 h6
    injection h4 with h4
    injection h4 with h4
    subst h4 h6
    cases im:A.ae[k].isVar with
    | false=>
     have aO:=zC (show xC R.body A.ae=xC R.body (A.ae.drop (k+1)) by rw[zA aC,im];rfl);clear aC;rw[im] at p1;go_wp2_with fail;go_roundg (A.ae.length-(k+1));exact⟨k+1,by omega,rfl,by go_num,eX,zA aO⟩;omega
    | true=>
     rw[im] at p1
     cases Nn:zbf A.ae[k].text R.body with
     | true=>
      have aO:=zC (show xC R.body A.ae=xC R.body (A.ae.drop (k+1)) by rw[zA aC,im,Nn];rfl);clear aC;go_wp2_with fail;go_roundg (A.ae.length-(k+1));exact⟨k+1,by omega,rfl,by go_num,eX,zA aO⟩;omega
     | false=>
      have aO:=zC (show xC R.body A.ae=(A.ae[k].at_:Int) by rw[zA aC,im,Nn];rfl);clear aC;go_wp2_with fail;go_ret;exact⟨by rw[zA aO];rfl,eX.below⟩
  ·have aC:=zC (show xC R.body A.ae=-1 by rw[zA HF,List.drop_of_length_le (by omega)];rfl);clear HF;go_wp2_with fail;go_ret;exact⟨by rw[zA aC];rfl,hinv.below⟩
end
section
open Go.RowKit
def xE (body:List zL):List zL->Int
 | []=>-1
 | A::r=>if 0<=(if A.no then xC body A.ae else -1) then xC body A.ae else xE body r
def qN (R:zS):Int:=if 0<=xC R.body R.head.ae then xC R.body R.head.ae else xE R.body R.body
def yT:List zS->Int
 | []=>-1
 | R::r=>if 0<=qN R then qN R else yT r
variable {rs:List RR}
theorem zvf {k:Nat}(h:k<rs.length):yT ((rs.map (·.R)).drop k)=if 0<=qN rs[k].R then qN rs[k].R else yT ((rs.map (·.R)).drop (k+1)):=by
 rw[List.drop_eq_getElem_cons (by simpa using h)];simp[yT]
variable {bs:List (zL × Value)}
theorem znn {body:List zL}{j:Nat}(h:j<bs.length):xE body ((bs.map (·.1)).drop j)=if 0<=(if bs[j].1.no then xC body bs[j].1.ae else -1) then xC body bs[j].1.ae else xE body ((bs.map (·.1)).drop (j+1)):=by
 rw[zfa h];rfl
theorem zys (w:W8)(base:Nat)(R:zS)(hv:Value)(bs:List (zL × Value))(bv:Value)(pd:B8)(ae:List xD)(no:Bool)(at_ az:Nat)(tv:Value)(h:nA w base R hv bs bv)(ht:w.ownsRow base 317 3 tv ae.length (cellsOf ae)):
  Calls Tryz.prog 189 #[.agg #[.string R.head.pred,hv,.bool R.head.no,.int .i64 R.head.at_,.int .i64 R.head.az,bv],.agg #[.string pd,tv,.bool no,.int .i64 at_,.int .i64 az]] w λ e w'=>e=.returned (.int .i64 (xC R.body ae))/\Below w.heap.size w w':=
 zrx w base R hv bs bv ⟨pd,ae,no,at_,az⟩ tv h ht
structure EW (w:W8)(o m:Nat)(rs:List RR)(ps qs:P9)(rv pv tv sv:Value)(R:zS)(hv:Value)(bs:List (zL × Value))(bv:Value)(wx:W8):Prop where
 mem:mB wx o rs ps qs rv pv tv sv
 bJ:nA wx (o+1) R hv bs bv
 rc:Cn wx m R.head hv bv
 sz:m<wx.heap.size
 below:Below w.heap.size w wx
variable {bv hv rv pv tv sv:Value} {ps qs:P9} {o:Nat} {w:W8}
theorem EW.call {m:Nat}{R:zS}{wx w1:W8}(h:EW w o m rs ps qs rv pv tv sv R hv bs bv wx)(k:Below wx.heap.size wx w1):EW w o m rs ps qs rv pv tv sv R hv bs bv w1:=
 have hk:=(zK.refl [] wx).ak k
 ⟨h.mem.kept hk (by simp),h.bJ.kept hk (by simp),h.rc.kept hk h.sz (by simp),Nat.lt_of_lt_of_le h.sz k.size,h.below.trans (k.mono h.below.size)⟩
theorem EW.start {R:zS}{wr:W8}(hm:mB wr o rs ps qs rv pv tv sv)(ax:nA wr (o+1) R hv bs bv)(hb:Below w.heap.size w wr):
  EW w o wr.heap.size rs ps qs rv pv tv sv R hv bs bv (wr.alloc (Obj.cells #[.string R.head.pred,hv,.bool R.head.no,.int .i64 R.head.at_,.int .i64 R.head.az,bv] 246)):=by
 refine⟨hm.kept ((zK.refl [] _).alloc _) (by simp),ax.kept ((zK.refl [] _).alloc _) (by simp),⟨?_,?_,?_,?_,?_,?_,?_⟩,by simp,hb.alloc hb.size _⟩
 all_goals first | (rw[World.cell?_alloc_at _ _ _ _ rfl];rfl) | (intro o;rw[World.frozen?_alloc_at _ _ _ _ rfl])
theorem zz3 (w:W8)(o:Nat)(rs:List RR)(ps qs:P9)(rv pv tv sv:Value)(h:mB w o rs ps qs rv pv tv sv):
  Calls Tryz.prog 127 #[.pointer (some ⟨o,0,none⟩)] w λ e w'=>e=.returned (.int .i64 (yT (rs.map (·.R))))/\Below w.heap.size w w':=by
 obtain⟨ar,dz,rfl⟩:=zD h.rules;have gR:=yU h.rules;unfold maxLen at gR;go_enter Tryz.func127,Tryz.ntmps127;go_wp2_with fail
 go_loopg [3,5] rs.length (λ gg i l5 wr=>∃ k:Nat,k<=rs.length/\gg=rs.length-k/\i=.int .i64 k/\mB wr o rs ps qs (.slice ar rs.length dz) pv tv sv/\Below w.heap.size w wr/\yT (rs.map (·.R))=yT ((rs.map (·.R)).drop k))
 exact⟨0,Nat.zero_le _,rfl,rfl,h,Below.refl _ _,rfl⟩
 case round=>
  obtain⟨k,hk,eD,rfl,hm,hb,aE⟩:=hrel;have HF:=zC aE;clear aE;have nw:=hm;obtain⟨aH,c0,c1,c2,c3,fz,hr,he,hp,ht⟩:=hm
  by_cases aF:k<rs.length
  ·obtain⟨g,cap,hv,iF,aZ,bO,bQ,q0,q1,q2,q3,q4,q5⟩:=jC hr k aF;injection hv with h1 h2 h3
   subst h1 h3;have oM:=List.getElem_mem aF;have ax:=he rs[k] oM;obtain⟨ah,ln,Ae⟩:=zD ax.hd;obtain⟨ab,iy,gT⟩:=zD ax.bo;have mL:=yU ax.bo;unfold maxLen at mL;rw[Ae] at q1;rw[gT] at q5;rw[Ae,gT] at ax;have aC:=zC ((zA HF).trans (zvf aF));clear hr he hp ht h2 h HF;go_wp2_with fail;have Nt:=EW.start nw ax hb;refine (zrx _ (o+1) rs[k].R _ rs[k].bs _ rs[k].R.head _ Nt.bJ Nt.bJ.hd).mono ?_;rintro e w1 ⟨rfl,aL⟩;have Dq:=Nt.call aL;clear Nt aL c0 c1 c2 c3 fz q0 q1 q2 q3 q4 q5 nw ax aH aZ;generalize wr.heap.size=m at *
   cases hq:decide (0<=xC rs[k].R.body rs[k].R.head.ae) with
   | true=>
    have Lr:0<=xC rs[k].R.body rs[k].R.head.ae:=of_decide_eq_true hq;have KV:qN rs[k].R=xC rs[k].R.body rs[k].R.head.ae:=(by unfold qN;rw[if_pos Lr]);have aO:=zC (show yT (rs.map (·.R))=xC rs[k].R.body rs[k].R.head.ae by rw[zA aC,KV,if_pos Lr]);clear aC hq KV;go_wp2_with fail;go_ret;exact⟨by rw[zA aO];rfl,Dq.below⟩
   | false=>
    have Lr:¬ 0<=xC rs[k].R.body rs[k].R.head.ae:=of_decide_eq_false hq;have KV:qN rs[k].R=xE rs[k].R.body ((rs[k].bs.map (·.1)).drop 0):=(by unfold qN;rw[if_neg Lr,List.drop_zero,<-Dq.bJ.eq]);have aO:=zC (show yT (rs.map (·.R))=if 0<=xE rs[k].R.body ((rs[k].bs.map (·.1)).drop 0) then xE rs[k].R.body ((rs[k].bs.map (·.1)).drop 0) else yT ((rs.map (·.R)).drop (k+1)) by rw[zA aC,KV]);obtain⟨x0,x1,x2,x3,x4,x5,xf⟩:=Dq.rc;have bj:=Dq.sz;have Ev:xC rs[k].R.body rs[k].R.head.ae<0:=(by omega);clear aC hq KV Lr;go_wp2_with fail
    go_loopg [5,6] rs[k].bs.length (λ gg l5 i wx=>∃ j:Nat,j<=rs[k].bs.length/\gg=rs[k].bs.length-j/\i=.int .i64 j/\EW w o m rs ps qs (.slice (some ⟨g,0,none⟩) rs.length dz) pv tv sv rs[k].R (.slice ah rs[k].R.head.ae.length ln) rs[k].bs (.slice ab rs[k].bs.length iy) wx/\yT (rs.map (·.R))=if 0<=xE rs[k].R.body ((rs[k].bs.map (·.1)).drop j) then xE rs[k].R.body ((rs[k].bs.map (·.1)).drop j) else yT ((rs.map (·.R)).drop (k+1)))
    exact⟨0,Nat.zero_le _,rfl,rfl,Dq,zA aO⟩
    case round=>
     clear aO Dq x0 x1 x2 x3 x4 x5 xf bj Ev;obtain⟨j,hj,bS,rfl,hu,aE⟩:=hrel;have HF:=zC aE;clear aE;obtain⟨x0,x1,x2,x3,x4,x5,xf⟩:=hu.rc;have bj:=hu.sz
     by_cases fp:j<rs[k].bs.length
     ·have aP:=znn (body:=rs[k].R.body) fp;obtain⟨gb,um,nI,CW,qt,Dd,C0,p0,p1,p2,p3,p4⟩:=jU hu.bJ.bo j fp;injection nI with hb11 hb12 lZ
      subst hb11 lZ;have Nr:=hu.bJ.bl _ (List.getElem_mem fp);obtain⟨br,mH,fo⟩:=zD Nr;rw[fo] at p1 Nr
      cases aX:rs[k].bs[j].1.no with
      | false=>
       rw[aX] at p2
       have aC:=zC (show yT (rs.map (·.R))=if 0<=xE rs[k].R.body ((rs[k].bs.map (·.1)).drop (j+1)) then xE rs[k].R.body ((rs[k].bs.map (·.1)).drop (j+1)) else yT ((rs.map (·.R)).drop (k+1)) by
        rw[zA HF,aP,aX];simp)
       clear HF aP;go_wp2_with fail;go_roundg (rs[k].bs.length-(j+1));exact⟨j+1,by omega,rfl,by go_num,hu,zA aC⟩;omega
      | true=>
       rw[aX] at p2
       have aC:=zC (show yT (rs.map (·.R))=if 0<=xC rs[k].R.body rs[k].bs[j].1.ae then xC rs[k].R.body rs[k].bs[j].1.ae else (if 0<=xE rs[k].R.body ((rs[k].bs.map (·.1)).drop (j+1)) then xE rs[k].R.body ((rs[k].bs.map (·.1)).drop (j+1)) else yT ((rs.map (·.R)).drop (k+1))) by
        rw[zA HF,aP,aX];simp only[if_true]
        by_cases hz:0<=xC rs[k].R.body rs[k].bs[j].1.ae
        ·simp only[hz,if_true]
        ·simp only[hz,if_false])
       clear HF aP;go_upto_region 13 with fail
       go_cut [5] (λ s wc=>s=.int .i64 (xC rs[k].R.body rs[k].bs[j].1.ae)/\EW w o m rs ps qs (.slice (some ⟨g,0,none⟩) rs.length dz) pv tv sv rs[k].R (.slice ah rs[k].R.head.ae.length ln) rs[k].bs (.slice (some ⟨gb,0,none⟩) rs[k].bs.length iy) wc)
       case first=>
        go_region_with (go_at_call 189;refine (zys _ (o+1) rs[k].R _ rs[k].bs _ _ rs[k].bs[j].1.ae _ _ _ _ (hu.bJ.kept ((zK.refl [] _).drew) (by simp)) Nr).mono ?_;rintro e w3 ⟨rfl,cI⟩)
        all_goals
         go_wp2_with fail;go_meet
         case rel=>exact⟨rfl,hu.call (Below.D7 cI)⟩
       case rest=>
        obtain⟨rfl,Q5⟩:=hcut;clear hu x0 x1 x2 x3 x4 x5 xf p0 p1 p2 p3 p4 Nr fo qt bj;have bj:=Q5.sz
        by_cases hz:0<=xC rs[k].R.body rs[k].bs[j].1.ae
        ·have aO:=zC (show yT (rs.map (·.R))=xC rs[k].R.body rs[k].bs[j].1.ae by rw[zA aC,if_pos hz]);clear aC;go_wp2_with fail;go_ret;exact⟨by rw[zA aO];rfl,Q5.below⟩
        ·have aO:=zC (show yT (rs.map (·.R))=if 0<=xE rs[k].R.body ((rs[k].bs.map (·.1)).drop (j+1)) then xE rs[k].R.body ((rs[k].bs.map (·.1)).drop (j+1)) else yT ((rs.map (·.R)).drop (k+1)) by rw[zA aC,if_neg hz]);have Nx:xC rs[k].R.body rs[k].bs[j].1.ae<0:=(by omega);clear aC hz;go_wp2_with fail;go_roundg (rs[k].bs.length-(j+1));exact⟨j+1,by omega,rfl,by go_num,Q5,zA aO⟩;omega
     ·have qv:(rs[k].bs.map (·.1)).drop j=[]:=List.drop_of_length_le (by simp;omega);have aC:=zC (show yT (rs.map (·.R))=yT ((rs.map (·.R)).drop (k+1)) by rw[zA HF,qv];simp[xE]);clear HF;go_wp2_with fail;go_roundg (rs.length-(k+1));exact⟨k+1,by omega,rfl,by go_num,hu.mem,hu.below,zA aC⟩;omega
  ·have aC:=zC (show yT (rs.map (·.R))=-1 by rw[zA HF,List.drop_of_length_le (by simp;omega)];rfl);clear HF hr he hp ht;go_wp2_with fail;go_ret;exact⟨by rw[zA aC];rfl,hb⟩
end
section
open Go.RowKit
variable {v:Value} {b o:Nat} {w:W8}
theorem Hl {u:Value}(h:w.cell? ⟨b,o,none⟩=some u):(w.setCell ⟨b,o,none⟩ v).cell? ⟨b,o,none⟩=some v:=by go_simp
theorem zak {b' o':Nat}(h:¬ (b=b'/\o=o')):(w.setCell ⟨b,o,none⟩ v).cell? ⟨b',o',none⟩=w.cell? ⟨b',o',none⟩:=by
 by_cases hb:b=b'
 ·subst hb;have ho:o≠o':=λ e=>h ⟨rfl,e⟩
  unfold World.cell? World.setCell;simp only[Array.getElem?_modify,if_true]
  cases w.heap[b]? with
  | none=>rfl
  | some x=>cases x <;> simp[ho]
 ·exact World.cell?_of_block (w:=w) (Below.heap_setCell w ⟨b,o,none⟩ v b' (by simp;omega))
def upd (M:Nat->Nat->Bool)(i j:Nat):Nat->Nat->Bool:=λ a b=>(decide (a=i)&&decide (b=j))||M a b
structure nB (w:W8)(gm n m:Nat)(M:Nat->Nat->Bool):Prop where
 sz:gm+1+m<=w.heap.size
 top:∀ i,i<m->w.cell? ⟨gm,i,none⟩=some (.slice (some ⟨gm+1+i,0,none⟩) n n)
 some_:∀ i,i<n->∃ u,w.cell? ⟨gm,i,none⟩=some u
 cell:∀ i j,i<m->j<n->w.cell? ⟨gm+1+i,j,none⟩=some (.bool (M i j))
 NH:∀ j,w.frozen? ⟨gm,j,none⟩=false
 fz:∀ i j,i<m->w.frozen? ⟨gm+1+i,j,none⟩=false
variable {M:Nat->Nat->Bool} {gm n m:Nat}
theorem nB.kept {B:List Nat}{w':W8}(h:nB w gm n m M)(k:zK B w w')(hB:∀ x∈B,x<gm):nB w' gm n m M:=by
 have hn:∀ x,gm<=x->x∉B:=λ x hx hm=>by have:=hB x hm;omega
 have hs:=h.sz
 exact⟨Nat.le_trans h.sz k.size,λ i hi=>(k.cell (p:=⟨gm,i,none⟩) (by simp;omega) (hn _ (by simp))).trans (h.top i hi),λ i hi=>by obtain⟨u,hu⟩:=h.some_ i hi;exact⟨u,(k.cell (p:=⟨gm,i,none⟩) (by simp;omega) (hn _ (by simp))).trans hu⟩,
  λ i j hi hj=>(k.cell (p:=⟨gm+1+i,j,none⟩) (by simp;omega) (hn _ (by simp;omega))).trans (h.cell i j hi hj),λ j=>(k.frozen (p:=⟨gm,j,none⟩) (by simp;omega) (hn _ (by simp))).trans (h.NH j),λ i j hi=>(k.frozen (p:=⟨gm+1+i,j,none⟩) (by simp;omega) (hn _ (by simp;omega))).trans (h.fz i j hi)⟩
theorem nB.set (h:nB w gm n m M)(i j:Nat)(hi:i<m)(hj:j<n):nB (w.setCell ⟨gm+1+i,j,none⟩ (.bool true)) gm n m (upd M i j):=by
 have cd:=h.cell i j hi hj;refine⟨by simpa using h.sz,λ a ha=>?_,λ a ha=>?_,λ a b ha hb=>?_,λ b=>by simpa using h.NH b,λ a b ha=>by simpa using h.fz a b ha⟩
 ·rw[World.cell?_of_block (w:=w) (Below.heap_setCell w ⟨gm+1+i,j,none⟩ _ gm (by simp;omega))];exact h.top a ha
 ·obtain⟨u,hu⟩:=h.some_ a ha;exact⟨u,by rw[World.cell?_of_block (w:=w) (Below.heap_setCell w ⟨gm+1+i,j,none⟩ _ gm (by simp;omega))];exact hu⟩
 ·by_cases Kg:a=i
  ·by_cases hbj:b=j
   ·subst Kg hbj;rw[Hl cd];simp[upd]
   ·rw[zak (by omega),h.cell a b ha hb];simp[upd,hbj]
  ·rw[zak (by omega),h.cell a b ha hb];simp[upd,Kg]
theorem z69:(Tryz.prog.info? 4).map (λ i=>(i.zero,i.size,i.bytes))=some (some (.bool false),1,1):=by kernel_rfl
theorem z2m:(Tryz.prog.info? 143).map (λ i=>(i.zero,i.size,i.bytes))=some (some (.slice none 0 0),1,24):=by kernel_rfl
theorem z3f (n:Nat)(hn:n<=1000)(u:W8):(Instr.makeSlice 314 (.int .i64 n) (.int .i64 n)).run Tryz.prog u=.ok (.slice (some ⟨u.heap.size,0,none⟩) n n) (u.alloc (.cells (madeCells #[.slice none 0 0] n) 143)):=by
 obtain⟨i0,hi,bL,aY,bg⟩:=info_parts z2m;have h:=run_make (P:=Tryz.prog) u 314 143 i0 (.slice none 0 0) Tryz.underlying314 hi bL .i64 .i64 (n:Int) (n:Int) (by omega) (Int.le_refl _) (by rw[bg];omega) (by omega);simpa[aY,Value.cells] using h
theorem zpn (n:Nat)(hn:n<=1000)(u:W8):(Instr.makeSlice 143 (.int .i64 n) (.int .i64 n)).run Tryz.prog u=.ok (.slice (some ⟨u.heap.size,0,none⟩) n n) (u.alloc (.cells (madeCells #[.bool false] n) 4)):=by
 obtain⟨i0,hi,bL,aY,bg⟩:=info_parts z69;have h:=run_make (P:=Tryz.prog) u 143 4 i0 (.bool false) Tryz.underlying143 hi bL .i64 .i64 (n:Int) (n:Int) (by omega) (Int.le_refl _) (by rw[bg];omega) (by omega);simpa[aY,Value.cells] using h
theorem NV (z:Value)(n i:Nat)(h:i<n):(madeCells #[z] n)[i]?=some z:=by
 have:=toList_madeCells_one z n;rw[<-Array.getElem?_toList,this,List.getElem?_replicate,if_pos h]
theorem nB.start (w:W8)(n:Nat):nB (w.alloc (.cells (madeCells #[.slice none 0 0] n) 143)) w.heap.size n 0 (λ _ _=>false):=by
 refine⟨by simp,by omega,λ i hi=>⟨.slice none 0 0,?_⟩,by omega,λ j=>?_,by omega⟩
 ·rw[World.cell?_alloc_at _ _ _ _ rfl,NV _ _ _ hi]
 ·rw[World.frozen?_alloc_at _ _ _ _ rfl]
theorem nB.row (h:nB w gm n m (λ _ _=>false))(hs:w.heap.size=gm+1+m)(hm:m<n):nB ((w.alloc (.cells (madeCells #[.bool false] n) 4)).setCell ⟨gm,m,none⟩ (.slice (some ⟨w.heap.size,0,none⟩) n n)) gm n (m+1) (λ _ _=>false):=by
 have k:=((zK.refl [] w).alloc (.cells (madeCells #[.bool false] n) 4));have h1:=h.kept k (by simp);obtain⟨u,hu⟩:=h1.some_ m hm;refine⟨by simp;omega,λ i hi=>?_,λ i hi=>?_,λ i j hi hj=>?_,λ j=>by simpa using h1.NH j,λ i j hi=>?_⟩
 ·by_cases e:i=m
  ·subst e;rw[Hl hu,hs]
  ·rw[zak (by omega)];exact h1.top i (by omega)
 ·by_cases e:i=m
  ·subst e;exact⟨_,Hl hu⟩
  ·obtain⟨v,hv⟩:=h1.some_ i hi;exact⟨v,by rw[zak (by omega)];exact hv⟩
 ·rw[World.cell?_of_block (Below.heap_setCell _ ⟨gm,m,none⟩ _ (gm+1+i) (by simp;omega))]
  by_cases e:i=m
  ·subst e;rw[<-hs,World.cell?_alloc_at _ _ _ _ rfl,NV _ _ _ hj]
  ·exact h1.cell i j (by omega) hj
 ·rw[World.frozen?_setCell]
  by_cases e:i=m
  ·subst e;rw[<-hs,World.frozen?_alloc_at _ _ _ _ rfl]
  ·exact h1.fz i j (by omega)
end
section
open Go.RowKit
def qJ (ps:P9)(nm:B8):Nat:=(zM ps nm).toNat
def zgr (ps:P9)(h:Nat):List zL->(Nat->Nat->Bool)->(Nat->Nat->Bool)
 | [],M=>M
 | A::r,M=>zgr ps h r (upd M h (qJ ps A.pred))
def zh4 (ps:P9):List zS->(Nat->Nat->Bool)->(Nat->Nat->Bool)
 | [],M=>M
 | R::r,M=>zh4 ps r (zgr ps (qJ ps R.head.pred) R.body M)
def fwK (n m i:Nat)(M:Nat->Nat->Bool)(k:Nat):Nat->Nat->Bool:=
 if k<n then fwK n m i (if M i m&&M m k then upd M i k else M) (k+1) else M
termination_by n-k
def fwI (n m:Nat)(M:Nat->Nat->Bool)(i:Nat):Nat->Nat->Bool:=
 if i<n then fwI n m (fwK n m i M 0) (i+1) else M
termination_by n-i
def fwM (n:Nat)(M:Nat->Nat->Bool)(m:Nat):Nat->Nat->Bool:=
 if m<n then fwM n (fwI n m M 0) (m+1) else M
termination_by n-m
variable {k n m i:Nat} {M:Nat->Nat->Bool}
theorem z9t (h:k<n):fwK n m i M k=fwK n m i (if M i m&&M m k then upd M i k else M) (k+1):=by rw[fwK,if_pos h]
theorem z2f (h:¬ k<n):fwK n m i M k=M:=by rw[fwK,if_neg h]
theorem z9s (h:i<n):fwI n m M i=fwI n m (fwK n m i M 0) (i+1):=by rw[fwI,if_pos h]
theorem z2e (h:¬ i<n):fwI n m M i=M:=by rw[fwI,if_neg h]
theorem z2g (h:m<n):fwM n M m=fwM n (fwI n m M 0) (m+1):=by rw[fwM,if_pos h]
theorem zt8 (h:¬ m<n):fwM n M m=M:=by rw[fwM,if_neg h]
def vI (ps:P9)(rs:List zS):Nat->Nat->Bool:=fwM ps.length (zh4 ps rs (λ _ _=>false)) 0
def zgi (ps:P9)(l:List zL):Prop:=∀ A∈l,0<=zM ps A.pred
variable {rs:List RR} {ps:P9}
theorem zya (h:k<rs.length):zh4 ps ((rs.map (·.R)).drop k) M=zh4 ps ((rs.map (·.R)).drop (k+1)) (zgr ps (qJ ps rs[k].R.head.pred) rs[k].R.body M):=by
 rw[List.drop_eq_getElem_cons (by simpa using h),zh4];simp
variable {j:Nat}
theorem zt3 {h:Nat}{bs:List (zL × Value)}(hj:j<bs.length):zgr ps h ((bs.map (·.1)).drop j) M=zgr ps h ((bs.map (·.1)).drop (j+1)) (upd M h (qJ ps bs[j].1.pred)):=by
 rw[zfa hj,zgr]
theorem zi0 (h:zgi ps (yJ rs))(hk:k<rs.length):0<=zM ps rs[k].R.head.pred:=
 h _ (List.mem_flatMap.2 ⟨rs[k],List.getElem_mem hk,List.mem_cons_self⟩)
theorem ziz (h:zgi ps (yJ rs))(hk:k<rs.length)(he:rs[k].R.body=rs[k].bs.map (·.1))(hj:j<rs[k].bs.length):0<=zM ps rs[k].bs[j].1.pred:=
 h _ (List.mem_flatMap.2 ⟨rs[k],List.getElem_mem hk,List.mem_cons_of_mem _ (by rw[he];exact List.mem_map.2 ⟨_,List.getElem_mem hj,rfl⟩)⟩)
end
section
open Go.RowKit
theorem z2j (w:W8)(o:Nat)(rs:List RR)(ps:P9)(rv pv tv sv:Value)(h:znv w o rs ps rv pv tv sv)(hn:ps.length<=1000)(aS:zgi ps (yJ rs)):
  Calls Tryz.prog 190 #[.pointer (some ⟨o,0,none⟩)] w λ e w'=>e=.returned (.slice (some ⟨w.heap.size,0,none⟩) ps.length ps.length)/\nB w' w.heap.size ps.length ps.length (vI ps (rs.map (·.R)))/\Below w.heap.size w w':=by
 obtain⟨ar,dz,rfl⟩:=zD h.rules;obtain⟨ap,Pb,rfl⟩:=zD h.fH;have gR:=yU h.rules;unfold maxLen at gR;have Y7:=z3f ps.length hn;have Y8:=zpn ps.length hn;have c0:=h.c0;have c1:=h.c1;have aH:=h.lt;have qz:∀ nm wr,Below w.heap.size w wr->Calls Tryz.prog 135 #[.pointer (some ⟨o,0,none⟩),.string nm] wr λ e w'=>e=.returned (.int .i64 (zM ps nm))/\w'=wr:=λ nm wr hb=>zcd wr o rs ps _ _ _ _ nm (h.kept ((zK.refl [] w).ak hb) (by simp))
 have ni:=zC qz;have HH:=zC h;have HA:=zC aS;clear h qz aS;go_enter Tryz.func190,Tryz.ntmps190;go_wp2_with fail
 go_loopw [5] (λ i wr=>∃ m:Nat,m<=ps.length/\i=.int .i64 m/\nB wr w.heap.size ps.length m (λ _ _=>false)/\wr.heap.size=w.heap.size+1+m/\Below w.heap.size w wr) (λ i _=>ps.length-(intOf i).toNat)
 exact⟨0,Nat.zero_le _,rfl,nB.start w ps.length,by simp,B9.alloc L9 _⟩
 case round=>
  obtain⟨m,hm,rfl,bE,bj,hb⟩:=hrel
  by_cases bh:m<ps.length
  ·obtain⟨u,hu⟩:=bE.some_ m bh;have Im:=bE.NH m;have X8:w.heap.size<wr.heap.size:=(by omega);have aB:=bE.row bj bh;rw[World.setCell_alloc_past _ _ _ _ X8] at aB;have HM:=zC aB;have HS:=zC bj;clear aB;clear bE bj c0 c1;go_wp2_with fail
   go_roundw
   case rel=>exact⟨m+1,by omega,by go_num,zA HM,by have:=zA HS;simp;omega,(hb.setCell L9 _).alloc (by simp;omega) _⟩
   case measure=>simp[intOf];omega
  ·have It:m=ps.length:=(by omega);subst It;clear Y7 Y8 bj bh hm c0 c1;go_wp2_with fail
   go_loopg [6,7,8] rs.length (λ gg i h7 k8 wr=>∃ (k:Nat) (M:Nat->Nat->Bool),k<=rs.length/\gg=rs.length-k/\i=.int .i64 k/\nB wr w.heap.size ps.length ps.length M/\Below w.heap.size w wr/\vI ps (rs.map (·.R))=fwM ps.length (zh4 ps ((rs.map (·.R)).drop k) M) 0)
   exact⟨0,_,Nat.zero_le _,rfl,rfl,bE,hb,rfl⟩
   case round=>
    clear bE hb;obtain⟨k,M,hk,eD,rfl,bE,hb,aE⟩:=hrel;have HF:=zC aE;clear aE;have hm:=(zA HH).kept ((zK.refl [] w).ak hb) (by simp);have c0:=hm.c0
    by_cases aF:k<rs.length
    ·obtain⟨g,cap,hv,iF,aZ,bO,bQ,q0,q1,q2,q3,q4,q5⟩:=jC hm.rules k aF;injection hv with h1 h2 h3
     subst h1 h3;have ax:=hm.each _ (List.getElem_mem aF);obtain⟨ab,iy,gT⟩:=zD ax.bo;have mL:=yU ax.bo;unfold maxLen at mL;rw[gT] at q5;have lx:=ax.eq;have aC:=zC ((zA HF).trans (congrArg (λ X=>fwM ps.length X 0) (zya aF)));have EJ:=zi0 (zA HA) aF;have tf:zM ps rs[k].R.head.pred<ps.length:=(by have:=vP EJ;omega);clear HF h2;go_wp2_with fail;refine (zA ni _ wr hb).mono ?_;rintro e w1 ⟨rfl,rfl⟩;go_wp2_with fail
     go_loopg [8] rs[k].bs.length (λ gg i wr=>∃ (j:Nat) (M:Nat->Nat->Bool),j<=rs[k].bs.length/\gg=rs[k].bs.length-j/\i=.int .i64 j/\nB wr w.heap.size ps.length ps.length M/\Below w.heap.size w wr/\vI ps (rs.map (·.R))=fwM ps.length (zh4 ps ((rs.map (·.R)).drop (k+1)) (zgr ps (qJ ps rs[k].R.head.pred) ((rs[k].bs.map (·.1)).drop j) M)) 0)
     exact⟨0,M,Nat.zero_le _,rfl,rfl,bE,hb,by rw[List.drop_zero,<-lx];exact zA aC⟩
     case round=>
      clear bE hb aC hm c0 q0 q1 q2 q3 q4 q5 ax aZ;obtain⟨j,M,hj,xj,rfl,bE,hb,aE⟩:=hrel;have HF:=zC aE;clear aE;have hm:=(zA HH).kept ((zK.refl [] w).ak hb) (by simp);have c0:=hm.c0;obtain⟨g',dn,oc,CV,aZ,vm,zv,q0,q1,q2,q3,q4,q5⟩:=jC hm.rules k aF;injection oc with h1 h2 h3
      injection h1 with h1
      injection h1 with h1
      subst h1 h3;have ax:=hm.each _ (List.getElem_mem aF);rw[gT] at q5
      by_cases fp:j<rs[k].bs.length
      ·obtain⟨gb,um,nI,CW,qt,Dd,C0,p0,p1,p2,p3,p4⟩:=jU ax.bo j fp;rw[gT] at nI;injection nI with hb11 hb12 lZ
       subst hb11 lZ;have aC:=zC ((zA HF).trans (congrArg (λ X=>fwM ps.length (zh4 ps ((rs.map (·.R)).drop (k+1)) X) 0) (zt3 fp)));have GH:=ziz (zA HA) aF lx fp;have IA:zM ps rs[k].bs[j].1.pred<ps.length:=(by have:=vP GH;omega);have t1:=bE.top (zM ps rs[k].R.head.pred).toNat (by omega);have t2:=bE.cell (zM ps rs[k].R.head.pred).toNat (zM ps rs[k].bs[j].1.pred).toNat (by omega) (by omega);have t3:=bE.fz (zM ps rs[k].R.head.pred).toNat (zM ps rs[k].bs[j].1.pred).toNat (by omega);have HM:=zC (bE.set (qJ ps rs[k].R.head.pred) (qJ ps rs[k].bs[j].1.pred) (by unfold qJ;omega) (by unfold qJ;omega));have Oy:=zC bE.sz;clear HF h2 hm bE ax hb12;go_wp2_with fail
       go_region_with (go_at_call 135;refine (zA ni _ _ hb.drew).mono ?_;rintro e w1 ⟨rfl,rfl⟩)
       all_goals
        go_wp2_with fail;go_roundg (rs[k].bs.length-(j+1));exact⟨j+1,_,by omega,rfl,by go_num,(zA HM).kept ((zK.refl [] _).drew) (by simp),(hb.setCell (by simp;omega) _).drew,zA aC⟩;omega
      ·have qv:(rs[k].bs.map (·.1)).drop j=[]:=List.drop_of_length_le (by simp;omega);have aC:=zC (show vI ps (rs.map (·.R))=fwM ps.length (zh4 ps ((rs.map (·.R)).drop (k+1)) M) 0 by rw[zA HF,qv];rfl);clear HF h2 hm;go_wp2_with fail;go_roundg (rs.length-(k+1));exact⟨k+1,M,by omega,rfl,by go_num,bE,hb,zA aC⟩;omega
    ·have Gb:(rs.map (·.R)).drop k=[]:=List.drop_of_length_le (by simp;omega);have aC:=zC (show vI ps (rs.map (·.R))=fwM ps.length M 0 by rw[zA HF,Gb];rfl);clear HF hm;go_wp2_with fail;clear c0
     go_loopg [9,10,11] ps.length (λ gg m9 i10 k11 wr=>∃ (m:Nat) (M:Nat->Nat->Bool),m<=ps.length/\gg=ps.length-m/\m9=.int .i64 m/\nB wr w.heap.size ps.length ps.length M/\Below w.heap.size w wr/\vI ps (rs.map (·.R))=fwM ps.length M m)
     exact⟨0,M,Nat.zero_le _,rfl,rfl,bE,hb,zA aC⟩
     case round=>
      clear bE hb aC;obtain⟨m,M,hm,Ad,rfl,bE,hb,aE⟩:=hrel;have HF:=zC aE;clear aE
      by_cases bh:m<ps.length
      ·have aC:=zC ((zA HF).trans (z2g bh));clear HF;go_wp2_with fail
       go_loopg [10,11] ps.length (λ gg i10 k11 wr=>∃ (i:Nat) (M:Nat->Nat->Bool),i<=ps.length/\gg=ps.length-i/\i10=.int .i64 i/\nB wr w.heap.size ps.length ps.length M/\Below w.heap.size w wr/\vI ps (rs.map (·.R))=fwM ps.length (fwI ps.length m M i) (m+1))
       exact⟨0,M,Nat.zero_le _,rfl,rfl,bE,hb,zA aC⟩
       case round=>
        clear bE hb aC;obtain⟨i,M,hi,M9,rfl,bE,hb,aE⟩:=hrel;have HF:=zC aE;clear aE
        by_cases mQ:i<ps.length
        ·have aC:=zC ((zA HF).trans (congrArg (λ X=>fwM ps.length X (m+1)) (z9s mQ)));clear HF;go_wp2_with fail
         go_loopg [11] ps.length (λ gg k11 wr=>∃ (k:Nat) (M:Nat->Nat->Bool),k<=ps.length/\gg=ps.length-k/\k11=.int .i64 k/\nB wr w.heap.size ps.length ps.length M/\Below w.heap.size w wr/\vI ps (rs.map (·.R))=fwM ps.length (fwI ps.length m (fwK ps.length m i M k) (i+1)) (m+1))
         exact⟨0,M,Nat.zero_le _,rfl,rfl,bE,hb,zA aC⟩
         case round=>
          clear bE hb aC;obtain⟨k,M,hk,eD,rfl,bE,hb,aE⟩:=hrel;have HF:=zC aE;clear aE
          by_cases dF:k<ps.length
          ·have aP:=(zA HF).trans (congrArg (λ X=>fwM ps.length (fwI ps.length m X (i+1)) (m+1)) (z9t dF));have t1:=bE.top i mQ;have t2:=bE.cell i m mQ bh;have t3:=bE.top m bh;have t4:=bE.cell m k bh dF;have t5:=bE.cell i k mQ dF;have t6:=bE.fz i k mQ
           cases e1:M i m with
           | false=>
            rw[e1] at t2;rw[e1,Bool.false_and,if_neg (by decide)] at aP;have aC:=zC aP;clear HF aP t5;go_wp2_with fail;go_roundg (ps.length-(k+1));exact⟨k+1,M,by omega,rfl,by go_num,bE,hb,zA aC⟩;omega
           | true=>
            rw[e1] at t2
            cases e2:M m k with
            | false=>
             rw[e2] at t4;rw[e1,e2,Bool.and_false,if_neg (by decide)] at aP;have aC:=zC aP;clear HF aP t5;go_wp2_with fail;go_roundg (ps.length-(k+1));exact⟨k+1,M,by omega,rfl,by go_num,bE,hb,zA aC⟩;omega
            | true=>
             rw[e2] at t4;rw[e1,e2,Bool.and_true,if_pos rfl] at aP;have aC:=zC aP;have HM:=zC (bE.set i k mQ dF);clear HF aP;go_wp2_with fail;go_roundg (ps.length-(k+1));exact⟨k+1,_,by omega,rfl,by go_num,zA HM,hb.setCell (by simp;omega) _,zA aC⟩;omega
          ·have aC:=zC ((zA HF).trans (congrArg (λ X=>fwM ps.length (fwI ps.length m X (i+1)) (m+1)) (z2f dF)));clear HF;go_wp2_with fail;go_roundg (ps.length-(i+1));exact⟨i+1,M,by omega,rfl,by go_num,bE,hb,zA aC⟩;omega
        ·have aC:=zC ((zA HF).trans (congrArg (λ X=>fwM ps.length X (m+1)) (z2e mQ)));clear HF;go_wp2_with fail;go_roundg (ps.length-(m+1));exact⟨m+1,M,by omega,rfl,by go_num,bE,hb,zA aC⟩;omega
      ·have aC:=zC ((zA HF).trans (zt8 bh));clear HF;go_wp2_with fail;go_ret;exact⟨rfl,by rw[zA aC];exact bE,hb⟩
end
end Go.Proofs.YtldkpahaocjdpaaGreat
