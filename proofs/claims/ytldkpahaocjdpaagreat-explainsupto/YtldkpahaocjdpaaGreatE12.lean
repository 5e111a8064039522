/-
  The reference's said: whether a variable stands in a positive literal of a rule.
-/
import Derived.Test.YtldkpahaocjdpaaGreatE11
set_option maxHeartbeats 16000000
set_option maxRecDepth 1000000
namespace Go.Proofs.YtldkpahaocjdpaaGreat
section
open Go.RowKit
def B5 (nm:B8)(t:xE):Bool:=t.isVar&&t.text.toList==nm.toList
def zzb (nm:B8)(A:zL):Bool:=!A.no&&A.ae.any (B5 nm)
def zbe (nm:B8)(l:List zL):Bool:=l.any (zzb nm)
theorem z0i:∀ (l:List xE) (k j:Nat) (hk:k<l.length),j<3->(cellsOf l)[k*3+j]?=(l[k].cells)[j]?:=by
 intro l
 induction l with
 | nil=>intro k j hk;simp at hk
 | cons x r ih=>
  intro k j hk hj;have e:cellsOf (x::r)=x.cells++cellsOf r:=by simp[cellsOf]
  have hl:x.cells.length=3:=rfl
  cases k with
  | zero=>rw[e,List.getElem?_append_left (by omega)];simp
  | succ k=>
   rw[e,List.getElem?_append_right (by omega)];have e2:(k+1)*3+j-x.cells.length=k*3+j:=(by omega);rw[e2,ih k j (by simpa using hk) hj];simp
theorem zap {w:W8}{base:Nat}{tv:Value}{l:List xE}(h:w.ownsRow base 317 3 tv l.length (cellsOf l))(k:Nat)(hk:k<l.length):∃ g cap,tv=.slice (some ⟨g,0,none⟩) l.length cap/\base<=g/\g<w.heap.size/\l.length<=cap/\cap<=maxLen /\
  w.cell? ⟨g,k*3,none⟩=some (.string l[k].text)/\w.cell? ⟨g,k*3+1,none⟩=some (.bool l[k].isVar)/\w.cell? ⟨g,k*3+2,none⟩=some (.int .i64 l[k].at_):=by
 rcases h.2 with⟨_,h0⟩ | ⟨g,cap,cur,rfl,hb,hg,bO,bP,iq,ht⟩
 ·omega
 ·have hl:=(Array.getElem?_eq_some_iff.1 hg).1;have hc:∀ j,j<3->w.cell? ⟨g,k*3+j,none⟩=(l[k].cells)[j]?:=λ j hj=>by
   rw[h.cellAt (k*3+j) (by omega),z0i l k j hk hj]
  exact⟨g,cap,rfl,hb,hl,bO,bP,hc 0 (by omega),hc 1 (by omega),hc 2 (by omega)⟩
structure Iu (w:W8)(base:Nat)(R:zS)(hv:Value)(bs:List (zL × Value))(bv:Value)(wr:W8):Prop where
 bK:nA wr base R hv bs bv
 box:wr.cell? ⟨w.heap.size,5,none⟩=some bv
 sz:w.heap.size<wr.heap.size
 below:Below w.heap.size w wr
theorem Iu.alloc {w:W8}{base:Nat}{R:zS}{hv:Value}{bs:List (zL × Value)}{bv:Value}{wr:W8}(h:Iu w base R hv bs bv wr)(o:Obj):Iu w base R hv bs bv (wr.alloc o):=
 ⟨h.bK.kept ((zK.refl [] _).alloc _) (by simp),by rw[World.cell?_alloc_past _ _ _ h.sz];exact h.box,by have:=h.sz;simp;omega,h.below.alloc (by have:=h.sz;omega) _⟩
theorem z3f {nm:B8}{bs:List (zL × Value)}{i:Nat}(h:i<bs.length):zbe nm ((bs.map (·.1)).drop i)=(zzb nm bs[i].1||zbe nm ((bs.map (·.1)).drop (i+1))):=by
 rw[zfs h];simp[zbe]
theorem zkp {α:Type}{f:α->Bool}{l:List α}{k:Nat}(h:k<l.length):(l.drop k).any f=(f l[k]||(l.drop (k+1)).any f):=by
 rw[List.drop_eq_getElem_cons h,List.any_cons]
theorem z7f (w:W8)(base:Nat)(R:zS)(hv:Value)(bs:List (zL × Value))(bv:Value)(nm:B8)(h:nA w base R hv bs bv):
  Calls Tryz.prog 227 #[zb1 R.head hv bv,.string nm] w λ e w'=>e=.returned (.bool (zbe nm R.body))/\Below w.heap.size w w':=by
 obtain⟨ab,iA,rfl⟩:=zD h.bo;obtain⟨ah,lE,rfl⟩:=zD h.hd;have mZ:=yU h.bo;unfold maxLen at mZ;rw[h.eq];unfold zb1;have h0:Iu w base R (.slice ah R.head.ae.length lE) bs (.slice ab bs.length iA) (w.alloc (.cells #[.string R.head.pred,.slice ah R.head.ae.length lE,.bool R.head.no,.int .i64 R.head.at_,.int .i64 R.head.az,.slice ab bs.length iA] 246)):=
  ⟨h.kept ((zK.refl [] _).alloc _) (by simp),by rw[World.cell?_alloc_at _ _ _ _ rfl];rfl,by simp,B9.alloc L9 _⟩
 clear h;go_enter Tryz.func227,Tryz.ntmps227;go_wp2_with fail
 go_loopg [5] bs.length (λ gg i wr=>∃ k:Nat,k<=bs.length/\gg=bs.length-k/\i=.int .i64 k/\Iu w base R (.slice ah R.head.ae.length lE) bs (.slice ab bs.length iA) wr/\zbe nm (bs.map (·.1))=zbe nm ((bs.map (·.1)).drop k))
 exact⟨0,Nat.zero_le _,rfl,rfl,h0,rfl⟩
 case round=>
  clear h0;obtain⟨i,hi,eA,rfl,hinv,aE⟩:=hrel;have HF:=zC aE;clear aE;have dn:=hinv.box;have bj:=hinv.sz
  by_cases mO:i<bs.length
  ·have aC:=zC ((zA HF).trans (z3f mO));clear HF;obtain⟨g,cap,O4,iG,aZ,bO,bP,q0,q1,q2,q3,q4⟩:=jY hinv.bK.bo i mO;injection O4 with h1 h2 h3
   subst h1 h3;obtain⟨br,mV,fp⟩:=zD (hinv.bK.bl _ (List.getElem_mem mO));have lN:=yU (hinv.bK.bl _ (List.getElem_mem mO));unfold maxLen at lN;rw[fp] at q1;go_wp2_with fail
   go_loopg [6] bs[i].1.ae.length (λ gg kk wr=>∃ k:Nat,k<=bs[i].1.ae.length/\gg=bs[i].1.ae.length-k/\kk=.int .i64 k/\Iu w base R (.slice ah R.head.ae.length lE) bs (.slice (some ⟨g,0,none⟩) bs.length iA) wr/\zbe nm (bs.map (·.1))=(!bs[i].1.no&&(bs[i].1.ae.drop k).any (B5 nm)||zbe nm ((bs.map (·.1)).drop (i+1))))
   exact⟨0,Nat.zero_le _,rfl,rfl,hinv,zA aC⟩
   case round=>
    clear aC hinv dn q0 q1 q2 q3 q4 aZ bj;obtain⟨k,hk,L6,rfl,hinv,aE⟩:=hrel;have HF:=zC aE;clear aE;have dn:=hinv.box;have bj:=hinv.sz;obtain⟨g',dp,O4,CQ,aZ,wu,AX,q0,q1,q2,q3,q4⟩:=jY hinv.bK.bo i mO;injection O4 with h1 h2 h3
    injection h1 with h1
    injection h1 with h1
    subst h1 h3;rw[fp] at q1
    by_cases dF:k<bs[i].1.ae.length
    ·obtain⟨gt,bD,Hw,QD,FT,N1,PT,p0,p1,p2⟩:=zap (hinv.bK.bl _ (List.getElem_mem mO)) k dF;rw[fp] at Hw;injection Hw with h4 h5 h6
     subst h4 h6
     cases aW:bs[i].1.no with
     | true=>
      rw[aW] at q2;have aC:=zC (show zbe nm (bs.map (·.1))=zbe nm ((bs.map (·.1)).drop (i+1)) by rw[zA HF,aW];rfl);clear HF;go_wp2_with fail;go_roundg (bs.length-(i+1));exact⟨i+1,by omega,rfl,by go_num,hinv,zA aC⟩;omega
     | false=>
      rw[aW] at q2;have HI:=zC (hinv.alloc (.cells #[.string bs[i].1.ae[k].text,.bool bs[i].1.ae[k].isVar,.int .i64 bs[i].1.ae[k].at_] 317))
      cases hv:B5 nm bs[i].1.ae[k] with
      | true=>
       have aC:=zC (show zbe nm (bs.map (·.1))=true by rw[zA HF,aW,zkp dF,hv];rfl);have im:bs[i].1.ae[k].isVar=true:=(by unfold B5 at hv;simp at hv;exact hv.1);have Dk:(bs[i].1.ae[k].text.toList==nm.toList)=true:=(by unfold B5 at hv;rw[im] at hv;simpa using hv);clear HF hv;rw[im] at p1;go_wp2_with fail;go_ret;exact⟨by rw[zA aC];rfl,by have:=(zA HI).below;rw[im] at this;exact this⟩
      | false=>
       have aC:=zC (show zbe nm (bs.map (·.1))=(!bs[i].1.no&&(bs[i].1.ae.drop (k+1)).any (B5 nm)||zbe nm ((bs.map (·.1)).drop (i+1))) by rw[zA HF,zkp dF,hv,Bool.false_or]);clear HF
       cases im:bs[i].1.ae[k].isVar with
       | false=>
        clear hv;rw[im] at p1 HI;go_wp2_with fail;go_roundg (bs[i].1.ae.length-(k+1));exact⟨k+1,by omega,rfl,by go_num,zA HI,zA aC⟩;omega
       | true=>
        have Dk:(bs[i].1.ae[k].text.toList==nm.toList)=false:=(by unfold B5 at hv;rw[im] at hv;simpa using hv);clear hv;rw[im] at p1 HI;go_wp2_with fail;go_roundg (bs[i].1.ae.length-(k+1));exact⟨k+1,by omega,rfl,by go_num,zA HI,zA aC⟩;omega
    ·have aC:=zC (show zbe nm (bs.map (·.1))=zbe nm ((bs.map (·.1)).drop (i+1)) by rw[zA HF,List.drop_of_length_le (by omega)];simp);clear HF;go_wp2_with fail;go_roundg (bs.length-(i+1));exact⟨i+1,by omega,rfl,by go_num,hinv,zA aC⟩;omega
  ·have aC:=zC (show zbe nm (bs.map (·.1))=false by rw[zA HF,List.drop_of_length_le (by simp;omega)];rfl);clear HF;go_wp2_with fail;go_ret;exact⟨by rw[zA aC];rfl,hinv.below⟩
end
section
open Go.RowKit
def xC (body:List zL):List xE->Int
 | []=>-1
 | t::r=>if t.isVar&&!zbe t.text body then t.at_ else xC body r
structure II (w:W8)(base:Nat)(R:zS)(hv:Value)(bs:List (zL × Value))(bv:Value)(A:zL)(tv:Value)(wr:W8):Prop where
 bK:nA wr base R hv bs bv
 ae:wr.ownsRow base 317 3 tv A.ae.length (cellsOf A.ae)
 rc:B4 wr w.heap.size R.head hv bv
 box:wr.cell? ⟨w.heap.size+1,1,none⟩=some tv
 sz:w.heap.size+1<wr.heap.size
 below:Below w.heap.size w wr
variable {w1 w:W8}
theorem II.call {base:Nat}{R:zS}{hv:Value}{bs:List (zL × Value)}{bv:Value}{A:zL}{tv:Value}{wr:W8}(h:II w base R hv bs bv A tv wr)(k:Below wr.heap.size wr w1):II w base R hv bs bv A tv w1:=
 have hk:=(zK.refl [] wr).ak k;have hs:=h.sz
 ⟨h.bK.kept hk (by simp),yI h.ae hk (by simp),h.rc.kept hk (by omega) (by simp),(hk.cell (p:=⟨w.heap.size+1,1,none⟩) h.sz (by simp)).trans h.box,Nat.lt_of_lt_of_le h.sz k.size,h.below.trans (k.mono (by omega))⟩
theorem zy0 {body:List zL}{l:List xE}{k:Nat}(h:k<l.length):xC body (l.drop k)=if l[k].isVar&&!zbe l[k].text body then (l[k].at_:Int) else xC body (l.drop (k+1)):=by
 rw[List.drop_eq_getElem_cons h];rfl
theorem Below.EA (h:Below w.drew.heap.size w.drew w1):Below w.heap.size w w1:=⟨h.os,h.tape,h.output,h.size,h.block⟩
theorem zss (w:W8)(base:Nat)(R:zS)(hv:Value)(bs:List (zL × Value))(bv:Value)(A:zL)(tv:Value)(h:nA w base R hv bs bv)(ht:w.ownsRow base 317 3 tv A.ae.length (cellsOf A.ae)):
  Calls Tryz.prog 189 #[zb1 R.head hv bv,A.val tv] w λ e w'=>e=.returned (.int .i64 (xC R.body A.ae))/\Below w.heap.size w w':=by
 obtain⟨ab,iA,rfl⟩:=zD h.bo;obtain⟨ah,lE,rfl⟩:=zD h.hd;obtain⟨br,bD,rfl⟩:=zD ht;have lN:=yU ht;unfold maxLen at lN;unfold zb1 zL.val;have h0:II w base R (.slice ah R.head.ae.length lE) bs (.slice ab bs.length iA) A (.slice br A.ae.length bD) ((w.alloc (.cells #[.string R.head.pred,.slice ah R.head.ae.length lE,.bool R.head.no,.int .i64 R.head.at_,.int .i64 R.head.az,.slice ab bs.length iA] 246)).alloc (.cells #[.string A.pred,.slice br A.ae.length bD,.bool A.no,.int .i64 A.at_,.int .i64 A.az] 243)):=by
  refine⟨h.kept (((zK.refl [] _).alloc _).alloc _) (by simp),(ht.alloc _).alloc _,⟨?_,?_,?_,?_,?_,?_,?_⟩,by rw[World.cell?_alloc_at _ _ _ _ (by simp)];rfl,by simp,(B9.alloc L9 _).alloc (by simp) _⟩
  all_goals first | (rw[World.cell?_alloc_past _ _ _ (by simp),World.cell?_alloc_at _ _ _ _ rfl];rfl) | (intro o;rw[World.frozen?_alloc_past _ _ _ (by simp),World.frozen?_alloc_at _ _ _ _ rfl])
 clear h ht;go_enter Tryz.func189,Tryz.ntmps189;go_wp2_with fail
 go_loopg [5] A.ae.length (λ gg i wr=>∃ k:Nat,k<=A.ae.length/\gg=A.ae.length-k/\i=.int .i64 k/\II w base R (.slice ah R.head.ae.length lE) bs (.slice ab bs.length iA) A (.slice br A.ae.length bD) wr/\xC R.body A.ae=xC R.body (A.ae.drop k))
 exact⟨0,Nat.zero_le _,rfl,rfl,h0,rfl⟩
 case round=>
  clear h0;obtain⟨k,hk,eA,rfl,hinv,aE⟩:=hrel;have HF:=zC aE;clear aE;have dn:=hinv.box;have bj:=hinv.sz;obtain⟨x0,x1,x2,x3,x4,x5,xf⟩:=hinv.rc
  by_cases dF:k<A.ae.length
  ·obtain⟨gt,LG,Hw,QD,FT,N1,PT,p0,p1,p2⟩:=zap hinv.ae k dF;injection Hw with h4 h5 h6
   subst h4 h6;have aC:=zC ((zA HF).trans (zy0 dF));clear HF;go_upto_region 4 with fail
   go_cut [6] (λ s wc=>s=.bool (zbe A.ae[k].text R.body)/\II w base R (.slice ah R.head.ae.length lE) bs (.slice ab bs.length iA) A (.slice (some ⟨gt,0,none⟩) A.ae.length bD) wc)
   case first=>
    go_region_with (go_at_call 227;refine (z7f _ base R _ bs _ _ (hinv.bK.kept ((zK.refl [] _).drew) (by simp))).mono ?_;rintro e w1 ⟨rfl,aL⟩)
    all_goals
     go_wp2_with fail;go_meet
     case rel=>exact⟨rfl,hinv.call (Below.EA aL)⟩
   case rest=>
    obtain⟨rfl,fa⟩:=hcut;clear hinv dn bj x0 x1 x2 x3 x4 x5 xf p0 p1 p2 FT;have dn:=fa.box;have bj:=fa.sz;obtain⟨gt',LG,Hw,SF,FT,Uq,SG,p0,p1,p2⟩:=zap fa.ae k dF;injection Hw with h4 h5 h6
    injection h4 with h4
    injection h4 with h4
    subst h4 h6
    cases im:A.ae[k].isVar with
    | false=>
     have aP:=zC (show xC R.body A.ae=xC R.body (A.ae.drop (k+1)) by rw[zA aC,im];rfl);clear aC;rw[im] at p1;go_wp2_with fail;go_roundg (A.ae.length-(k+1));exact⟨k+1,by omega,rfl,by go_num,fa,zA aP⟩;omega
    | true=>
     rw[im] at p1
     cases MR:zbe A.ae[k].text R.body with
     | true=>
      have aP:=zC (show xC R.body A.ae=xC R.body (A.ae.drop (k+1)) by rw[zA aC,im,MR];rfl);clear aC;go_wp2_with fail;go_roundg (A.ae.length-(k+1));exact⟨k+1,by omega,rfl,by go_num,fa,zA aP⟩;omega
     | false=>
      have aP:=zC (show xC R.body A.ae=(A.ae[k].at_:Int) by rw[zA aC,im,MR];rfl);clear aC;go_wp2_with fail;go_ret;exact⟨by rw[zA aP];rfl,fa.below⟩
  ·have aC:=zC (show xC R.body A.ae=-1 by rw[zA HF,List.drop_of_length_le (by omega)];rfl);clear HF;go_wp2_with fail;go_ret;exact⟨by rw[zA aC];rfl,hinv.below⟩
end
section
open Go.RowKit
def xJ (body:List zL):List zL->Int
 | []=>-1
 | A::r=>if 0<=(if A.no then xC body A.ae else -1) then xC body A.ae else xJ body r
def qL (R:zS):Int:=if 0<=xC R.body R.head.ae then xC R.body R.head.ae else xJ R.body R.body
def yT:List zS->Int
 | []=>-1
 | R::r=>if 0<=qL R then qL R else yT r
variable {rs:List RR}
theorem zvg {k:Nat}(h:k<rs.length):yT ((rs.map (·.R)).drop k)=if 0<=qL rs[k].R then qL rs[k].R else yT ((rs.map (·.R)).drop (k+1)):=by
 rw[List.drop_eq_getElem_cons (by simpa using h)];simp[yT]
variable {bs:List (zL × Value)}
theorem znn {body:List zL}{j:Nat}(h:j<bs.length):xJ body ((bs.map (·.1)).drop j)=if 0<=(if bs[j].1.no then xC body bs[j].1.ae else -1) then xC body bs[j].1.ae else xJ body ((bs.map (·.1)).drop (j+1)):=by
 rw[zfs h];rfl
theorem zx2 (w:W8)(base:Nat)(R:zS)(hv:Value)(bs:List (zL × Value))(bv:Value)(pd:B8)(ae:List xE)(no:Bool)(at_ az:Nat)(tv:Value)(h:nA w base R hv bs bv)(ht:w.ownsRow base 317 3 tv ae.length (cellsOf ae)):
  Calls Tryz.prog 189 #[.agg #[.string R.head.pred,hv,.bool R.head.no,.int .i64 R.head.at_,.int .i64 R.head.az,bv],.agg #[.string pd,tv,.bool no,.int .i64 at_,.int .i64 az]] w λ e w'=>e=.returned (.int .i64 (xC R.body ae))/\Below w.heap.size w w':=
 zss w base R hv bs bv ⟨pd,ae,no,at_,az⟩ tv h ht
structure EL (w:W8)(o m:Nat)(rs:List RR)(ps qs:P9)(rv pv tv sv:Value)(R:zS)(hv:Value)(bs:List (zL × Value))(bv:Value)(wx:W8):Prop where
 mem:mu wx o rs ps qs rv pv tv sv
 bK:nA wx (o+1) R hv bs bv
 rc:B4 wx m R.head hv bv
 sz:m<wx.heap.size
 below:Below w.heap.size w wx
variable {bv hv rv pv tv sv:Value} {R:zS} {ps qs:P9} {o:Nat} {w:W8}
theorem EL.call {m:Nat}{wx w1:W8}(h:EL w o m rs ps qs rv pv tv sv R hv bs bv wx)(k:Below wx.heap.size wx w1):EL w o m rs ps qs rv pv tv sv R hv bs bv w1:=
 have hk:=(zK.refl [] wx).ak k
 ⟨h.mem.kept hk (by simp),h.bK.kept hk (by simp),h.rc.kept hk h.sz (by simp),Nat.lt_of_lt_of_le h.sz k.size,h.below.trans (k.mono h.below.size)⟩
theorem EL.start {wr:W8}(hm:mu wr o rs ps qs rv pv tv sv)(ax:nA wr (o+1) R hv bs bv)(hb:Below w.heap.size w wr):
  EL w o wr.heap.size rs ps qs rv pv tv sv R hv bs bv (wr.alloc (Obj.cells #[.string R.head.pred,hv,.bool R.head.no,.int .i64 R.head.at_,.int .i64 R.head.az,bv] 246)):=by
 refine⟨hm.kept ((zK.refl [] _).alloc _) (by simp),ax.kept ((zK.refl [] _).alloc _) (by simp),⟨?_,?_,?_,?_,?_,?_,?_⟩,by simp,hb.alloc hb.size _⟩
 all_goals first | (rw[World.cell?_alloc_at _ _ _ _ rfl];rfl) | (intro o;rw[World.frozen?_alloc_at _ _ _ _ rfl])
theorem zx8 (w:W8)(o:Nat)(rs:List RR)(ps qs:P9)(rv pv tv sv:Value)(h:mu w o rs ps qs rv pv tv sv):
  Calls Tryz.prog 127 #[.pointer (some ⟨o,0,none⟩)] w λ e w'=>e=.returned (.int .i64 (yT (rs.map (·.R))))/\Below w.heap.size w w':=by
 obtain⟨ar,dA,rfl⟩:=zD h.rules;have gL:=yU h.rules;unfold maxLen at gL;go_enter Tryz.func127,Tryz.ntmps127;go_wp2_with fail
 go_loopg [3,5] rs.length (λ gg i l5 wr=>∃ k:Nat,k<=rs.length/\gg=rs.length-k/\i=.int .i64 k/\mu wr o rs ps qs (.slice ar rs.length dA) pv tv sv/\Below w.heap.size w wr/\yT (rs.map (·.R))=yT ((rs.map (·.R)).drop k))
 exact⟨0,Nat.zero_le _,rfl,rfl,h,Below.refl _ _,rfl⟩
 case round=>
  obtain⟨k,hk,eA,rfl,hm,hb,aE⟩:=hrel;have HF:=zC aE;clear aE;have nu:=hm;obtain⟨aH,c0,c1,c2,c3,fz,hr,he,hp,ht⟩:=hm
  by_cases aF:k<rs.length
  ·obtain⟨g,cap,hv,iG,aZ,bO,bP,q0,q1,q2,q3,q4,q5⟩:=jC hr k aF;injection hv with h1 h2 h3
   subst h1 h3;have oL:=List.getElem_mem aF;have ax:=he rs[k] oL;obtain⟨ah,lE,yv⟩:=zD ax.hd;obtain⟨ab,iA,gU⟩:=zD ax.bo;have mZ:=yU ax.bo;unfold maxLen at mZ;rw[yv] at q1;rw[gU] at q5;rw[yv,gU] at ax;have aC:=zC ((zA HF).trans (zvg aF));clear hr he hp ht h2 h HF;go_wp2_with fail;have ML:=EL.start nu ax hb;refine (zss _ (o+1) rs[k].R _ rs[k].bs _ rs[k].R.head _ ML.bK ML.bK.hd).mono ?_;rintro e w1 ⟨rfl,aL⟩;have Ds:=ML.call aL;clear ML aL c0 c1 c2 c3 fz q0 q1 q2 q3 q4 q5 nu ax aH aZ;generalize wr.heap.size=m at *
   cases hq:decide (0<=xC rs[k].R.body rs[k].R.head.ae) with
   | true=>
    have JH:0<=xC rs[k].R.body rs[k].R.head.ae:=of_decide_eq_true hq;have Lg:qL rs[k].R=xC rs[k].R.body rs[k].R.head.ae:=(by unfold qL;rw[if_pos JH]);have aP:=zC (show yT (rs.map (·.R))=xC rs[k].R.body rs[k].R.head.ae by rw[zA aC,Lg,if_pos JH]);clear aC hq Lg;go_wp2_with fail;go_ret;exact⟨by rw[zA aP];rfl,Ds.below⟩
   | false=>
    have JH:¬ 0<=xC rs[k].R.body rs[k].R.head.ae:=of_decide_eq_false hq;have Lg:qL rs[k].R=xJ rs[k].R.body ((rs[k].bs.map (·.1)).drop 0):=(by unfold qL;rw[if_neg JH,List.drop_zero,<-Ds.bK.eq]);have aP:=zC (show yT (rs.map (·.R))=if 0<=xJ rs[k].R.body ((rs[k].bs.map (·.1)).drop 0) then xJ rs[k].R.body ((rs[k].bs.map (·.1)).drop 0) else yT ((rs.map (·.R)).drop (k+1)) by rw[zA aC,Lg]);obtain⟨x0,x1,x2,x3,x4,x5,xf⟩:=Ds.rc;have bj:=Ds.sz;have EI:xC rs[k].R.body rs[k].R.head.ae<0:=(by omega);clear aC hq Lg JH;go_wp2_with fail
    go_loopg [5,6] rs[k].bs.length (λ gg l5 i wx=>∃ j:Nat,j<=rs[k].bs.length/\gg=rs[k].bs.length-j/\i=.int .i64 j/\EL w o m rs ps qs (.slice (some ⟨g,0,none⟩) rs.length dA) pv tv sv rs[k].R (.slice ah rs[k].R.head.ae.length lE) rs[k].bs (.slice ab rs[k].bs.length iA) wx/\yT (rs.map (·.R))=if 0<=xJ rs[k].R.body ((rs[k].bs.map (·.1)).drop j) then xJ rs[k].R.body ((rs[k].bs.map (·.1)).drop j) else yT ((rs.map (·.R)).drop (k+1)))
    exact⟨0,Nat.zero_le _,rfl,rfl,Ds,zA aP⟩
    case round=>
     clear aP Ds x0 x1 x2 x3 x4 x5 xf bj EI;obtain⟨j,hj,bS,rfl,hu,aE⟩:=hrel;have HF:=zC aE;clear aE;obtain⟨x0,x1,x2,x3,x4,x5,xf⟩:=hu.rc;have bj:=hu.sz
     by_cases fu:j<rs[k].bs.length
     ·have aO:=znn (body:=rs[k].R.body) fu;obtain⟨gb,uv,nG,Dx,qk,CE,CR,p0,p1,p2,p3,p4⟩:=jY hu.bK.bo j fu;injection nG with hb11 hb12 mg
      subst hb11 mg;have Mv:=hu.bK.bl _ (List.getElem_mem fu);obtain⟨br,mV,fp⟩:=zD Mv;rw[fp] at p1 Mv
      cases aW:rs[k].bs[j].1.no with
      | false=>
       rw[aW] at p2
       have aC:=zC (show yT (rs.map (·.R))=if 0<=xJ rs[k].R.body ((rs[k].bs.map (·.1)).drop (j+1)) then xJ rs[k].R.body ((rs[k].bs.map (·.1)).drop (j+1)) else yT ((rs.map (·.R)).drop (k+1)) by
        rw[zA HF,aO,aW];simp)
       clear HF aO;go_wp2_with fail;go_roundg (rs[k].bs.length-(j+1));exact⟨j+1,by omega,rfl,by go_num,hu,zA aC⟩;omega
      | true=>
       rw[aW] at p2
       have aC:=zC (show yT (rs.map (·.R))=if 0<=xC rs[k].R.body rs[k].bs[j].1.ae then xC rs[k].R.body rs[k].bs[j].1.ae else (if 0<=xJ rs[k].R.body ((rs[k].bs.map (·.1)).drop (j+1)) then xJ rs[k].R.body ((rs[k].bs.map (·.1)).drop (j+1)) else yT ((rs.map (·.R)).drop (k+1))) by
        rw[zA HF,aO,aW];simp only[if_true]
        by_cases hz:0<=xC rs[k].R.body rs[k].bs[j].1.ae
        ·simp only[hz,if_true]
        ·simp only[hz,if_false])
       clear HF aO;go_upto_region 13 with fail
       go_cut [5] (λ s wc=>s=.int .i64 (xC rs[k].R.body rs[k].bs[j].1.ae)/\EL w o m rs ps qs (.slice (some ⟨g,0,none⟩) rs.length dA) pv tv sv rs[k].R (.slice ah rs[k].R.head.ae.length lE) rs[k].bs (.slice (some ⟨gb,0,none⟩) rs[k].bs.length iA) wc)
       case first=>
        go_region_with (go_at_call 189;refine (zx2 _ (o+1) rs[k].R _ rs[k].bs _ _ rs[k].bs[j].1.ae _ _ _ _ (hu.bK.kept ((zK.refl [] _).drew) (by simp)) Mv).mono ?_;rintro e w3 ⟨rfl,cI⟩)
        all_goals
         go_wp2_with fail;go_meet
         case rel=>exact⟨rfl,hu.call (Below.EA cI)⟩
       case rest=>
        obtain⟨rfl,OH⟩:=hcut;clear hu x0 x1 x2 x3 x4 x5 xf p0 p1 p2 p3 p4 Mv fp qk bj;have bj:=OH.sz
        by_cases hz:0<=xC rs[k].R.body rs[k].bs[j].1.ae
        ·have aP:=zC (show yT (rs.map (·.R))=xC rs[k].R.body rs[k].bs[j].1.ae by rw[zA aC,if_pos hz]);clear aC;go_wp2_with fail;go_ret;exact⟨by rw[zA aP];rfl,OH.below⟩
        ·have aP:=zC (show yT (rs.map (·.R))=if 0<=xJ rs[k].R.body ((rs[k].bs.map (·.1)).drop (j+1)) then xJ rs[k].R.body ((rs[k].bs.map (·.1)).drop (j+1)) else yT ((rs.map (·.R)).drop (k+1)) by rw[zA aC,if_neg hz]);have Nl:xC rs[k].R.body rs[k].bs[j].1.ae<0:=(by omega);clear aC hz;go_wp2_with fail;go_roundg (rs[k].bs.length-(j+1));exact⟨j+1,by omega,rfl,by go_num,OH,zA aP⟩;omega
     ·have qi:(rs[k].bs.map (·.1)).drop j=[]:=List.drop_of_length_le (by simp;omega);have aC:=zC (show yT (rs.map (·.R))=yT ((rs.map (·.R)).drop (k+1)) by rw[zA HF,qi];simp[xJ]);clear HF;go_wp2_with fail;go_roundg (rs.length-(k+1));exact⟨k+1,by omega,rfl,by go_num,hu.mem,hu.below,zA aC⟩;omega
  ·have aC:=zC (show yT (rs.map (·.R))=-1 by rw[zA HF,List.drop_of_length_le (by simp;omega)];rfl);clear HF hr he hp ht;go_wp2_with fail;go_ret;exact⟨by rw[zA aC];rfl,hb⟩
end
section
open Go.RowKit
variable {v:Value} {b o:Nat} {w:W8}
theorem Gi {u:Value}(h:w.cell? ⟨b,o,none⟩=some u):(w.setCell ⟨b,o,none⟩ v).cell? ⟨b,o,none⟩=some v:=by go_simp
theorem zal {b' o':Nat}(h:¬ (b=b'/\o=o')):(w.setCell ⟨b,o,none⟩ v).cell? ⟨b',o',none⟩=w.cell? ⟨b',o',none⟩:=by
 by_cases hb:b=b'
 ·subst hb;have ho:o≠o':=λ e=>h ⟨rfl,e⟩
  unfold World.cell? World.setCell;simp only[Array.getElem?_modify,if_true]
  cases w.heap[b]? with
  | none=>rfl
  | some x=>cases x <;> simp[ho]
 ·exact World.cell?_of_block (w:=w) (Below.heap_setCell w ⟨b,o,none⟩ v b' (by simp;omega))
def upd (M:Nat->Nat->Bool)(i j:Nat):Nat->Nat->Bool:=λ a b=>(decide (a=i)&&decide (b=j))||M a b
structure nN (w:W8)(gm n m:Nat)(M:Nat->Nat->Bool):Prop where
 sz:gm+1+m<=w.heap.size
 top:∀ i,i<m->w.cell? ⟨gm,i,none⟩=some (.slice (some ⟨gm+1+i,0,none⟩) n n)
 some_:∀ i,i<n->∃ u,w.cell? ⟨gm,i,none⟩=some u
 cell:∀ i j,i<m->j<n->w.cell? ⟨gm+1+i,j,none⟩=some (.bool (M i j))
 MS:∀ j,w.frozen? ⟨gm,j,none⟩=false
 fz:∀ i j,i<m->w.frozen? ⟨gm+1+i,j,none⟩=false
variable {M:Nat->Nat->Bool} {gm n m:Nat}
theorem nN.kept {B:List Nat}{w':W8}(h:nN w gm n m M)(k:zK B w w')(hB:∀ x∈B,x<gm):nN w' gm n m M:=by
 have hn:∀ x,gm<=x->x∉B:=λ x hx hm=>by have:=hB x hm;omega
 have hs:=h.sz
 exact⟨Nat.le_trans h.sz k.size,λ i hi=>(k.cell (p:=⟨gm,i,none⟩) (by simp;omega) (hn _ (by simp))).trans (h.top i hi),λ i hi=>by obtain⟨u,hu⟩:=h.some_ i hi;exact⟨u,(k.cell (p:=⟨gm,i,none⟩) (by simp;omega) (hn _ (by simp))).trans hu⟩,
  λ i j hi hj=>(k.cell (p:=⟨gm+1+i,j,none⟩) (by simp;omega) (hn _ (by simp;omega))).trans (h.cell i j hi hj),λ j=>(k.frozen (p:=⟨gm,j,none⟩) (by simp;omega) (hn _ (by simp))).trans (h.MS j),λ i j hi=>(k.frozen (p:=⟨gm+1+i,j,none⟩) (by simp;omega) (hn _ (by simp;omega))).trans (h.fz i j hi)⟩
theorem nN.set (h:nN w gm n m M)(i j:Nat)(hi:i<m)(hj:j<n):nN (w.setCell ⟨gm+1+i,j,none⟩ (.bool true)) gm n m (upd M i j):=by
 have cd:=h.cell i j hi hj;refine⟨by simpa using h.sz,λ a ha=>?_,λ a ha=>?_,λ a b ha hb=>?_,λ b=>by simpa using h.MS b,λ a b ha=>by simpa using h.fz a b ha⟩
 ·rw[World.cell?_of_block (w:=w) (Below.heap_setCell w ⟨gm+1+i,j,none⟩ _ gm (by simp;omega))];exact h.top a ha
 ·obtain⟨u,hu⟩:=h.some_ a ha;exact⟨u,by rw[World.cell?_of_block (w:=w) (Below.heap_setCell w ⟨gm+1+i,j,none⟩ _ gm (by simp;omega))];exact hu⟩
 ·by_cases I7:a=i
  ·by_cases hbj:b=j
   ·subst I7 hbj;rw[Gi cd];simp[upd]
   ·rw[zal (by omega),h.cell a b ha hb];simp[upd,hbj]
  ·rw[zal (by omega),h.cell a b ha hb];simp[upd,I7]
theorem z8h:(Tryz.prog.info? 4).map (λ i=>(i.zero,i.size,i.bytes))=some (some (.bool false),1,1):=by kernel_rfl
theorem z5s:(Tryz.prog.info? 143).map (λ i=>(i.zero,i.size,i.bytes))=some (some (.slice none 0 0),1,24):=by kernel_rfl
theorem z5n (n:Nat)(hn:n<=1000)(u:W8):(Instr.makeSlice 314 (.int .i64 n) (.int .i64 n)).run Tryz.prog u=.ok (.slice (some ⟨u.heap.size,0,none⟩) n n) (u.alloc (.cells (madeCells #[.slice none 0 0] n) 143)):=by
 obtain⟨i0,hi,bL,aY,bf⟩:=info_parts z5s;have h:=run_make (P:=Tryz.prog) u 314 143 i0 (.slice none 0 0) Tryz.underlying314 hi bL .i64 .i64 (n:Int) (n:Int) (by omega) (Int.le_refl _) (by rw[bf];omega) (by omega);simpa[aY,.cells] using h
theorem zpk (n:Nat)(hn:n<=1000)(u:W8):(Instr.makeSlice 143 (.int .i64 n) (.int .i64 n)).run Tryz.prog u=.ok (.slice (some ⟨u.heap.size,0,none⟩) n n) (u.alloc (.cells (madeCells #[.bool false] n) 4)):=by
 obtain⟨i0,hi,bL,aY,bf⟩:=info_parts z8h;have h:=run_make (P:=Tryz.prog) u 143 4 i0 (.bool false) Tryz.underlying143 hi bL .i64 .i64 (n:Int) (n:Int) (by omega) (Int.le_refl _) (by rw[bf];omega) (by omega);simpa[aY,.cells] using h
theorem Nc (z:Value)(n i:Nat)(h:i<n):(madeCells #[z] n)[i]?=some z:=by
 have:=toList_madeCells_one z n;rw[<-Array.getElem?_toList,this,List.getElem?_replicate,if_pos h]
theorem nN.start (w:W8)(n:Nat):nN (w.alloc (.cells (madeCells #[.slice none 0 0] n) 143)) w.heap.size n 0 (λ _ _=>false):=by
 refine⟨by simp,by omega,λ i hi=>⟨.slice none 0 0,?_⟩,by omega,λ j=>?_,by omega⟩
 ·rw[World.cell?_alloc_at _ _ _ _ rfl,Nc _ _ _ hi]
 ·rw[World.frozen?_alloc_at _ _ _ _ rfl]
theorem nN.row (h:nN w gm n m (λ _ _=>false))(hs:w.heap.size=gm+1+m)(hm:m<n):nN ((w.alloc (.cells (madeCells #[.bool false] n) 4)).setCell ⟨gm,m,none⟩ (.slice (some ⟨w.heap.size,0,none⟩) n n)) gm n (m+1) (λ _ _=>false):=by
 have k:=((zK.refl [] w).alloc (.cells (madeCells #[.bool false] n) 4));have h1:=h.kept k (by simp);obtain⟨u,hu⟩:=h1.some_ m hm;refine⟨by simp;omega,λ i hi=>?_,λ i hi=>?_,λ i j hi hj=>?_,λ j=>by simpa using h1.MS j,λ i j hi=>?_⟩
 ·by_cases e:i=m
  ·subst e;rw[Gi hu,hs]
  ·rw[zal (by omega)];exact h1.top i (by omega)
 ·by_cases e:i=m
  ·subst e;exact⟨_,Gi hu⟩
  ·obtain⟨v,hv⟩:=h1.some_ i hi;exact⟨v,by rw[zal (by omega)];exact hv⟩
 ·rw[World.cell?_of_block (Below.heap_setCell _ ⟨gm,m,none⟩ _ (gm+1+i) (by simp;omega))]
  by_cases e:i=m
  ·subst e;rw[<-hs,World.cell?_alloc_at _ _ _ _ rfl,Nc _ _ _ hj]
  ·exact h1.cell i j (by omega) hj
 ·rw[World.frozen?_setCell]
  by_cases e:i=m
  ·subst e;rw[<-hs,World.frozen?_alloc_at _ _ _ _ rfl]
  ·exact h1.fz i j (by omega)
end
section
open Go.RowKit
def qJ (ps:P9)(nm:B8):Nat:=(zM ps nm).toNat
def zgx (ps:P9)(h:Nat):List zL->(Nat->Nat->Bool)->(Nat->Nat->Bool)
 | [],M=>M
 | A::r,M=>zgx ps h r (upd M h (qJ ps A.pred))
def zh8 (ps:P9):List zS->(Nat->Nat->Bool)->(Nat->Nat->Bool)
 | [],M=>M
 | R::r,M=>zh8 ps r (zgx ps (qJ ps R.head.pred) R.body M)
def fwK (n m i:Nat)(M:Nat->Nat->Bool)(k:Nat):Nat->Nat->Bool:=
 if k<n then fwK n m i (if M i m&&M m k then upd M i k else M) (k+1) else M
termination_by n-k
def fwI (n m:Nat)(M:Nat->Nat->Bool)(i:Nat):Nat->Nat->Bool:=
 if i<n then fwI n m (fwK n m i M 0) (i+1) else M
termination_by n-i
def fwM (n:Nat)(M:Nat->Nat->Bool)(m:Nat):Nat->Nat->Bool:=
 if m<n then fwM n (fwI n m M 0) (m+1) else M
termination_by n-m
variable {k n m i:Nat} {M:Nat->Nat->Bool}
theorem z9g (h:k<n):fwK n m i M k=fwK n m i (if M i m&&M m k then upd M i k else M) (k+1):=by rw[fwK,if_pos h]
theorem z48 (h:¬ k<n):fwK n m i M k=M:=by rw[fwK,if_neg h]
theorem z9i (h:i<n):fwI n m M i=fwI n m (fwK n m i M 0) (i+1):=by rw[fwI,if_pos h]
theorem z3u (h:¬ i<n):fwI n m M i=M:=by rw[fwI,if_neg h]
theorem z0g (h:m<n):fwM n M m=fwM n (fwI n m M 0) (m+1):=by rw[fwM,if_pos h]
theorem zve (h:¬ m<n):fwM n M m=M:=by rw[fwM,if_neg h]
def vI (ps:P9)(rs:List zS):Nat->Nat->Bool:=fwM ps.length (zh8 ps rs (λ _ _=>false)) 0
def zgl (ps:P9)(l:List zL):Prop:=∀ A∈l,0<=zM ps A.pred
variable {rs:List RR} {ps:P9}
theorem zzv (h:k<rs.length):zh8 ps ((rs.map (·.R)).drop k) M=zh8 ps ((rs.map (·.R)).drop (k+1)) (zgx ps (qJ ps rs[k].R.head.pred) rs[k].R.body M):=by
 rw[List.drop_eq_getElem_cons (by simpa using h),zh8];simp
variable {j:Nat}
theorem zt7 {h:Nat}{bs:List (zL × Value)}(hj:j<bs.length):zgx ps h ((bs.map (·.1)).drop j) M=zgx ps h ((bs.map (·.1)).drop (j+1)) (upd M h (qJ ps bs[j].1.pred)):=by
 rw[zfs hj,zgx]
theorem ziw (h:zgl ps (yJ rs))(hk:k<rs.length):0<=zM ps rs[k].R.head.pred:=
 h _ (List.mem_flatMap.2 ⟨rs[k],List.getElem_mem hk,List.mem_cons_self⟩)
theorem zis (h:zgl ps (yJ rs))(hk:k<rs.length)(he:rs[k].R.body=rs[k].bs.map (·.1))(hj:j<rs[k].bs.length):0<=zM ps rs[k].bs[j].1.pred:=
 h _ (List.mem_flatMap.2 ⟨rs[k],List.getElem_mem hk,List.mem_cons_of_mem _ (by rw[he];exact List.mem_map.2 ⟨_,List.getElem_mem hj,rfl⟩)⟩)
end
section
open Go.RowKit
theorem z1q (w:W8)(o:Nat)(rs:List RR)(ps:P9)(rv pv tv sv:Value)(h:zok w o rs ps rv pv tv sv)(hn:ps.length<=1000)(aS:zgl ps (yJ rs)):
  Calls Tryz.prog 190 #[.pointer (some ⟨o,0,none⟩)] w λ e w'=>e=.returned (.slice (some ⟨w.heap.size,0,none⟩) ps.length ps.length)/\nN w' w.heap.size ps.length ps.length (vI ps (rs.map (·.R)))/\Below w.heap.size w w':=by
 obtain⟨ar,dA,rfl⟩:=zD h.rules;obtain⟨ap,Pp,rfl⟩:=zD h.fD;have gL:=yU h.rules;unfold maxLen at gL;have WJ:=z5n ps.length hn;have WD:=zpk ps.length hn;have c0:=h.c0;have c1:=h.c1;have aH:=h.lt;have rj:∀ nm wr,Below w.heap.size w wr->Calls Tryz.prog 135 #[.pointer (some ⟨o,0,none⟩),.string nm] wr λ e w'=>e=.returned (.int .i64 (zM ps nm))/\w'=wr:=λ nm wr hb=>zcc wr o rs ps _ _ _ _ nm (h.kept ((zK.refl [] w).ak hb) (by simp))
 have nx:=zC rj;have HH:=zC h;have HA:=zC aS;clear h rj aS;go_enter Tryz.func190,Tryz.ntmps190;go_wp2_with fail
 go_loopw [5] (λ i wr=>∃ m:Nat,m<=ps.length/\i=.int .i64 m/\nN wr w.heap.size ps.length m (λ _ _=>false)/\wr.heap.size=w.heap.size+1+m/\Below w.heap.size w wr) (λ i _=>ps.length-(intOf i).toNat)
 exact⟨0,Nat.zero_le _,rfl,nN.start w ps.length,by simp,B9.alloc L9 _⟩
 case round=>
  obtain⟨m,hm,rfl,bE,bj,hb⟩:=hrel
  by_cases bh:m<ps.length
  ·obtain⟨u,hu⟩:=bE.some_ m bh;have Ih:=bE.MS m;have Wd:w.heap.size<wr.heap.size:=(by omega);have aB:=bE.row bj bh;rw[World.setCell_alloc_past _ _ _ _ Wd] at aB;have HM:=zC aB;have HS:=zC bj;clear aB;clear bE bj c0 c1;go_wp2_with fail
   go_roundw
   case rel=>exact⟨m+1,by omega,by go_num,zA HM,by have:=zA HS;simp;omega,(hb.setCell L9 _).alloc (by simp;omega) _⟩
   case measure=>simp[intOf];omega
  ·have IQ:m=ps.length:=(by omega);subst IQ;clear WJ WD bj bh hm c0 c1;go_wp2_with fail
   go_loopg [6,7,8] rs.length (λ gg i h7 k8 wr=>∃ (k:Nat) (M:Nat->Nat->Bool),k<=rs.length/\gg=rs.length-k/\i=.int .i64 k/\nN wr w.heap.size ps.length ps.length M/\Below w.heap.size w wr/\vI ps (rs.map (·.R))=fwM ps.length (zh8 ps ((rs.map (·.R)).drop k) M) 0)
   exact⟨0,_,Nat.zero_le _,rfl,rfl,bE,hb,rfl⟩
   case round=>
    clear bE hb;obtain⟨k,M,hk,eA,rfl,bE,hb,aE⟩:=hrel;have HF:=zC aE;clear aE;have hm:=(zA HH).kept ((zK.refl [] w).ak hb) (by simp);have c0:=hm.c0
    by_cases aF:k<rs.length
    ·obtain⟨g,cap,hv,iG,aZ,bO,bP,q0,q1,q2,q3,q4,q5⟩:=jC hm.rules k aF;injection hv with h1 h2 h3
     subst h1 h3;have ax:=hm.each _ (List.getElem_mem aF);obtain⟨ab,iA,gU⟩:=zD ax.bo;have mZ:=yU ax.bo;unfold maxLen at mZ;rw[gU] at q5;have lG:=ax.eq;have aC:=zC ((zA HF).trans (congrArg (λ X=>fwM ps.length X 0) (zzv aF)));have E6:=ziw (zA HA) aF;have tF:zM ps rs[k].R.head.pred<ps.length:=(by have:=vM E6;omega);clear HF h2;go_wp2_with fail;refine (zA nx _ wr hb).mono ?_;rintro e w1 ⟨rfl,rfl⟩;go_wp2_with fail
     go_loopg [8] rs[k].bs.length (λ gg i wr=>∃ (j:Nat) (M:Nat->Nat->Bool),j<=rs[k].bs.length/\gg=rs[k].bs.length-j/\i=.int .i64 j/\nN wr w.heap.size ps.length ps.length M/\Below w.heap.size w wr/\vI ps (rs.map (·.R))=fwM ps.length (zh8 ps ((rs.map (·.R)).drop (k+1)) (zgx ps (qJ ps rs[k].R.head.pred) ((rs[k].bs.map (·.1)).drop j) M)) 0)
     exact⟨0,M,Nat.zero_le _,rfl,rfl,bE,hb,by rw[List.drop_zero,<-lG];exact zA aC⟩
     case round=>
      clear bE hb aC hm c0 q0 q1 q2 q3 q4 q5 ax aZ;obtain⟨j,M,hj,xu,rfl,bE,hb,aE⟩:=hrel;have HF:=zC aE;clear aE;have hm:=(zA HH).kept ((zK.refl [] w).ak hb) (by simp);have c0:=hm.c0;obtain⟨g',dp,oo,CQ,aZ,wu,AX,q0,q1,q2,q3,q4,q5⟩:=jC hm.rules k aF;injection oo with h1 h2 h3
      injection h1 with h1
      injection h1 with h1
      subst h1 h3;have ax:=hm.each _ (List.getElem_mem aF);rw[gU] at q5
      by_cases fu:j<rs[k].bs.length
      ·obtain⟨gb,uv,nG,Dx,qk,CE,CR,p0,p1,p2,p3,p4⟩:=jY ax.bo j fu;rw[gU] at nG;injection nG with hb11 hb12 mg
       subst hb11 mg;have aC:=zC ((zA HF).trans (congrArg (λ X=>fwM ps.length (zh8 ps ((rs.map (·.R)).drop (k+1)) X) 0) (zt7 fu)));have Fc:=zis (zA HA) aF lG fu;have Ij:zM ps rs[k].bs[j].1.pred<ps.length:=(by have:=vM Fc;omega);have t1:=bE.top (zM ps rs[k].R.head.pred).toNat (by omega);have t2:=bE.cell (zM ps rs[k].R.head.pred).toNat (zM ps rs[k].bs[j].1.pred).toNat (by omega) (by omega);have t3:=bE.fz (zM ps rs[k].R.head.pred).toNat (zM ps rs[k].bs[j].1.pred).toNat (by omega);have HM:=zC (bE.set (qJ ps rs[k].R.head.pred) (qJ ps rs[k].bs[j].1.pred) (by unfold qJ;omega) (by unfold qJ;omega));have Pf:=zC bE.sz;clear HF h2 hm bE ax hb12;go_wp2_with fail
       go_region_with (go_at_call 135;refine (zA nx _ _ hb.drew).mono ?_;rintro e w1 ⟨rfl,rfl⟩)
       all_goals
        go_wp2_with fail;go_roundg (rs[k].bs.length-(j+1));exact⟨j+1,_,by omega,rfl,by go_num,(zA HM).kept ((zK.refl [] _).drew) (by simp),(hb.setCell (by simp;omega) _).drew,zA aC⟩;omega
      ·have qi:(rs[k].bs.map (·.1)).drop j=[]:=List.drop_of_length_le (by simp;omega);have aC:=zC (show vI ps (rs.map (·.R))=fwM ps.length (zh8 ps ((rs.map (·.R)).drop (k+1)) M) 0 by rw[zA HF,qi];rfl);clear HF h2 hm;go_wp2_with fail;go_roundg (rs.length-(k+1));exact⟨k+1,M,by omega,rfl,by go_num,bE,hb,zA aC⟩;omega
    ·have Gj:(rs.map (·.R)).drop k=[]:=List.drop_of_length_le (by simp;omega);have aC:=zC (show vI ps (rs.map (·.R))=fwM ps.length M 0 by rw[zA HF,Gj];rfl);clear HF hm;go_wp2_with fail;clear c0
     go_loopg [9,10,11] ps.length (λ gg m9 i10 k11 wr=>∃ (m:Nat) (M:Nat->Nat->Bool),m<=ps.length/\gg=ps.length-m/\m9=.int .i64 m/\nN wr w.heap.size ps.length ps.length M/\Below w.heap.size w wr/\vI ps (rs.map (·.R))=fwM ps.length M m)
     exact⟨0,M,Nat.zero_le _,rfl,rfl,bE,hb,zA aC⟩
     case round=>
      clear bE hb aC;obtain⟨m,M,hm,BB,rfl,bE,hb,aE⟩:=hrel;have HF:=zC aE;clear aE
      by_cases bh:m<ps.length
      ·have aC:=zC ((zA HF).trans (z0g bh));clear HF;go_wp2_with fail
       go_loopg [10,11] ps.length (λ gg i10 k11 wr=>∃ (i:Nat) (M:Nat->Nat->Bool),i<=ps.length/\gg=ps.length-i/\i10=.int .i64 i/\nN wr w.heap.size ps.length ps.length M/\Below w.heap.size w wr/\vI ps (rs.map (·.R))=fwM ps.length (fwI ps.length m M i) (m+1))
       exact⟨0,M,Nat.zero_le _,rfl,rfl,bE,hb,zA aC⟩
       case round=>
        clear bE hb aC;obtain⟨i,M,hi,Ny,rfl,bE,hb,aE⟩:=hrel;have HF:=zC aE;clear aE
        by_cases mO:i<ps.length
        ·have aC:=zC ((zA HF).trans (congrArg (λ X=>fwM ps.length X (m+1)) (z9i mO)));clear HF;go_wp2_with fail
         go_loopg [11] ps.length (λ gg k11 wr=>∃ (k:Nat) (M:Nat->Nat->Bool),k<=ps.length/\gg=ps.length-k/\k11=.int .i64 k/\nN wr w.heap.size ps.length ps.length M/\Below w.heap.size w wr/\vI ps (rs.map (·.R))=fwM ps.length (fwI ps.length m (fwK ps.length m i M k) (i+1)) (m+1))
         exact⟨0,M,Nat.zero_le _,rfl,rfl,bE,hb,zA aC⟩
         case round=>
          clear bE hb aC;obtain⟨k,M,hk,eA,rfl,bE,hb,aE⟩:=hrel;have HF:=zC aE;clear aE
          by_cases dF:k<ps.length
          ·have aO:=(zA HF).trans (congrArg (λ X=>fwM ps.length (fwI ps.length m X (i+1)) (m+1)) (z9g dF));have t1:=bE.top i mO;have t2:=bE.cell i m mO bh;have t3:=bE.top m bh;have t4:=bE.cell m k bh dF;have t5:=bE.cell i k mO dF;have t6:=bE.fz i k mO
           cases e1:M i m with
           | false=>
            rw[e1] at t2;rw[e1,Bool.false_and,if_neg (by decide)] at aO;have aC:=zC aO;clear HF aO t5;go_wp2_with fail;go_roundg (ps.length-(k+1));exact⟨k+1,M,by omega,rfl,by go_num,bE,hb,zA aC⟩;omega
           | true=>
            rw[e1] at t2
            cases e2:M m k with
            | false=>
             rw[e2] at t4;rw[e1,e2,Bool.and_false,if_neg (by decide)] at aO;have aC:=zC aO;clear HF aO t5;go_wp2_with fail;go_roundg (ps.length-(k+1));exact⟨k+1,M,by omega,rfl,by go_num,bE,hb,zA aC⟩;omega
            | true=>
             rw[e2] at t4;rw[e1,e2,Bool.and_true,if_pos rfl] at aO;have aC:=zC aO;have HM:=zC (bE.set i k mO dF);clear HF aO;go_wp2_with fail;go_roundg (ps.length-(k+1));exact⟨k+1,_,by omega,rfl,by go_num,zA HM,hb.setCell (by simp;omega) _,zA aC⟩;omega
          ·have aC:=zC ((zA HF).trans (congrArg (λ X=>fwM ps.length (fwI ps.length m X (i+1)) (m+1)) (z48 dF)));clear HF;go_wp2_with fail;go_roundg (ps.length-(i+1));exact⟨i+1,M,by omega,rfl,by go_num,bE,hb,zA aC⟩;omega
        ·have aC:=zC ((zA HF).trans (congrArg (λ X=>fwM ps.length X (m+1)) (z3u mO)));clear HF;go_wp2_with fail;go_roundg (ps.length-(m+1));exact⟨m+1,M,by omega,rfl,by go_num,bE,hb,zA aC⟩;omega
      ·have aC:=zC ((zA HF).trans (zve bh));clear HF;go_wp2_with fail;go_ret;exact⟨rfl,by rw[zA aC];exact bE,hb⟩
end
end Go.Proofs.YtldkpahaocjdpaaGreat
