/-
  The reference's cycle: the place of the first not ahead of a predicate that is the head's, or hangs on it; -1 if there is none.
-/
import Derived.Test.YtldkpahaocjdpaaGreatE09
set_option maxHeartbeats 16000000
set_option maxRecDepth 1000000
namespace Go.Proofs.YtldkpahaocjdpaaGreat
section
open Go.RowKit
def zo9 (ps:P9)(H:Nat->Nat->Bool)(hd:B8)(A:zL):Bool:=A.no&&(zM ps A.pred==zM ps hd||H (qJ ps A.pred) (qJ ps hd))
def j5 (ps:P9)(H:Nat->Nat->Bool)(hd:B8):List zL->Int
 | []=>-1
 | A::r=>if zo9 ps H hd A then A.az else j5 ps H hd r
def vN (ps:P9)(H:Nat->Nat->Bool):List zS->Int
 | []=>-1
 | R::r=>if 0<=j5 ps H R.head.pred R.body then j5 ps H R.head.pred R.body else vN ps H r
variable {H:Nat->Nat->Bool} {ps:P9}
theorem zx4 {rs:List RR}{k:Nat}(h:k<rs.length):vN ps H ((rs.map (·.R)).drop k)=if 0<=j5 ps H rs[k].R.head.pred rs[k].R.body then j5 ps H rs[k].R.head.pred rs[k].R.body else vN ps H ((rs.map (·.R)).drop (k+1)):=by
 rw[List.drop_eq_getElem_cons (by simpa using h)];simp[vN]
theorem zrc {hd:B8}{bs:List (zL × Value)}{j:Nat}(h:j<bs.length):j5 ps H hd ((bs.map (·.1)).drop j)=if zo9 ps H hd bs[j].1 then (bs[j].1.az:Int) else j5 ps H hd ((bs.map (·.1)).drop (j+1)):=by
 rw[zfa h];rfl
theorem z1y (w:W8)(o:Nat)(rs:List RR)(ps:P9)(rv pv tv sv:Value)(h:znv w o rs ps rv pv tv sv)(hn:ps.length<=1000)(aS:zgi ps (yJ rs)):
  Calls Tryz.prog 128 #[.pointer (some ⟨o,0,none⟩)] w λ e w'=>e=.returned (.int .i64 (vN ps (vI ps (rs.map (·.R))) (rs.map (·.R))))/\Below w.heap.size w w':=by
 have hh:=z2j w o rs ps rv pv tv sv h hn aS;obtain⟨ar,dz,rfl⟩:=zD h.rules;have gR:=yU h.rules;unfold maxLen at gR;have aH:=h.lt;have qz:∀ nm wr,Below w.heap.size w wr->Calls Tryz.prog 135 #[.pointer (some ⟨o,0,none⟩),.string nm] wr λ e w'=>e=.returned (.int .i64 (zM ps nm))/\w'=wr:=λ nm wr hb=>zcd wr o rs ps _ _ _ _ nm (h.kept ((zK.refl [] w).ak hb) (by simp))
 have ni:=zC qz;have HH:=zC h;have HA:=zC aS;have HG:=zC hh;clear h qz aS hh;generalize vI ps (rs.map (·.R))=H at *;go_enter Tryz.func128,Tryz.ntmps128;go_wp2_with fail;refine (zA HG).mono ?_;rintro e w1 ⟨rfl,Et,aL⟩;clear HG;go_wp2_with fail
 go_loopg [4,5,6,7,8] rs.length (λ gg i h5 k6 l7 q8 wr=>∃ k:Nat,k<=rs.length/\gg=rs.length-k/\i=.int .i64 k/\nB wr w.heap.size ps.length ps.length H/\Below w.heap.size w wr/\vN ps H (rs.map (·.R))=vN ps H ((rs.map (·.R)).drop k))
 exact⟨0,Nat.zero_le _,rfl,rfl,Et,aL,rfl⟩
 case round=>
  clear Et aL;obtain⟨k,hk,eD,rfl,bE,hb,aE⟩:=hrel;have HF:=zC aE;clear aE;have hm:=(zA HH).kept ((zK.refl [] w).ak hb) (by simp);have c0:=hm.c0
  by_cases aF:k<rs.length
  ·obtain⟨g,cap,hv,iF,aZ,bO,bQ,q0,q1,q2,q3,q4,q5⟩:=jC hm.rules k aF;injection hv with h1 h2 h3
   subst h1 h3;have ax:=hm.each _ (List.getElem_mem aF);obtain⟨ab,iy,gT⟩:=zD ax.bo;have mL:=yU ax.bo;unfold maxLen at mL;rw[gT] at q5;have lx:=ax.eq;have aC:=zC ((zA HF).trans (zx4 aF));have EJ:=zi0 (zA HA) aF;have tf:zM ps rs[k].R.head.pred<ps.length:=(by have:=vP EJ;omega);clear HF h2;go_wp2_with fail;refine (zA ni _ wr hb).mono ?_;rintro e w1 ⟨rfl,rfl⟩;go_wp2_with fail
   go_loopg [6,7,8] rs[k].bs.length (λ gg i l7 q8 wr=>∃ j:Nat,j<=rs[k].bs.length/\gg=rs[k].bs.length-j/\i=.int .i64 j/\nB wr w.heap.size ps.length ps.length H/\Below w.heap.size w wr/\vN ps H (rs.map (·.R))=if 0<=j5 ps H rs[k].R.head.pred ((rs[k].bs.map (·.1)).drop j) then j5 ps H rs[k].R.head.pred ((rs[k].bs.map (·.1)).drop j) else vN ps H ((rs.map (·.R)).drop (k+1)))
   exact⟨0,Nat.zero_le _,rfl,rfl,bE,hb,by rw[List.drop_zero,<-lx];exact zA aC⟩
   case round=>
    clear bE hb aC hm c0 q0 q1 q2 q3 q4 q5 ax aZ;obtain⟨j,hj,xj,rfl,bE,hb,aE⟩:=hrel;have HF:=zC aE;clear aE;have hm:=(zA HH).kept ((zK.refl [] w).ak hb) (by simp);have c0:=hm.c0;obtain⟨g',dn,oc,CV,aZ,vm,zv,q0,q1,q2,q3,q4,q5⟩:=jC hm.rules k aF;injection oc with h1 h2 h3
    injection h1 with h1
    injection h1 with h1
    subst h1 h3;have ax:=hm.each _ (List.getElem_mem aF);rw[gT] at q5
    by_cases fp:j<rs[k].bs.length
    ·obtain⟨gb,um,nI,CW,qt,Dd,C0,p0,p1,p2,p3,p4⟩:=jU ax.bo j fp;rw[gT] at nI;injection nI with hb11 hb12 lZ
     subst hb11 lZ;obtain⟨br,mH,fo⟩:=zD (ax.bl _ (List.getElem_mem fp));rw[fo] at p1;have aP:=(zA HF).trans (by rw[zrc fp]);have GH:=ziz (zA HA) aF lx fp;have IA:zM ps rs[k].bs[j].1.pred<ps.length:=(by have:=vP GH;omega);have bj:=bE.sz;have C8:w.heap.size<wr.heap.size:=(by omega);have Yb:w.heap.size+1+(zM ps rs[k].bs[j].1.pred).toNat<wr.heap.size:=(by omega);have t1:=bE.top (zM ps rs[k].bs[j].1.pred).toNat (by omega);have t2:=bE.cell (zM ps rs[k].bs[j].1.pred).toNat (zM ps rs[k].R.head.pred).toNat (by omega) (by omega);have HM:=zC (bE.kept ((zK.refl [] _).alloc (.cells #[.string rs[k].bs[j].1.pred,.slice br rs[k].bs[j].1.ae.length mH,.bool rs[k].bs[j].1.no,.int .i64 rs[k].bs[j].1.at_,.int .i64 rs[k].bs[j].1.az] 243)) (by simp));clear HF h2 hm bE ax hb12;have EH:zo9 ps H rs[k].R.head.pred rs[k].bs[j].1=(rs[k].bs[j].1.no&&(zM ps rs[k].bs[j].1.pred==zM ps rs[k].R.head.pred||H (zM ps rs[k].bs[j].1.pred).toNat (zM ps rs[k].R.head.pred).toNat)):=rfl
     cases aX:rs[k].bs[j].1.no with
     | false=>
      rw[aX] at p2 HM;have zu:zo9 ps H rs[k].R.head.pred rs[k].bs[j].1=false:=(by rw[EH,aX];rfl);clear EH;have aC:=zC (show vN ps H (rs.map (·.R))=if 0<=j5 ps H rs[k].R.head.pred ((rs[k].bs.map (·.1)).drop (j+1)) then j5 ps H rs[k].R.head.pred ((rs[k].bs.map (·.1)).drop (j+1)) else vN ps H ((rs.map (·.R)).drop (k+1)) by rw[aP,zu];simp);clear aP zu;go_wp2_with fail;refine (zA ni _ _ (hb.alloc (by omega) _)).mono ?_;rintro e w1 ⟨rfl,rfl⟩;go_wp2_with fail;go_roundg (rs[k].bs.length-(j+1));exact⟨j+1,by omega,rfl,by go_num,zA HM,hb.alloc (by omega) _,zA aC⟩;omega
     | true=>
      rw[aX] at p2 HM
      cases heq:(zM ps rs[k].bs[j].1.pred==zM ps rs[k].R.head.pred) with
      | true=>
       have zu:zo9 ps H rs[k].R.head.pred rs[k].bs[j].1=true:=(by rw[EH,aX,heq];rfl);clear EH;have aC:=zC (show vN ps H (rs.map (·.R))=(rs[k].bs[j].1.az:Int) by rw[aP,zu];simp);clear aP zu;go_wp2_with fail;refine (zA ni _ _ (hb.alloc (by omega) _)).mono ?_;rintro e w1 ⟨rfl,rfl⟩;go_wp2_with fail;go_ret;exact⟨by rw[zA aC];rfl,hb.alloc (by omega) _⟩
      | false=>
       cases hH:H (zM ps rs[k].bs[j].1.pred).toNat (zM ps rs[k].R.head.pred).toNat with
       | true=>
        have zu:zo9 ps H rs[k].R.head.pred rs[k].bs[j].1=true:=(by rw[EH,aX,heq,hH];rfl);clear EH;rw[hH] at t2;have aC:=zC (show vN ps H (rs.map (·.R))=(rs[k].bs[j].1.az:Int) by rw[aP,zu];simp);clear aP zu;go_wp2_with fail;refine (zA ni _ _ (hb.alloc (by omega) _)).mono ?_;rintro e w1 ⟨rfl,rfl⟩;go_wp2_with fail;go_ret;exact⟨by rw[zA aC];rfl,hb.alloc (by omega) _⟩
       | false=>
        have zu:zo9 ps H rs[k].R.head.pred rs[k].bs[j].1=false:=(by rw[EH,aX,heq,hH];rfl);clear EH;rw[hH] at t2;have aC:=zC (show vN ps H (rs.map (·.R))=if 0<=j5 ps H rs[k].R.head.pred ((rs[k].bs.map (·.1)).drop (j+1)) then j5 ps H rs[k].R.head.pred ((rs[k].bs.map (·.1)).drop (j+1)) else vN ps H ((rs.map (·.R)).drop (k+1)) by rw[aP,zu];simp);clear aP zu;go_wp2_with fail;refine (zA ni _ _ (hb.alloc (by omega) _)).mono ?_;rintro e w1 ⟨rfl,rfl⟩;go_wp2_with fail;go_roundg (rs[k].bs.length-(j+1));exact⟨j+1,by omega,rfl,by go_num,zA HM,hb.alloc (by omega) _,zA aC⟩;omega
    ·have qv:(rs[k].bs.map (·.1)).drop j=[]:=List.drop_of_length_le (by simp;omega);have aC:=zC (show vN ps H (rs.map (·.R))=vN ps H ((rs.map (·.R)).drop (k+1)) by rw[zA HF,qv];simp[j5]);clear HF h2 hm;go_wp2_with fail;go_roundg (rs.length-(k+1));exact⟨k+1,by omega,rfl,by go_num,bE,hb,zA aC⟩;omega
  ·have aC:=zC (show vN ps H (rs.map (·.R))=-1 by rw[zA HF,List.drop_of_length_le (by simp;omega)];rfl);clear HF hm;go_wp2_with fail;go_ret;exact⟨by rw[zA aC];rfl,hb⟩
end
section
open Go.RowKit
def ziv (ps:P9)(f:Nat->Nat)(hd:B8)(A:zL):Prop:=f (qJ ps A.pred)+(if A.no then 1 else 0)<=f (qJ ps hd)
def zef (ps:P9)(rs:List zS)(f:Nat->Nat):Prop:=∀ R∈rs,∀ A∈R.body,ziv ps f R.head.pred A
def Low (ps:P9)(rs:List zS)(S:Nat->Nat):Prop:=∀ f,zef ps rs f->∀ i,S i<=f i
def bK (S:Nat->Nat)(i v:Nat):Nat->Nat:=λ a=>if a=i then v else S a
def znd (S:Nat->Nat):Nat->Nat
 | 0=>0
 | n+1=>znd S n+S n
theorem z47 {S T:Nat->Nat}(h:∀ i,S i<=T i):∀ n,znd S n<=znd T n
 | 0=>Nat.le_refl _
 | n+1=>by have:=z47 h n;have:=h n;simp only[znd];omega
theorem z48 {S:Nat->Nat}{i v:Nat}(hv:S i<v):∀ n,i<n->znd S n<znd (bK S i v) n
 | 0,h=>by omega
 | n+1,h=>by
  simp only[znd]
  by_cases e:i=n
  ·subst e;have h1:znd S i<=znd (bK S i v) i:=z47 (λ a=>by unfold bK;split;rename_i e;subst e;omega;exact Nat.le_refl _) i;have h2:bK S i v i=v:=(by simp[bK]);omega
  ·have h1:=z48 hv n (by omega);have h2:bK S i v n=S n:=(by unfold bK;rw[if_neg (by omega)]);omega
variable {S:Nat->Nat} {ps:P9}
theorem ybg {rs:List zS}(h:Low ps rs S){R:zS}(hR:R∈rs){A:zL}(hA:A∈R.body):Low ps rs (bK S (qJ ps R.head.pred) (S (qJ ps A.pred)+(if A.no then 1 else 0))):=by
 intro f hf i;unfold bK
 split
 ·rename_i e;subst e;have h1:=hf R hR A hA;have h2:=h f hf (qJ ps A.pred);unfold ziv at h1;omega
 ·exact h f hf i
structure ng (w:W8)(gs n:Nat)(S:Nat->Nat):Prop where
 sz:gs<w.heap.size
 cell:∀ i,i<n->w.cell? ⟨gs,i,none⟩=some (.int .i64 (S i))
 fz:∀ j,w.frozen? ⟨gs,j,none⟩=false
variable {gs n:Nat} {w:W8}
theorem ng.kept {w':W8}(h:ng w gs n S)(k:zK [] w w'):ng w' gs n S:=
 ⟨Nat.lt_of_lt_of_le h.sz k.size,λ i hi=>(k.cell (p:=⟨gs,i,none⟩) h.sz (by simp)).trans (h.cell i hi),λ j=>(k.frozen (p:=⟨gs,j,none⟩) h.sz (by simp)).trans (h.fz j)⟩
theorem ng.set (h:ng w gs n S)(i v:Nat)(hi:i<n):ng (w.setCell ⟨gs,i,none⟩ (.int .i64 v)) gs n (bK S i v):=by
 refine⟨by simpa using h.sz,λ a ha=>?_,λ j=>by simpa using h.fz j⟩
 by_cases e:a=i
 ·subst e;rw[Hl (h.cell a ha)];simp[bK]
 ·rw[zak (by omega),h.cell a ha];simp[bK,e]
theorem zfk (n:Nat)(hn:n<=1000)(u:W8):(Instr.makeSlice 24 (.int .i64 n) (.int .i64 n)).run Tryz.prog u=.ok (.slice (some ⟨u.heap.size,0,none⟩) n n) (u.alloc (.cells (madeCells #[.int .i64 0] n) 3)):=by
 obtain⟨i0,hi,bL,aY,bg⟩:=info_parts zua;have h:=run_make (P:=Tryz.prog) u 24 3 i0 (.int .i64 0) Tryz.underlying24 hi bL .i64 .i64 (n:Int) (n:Int) (by omega) (Int.le_refl _) (by rw[bg];omega) (by omega);simpa[aY,Value.cells] using h
theorem ng.start (w:W8)(n:Nat):ng (w.alloc (.cells (madeCells #[.int .i64 0] n) 3)) w.heap.size n (λ _=>0):=
 ⟨by simp,λ i hi=>by rw[World.cell?_alloc_at _ _ _ _ rfl,NV _ _ _ hi];rfl,λ j=>by rw[World.frozen?_alloc_at _ _ _ _ rfl]⟩
variable {rs:List RR}
theorem mB.bK {o:Nat}{qs:P9}{rv pv tv sv:Value}(h:mB w o rs ps qs rv pv tv sv)(v':Value):mB (w.setCell ⟨o,3,none⟩ v') o rs ps qs rv pv tv v':=by
 have eI:∀ {e:TypeId} {size:Nat} {v:Value} {n:Nat} {xs:V8},w.ownsRow (o+1) e size v n xs->(w.setCell ⟨o,3,none⟩ v').ownsRow (o+1) e size v n xs:=λ hx=>ownsRow_setCell_below hx (by simp) _
 exact⟨by simpa using h.lt,by rw[zak (by omega)];exact h.c0,by rw[zak (by omega)];exact h.c1,by rw[zak (by omega)];exact h.c2,Hl h.c3,λ j=>by simpa using h.fz j,eI h.rules,λ r hr=>⟨eI (h.each r hr).hd,eI (h.each r hr).bo,λ x hx=>eI ((h.each r hr).bl x hx),(h.each r hr).eq⟩,eI h.fH,eI h.ae⟩
theorem zz4 {k:Nat}(hk:k<rs.length)(h:zef ps ((rs.map (·.R)).take k) S)(hb:∀ A∈rs[k].R.body,ziv ps S rs[k].R.head.pred A):zef ps ((rs.map (·.R)).take (k+1)) S:=by
 intro R hR;rw[List.take_succ_eq_append_getElem (by simpa using hk)] at hR;rcases List.mem_append.1 hR with hR | hR
 ·exact h R hR
 ·simp at hR;subst hR;exact hb
theorem zn6 {bs:List (zL × Value)}{j:Nat}{hd:B8}(hj:j<bs.length)(h:∀ A∈(bs.map (·.1)).take j,ziv ps S hd A)(hb:ziv ps S hd bs[j].1):∀ A∈(bs.map (·.1)).take (j+1),ziv ps S hd A:=by
 intro A hA;rw[List.take_succ_eq_append_getElem (by simpa using hj)] at hA;rcases List.mem_append.1 hA with hA | hA
 ·exact h A hA
 ·simp at hA;subst hA;exact hb
structure z51 (w1:W8)(G n:Nat)(ps:P9)(rs:List zS)(S:Nat->Nat)(wr:W8):Prop where
 below:Below G w1 wr
 row:ng wr G n S
 low:Low ps rs S
theorem z51.kept {w1:W8}{G n:Nat}{ps:P9}{rs:List zS}{S:Nat->Nat}{wr w2:W8}(h:z51 w1 G n ps rs S wr)(k:Below wr.heap.size wr w2):z51 w1 G n ps rs S w2:=
 ⟨h.below.trans (k.mono (by have:=h.row.sz;omega)),h.row.kept ((zK.refl [] _).ak k),h.low⟩
theorem z51.set {w1:W8}{G n:Nat}{ps:P9}{rs:List zS}{S:Nat->Nat}{wr:W8}(h:z51 w1 G n ps rs S wr){R:zS}(hR:R∈rs){A:zL}(hA:A∈R.body)(hi:qJ ps R.head.pred<n):z51 w1 G n ps rs (bK S (qJ ps R.head.pred) (S (qJ ps A.pred)+(if A.no then 1 else 0))) (wr.setCell ⟨G,qJ ps R.head.pred,none⟩ (.int .i64 ((S (qJ ps A.pred)+(if A.no then 1 else 0):Nat)))):=
 ⟨h.below.setCell L9 _,h.row.set _ _ hi,ybg h.low hR hA⟩
end
section
open Go.RowKit
theorem z21 (w:W8)(o:Nat)(rs:List RR)(ps:P9)(rv pv tv sv:Value)(h:znv w o rs ps rv pv tv sv)(hn:ps.length<=1000)(aS:zgi ps (yJ rs))(f0:Nat->Nat)(uw:zef ps (rs.map (·.R)) f0)(me:∀ i,f0 i<=1000):
  Calls Tryz.prog 129 #[.pointer (some ⟨o,0,none⟩)] w λ e w'=>e=.returned (.tuple #[])/\∃ S,znv w' o rs ps rv pv tv (.slice (some ⟨w.heap.size,0,none⟩) ps.length ps.length)/\ng w' w.heap.size ps.length S/\zef ps (rs.map (·.R)) S/\Low ps (rs.map (·.R)) S/\Below o w w':=by
 obtain⟨ar,dz,rfl⟩:=zD h.rules;obtain⟨ap,Pb,rfl⟩:=zD h.fH;have gR:=yU h.rules;unfold maxLen at gR;have mk:=zfk ps.length hn;have aH:=h.lt;have c1:=h.c1;have c3:=h.c3;have fz:=h.fz 3;have h1:=h.bK (.slice (some ⟨w.heap.size,0,none⟩) ps.length ps.length);have iz:Below o w (w.setCell ⟨o,3,none⟩ (.slice (some ⟨w.heap.size,0,none⟩) ps.length ps.length)):=(Below.refl o w).setCell (p:=⟨o,3,none⟩) L9 _;have Dl:(w.setCell ⟨o,3,none⟩ (.slice (some ⟨w.heap.size,0,none⟩) ps.length ps.length)).heap.size=w.heap.size:=by simp
 have td:z51 (w.setCell ⟨o,3,none⟩ (.slice (some ⟨w.heap.size,0,none⟩) ps.length ps.length)) w.heap.size ps.length ps (rs.map (·.R)) (λ _=>0) ((w.setCell ⟨o,3,none⟩ (.slice (some ⟨w.heap.size,0,none⟩) ps.length ps.length)).alloc (.cells (madeCells #[.int .i64 0] ps.length) 3)):=by
  refine⟨B9.alloc (by omega) _,?_,λ f _ i=>Nat.zero_le _⟩;have:=ng.start (w.setCell ⟨o,3,none⟩ (.slice (some ⟨w.heap.size,0,none⟩) ps.length ps.length)) ps.length
  rwa [Dl] at this
 have dB:=zC td;have H1:=zC h1;have HA:=zC aS;have I0:=zC iz;have lW:=zC Dl;have Fg:=zC uw;clear h h1 aS td iz Dl uw;go_enter Tryz.func129,Tryz.ntmps129;go_wp2_with fail;clear mk c1 c3 fz
 go_loopg [2,3,4,5,6,7] (znd f0 ps.length+1) (λ gg ag i3 h4 k5 l6 s7 wr=>∃ (b:Bool) (S:Nat->Nat),ag=.bool b/\(if b then znd f0 ps.length-znd S ps.length+1 else 0)<=gg/\z51 (w.setCell ⟨o,3,none⟩ (.slice (some ⟨w.heap.size,0,none⟩) ps.length ps.length)) w.heap.size ps.length ps (rs.map (·.R)) S wr/\(b=false->zef ps (rs.map (·.R)) S))
 exact⟨true,λ _=>0,rfl,by simp,zA dB,by simp⟩
 case round=>
  clear dB;obtain⟨b,S0,rfl,bS,hinv,dA⟩:=hrel
  cases b with
  | false=>
   have HV:=zC (dA rfl);clear dA;go_wp2_with fail;go_end0;have hk:=hinv.below;have sP:Below (w.setCell ⟨o,3,none⟩ (.slice (some ⟨w.heap.size,0,none⟩) ps.length ps.length)).heap.size (w.setCell ⟨o,3,none⟩ (.slice (some ⟨w.heap.size,0,none⟩) ps.length ps.length)) wr:=(by rw[zA lW];exact hk);exact⟨rfl,(zA H1).kept ((zK.refl [] _).ak sP) (by simp),S0,hinv.row,zA HV,hinv.low,(zA I0).trans (hk.mono (by omega))⟩
  | true=>
   clear dA;go_wp2_with fail
   go_loopg [2,3,4,5,6,7] rs.length (λ gg ag i3 h4 k5 l6 s7 wr=>∃ (b:Bool) (S:Nat->Nat) (k:Nat),ag=.bool b/\k<=rs.length/\gg=rs.length-k/\i3=.int .i64 k/\z51 (w.setCell ⟨o,3,none⟩ (.slice (some ⟨w.heap.size,0,none⟩) ps.length ps.length)) w.heap.size ps.length ps (rs.map (·.R)) S wr/\znd S0 ps.length<=znd S ps.length/\(b=true->znd S0 ps.length<znd S ps.length)/\(b=false->zef ps ((rs.map (·.R)).take k) S))
   exact⟨false,S0,0,rfl,Nat.zero_le _,rfl,rfl,hinv,Nat.le_refl _,by simp,λ _=>by intro R hR;simp at hR⟩
   case round=>
    clear hinv;obtain⟨b,S,k,rfl,hk,eD,rfl,hinv,vp,sk,dA⟩:=hrel;have lz:Below (w.setCell ⟨o,3,none⟩ (.slice (some ⟨w.heap.size,0,none⟩) ps.length ps.length)).heap.size (w.setCell ⟨o,3,none⟩ (.slice (some ⟨w.heap.size,0,none⟩) ps.length ps.length)) wr:=(by rw[zA lW];exact hinv.below);have hm:=(zA H1).kept ((zK.refl [] _).ak lz) (by simp);have c0:=hm.c0
    by_cases aF:k<rs.length
    ·obtain⟨g,cap,hv,iF,aZ,bO,bQ,q0,q1,q2,q3,q4,q5⟩:=jC hm.rules k aF;injection hv with h1 h2 h3
     subst h1 h3;have ax:=hm.each _ (List.getElem_mem aF);obtain⟨ab,iy,gT⟩:=zD ax.bo;have mL:=yU ax.bo;unfold maxLen at mL;rw[gT] at q5;have lx:=ax.eq;have EJ:=zi0 (zA HA) aF;have tf:zM ps rs[k].R.head.pred<ps.length:=(by have:=vP EJ;omega);have ni:=zC (λ nm=>zcd wr o rs ps _ _ _ _ nm hm);clear h2 hm;go_wp2_with fail;refine (zA ni _).mono ?_;rintro e w1 ⟨rfl,rfl⟩;clear ni;go_wp2_with fail
     go_loopg [2,5,6,7] rs[k].bs.length (λ gg ag k5 l6 s7 wr=>∃ (b:Bool) (S:Nat->Nat) (j:Nat),ag=.bool b/\j<=rs[k].bs.length/\gg=rs[k].bs.length-j/\k5=.int .i64 j/\z51 (w.setCell ⟨o,3,none⟩ (.slice (some ⟨w.heap.size,0,none⟩) ps.length ps.length)) w.heap.size ps.length ps (rs.map (·.R)) S wr/\znd S0 ps.length<=znd S ps.length/\(b=true->znd S0 ps.length<znd S ps.length)/\(b=false->zef ps ((rs.map (·.R)).take k) S/\∀ A∈(rs[k].bs.map (·.1)).take j,ziv ps S rs[k].R.head.pred A))
     exact⟨b,S,0,rfl,Nat.zero_le _,rfl,rfl,hinv,vp,sk,λ e=>⟨dA e,by simp⟩⟩
     case round=>
      clear hinv vp sk dA c0 q0 q1 q2 q3 q4 q5 ax aZ lz;obtain⟨b,S,j,rfl,hj,xj,rfl,hinv,vp,sk,dA⟩:=hrel;have lz:Below (w.setCell ⟨o,3,none⟩ (.slice (some ⟨w.heap.size,0,none⟩) ps.length ps.length)).heap.size (w.setCell ⟨o,3,none⟩ (.slice (some ⟨w.heap.size,0,none⟩) ps.length ps.length)) wr:=(by rw[zA lW];exact hinv.below);have hm:=(zA H1).kept ((zK.refl [] _).ak lz) (by simp);have c0:=hm.c0;have c3:=hm.c3;have Gg:=hm.lt;obtain⟨g',dn,oc,CV,aZ,vm,zv,q0,q1,q2,q3,q4,q5⟩:=jC hm.rules k aF;injection oc with h1 h2 h3
      injection h1 with h1
      injection h1 with h1
      subst h1 h3;have ax:=hm.each _ (List.getElem_mem aF);rw[gT] at q5
      by_cases fp:j<rs[k].bs.length
      ·obtain⟨gb,um,nI,CW,qt,Dd,C0,p0,p1,p2,p3,p4⟩:=jU ax.bo j fp;rw[gT] at nI;injection nI with hb11 hb12 lZ
       subst hb11 lZ;obtain⟨br,mH,fo⟩:=zD (ax.bl _ (List.getElem_mem fp));rw[fo] at p1;have GH:=ziz (zA HA) aF lx fp;have IA:zM ps rs[k].bs[j].1.pred<ps.length:=(by have:=vP GH;omega);have AL:=hinv.row.sz;have t1:=hinv.row.cell (zM ps rs[k].bs[j].1.pred).toNat (by omega);have hSb:S (zM ps rs[k].bs[j].1.pred).toNat<=1000:=Nat.le_trans (hinv.low f0 (zA Fg) _) (me _);have ni:=zC (λ nm w2 (aK:Below wr.heap.size wr w2)=>zcd w2 o rs ps _ _ _ _ nm (hm.kept ((zK.refl [] _).ak aK) (by simp)));have HM:=zC hm;clear h2 hm ax hb12;go_upto_region 12 with fail
       go_cut [7] (λ s wc=>s=.int .i64 (S (zM ps rs[k].bs[j].1.pred).toNat)/\Below (wr.alloc (Obj.cells #[.string rs[k].bs[j].1.pred,.slice br rs[k].bs[j].1.ae.length mH,.bool rs[k].bs[j].1.no,.int .i64 rs[k].bs[j].1.at_,.int .i64 rs[k].bs[j].1.az] 243)).heap.size (wr.alloc (Obj.cells #[.string rs[k].bs[j].1.pred,.slice br rs[k].bs[j].1.ae.length mH,.bool rs[k].bs[j].1.no,.int .i64 rs[k].bs[j].1.at_,.int .i64 rs[k].bs[j].1.az] 243)) wc)
       case first=>
        go_region_with (go_at_call 135;refine (zA ni _ _ ((B9.alloc L9 _).drew)).mono ?_;rintro e w1 ⟨rfl,rfl⟩)
        all_goals
         go_wp2_with fail;go_meet
         case rel=>exact⟨rfl,B9.drew⟩
       case rest=>
        obtain⟨rfl,GC⟩:=hcut;have AV:Below wr.heap.size wr wc:=(B9.alloc L9 _).trans (GC.mono (by simp));have eX:=hinv.kept AV;have dD:=(zA HM).kept ((zK.refl [] _).ak AV) (by simp);have d3:=dD.c3;have d2:wc.cell? ⟨wr.heap.size,2,none⟩=some (.bool rs[k].bs[j].1.no):=(GC.cell (p:=⟨wr.heap.size,2,none⟩) (by simp)).trans (by rw[World.cell?_alloc_at _ _ _ _ rfl];rfl);have t2:=eX.row.cell (zM ps rs[k].R.head.pred).toNat (by omega);have t3:=eX.row.fz (zM ps rs[k].R.head.pred).toNat;have hSh:S (zM ps rs[k].R.head.pred).toNat<=1000:=Nat.le_trans (hinv.low f0 (zA Fg) _) (me _);have gn:=dD.lt;have te:=eX.row.sz;clear ni HM dD GC AV hinv t1 c0 c3 q0 q1 q2 q3 q4 q5 p0 p1 p2 p3 p4 aZ qt fo Gg AL
        cases aX:rs[k].bs[j].1.no with
        | true=>
         rw[aX] at d2
         by_cases hup2:S (zM ps rs[k].R.head.pred).toNat<S (zM ps rs[k].bs[j].1.pred).toNat+1
         ·have jn:=eX.set (R:=rs[k].R) (List.mem_map.2 ⟨_,List.getElem_mem aF,rfl⟩) (A:=rs[k].bs[j].1) (by rw[lx];exact List.mem_map.2 ⟨_,List.getElem_mem fp,rfl⟩) (by unfold qJ;omega);have Ar:=z48 (S:=S) (i:=(zM ps rs[k].R.head.pred).toNat) (v:=S (zM ps rs[k].bs[j].1.pred).toNat+1) hup2 ps.length (by omega);rw[aX] at jn;simp only[if_true,qJ,Int.natCast_add,Int.cast_ofNat_Int] at jn;have Fx:=zC jn;have Jh:=zC Ar;have GA:(S (zM ps rs[k].R.head.pred).toNat:Int)<(S (zM ps rs[k].bs[j].1.pred).toNat:Int)+1:=(by omega);clear jn Ar hup2;go_wp2_with fail;go_roundg (rs[k].bs.length-(j+1));exact⟨true,_,j+1,rfl,by omega,rfl,by go_num,zA Fx,by have:=zA Jh;omega,λ _=>by have:=zA Jh;omega,by simp⟩;omega
         ·have dX:ziv ps S rs[k].R.head.pred rs[k].bs[j].1:=(by unfold ziv qJ;rw[aX];simp;omega);have ow:=zC dX;have GA:¬ (S (zM ps rs[k].R.head.pred).toNat:Int)<(S (zM ps rs[k].bs[j].1.pred).toNat:Int)+1:=(by omega);clear dX hup2;go_wp2_with fail;go_roundg (rs[k].bs.length-(j+1));exact⟨b,S,j+1,rfl,by omega,rfl,by go_num,eX,vp,sk,λ e=>⟨(dA e).1,zn6 fp (dA e).2 (zA ow)⟩⟩;omega
        | false=>
         rw[aX] at d2
         by_cases hup2:S (zM ps rs[k].R.head.pred).toNat<S (zM ps rs[k].bs[j].1.pred).toNat
         ·have jn:=eX.set (R:=rs[k].R) (List.mem_map.2 ⟨_,List.getElem_mem aF,rfl⟩) (A:=rs[k].bs[j].1) (by rw[lx];exact List.mem_map.2 ⟨_,List.getElem_mem fp,rfl⟩) (by unfold qJ;omega);have Ar:=z48 (S:=S) (i:=(zM ps rs[k].R.head.pred).toNat) (v:=S (zM ps rs[k].bs[j].1.pred).toNat) hup2 ps.length (by omega);rw[aX] at jn;simp only[if_false,Bool.false_eq_true,qJ,Nat.add_zero] at jn;have Fx:=zC jn;have Jh:=zC Ar;have GA:(S (zM ps rs[k].R.head.pred).toNat:Int)<(S (zM ps rs[k].bs[j].1.pred).toNat:Int):=(by omega);clear jn Ar hup2;go_wp2_with fail;go_roundg (rs[k].bs.length-(j+1));exact⟨true,_,j+1,rfl,by omega,rfl,by go_num,zA Fx,by have:=zA Jh;omega,λ _=>by have:=zA Jh;omega,by simp⟩;omega
         ·have dX:ziv ps S rs[k].R.head.pred rs[k].bs[j].1:=(by unfold ziv qJ;rw[aX];simp;omega);have ow:=zC dX;have GA:¬ (S (zM ps rs[k].R.head.pred).toNat:Int)<(S (zM ps rs[k].bs[j].1.pred).toNat:Int):=(by omega);clear dX hup2;go_wp2_with fail;go_roundg (rs[k].bs.length-(j+1));exact⟨b,S,j+1,rfl,by omega,rfl,by go_num,eX,vp,sk,λ e=>⟨(dA e).1,zn6 fp (dA e).2 (zA ow)⟩⟩;omega
      ·clear h2 hm;go_wp2_with fail;go_roundg (rs.length-(k+1));exact⟨b,S,k+1,rfl,by omega,rfl,by go_num,hinv,vp,sk,λ e=>zz4 aF (dA e).1 (by rw[lx];have:=(dA e).2;rwa [List.take_of_length_le (by simp;omega)] at this)⟩;omega
    ·have qq:(rs.map (·.R)).take k=rs.map (·.R):=List.take_of_length_le (by simp;omega);clear hm;go_wp2_with fail;go_roundg (if b then znd f0 ps.length-znd S ps.length+1 else 0)
     case measure=>
      have hle:=z47 (hinv.low f0 (zA Fg)) ps.length
      cases b with
      | false=>simp at bS ⊢;omega
      | true=>have:=sk rfl;simp at bS ⊢;omega
     case rel=>exact⟨b,S,rfl,Nat.le_refl _,hinv,λ e=>by have:=dA e;rwa [qq] at this⟩
end
end Go.Proofs.YtldkpahaocjdpaaGreat
