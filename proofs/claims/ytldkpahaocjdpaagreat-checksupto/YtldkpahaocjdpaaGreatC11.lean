/-
  The reference's cycle: the place of the first not ahead of a predicate that is the head's, or hangs on it; -1 if there is none.
-/
import Derived.Test.YtldkpahaocjdpaaGreatC10
set_option maxHeartbeats 16000000
set_option maxRecDepth 1000000
namespace Go.Proofs.YtldkpahaocjdpaaGreat
section
open Go.RowKit
def zm7 (ps:P9)(H:Nat->Nat->Bool)(hd:B8)(A:zL):Bool:=A.no&&(zM ps A.pred==zM ps hd||H (vZ ps A.pred) (vZ ps hd))
def jS (ps:P9)(H:Nat->Nat->Bool)(hd:B8):List zL->Int
 | []=>-1
 | A::r=>if zm7 ps H hd A then A.ak else jS ps H hd r
def vL (ps:P9)(H:Nat->Nat->Bool):List zP->Int
 | []=>-1
 | R::r=>if 0<=jS ps H R.head.pred R.body then jS ps H R.head.pred R.body else vL ps H r
variable {H:Nat->Nat->Bool} {ps:P9}
theorem zvd {rs:List RR}{k:Nat}(h:k<rs.length):vL ps H ((rs.map (·.R)).drop k)=if 0<=jS ps H rs[k].R.head.pred rs[k].R.body then jS ps H rs[k].R.head.pred rs[k].R.body else vL ps H ((rs.map (·.R)).drop (k+1)):=by
 rw[List.drop_eq_getElem_cons (by simpa using h)];simp[vL]
theorem zpc {hd:B8}{bs:List (zL × Value)}{j:Nat}(h:j<bs.length):jS ps H hd ((bs.map (·.1)).drop j)=if zm7 ps H hd bs[j].1 then (bs[j].1.ak:Int) else jS ps H hd ((bs.map (·.1)).drop (j+1)):=by
 rw[zd9 h];rfl
theorem zyv (w:W8)(o:Nat)(rs:List RR)(ps:P9)(rv pv tv sv:Value)(h:ziv w o rs ps rv pv tv sv)(hn:ps.length<=1000)(aL:zd2 ps (yR rs)):
  Calls Tryz.prog 128 #[.pointer (some ⟨o,0,none⟩)] w λ e w'=>e=.returned (.int .i64 (vL ps (vF ps (rs.map (·.R))) (rs.map (·.R))))/\Below w.heap.size w w':=by
 have hh:=zy9 w o rs ps rv pv tv sv h hn aL;obtain⟨ar,eR,rfl⟩:=zD h.rules;have kX:=yN h.rules;unfold maxLen at kX;have aG:=h.lt;have tP:∀ nm wr,Below w.heap.size w wr->Calls Tryz.prog 135 #[.pointer (some ⟨o,0,none⟩),.string nm] wr λ e w'=>e=.returned (.int .i64 (zM ps nm))/\w'=wr:=λ nm wr hb=>qJ wr o rs ps _ _ _ _ nm (h.kept ((zN.refl [] w).ai hb) (by simp))
 have ir:=zC tP;have HH:=zC h;have HA:=zC aL;have HG:=zC hh;clear h tP aL hh;generalize vF ps (rs.map (·.R))=H at *;go_enter Tryz.func128,Tryz.ntmps128;go_wp2_with fail;refine (zA HG).mono ?_;rintro e w1 ⟨rfl,Fv,aM⟩;clear HG;go_wp2_with fail
 go_loopg [4,5,6,7,8] rs.length (λ gg i h5 k6 l7 q8 wr=>∃ k:Nat,k<=rs.length/\gg=rs.length-k/\i=.int .i64 k/\qw wr w.heap.size ps.length ps.length H/\Below w.heap.size w wr/\vL ps H (rs.map (·.R))=vL ps H ((rs.map (·.R)).drop k))
 exact⟨0,Nat.zero_le _,rfl,rfl,Fv,aM,rfl⟩
 case round=>
  clear Fv aM;obtain⟨k,hk,iZ,rfl,cD,hb,ax⟩:=hrel;have HF:=zC ax;clear ax;have hm:=(zA HH).kept ((zN.refl [] w).ai hb) (by simp);have c0:=hm.c0
  by_cases aE:k<rs.length
  ·obtain⟨g,cap,hv,oN,bR,cZ,da,q0,q1,q2,q3,q4,q5⟩:=x7 hm.rules k aE;injection hv with h1 h2 h3
   subst h1 h3;have ay:=hm.each _ (List.getElem_mem aE);obtain⟨ab,ku,kN⟩:=zD ay.bo;have o9:=yN ay.bo;unfold maxLen at o9;rw[kN] at q5;have ny:=ay.eq;have az:=zC ((zA HF).trans (zvd aE));have Mf:=zhs (zA HA) aE;have AP:zM ps rs[k].R.head.pred<ps.length:=(by have:=xN Mf;omega);clear HF h2;go_wp2_with fail;refine (zA ir _ wr hb).mono ?_;rintro e w1 ⟨rfl,rfl⟩;go_wp2_with fail
   go_loopg [6,7,8] rs[k].bs.length (λ gg i l7 q8 wr=>∃ j:Nat,j<=rs[k].bs.length/\gg=rs[k].bs.length-j/\i=.int .i64 j/\qw wr w.heap.size ps.length ps.length H/\Below w.heap.size w wr/\vL ps H (rs.map (·.R))=if 0<=jS ps H rs[k].R.head.pred ((rs[k].bs.map (·.1)).drop j) then jS ps H rs[k].R.head.pred ((rs[k].bs.map (·.1)).drop j) else vL ps H ((rs.map (·.R)).drop (k+1)))
   exact⟨0,Nat.zero_le _,rfl,rfl,cD,hb,by rw[List.drop_zero,<-ny];exact zA az⟩
   case round=>
    clear cD hb az hm c0 q0 q1 q2 q3 q4 q5 ay bR;obtain⟨j,hj,BI,rfl,cD,hb,ax⟩:=hrel;have HF:=zC ax;clear ax;have hm:=(zA HH).kept ((zN.refl [] w).ai hb) (by simp);have c0:=hm.c0;obtain⟨g',kD,rK,D4,bR,Aa,BA,q0,q1,q2,q3,q4,q5⟩:=x7 hm.rules k aE;injection rK with h1 h2 h3
    injection h1 with h1
    injection h1 with h1
    subst h1 h3;have ay:=hm.each _ (List.getElem_mem aE);rw[kN] at q5
    by_cases ig:j<rs[k].bs.length
    ·obtain⟨gb,xr,oe,D5,zt,Ed,D7,p0,p1,p2,p3,p4⟩:=vE ay.bo j ig;rw[kN] at oe;injection oe with hb11 hb12 o7
     subst hb11 o7;obtain⟨bp,oW,km⟩:=zD (ay.bl _ (List.getElem_mem ig));rw[km] at p1;have aP:=(zA HF).trans (by rw[zpc ig]);have Et:=zhr (zA HA) aE ny ig;have FK:zM ps rs[k].bs[j].1.pred<ps.length:=(by have:=xN Et;omega);have aT:=cD.sz;have Fi:w.heap.size<wr.heap.size:=(by omega);have XL:w.heap.size+1+(zM ps rs[k].bs[j].1.pred).toNat<wr.heap.size:=(by omega);have t1:=cD.top (zM ps rs[k].bs[j].1.pred).toNat (by omega);have t2:=cD.cell (zM ps rs[k].bs[j].1.pred).toNat (zM ps rs[k].R.head.pred).toNat (by omega) (by omega);have HM:=zC (cD.kept ((zN.refl [] _).alloc (.cells #[.string rs[k].bs[j].1.pred,.slice bp rs[k].bs[j].1.ae.length oW,.bool rs[k].bs[j].1.no,.int .i64 rs[k].bs[j].1.at_,.int .i64 rs[k].bs[j].1.ak] 243)) (by simp));clear HF h2 hm cD ay hb12;have FI:zm7 ps H rs[k].R.head.pred rs[k].bs[j].1=(rs[k].bs[j].1.no&&(zM ps rs[k].bs[j].1.pred==zM ps rs[k].R.head.pred||H (zM ps rs[k].bs[j].1.pred).toNat (zM ps rs[k].R.head.pred).toNat)):=rfl
     cases aR:rs[k].bs[j].1.no with
     | false=>
      rw[aR] at p2 HM;have xz:zm7 ps H rs[k].R.head.pred rs[k].bs[j].1=false:=(by rw[FI,aR];rfl);clear FI;have az:=zC (show vL ps H (rs.map (·.R))=if 0<=jS ps H rs[k].R.head.pred ((rs[k].bs.map (·.1)).drop (j+1)) then jS ps H rs[k].R.head.pred ((rs[k].bs.map (·.1)).drop (j+1)) else vL ps H ((rs.map (·.R)).drop (k+1)) by rw[aP,xz];simp);clear aP xz;go_wp2_with fail;refine (zA ir _ _ (hb.alloc (by omega) _)).mono ?_;rintro e w1 ⟨rfl,rfl⟩;go_wp2_with fail;go_roundg (rs[k].bs.length-(j+1));exact⟨j+1,by omega,rfl,by go_num,zA HM,hb.alloc (by omega) _,zA az⟩;omega
     | true=>
      rw[aR] at p2 HM
      cases heq:(zM ps rs[k].bs[j].1.pred==zM ps rs[k].R.head.pred) with
      | true=>
       have xz:zm7 ps H rs[k].R.head.pred rs[k].bs[j].1=true:=(by rw[FI,aR,heq];rfl);clear FI;have az:=zC (show vL ps H (rs.map (·.R))=(rs[k].bs[j].1.ak:Int) by rw[aP,xz];simp);clear aP xz;go_wp2_with fail;refine (zA ir _ _ (hb.alloc (by omega) _)).mono ?_;rintro e w1 ⟨rfl,rfl⟩;go_wp2_with fail;go_ret;exact⟨by rw[zA az];rfl,hb.alloc (by omega) _⟩
      | false=>
       cases hH:H (zM ps rs[k].bs[j].1.pred).toNat (zM ps rs[k].R.head.pred).toNat with
       | true=>
        have xz:zm7 ps H rs[k].R.head.pred rs[k].bs[j].1=true:=(by rw[FI,aR,heq,hH];rfl);clear FI;rw[hH] at t2;have az:=zC (show vL ps H (rs.map (·.R))=(rs[k].bs[j].1.ak:Int) by rw[aP,xz];simp);clear aP xz;go_wp2_with fail;refine (zA ir _ _ (hb.alloc (by omega) _)).mono ?_;rintro e w1 ⟨rfl,rfl⟩;go_wp2_with fail;go_ret;exact⟨by rw[zA az];rfl,hb.alloc (by omega) _⟩
       | false=>
        have xz:zm7 ps H rs[k].R.head.pred rs[k].bs[j].1=false:=(by rw[FI,aR,heq,hH];rfl);clear FI;rw[hH] at t2;have az:=zC (show vL ps H (rs.map (·.R))=if 0<=jS ps H rs[k].R.head.pred ((rs[k].bs.map (·.1)).drop (j+1)) then jS ps H rs[k].R.head.pred ((rs[k].bs.map (·.1)).drop (j+1)) else vL ps H ((rs.map (·.R)).drop (k+1)) by rw[aP,xz];simp);clear aP xz;go_wp2_with fail;refine (zA ir _ _ (hb.alloc (by omega) _)).mono ?_;rintro e w1 ⟨rfl,rfl⟩;go_wp2_with fail;go_roundg (rs[k].bs.length-(j+1));exact⟨j+1,by omega,rfl,by go_num,zA HM,hb.alloc (by omega) _,zA az⟩;omega
    ·have zw:(rs[k].bs.map (·.1)).drop j=[]:=List.drop_of_length_le (by simp;omega);have az:=zC (show vL ps H (rs.map (·.R))=vL ps H ((rs.map (·.R)).drop (k+1)) by rw[zA HF,zw];simp[jS]);clear HF h2 hm;go_wp2_with fail;go_roundg (rs.length-(k+1));exact⟨k+1,by omega,rfl,by go_num,cD,hb,zA az⟩;omega
  ·have az:=zC (show vL ps H (rs.map (·.R))=-1 by rw[zA HF,List.drop_of_length_le (by simp;omega)];rfl);clear HF hm;go_wp2_with fail;go_ret;exact⟨by rw[zA az];rfl,hb⟩
end
section
open Go.RowKit
def zhp (ps:P9)(f:Nat->Nat)(hd:B8)(A:zL):Prop:=f (vZ ps A.pred)+(if A.no then 1 else 0)<=f (vZ ps hd)
def zdf (ps:P9)(rs:List zP)(f:Nat->Nat):Prop:=∀ R∈rs,∀ A∈R.body,zhp ps f R.head.pred A
def Low (ps:P9)(rs:List zP)(S:Nat->Nat):Prop:=∀ f,zdf ps rs f->∀ i,S i<=f i
def dn (S:Nat->Nat)(i v:Nat):Nat->Nat:=λ a=>if a=i then v else S a
def zk6 (S:Nat->Nat):Nat->Nat
 | 0=>0
 | n+1=>zk6 S n+S n
theorem z1s {S T:Nat->Nat}(h:∀ i,S i<=T i):∀ n,zk6 S n<=zk6 T n
 | 0=>Nat.le_refl _
 | n+1=>by have:=z1s h n;have:=h n;simp only[zk6];omega
theorem z1t {S:Nat->Nat}{i v:Nat}(hv:S i<v):∀ n,i<n->zk6 S n<zk6 (dn S i v) n
 | 0,h=>by omega
 | n+1,h=>by
  simp only[zk6]
  by_cases e:i=n
  ·subst e;have h1:zk6 S i<=zk6 (dn S i v) i:=z1s (λ a=>by unfold dn;split;rename_i e;subst e;omega;exact Nat.le_refl _) i;have h2:dn S i v i=v:=(by simp[dn]);omega
  ·have h1:=z1t hv n (by omega);have h2:dn S i v n=S n:=(by unfold dn;rw[if_neg (by omega)]);omega
variable {S:Nat->Nat} {ps:P9}
theorem z7l {rs:List zP}(h:Low ps rs S){R:zP}(hR:R∈rs){A:zL}(hA:A∈R.body):Low ps rs (dn S (vZ ps R.head.pred) (S (vZ ps A.pred)+(if A.no then 1 else 0))):=by
 intro f hf i;unfold dn
 split
 ·rename_i e;subst e;have h1:=hf R hR A hA;have h2:=h f hf (vZ ps A.pred);unfold zhp at h1;omega
 ·exact h f hf i
structure nk (w:W8)(gs n:Nat)(S:Nat->Nat):Prop where
 sz:gs<w.heap.size
 cell:∀ i,i<n->w.cell? ⟨gs,i,none⟩=some (.int .i64 (S i))
 fz:∀ j,w.frozen? ⟨gs,j,none⟩=false
variable {gs n:Nat} {w:W8}
theorem nk.kept {w':W8}(h:nk w gs n S)(k:zN [] w w'):nk w' gs n S:=
 ⟨Nat.lt_of_lt_of_le h.sz k.size,λ i hi=>(k.cell (p:=⟨gs,i,none⟩) h.sz (by simp)).trans (h.cell i hi),λ j=>(k.frozen (p:=⟨gs,j,none⟩) h.sz (by simp)).trans (h.fz j)⟩
theorem nk.set (h:nk w gs n S)(i v:Nat)(hi:i<n):nk (w.setCell ⟨gs,i,none⟩ (.int .i64 v)) gs n (dn S i v):=by
 refine⟨by simpa using h.sz,λ a ha=>?_,λ j=>by simpa using h.fz j⟩
 by_cases e:a=i
 ·subst e;rw[Iq (h.cell a ha)];simp[dn]
 ·rw[qU (by omega),h.cell a ha];simp[dn,e]
theorem zpo (n:Nat)(hn:n<=1000)(u:W8):(Instr.makeSlice 24 (.int .i64 n) (.int .i64 n)).run Tryz.prog u=.ok (.slice (some ⟨u.heap.size,0,none⟩) n n) (u.alloc (.cells (madeCells #[.int .i64 0] n) 3)):=by
 obtain⟨i0,hi,cQ,cz,cx⟩:=info_parts zj3;have h:=run_make (P:=Tryz.prog) u 24 3 i0 (.int .i64 0) Tryz.underlying24 hi cQ .i64 .i64 (n:Int) (n:Int) (by omega) (Int.le_refl _) (by rw[cx];omega) (by omega);simpa[cz,Value.cells] using h
theorem nk.start (w:W8)(n:Nat):nk (w.alloc (.cells (madeCells #[.int .i64 0] n) 3)) w.heap.size n (λ _=>0):=
 ⟨by simp,λ i hi=>by rw[World.cell?_alloc_at _ _ _ _ rfl,N6 _ _ _ hi];rfl,λ j=>by rw[World.frozen?_alloc_at _ _ _ _ rfl]⟩
variable {rs:List RR}
theorem oS.dn {o:Nat}{qs:P9}{rv pv tv sv:Value}(h:oS w o rs ps qs rv pv tv sv)(v':Value):oS (w.setCell ⟨o,3,none⟩ v') o rs ps qs rv pv tv v':=by
 have kF:∀ {e:TypeId} {size:Nat} {v:Value} {n:Nat} {xs:V8},w.ownsRow (o+1) e size v n xs->(w.setCell ⟨o,3,none⟩ v').ownsRow (o+1) e size v n xs:=λ hx=>ownsRow_setCell_below hx (by simp) _
 exact⟨by simpa using h.lt,by rw[qU (by omega)];exact h.c0,by rw[qU (by omega)];exact h.c1,by rw[qU (by omega)];exact h.c2,Iq h.c3,λ j=>by simpa using h.fz j,kF h.rules,λ r hr=>⟨kF (h.each r hr).hd,kF (h.each r hr).bo,λ x hx=>kF ((h.each r hr).bl x hx),(h.each r hr).eq⟩,kF h.fC,kF h.ae⟩
theorem zxb {k:Nat}(hk:k<rs.length)(h:zdf ps ((rs.map (·.R)).take k) S)(hb:∀ A∈rs[k].R.body,zhp ps S rs[k].R.head.pred A):zdf ps ((rs.map (·.R)).take (k+1)) S:=by
 intro R hR;rw[List.take_succ_eq_append_getElem (by simpa using hk)] at hR;rcases List.mem_append.1 hR with hR | hR
 ·exact h R hR
 ·simp at hR;subst hR;exact hb
theorem zll {bs:List (zL × Value)}{j:Nat}{hd:B8}(hj:j<bs.length)(h:∀ A∈(bs.map (·.1)).take j,zhp ps S hd A)(hb:zhp ps S hd bs[j].1):∀ A∈(bs.map (·.1)).take (j+1),zhp ps S hd A:=by
 intro A hA;rw[List.take_succ_eq_append_getElem (by simpa using hj)] at hA;rcases List.mem_append.1 hA with hA | hA
 ·exact h A hA
 ·simp at hA;subst hA;exact hb
structure Dk (w1:W8)(G n:Nat)(ps:P9)(rs:List zP)(S:Nat->Nat)(wr:W8):Prop where
 below:Below G w1 wr
 row:nk wr G n S
 low:Low ps rs S
theorem Dk.kept {w1:W8}{G n:Nat}{ps:P9}{rs:List zP}{S:Nat->Nat}{wr w2:W8}(h:Dk w1 G n ps rs S wr)(k:Below wr.heap.size wr w2):Dk w1 G n ps rs S w2:=
 ⟨h.below.trans (k.mono (by have:=h.row.sz;omega)),h.row.kept ((zN.refl [] _).ai k),h.low⟩
theorem Dk.set {w1:W8}{G n:Nat}{ps:P9}{rs:List zP}{S:Nat->Nat}{wr:W8}(h:Dk w1 G n ps rs S wr){R:zP}(hR:R∈rs){A:zL}(hA:A∈R.body)(hi:vZ ps R.head.pred<n):Dk w1 G n ps rs (dn S (vZ ps R.head.pred) (S (vZ ps A.pred)+(if A.no then 1 else 0))) (wr.setCell ⟨G,vZ ps R.head.pred,none⟩ (.int .i64 ((S (vZ ps A.pred)+(if A.no then 1 else 0):Nat)))):=
 ⟨h.below.setCell L9 _,h.row.set _ _ hi,z7l h.low hR hA⟩
end
section
open Go.RowKit
theorem zzr (w:W8)(o:Nat)(rs:List RR)(ps:P9)(rv pv tv sv:Value)(h:ziv w o rs ps rv pv tv sv)(hn:ps.length<=1000)(aL:zd2 ps (yR rs))(f0:Nat->Nat)(sS:zdf ps (rs.map (·.R)) f0)(nO:∀ i,f0 i<=1000):
  Calls Tryz.prog 129 #[.pointer (some ⟨o,0,none⟩)] w λ e w'=>e=.returned (.tuple #[])/\∃ S,ziv w' o rs ps rv pv tv (.slice (some ⟨w.heap.size,0,none⟩) ps.length ps.length)/\nk w' w.heap.size ps.length S/\zdf ps (rs.map (·.R)) S/\Low ps (rs.map (·.R)) S/\Below o w w':=by
 obtain⟨ar,eR,rfl⟩:=zD h.rules;obtain⟨ap,Pq,rfl⟩:=zD h.fC;have kX:=yN h.rules;unfold maxLen at kX;have mk:=zpo ps.length hn;have aG:=h.lt;have c1:=h.c1;have c3:=h.c3;have fz:=h.fz 3;have h1:=h.dn (.slice (some ⟨w.heap.size,0,none⟩) ps.length ps.length);have gX:Below o w (w.setCell ⟨o,3,none⟩ (.slice (some ⟨w.heap.size,0,none⟩) ps.length ps.length)):=(Below.refl o w).setCell (p:=⟨o,3,none⟩) L9 _;have Ek:(w.setCell ⟨o,3,none⟩ (.slice (some ⟨w.heap.size,0,none⟩) ps.length ps.length)).heap.size=w.heap.size:=by simp
 have vr:Dk (w.setCell ⟨o,3,none⟩ (.slice (some ⟨w.heap.size,0,none⟩) ps.length ps.length)) w.heap.size ps.length ps (rs.map (·.R)) (λ _=>0) ((w.setCell ⟨o,3,none⟩ (.slice (some ⟨w.heap.size,0,none⟩) ps.length ps.length)).alloc (.cells (madeCells #[.int .i64 0] ps.length) 3)):=by
  refine⟨B9.alloc (by omega) _,?_,λ f _ i=>Nat.zero_le _⟩;have:=nk.start (w.setCell ⟨o,3,none⟩ (.slice (some ⟨w.heap.size,0,none⟩) ps.length ps.length)) ps.length
  rwa [Ek] at this
 have eN:=zC vr;have H1:=zC h1;have HA:=zC aL;have CW:=zC gX;have lN:=zC Ek;have F6:=zC sS;clear h h1 aL vr gX Ek sS;go_enter Tryz.func129,Tryz.ntmps129;go_wp2_with fail;clear mk c1 c3 fz
 go_loopg [2,3,4,5,6,7] (zk6 f0 ps.length+1) (λ gg ag i3 h4 k5 l6 s7 wr=>∃ (b:Bool) (S:Nat->Nat),ag=.bool b/\(if b then zk6 f0 ps.length-zk6 S ps.length+1 else 0)<=gg/\Dk (w.setCell ⟨o,3,none⟩ (.slice (some ⟨w.heap.size,0,none⟩) ps.length ps.length)) w.heap.size ps.length ps (rs.map (·.R)) S wr/\(b=false->zdf ps (rs.map (·.R)) S))
 exact⟨true,λ _=>0,rfl,by simp,zA eN,by simp⟩
 case round=>
  clear eN;obtain⟨b,S0,rfl,dI,hinv,gF⟩:=hrel
  cases b with
  | false=>
   have HV:=zC (gF rfl);clear gF;go_wp2_with fail;go_end0;have hk:=hinv.below;have ph:Below (w.setCell ⟨o,3,none⟩ (.slice (some ⟨w.heap.size,0,none⟩) ps.length ps.length)).heap.size (w.setCell ⟨o,3,none⟩ (.slice (some ⟨w.heap.size,0,none⟩) ps.length ps.length)) wr:=(by rw[zA lN];exact hk);exact⟨rfl,(zA H1).kept ((zN.refl [] _).ai ph) (by simp),S0,hinv.row,zA HV,hinv.low,(zA CW).trans (hk.mono (by omega))⟩
  | true=>
   clear gF;go_wp2_with fail
   go_loopg [2,3,4,5,6,7] rs.length (λ gg ag i3 h4 k5 l6 s7 wr=>∃ (b:Bool) (S:Nat->Nat) (k:Nat),ag=.bool b/\k<=rs.length/\gg=rs.length-k/\i3=.int .i64 k/\Dk (w.setCell ⟨o,3,none⟩ (.slice (some ⟨w.heap.size,0,none⟩) ps.length ps.length)) w.heap.size ps.length ps (rs.map (·.R)) S wr/\zk6 S0 ps.length<=zk6 S ps.length/\(b=true->zk6 S0 ps.length<zk6 S ps.length)/\(b=false->zdf ps ((rs.map (·.R)).take k) S))
   exact⟨false,S0,0,rfl,Nat.zero_le _,rfl,rfl,hinv,Nat.le_refl _,by simp,λ _=>by intro R hR;simp at hR⟩
   case round=>
    clear hinv;obtain⟨b,S,k,rfl,hk,iZ,rfl,hinv,Ai,uE,gF⟩:=hrel;have qz:Below (w.setCell ⟨o,3,none⟩ (.slice (some ⟨w.heap.size,0,none⟩) ps.length ps.length)).heap.size (w.setCell ⟨o,3,none⟩ (.slice (some ⟨w.heap.size,0,none⟩) ps.length ps.length)) wr:=(by rw[zA lN];exact hinv.below);have hm:=(zA H1).kept ((zN.refl [] _).ai qz) (by simp);have c0:=hm.c0
    by_cases aE:k<rs.length
    ·obtain⟨g,cap,hv,oN,bR,cZ,da,q0,q1,q2,q3,q4,q5⟩:=x7 hm.rules k aE;injection hv with h1 h2 h3
     subst h1 h3;have ay:=hm.each _ (List.getElem_mem aE);obtain⟨ab,ku,kN⟩:=zD ay.bo;have o9:=yN ay.bo;unfold maxLen at o9;rw[kN] at q5;have ny:=ay.eq;have Mf:=zhs (zA HA) aE;have AP:zM ps rs[k].R.head.pred<ps.length:=(by have:=xN Mf;omega);have ir:=zC (λ nm=>qJ wr o rs ps _ _ _ _ nm hm);clear h2 hm;go_wp2_with fail;refine (zA ir _).mono ?_;rintro e w1 ⟨rfl,rfl⟩;clear ir;go_wp2_with fail
     go_loopg [2,5,6,7] rs[k].bs.length (λ gg ag k5 l6 s7 wr=>∃ (b:Bool) (S:Nat->Nat) (j:Nat),ag=.bool b/\j<=rs[k].bs.length/\gg=rs[k].bs.length-j/\k5=.int .i64 j/\Dk (w.setCell ⟨o,3,none⟩ (.slice (some ⟨w.heap.size,0,none⟩) ps.length ps.length)) w.heap.size ps.length ps (rs.map (·.R)) S wr/\zk6 S0 ps.length<=zk6 S ps.length/\(b=true->zk6 S0 ps.length<zk6 S ps.length)/\(b=false->zdf ps ((rs.map (·.R)).take k) S/\∀ A∈(rs[k].bs.map (·.1)).take j,zhp ps S rs[k].R.head.pred A))
     exact⟨b,S,0,rfl,Nat.zero_le _,rfl,rfl,hinv,Ai,uE,λ e=>⟨gF e,by simp⟩⟩
     case round=>
      clear hinv Ai uE gF c0 q0 q1 q2 q3 q4 q5 ay bR qz;obtain⟨b,S,j,rfl,hj,BI,rfl,hinv,Ai,uE,gF⟩:=hrel;have qz:Below (w.setCell ⟨o,3,none⟩ (.slice (some ⟨w.heap.size,0,none⟩) ps.length ps.length)).heap.size (w.setCell ⟨o,3,none⟩ (.slice (some ⟨w.heap.size,0,none⟩) ps.length ps.length)) wr:=(by rw[zA lN];exact hinv.below);have hm:=(zA H1).kept ((zN.refl [] _).ai qz) (by simp);have c0:=hm.c0;have c3:=hm.c3;have G1:=hm.lt;obtain⟨g',kD,rK,D4,bR,Aa,BA,q0,q1,q2,q3,q4,q5⟩:=x7 hm.rules k aE;injection rK with h1 h2 h3
      injection h1 with h1
      injection h1 with h1
      subst h1 h3;have ay:=hm.each _ (List.getElem_mem aE);rw[kN] at q5
      by_cases ig:j<rs[k].bs.length
      ·obtain⟨gb,xr,oe,D5,zt,Ed,D7,p0,p1,p2,p3,p4⟩:=vE ay.bo j ig;rw[kN] at oe;injection oe with hb11 hb12 o7
       subst hb11 o7;obtain⟨bp,oW,km⟩:=zD (ay.bl _ (List.getElem_mem ig));rw[km] at p1;have Et:=zhr (zA HA) aE ny ig;have FK:zM ps rs[k].bs[j].1.pred<ps.length:=(by have:=xN Et;omega);have sX:=hinv.row.sz;have t1:=hinv.row.cell (zM ps rs[k].bs[j].1.pred).toNat (by omega);have hSb:S (zM ps rs[k].bs[j].1.pred).toNat<=1000:=Nat.le_trans (hinv.low f0 (zA F6) _) (nO _);have ir:=zC (λ nm w2 (aH:Below wr.heap.size wr w2)=>qJ w2 o rs ps _ _ _ _ nm (hm.kept ((zN.refl [] _).ai aH) (by simp)));have HM:=zC hm;clear h2 hm ay hb12;go_upto_region 12 with fail
       go_cut [7] (λ s wc=>s=.int .i64 (S (zM ps rs[k].bs[j].1.pred).toNat)/\Below (wr.alloc (Obj.cells #[.string rs[k].bs[j].1.pred,.slice bp rs[k].bs[j].1.ae.length oW,.bool rs[k].bs[j].1.no,.int .i64 rs[k].bs[j].1.at_,.int .i64 rs[k].bs[j].1.ak] 243)).heap.size (wr.alloc (Obj.cells #[.string rs[k].bs[j].1.pred,.slice bp rs[k].bs[j].1.ae.length oW,.bool rs[k].bs[j].1.no,.int .i64 rs[k].bs[j].1.at_,.int .i64 rs[k].bs[j].1.ak] 243)) wc)
       case first=>
        go_region_with (go_at_call 135;refine (zA ir _ _ ((B9.alloc L9 _).drew)).mono ?_;rintro e w1 ⟨rfl,rfl⟩)
        all_goals
         go_wp2_with fail;go_meet
         case rel=>exact⟨rfl,B9.drew⟩
       case rest=>
        obtain⟨rfl,Ry⟩:=hcut;have Al:Below wr.heap.size wr wc:=(B9.alloc L9 _).trans (Ry.mono (by simp));have ja:=hinv.kept Al;have il:=(zA HM).kept ((zN.refl [] _).ai Al) (by simp);have d3:=il.c3;have d2:wc.cell? ⟨wr.heap.size,2,none⟩=some (.bool rs[k].bs[j].1.no):=(Ry.cell (p:=⟨wr.heap.size,2,none⟩) (by simp)).trans (by rw[World.cell?_alloc_at _ _ _ _ rfl];rfl);have t2:=ja.row.cell (zM ps rs[k].R.head.pred).toNat (by omega);have t3:=ja.row.fz (zM ps rs[k].R.head.pred).toNat;have hSh:S (zM ps rs[k].R.head.pred).toNat<=1000:=Nat.le_trans (hinv.low f0 (zA F6) _) (nO _);have sk:=il.lt;have vs:=ja.row.sz;clear ir HM il Ry Al hinv t1 c0 c3 q0 q1 q2 q3 q4 q5 p0 p1 p2 p3 p4 bR zt km G1 sX
        cases aR:rs[k].bs[j].1.no with
        | true=>
         rw[aR] at d2
         by_cases hup2:S (zM ps rs[k].R.head.pred).toNat<S (zM ps rs[k].bs[j].1.pred).toNat+1
         ·have lY:=ja.set (R:=rs[k].R) (List.mem_map.2 ⟨_,List.getElem_mem aE,rfl⟩) (A:=rs[k].bs[j].1) (by rw[ny];exact List.mem_map.2 ⟨_,List.getElem_mem ig,rfl⟩) (by unfold vZ;omega);have BX:=z1t (S:=S) (i:=(zM ps rs[k].R.head.pred).toNat) (v:=S (zM ps rs[k].bs[j].1.pred).toNat+1) hup2 ps.length (by omega);rw[aR] at lY;simp only[if_true,vZ,Int.natCast_add,Int.cast_ofNat_Int] at lY;have Ba:=zC lY;have JQ:=zC BX;have Hn:(S (zM ps rs[k].R.head.pred).toNat:Int)<(S (zM ps rs[k].bs[j].1.pred).toNat:Int)+1:=(by omega);clear lY BX hup2;go_wp2_with fail;go_roundg (rs[k].bs.length-(j+1));exact⟨true,_,j+1,rfl,by omega,rfl,by go_num,zA Ba,by have:=zA JQ;omega,λ _=>by have:=zA JQ;omega,by simp⟩;omega
         ·have dh:zhp ps S rs[k].R.head.pred rs[k].bs[j].1:=(by unfold zhp vZ;rw[aR];simp;omega);have ly:=zC dh;have Hn:¬ (S (zM ps rs[k].R.head.pred).toNat:Int)<(S (zM ps rs[k].bs[j].1.pred).toNat:Int)+1:=(by omega);clear dh hup2;go_wp2_with fail;go_roundg (rs[k].bs.length-(j+1));exact⟨b,S,j+1,rfl,by omega,rfl,by go_num,ja,Ai,uE,λ e=>⟨(gF e).1,zll ig (gF e).2 (zA ly)⟩⟩;omega
        | false=>
         rw[aR] at d2
         by_cases hup2:S (zM ps rs[k].R.head.pred).toNat<S (zM ps rs[k].bs[j].1.pred).toNat
         ·have lY:=ja.set (R:=rs[k].R) (List.mem_map.2 ⟨_,List.getElem_mem aE,rfl⟩) (A:=rs[k].bs[j].1) (by rw[ny];exact List.mem_map.2 ⟨_,List.getElem_mem ig,rfl⟩) (by unfold vZ;omega);have BX:=z1t (S:=S) (i:=(zM ps rs[k].R.head.pred).toNat) (v:=S (zM ps rs[k].bs[j].1.pred).toNat) hup2 ps.length (by omega);rw[aR] at lY;simp only[if_false,Bool.false_eq_true,vZ,Nat.add_zero] at lY;have Ba:=zC lY;have JQ:=zC BX;have Hn:(S (zM ps rs[k].R.head.pred).toNat:Int)<(S (zM ps rs[k].bs[j].1.pred).toNat:Int):=(by omega);clear lY BX hup2;go_wp2_with fail;go_roundg (rs[k].bs.length-(j+1));exact⟨true,_,j+1,rfl,by omega,rfl,by go_num,zA Ba,by have:=zA JQ;omega,λ _=>by have:=zA JQ;omega,by simp⟩;omega
         ·have dh:zhp ps S rs[k].R.head.pred rs[k].bs[j].1:=(by unfold zhp vZ;rw[aR];simp;omega);have ly:=zC dh;have Hn:¬ (S (zM ps rs[k].R.head.pred).toNat:Int)<(S (zM ps rs[k].bs[j].1.pred).toNat:Int):=(by omega);clear dh hup2;go_wp2_with fail;go_roundg (rs[k].bs.length-(j+1));exact⟨b,S,j+1,rfl,by omega,rfl,by go_num,ja,Ai,uE,λ e=>⟨(gF e).1,zll ig (gF e).2 (zA ly)⟩⟩;omega
      ·clear h2 hm;go_wp2_with fail;go_roundg (rs.length-(k+1));exact⟨b,S,k+1,rfl,by omega,rfl,by go_num,hinv,Ai,uE,λ e=>zxb aE (gF e).1 (by rw[ny];have:=(gF e).2;rwa [List.take_of_length_le (by simp;omega)] at this)⟩;omega
    ·have Li:(rs.map (·.R)).take k=rs.map (·.R):=List.take_of_length_le (by simp;omega);clear hm;go_wp2_with fail;go_roundg (if b then zk6 f0 ps.length-zk6 S ps.length+1 else 0)
     case measure=>
      have hle:=z1s (hinv.low f0 (zA F6)) ps.length
      cases b with
      | false=>simp at dI ⊢;omega
      | true=>have:=uE rfl;simp at dI ⊢;omega
     case rel=>exact⟨b,S,rfl,Nat.le_refl _,hinv,λ e=>by have:=gF e;rwa [Li] at this⟩
end
end Go.Proofs.YtldkpahaocjdpaaGreat
