/-
  The reference's cycle: the place of the first not ahead of a predicate that is the head's, or hangs on it; -1 if there is none.
-/
import Derived.Test.YtldkpahaocjdpaaGreatE12
set_option maxHeartbeats 16000000
set_option maxRecDepth 1000000
namespace Go.Proofs.YtldkpahaocjdpaaGreat
section
open Go.RowKit
def zp9 (ps:P9)(H:Nat->Nat->Bool)(hd:B8)(A:zL):Bool:=A.no&&(zM ps A.pred==zM ps hd||H (qJ ps A.pred) (qJ ps hd))
def j4 (ps:P9)(H:Nat->Nat->Bool)(hd:B8):List zL->Int
 | []=>-1
 | A::r=>if zp9 ps H hd A then A.az else j4 ps H hd r
def vO (ps:P9)(H:Nat->Nat->Bool):List zS->Int
 | []=>-1
 | R::r=>if 0<=j4 ps H R.head.pred R.body then j4 ps H R.head.pred R.body else vO ps H r
variable {H:Nat->Nat->Bool} {ps:P9}
theorem zzw {rs:List RR}{k:Nat}(h:k<rs.length):vO ps H ((rs.map (·.R)).drop k)=if 0<=j4 ps H rs[k].R.head.pred rs[k].R.body then j4 ps H rs[k].R.head.pred rs[k].R.body else vO ps H ((rs.map (·.R)).drop (k+1)):=by
 rw[List.drop_eq_getElem_cons (by simpa using h)];simp[vO]
theorem zq2 {hd:B8}{bs:List (zL × Value)}{j:Nat}(h:j<bs.length):j4 ps H hd ((bs.map (·.1)).drop j)=if zp9 ps H hd bs[j].1 then (bs[j].1.az:Int) else j4 ps H hd ((bs.map (·.1)).drop (j+1)):=by
 rw[zfs h];rfl
theorem z24 (w:W8)(o:Nat)(rs:List RR)(ps:P9)(rv pv tv sv:Value)(h:zok w o rs ps rv pv tv sv)(hn:ps.length<=1000)(aS:zgl ps (yJ rs)):
  Calls Tryz.prog 128 #[.pointer (some ⟨o,0,none⟩)] w λ e w'=>e=.returned (.int .i64 (vO ps (vI ps (rs.map (·.R))) (rs.map (·.R))))/\Below w.heap.size w w':=by
 have hh:=z1q w o rs ps rv pv tv sv h hn aS;obtain⟨ar,dA,rfl⟩:=zD h.rules;have gL:=yU h.rules;unfold maxLen at gL;have aH:=h.lt;have rj:∀ nm wr,Below w.heap.size w wr->Calls Tryz.prog 135 #[.pointer (some ⟨o,0,none⟩),.string nm] wr λ e w'=>e=.returned (.int .i64 (zM ps nm))/\w'=wr:=λ nm wr hb=>zcc wr o rs ps _ _ _ _ nm (h.kept ((zK.refl [] w).ak hb) (by simp))
 have nx:=zC rj;have HH:=zC h;have HA:=zC aS;have HG:=zC hh;clear h rj aS hh;generalize vI ps (rs.map (·.R))=H at *;go_enter Tryz.func128,Tryz.ntmps128;go_wp2_with fail;refine (zA HG).mono ?_;rintro e w1 ⟨rfl,Ew,aL⟩;clear HG;go_wp2_with fail
 go_loopg [4,5,6,7,8] rs.length (λ gg i h5 k6 l7 q8 wr=>∃ k:Nat,k<=rs.length/\gg=rs.length-k/\i=.int .i64 k/\nN wr w.heap.size ps.length ps.length H/\Below w.heap.size w wr/\vO ps H (rs.map (·.R))=vO ps H ((rs.map (·.R)).drop k))
 exact⟨0,Nat.zero_le _,rfl,rfl,Ew,aL,rfl⟩
 case round=>
  clear Ew aL;obtain⟨k,hk,eA,rfl,bE,hb,aE⟩:=hrel;have HF:=zC aE;clear aE;have hm:=(zA HH).kept ((zK.refl [] w).ak hb) (by simp);have c0:=hm.c0
  by_cases aF:k<rs.length
  ·obtain⟨g,cap,hv,iG,aZ,bO,bP,q0,q1,q2,q3,q4,q5⟩:=jC hm.rules k aF;injection hv with h1 h2 h3
   subst h1 h3;have ax:=hm.each _ (List.getElem_mem aF);obtain⟨ab,iA,gU⟩:=zD ax.bo;have mZ:=yU ax.bo;unfold maxLen at mZ;rw[gU] at q5;have lG:=ax.eq;have aC:=zC ((zA HF).trans (zzw aF));have E6:=ziw (zA HA) aF;have tF:zM ps rs[k].R.head.pred<ps.length:=(by have:=vM E6;omega);clear HF h2;go_wp2_with fail;refine (zA nx _ wr hb).mono ?_;rintro e w1 ⟨rfl,rfl⟩;go_wp2_with fail
   go_loopg [6,7,8] rs[k].bs.length (λ gg i l7 q8 wr=>∃ j:Nat,j<=rs[k].bs.length/\gg=rs[k].bs.length-j/\i=.int .i64 j/\nN wr w.heap.size ps.length ps.length H/\Below w.heap.size w wr/\vO ps H (rs.map (·.R))=if 0<=j4 ps H rs[k].R.head.pred ((rs[k].bs.map (·.1)).drop j) then j4 ps H rs[k].R.head.pred ((rs[k].bs.map (·.1)).drop j) else vO ps H ((rs.map (·.R)).drop (k+1)))
   exact⟨0,Nat.zero_le _,rfl,rfl,bE,hb,by rw[List.drop_zero,<-lG];exact zA aC⟩
   case round=>
    clear bE hb aC hm c0 q0 q1 q2 q3 q4 q5 ax aZ;obtain⟨j,hj,xu,rfl,bE,hb,aE⟩:=hrel;have HF:=zC aE;clear aE;have hm:=(zA HH).kept ((zK.refl [] w).ak hb) (by simp);have c0:=hm.c0;obtain⟨g',dp,oo,CQ,aZ,wu,AX,q0,q1,q2,q3,q4,q5⟩:=jC hm.rules k aF;injection oo with h1 h2 h3
    injection h1 with h1
    injection h1 with h1
    subst h1 h3;have ax:=hm.each _ (List.getElem_mem aF);rw[gU] at q5
    by_cases fu:j<rs[k].bs.length
    ·obtain⟨gb,uv,nG,Dx,qk,CE,CR,p0,p1,p2,p3,p4⟩:=jY ax.bo j fu;rw[gU] at nG;injection nG with hb11 hb12 mg
     subst hb11 mg;obtain⟨br,mV,fp⟩:=zD (ax.bl _ (List.getElem_mem fu));rw[fp] at p1;have aO:=(zA HF).trans (by rw[zq2 fu]);have Fc:=zis (zA HA) aF lG fu;have Ij:zM ps rs[k].bs[j].1.pred<ps.length:=(by have:=vM Fc;omega);have bj:=bE.sz;have C5:w.heap.size<wr.heap.size:=(by omega);have V3:w.heap.size+1+(zM ps rs[k].bs[j].1.pred).toNat<wr.heap.size:=(by omega);have t1:=bE.top (zM ps rs[k].bs[j].1.pred).toNat (by omega);have t2:=bE.cell (zM ps rs[k].bs[j].1.pred).toNat (zM ps rs[k].R.head.pred).toNat (by omega) (by omega);have HM:=zC (bE.kept ((zK.refl [] _).alloc (.cells #[.string rs[k].bs[j].1.pred,.slice br rs[k].bs[j].1.ae.length mV,.bool rs[k].bs[j].1.no,.int .i64 rs[k].bs[j].1.at_,.int .i64 rs[k].bs[j].1.az] 243)) (by simp));clear HF h2 hm bE ax hb12;have EW:zp9 ps H rs[k].R.head.pred rs[k].bs[j].1=(rs[k].bs[j].1.no&&(zM ps rs[k].bs[j].1.pred==zM ps rs[k].R.head.pred||H (zM ps rs[k].bs[j].1.pred).toNat (zM ps rs[k].R.head.pred).toNat)):=rfl
     cases aW:rs[k].bs[j].1.no with
     | false=>
      rw[aW] at p2 HM;have BK:zp9 ps H rs[k].R.head.pred rs[k].bs[j].1=false:=(by rw[EW,aW];rfl);clear EW;have aC:=zC (show vO ps H (rs.map (·.R))=if 0<=j4 ps H rs[k].R.head.pred ((rs[k].bs.map (·.1)).drop (j+1)) then j4 ps H rs[k].R.head.pred ((rs[k].bs.map (·.1)).drop (j+1)) else vO ps H ((rs.map (·.R)).drop (k+1)) by rw[aO,BK];simp);clear aO BK;go_wp2_with fail;refine (zA nx _ _ (hb.alloc (by omega) _)).mono ?_;rintro e w1 ⟨rfl,rfl⟩;go_wp2_with fail;go_roundg (rs[k].bs.length-(j+1));exact⟨j+1,by omega,rfl,by go_num,zA HM,hb.alloc (by omega) _,zA aC⟩;omega
     | true=>
      rw[aW] at p2 HM
      cases heq:(zM ps rs[k].bs[j].1.pred==zM ps rs[k].R.head.pred) with
      | true=>
       have BK:zp9 ps H rs[k].R.head.pred rs[k].bs[j].1=true:=(by rw[EW,aW,heq];rfl);clear EW;have aC:=zC (show vO ps H (rs.map (·.R))=(rs[k].bs[j].1.az:Int) by rw[aO,BK];simp);clear aO BK;go_wp2_with fail;refine (zA nx _ _ (hb.alloc (by omega) _)).mono ?_;rintro e w1 ⟨rfl,rfl⟩;go_wp2_with fail;go_ret;exact⟨by rw[zA aC];rfl,hb.alloc (by omega) _⟩
      | false=>
       cases hH:H (zM ps rs[k].bs[j].1.pred).toNat (zM ps rs[k].R.head.pred).toNat with
       | true=>
        have BK:zp9 ps H rs[k].R.head.pred rs[k].bs[j].1=true:=(by rw[EW,aW,heq,hH];rfl);clear EW;rw[hH] at t2;have aC:=zC (show vO ps H (rs.map (·.R))=(rs[k].bs[j].1.az:Int) by rw[aO,BK];simp);clear aO BK;go_wp2_with fail;refine (zA nx _ _ (hb.alloc (by omega) _)).mono ?_;rintro e w1 ⟨rfl,rfl⟩;go_wp2_with fail;go_ret;exact⟨by rw[zA aC];rfl,hb.alloc (by omega) _⟩
       | false=>
        have BK:zp9 ps H rs[k].R.head.pred rs[k].bs[j].1=false:=(by rw[EW,aW,heq,hH];rfl);clear EW;rw[hH] at t2;have aC:=zC (show vO ps H (rs.map (·.R))=if 0<=j4 ps H rs[k].R.head.pred ((rs[k].bs.map (·.1)).drop (j+1)) then j4 ps H rs[k].R.head.pred ((rs[k].bs.map (·.1)).drop (j+1)) else vO ps H ((rs.map (·.R)).drop (k+1)) by rw[aO,BK];simp);clear aO BK;go_wp2_with fail;refine (zA nx _ _ (hb.alloc (by omega) _)).mono ?_;rintro e w1 ⟨rfl,rfl⟩;go_wp2_with fail;go_roundg (rs[k].bs.length-(j+1));exact⟨j+1,by omega,rfl,by go_num,zA HM,hb.alloc (by omega) _,zA aC⟩;omega
    ·have qi:(rs[k].bs.map (·.1)).drop j=[]:=List.drop_of_length_le (by simp;omega);have aC:=zC (show vO ps H (rs.map (·.R))=vO ps H ((rs.map (·.R)).drop (k+1)) by rw[zA HF,qi];simp[j4]);clear HF h2 hm;go_wp2_with fail;go_roundg (rs.length-(k+1));exact⟨k+1,by omega,rfl,by go_num,bE,hb,zA aC⟩;omega
  ·have aC:=zC (show vO ps H (rs.map (·.R))=-1 by rw[zA HF,List.drop_of_length_le (by simp;omega)];rfl);clear HF hm;go_wp2_with fail;go_ret;exact⟨by rw[zA aC];rfl,hb⟩
end
section
open Go.RowKit
def zjc (ps:P9)(f:Nat->Nat)(hd:B8)(A:zL):Prop:=f (qJ ps A.pred)+(if A.no then 1 else 0)<=f (qJ ps hd)
def zez (ps:P9)(rs:List zS)(f:Nat->Nat):Prop:=∀ R∈rs,∀ A∈R.body,zjc ps f R.head.pred A
def Low (ps:P9)(rs:List zS)(S:Nat->Nat):Prop:=∀ f,zez ps rs f->∀ i,S i<=f i
def bJ (S:Nat->Nat)(i v:Nat):Nat->Nat:=λ a=>if a=i then v else S a
def znd (S:Nat->Nat):Nat->Nat
 | 0=>0
 | n+1=>znd S n+S n
theorem z4h {S T:Nat->Nat}(h:∀ i,S i<=T i):∀ n,znd S n<=znd T n
 | 0=>Nat.le_refl _
 | n+1=>by have:=z4h h n;have:=h n;simp only[znd];omega
theorem z4u {S:Nat->Nat}{i v:Nat}(hv:S i<v):∀ n,i<n->znd S n<znd (bJ S i v) n
 | 0,h=>by omega
 | n+1,h=>by
  simp only[znd]
  by_cases e:i=n
  ·subst e;have h1:znd S i<=znd (bJ S i v) i:=z4h (λ a=>by unfold bJ;split;rename_i e;subst e;omega;exact Nat.le_refl _) i;have h2:bJ S i v i=v:=(by simp[bJ]);omega
  ·have h1:=z4u hv n (by omega);have h2:bJ S i v n=S n:=(by unfold bJ;rw[if_neg (by omega)]);omega
variable {S:Nat->Nat} {ps:P9}
theorem yaf {rs:List zS}(h:Low ps rs S){R:zS}(hR:R∈rs){A:zL}(hA:A∈R.body):Low ps rs (bJ S (qJ ps R.head.pred) (S (qJ ps A.pred)+(if A.no then 1 else 0))):=by
 intro f hf i;unfold bJ
 split
 ·rename_i e;subst e;have h1:=hf R hR A hA;have h2:=h f hf (qJ ps A.pred);unfold zjc at h1;omega
 ·exact h f hf i
structure mR (w:W8)(gs n:Nat)(S:Nat->Nat):Prop where
 sz:gs<w.heap.size
 cell:∀ i,i<n->w.cell? ⟨gs,i,none⟩=some (.int .i64 (S i))
 fz:∀ j,w.frozen? ⟨gs,j,none⟩=false
variable {gs n:Nat} {w:W8}
theorem mR.kept {w':W8}(h:mR w gs n S)(k:zK [] w w'):mR w' gs n S:=
 ⟨Nat.lt_of_lt_of_le h.sz k.size,λ i hi=>(k.cell (p:=⟨gs,i,none⟩) h.sz (by simp)).trans (h.cell i hi),λ j=>(k.frozen (p:=⟨gs,j,none⟩) h.sz (by simp)).trans (h.fz j)⟩
theorem mR.set (h:mR w gs n S)(i v:Nat)(hi:i<n):mR (w.setCell ⟨gs,i,none⟩ (.int .i64 v)) gs n (bJ S i v):=by
 refine⟨by simpa using h.sz,λ a ha=>?_,λ j=>by simpa using h.fz j⟩
 by_cases e:a=i
 ·subst e;rw[Gi (h.cell a ha)];simp[bJ]
 ·rw[zal (by omega),h.cell a ha];simp[bJ,e]
theorem zfi (n:Nat)(hn:n<=1000)(u:W8):(Instr.makeSlice 24 (.int .i64 n) (.int .i64 n)).run Tryz.prog u=.ok (.slice (some ⟨u.heap.size,0,none⟩) n n) (u.alloc (.cells (madeCells #[.int .i64 0] n) 3)):=by
 obtain⟨i0,hi,bL,aY,bf⟩:=info_parts zts;have h:=run_make (P:=Tryz.prog) u 24 3 i0 (.int .i64 0) Tryz.underlying24 hi bL .i64 .i64 (n:Int) (n:Int) (by omega) (Int.le_refl _) (by rw[bf];omega) (by omega);simpa[aY,.cells] using h
theorem mR.start (w:W8)(n:Nat):mR (w.alloc (.cells (madeCells #[.int .i64 0] n) 3)) w.heap.size n (λ _=>0):=
 ⟨by simp,λ i hi=>by rw[World.cell?_alloc_at _ _ _ _ rfl,Nc _ _ _ hi];rfl,λ j=>by rw[World.frozen?_alloc_at _ _ _ _ rfl]⟩
variable {rs:List RR}
theorem mu.bJ {o:Nat}{qs:P9}{rv pv tv sv:Value}(h:mu w o rs ps qs rv pv tv sv)(v':Value):mu (w.setCell ⟨o,3,none⟩ v') o rs ps qs rv pv tv v':=by
 have eG:∀ {e:TypeId} {size:Nat} {v:Value} {n:Nat} {xs:V8},w.ownsRow (o+1) e size v n xs->(w.setCell ⟨o,3,none⟩ v').ownsRow (o+1) e size v n xs:=λ hx=>ownsRow_setCell_below hx (by simp) _
 exact⟨by simpa using h.lt,by rw[zal (by omega)];exact h.c0,by rw[zal (by omega)];exact h.c1,by rw[zal (by omega)];exact h.c2,Gi h.c3,λ j=>by simpa using h.fz j,eG h.rules,λ r hr=>⟨eG (h.each r hr).hd,eG (h.each r hr).bo,λ x hx=>eG ((h.each r hr).bl x hx),(h.each r hr).eq⟩,eG h.fD,eG h.ae⟩
theorem zza {k:Nat}(hk:k<rs.length)(h:zez ps ((rs.map (·.R)).take k) S)(hb:∀ A∈rs[k].R.body,zjc ps S rs[k].R.head.pred A):zez ps ((rs.map (·.R)).take (k+1)) S:=by
 intro R hR;rw[List.take_succ_eq_append_getElem (by simpa using hk)] at hR;rcases List.mem_append.1 hR with hR | hR
 ·exact h R hR
 ·simp at hR;subst hR;exact hb
theorem zoo {bs:List (zL × Value)}{j:Nat}{hd:B8}(hj:j<bs.length)(h:∀ A∈(bs.map (·.1)).take j,zjc ps S hd A)(hb:zjc ps S hd bs[j].1):∀ A∈(bs.map (·.1)).take (j+1),zjc ps S hd A:=by
 intro A hA;rw[List.take_succ_eq_append_getElem (by simpa using hj)] at hA;rcases List.mem_append.1 hA with hA | hA
 ·exact h A hA
 ·simp at hA;subst hA;exact hb
structure z53 (w1:W8)(G n:Nat)(ps:P9)(rs:List zS)(S:Nat->Nat)(wr:W8):Prop where
 below:Below G w1 wr
 row:mR wr G n S
 low:Low ps rs S
theorem z53.kept {w1:W8}{G n:Nat}{ps:P9}{rs:List zS}{S:Nat->Nat}{wr w2:W8}(h:z53 w1 G n ps rs S wr)(k:Below wr.heap.size wr w2):z53 w1 G n ps rs S w2:=
 ⟨h.below.trans (k.mono (by have:=h.row.sz;omega)),h.row.kept ((zK.refl [] _).ak k),h.low⟩
theorem z53.set {w1:W8}{G n:Nat}{ps:P9}{rs:List zS}{S:Nat->Nat}{wr:W8}(h:z53 w1 G n ps rs S wr){R:zS}(hR:R∈rs){A:zL}(hA:A∈R.body)(hi:qJ ps R.head.pred<n):z53 w1 G n ps rs (bJ S (qJ ps R.head.pred) (S (qJ ps A.pred)+(if A.no then 1 else 0))) (wr.setCell ⟨G,qJ ps R.head.pred,none⟩ (.int .i64 ((S (qJ ps A.pred)+(if A.no then 1 else 0):Nat)))):=
 ⟨h.below.setCell L9 _,h.row.set _ _ hi,yaf h.low hR hA⟩
end
section
open Go.RowKit
theorem z3c (w:W8)(o:Nat)(rs:List RR)(ps:P9)(rv pv tv sv:Value)(h:zok w o rs ps rv pv tv sv)(hn:ps.length<=1000)(aS:zgl ps (yJ rs))(f0:Nat->Nat)(uo:zez ps (rs.map (·.R)) f0)(lR:∀ i,f0 i<=1000):
  Calls Tryz.prog 129 #[.pointer (some ⟨o,0,none⟩)] w λ e w'=>e=.returned (.tuple #[])/\∃ S,zok w' o rs ps rv pv tv (.slice (some ⟨w.heap.size,0,none⟩) ps.length ps.length)/\mR w' w.heap.size ps.length S/\zez ps (rs.map (·.R)) S/\Low ps (rs.map (·.R)) S/\Below o w w':=by
 obtain⟨ar,dA,rfl⟩:=zD h.rules;obtain⟨ap,Pp,rfl⟩:=zD h.fD;have gL:=yU h.rules;unfold maxLen at gL;have mk:=zfi ps.length hn;have aH:=h.lt;have c1:=h.c1;have c3:=h.c3;have fz:=h.fz 3;have h1:=h.bJ (.slice (some ⟨w.heap.size,0,none⟩) ps.length ps.length);have iu:Below o w (w.setCell ⟨o,3,none⟩ (.slice (some ⟨w.heap.size,0,none⟩) ps.length ps.length)):=(Below.refl o w).setCell (p:=⟨o,3,none⟩) L9 _;have DA:(w.setCell ⟨o,3,none⟩ (.slice (some ⟨w.heap.size,0,none⟩) ps.length ps.length)).heap.size=w.heap.size:=by simp
 have sR:z53 (w.setCell ⟨o,3,none⟩ (.slice (some ⟨w.heap.size,0,none⟩) ps.length ps.length)) w.heap.size ps.length ps (rs.map (·.R)) (λ _=>0) ((w.setCell ⟨o,3,none⟩ (.slice (some ⟨w.heap.size,0,none⟩) ps.length ps.length)).alloc (.cells (madeCells #[.int .i64 0] ps.length) 3)):=by
  refine⟨B9.alloc (by omega) _,?_,λ f _ i=>Nat.zero_le _⟩;have:=mR.start (w.setCell ⟨o,3,none⟩ (.slice (some ⟨w.heap.size,0,none⟩) ps.length ps.length)) ps.length
  rwa [DA] at this
 have dD:=zC sR;have H1:=zC h1;have HA:=zC aS;have KN:=zC iu;have mi:=zC DA;have Gc:=zC uo;clear h h1 aS sR iu DA uo;go_enter Tryz.func129,Tryz.ntmps129;go_wp2_with fail;clear mk c1 c3 fz
 go_loopg [2,3,4,5,6,7] (znd f0 ps.length+1) (λ gg ag i3 h4 k5 l6 s7 wr=>∃ (b:Bool) (S:Nat->Nat),ag=.bool b/\(if b then znd f0 ps.length-znd S ps.length+1 else 0)<=gg/\z53 (w.setCell ⟨o,3,none⟩ (.slice (some ⟨w.heap.size,0,none⟩) ps.length ps.length)) w.heap.size ps.length ps (rs.map (·.R)) S wr/\(b=false->zez ps (rs.map (·.R)) S))
 exact⟨true,λ _=>0,rfl,by simp,zA dD,by simp⟩
 case round=>
  clear dD;obtain⟨b,S0,rfl,bS,hinv,dz⟩:=hrel
  cases b with
  | false=>
   have HV:=zC (dz rfl);clear dz;go_wp2_with fail;go_end0;have hk:=hinv.below;have tZ:Below (w.setCell ⟨o,3,none⟩ (.slice (some ⟨w.heap.size,0,none⟩) ps.length ps.length)).heap.size (w.setCell ⟨o,3,none⟩ (.slice (some ⟨w.heap.size,0,none⟩) ps.length ps.length)) wr:=(by rw[zA mi];exact hk);exact⟨rfl,(zA H1).kept ((zK.refl [] _).ak tZ) (by simp),S0,hinv.row,zA HV,hinv.low,(zA KN).trans (hk.mono (by omega))⟩
  | true=>
   clear dz;go_wp2_with fail
   go_loopg [2,3,4,5,6,7] rs.length (λ gg ag i3 h4 k5 l6 s7 wr=>∃ (b:Bool) (S:Nat->Nat) (k:Nat),ag=.bool b/\k<=rs.length/\gg=rs.length-k/\i3=.int .i64 k/\z53 (w.setCell ⟨o,3,none⟩ (.slice (some ⟨w.heap.size,0,none⟩) ps.length ps.length)) w.heap.size ps.length ps (rs.map (·.R)) S wr/\znd S0 ps.length<=znd S ps.length/\(b=true->znd S0 ps.length<znd S ps.length)/\(b=false->zez ps ((rs.map (·.R)).take k) S))
   exact⟨false,S0,0,rfl,Nat.zero_le _,rfl,rfl,hinv,Nat.le_refl _,by simp,λ _=>by intro R hR;simp at hR⟩
   case round=>
    clear hinv;obtain⟨b,S,k,rfl,hk,eA,rfl,hinv,vc,rT,dz⟩:=hrel;have lx:Below (w.setCell ⟨o,3,none⟩ (.slice (some ⟨w.heap.size,0,none⟩) ps.length ps.length)).heap.size (w.setCell ⟨o,3,none⟩ (.slice (some ⟨w.heap.size,0,none⟩) ps.length ps.length)) wr:=(by rw[zA mi];exact hinv.below);have hm:=(zA H1).kept ((zK.refl [] _).ak lx) (by simp);have c0:=hm.c0
    by_cases aF:k<rs.length
    ·obtain⟨g,cap,hv,iG,aZ,bO,bP,q0,q1,q2,q3,q4,q5⟩:=jC hm.rules k aF;injection hv with h1 h2 h3
     subst h1 h3;have ax:=hm.each _ (List.getElem_mem aF);obtain⟨ab,iA,gU⟩:=zD ax.bo;have mZ:=yU ax.bo;unfold maxLen at mZ;rw[gU] at q5;have lG:=ax.eq;have E6:=ziw (zA HA) aF;have tF:zM ps rs[k].R.head.pred<ps.length:=(by have:=vM E6;omega);have nx:=zC (λ nm=>zcc wr o rs ps _ _ _ _ nm hm);clear h2 hm;go_wp2_with fail;refine (zA nx _).mono ?_;rintro e w1 ⟨rfl,rfl⟩;clear nx;go_wp2_with fail
     go_loopg [2,5,6,7] rs[k].bs.length (λ gg ag k5 l6 s7 wr=>∃ (b:Bool) (S:Nat->Nat) (j:Nat),ag=.bool b/\j<=rs[k].bs.length/\gg=rs[k].bs.length-j/\k5=.int .i64 j/\z53 (w.setCell ⟨o,3,none⟩ (.slice (some ⟨w.heap.size,0,none⟩) ps.length ps.length)) w.heap.size ps.length ps (rs.map (·.R)) S wr/\znd S0 ps.length<=znd S ps.length/\(b=true->znd S0 ps.length<znd S ps.length)/\(b=false->zez ps ((rs.map (·.R)).take k) S/\∀ A∈(rs[k].bs.map (·.1)).take j,zjc ps S rs[k].R.head.pred A))
     exact⟨b,S,0,rfl,Nat.zero_le _,rfl,rfl,hinv,vc,rT,λ e=>⟨dz e,by simp⟩⟩
     case round=>
      clear hinv vc rT dz c0 q0 q1 q2 q3 q4 q5 ax aZ lx;obtain⟨b,S,j,rfl,hj,xu,rfl,hinv,vc,rT,dz⟩:=hrel;have lx:Below (w.setCell ⟨o,3,none⟩ (.slice (some ⟨w.heap.size,0,none⟩) ps.length ps.length)).heap.size (w.setCell ⟨o,3,none⟩ (.slice (some ⟨w.heap.size,0,none⟩) ps.length ps.length)) wr:=(by rw[zA mi];exact hinv.below);have hm:=(zA H1).kept ((zK.refl [] _).ak lx) (by simp);have c0:=hm.c0;have c3:=hm.c3;have F8:=hm.lt;obtain⟨g',dp,oo,CQ,aZ,wu,AX,q0,q1,q2,q3,q4,q5⟩:=jC hm.rules k aF;injection oo with h1 h2 h3
      injection h1 with h1
      injection h1 with h1
      subst h1 h3;have ax:=hm.each _ (List.getElem_mem aF);rw[gU] at q5
      by_cases fu:j<rs[k].bs.length
      ·obtain⟨gb,uv,nG,Dx,qk,CE,CR,p0,p1,p2,p3,p4⟩:=jY ax.bo j fu;rw[gU] at nG;injection nG with hb11 hb12 mg
       subst hb11 mg;obtain⟨br,mV,fp⟩:=zD (ax.bl _ (List.getElem_mem fu));rw[fp] at p1;have Fc:=zis (zA HA) aF lG fu;have Ij:zM ps rs[k].bs[j].1.pred<ps.length:=(by have:=vM Fc;omega);have BA:=hinv.row.sz;have t1:=hinv.row.cell (zM ps rs[k].bs[j].1.pred).toNat (by omega);have hSb:S (zM ps rs[k].bs[j].1.pred).toNat<=1000:=Nat.le_trans (hinv.low f0 (zA Gc) _) (lR _);have nx:=zC (λ nm w2 (aK:Below wr.heap.size wr w2)=>zcc w2 o rs ps _ _ _ _ nm (hm.kept ((zK.refl [] _).ak aK) (by simp)));have HM:=zC hm;clear h2 hm ax hb12;go_upto_region 12 with fail
       go_cut [7] (λ s wc=>s=.int .i64 (S (zM ps rs[k].bs[j].1.pred).toNat)/\Below (wr.alloc (Obj.cells #[.string rs[k].bs[j].1.pred,.slice br rs[k].bs[j].1.ae.length mV,.bool rs[k].bs[j].1.no,.int .i64 rs[k].bs[j].1.at_,.int .i64 rs[k].bs[j].1.az] 243)).heap.size (wr.alloc (Obj.cells #[.string rs[k].bs[j].1.pred,.slice br rs[k].bs[j].1.ae.length mV,.bool rs[k].bs[j].1.no,.int .i64 rs[k].bs[j].1.at_,.int .i64 rs[k].bs[j].1.az] 243)) wc)
       case first=>
        go_region_with (go_at_call 135;refine (zA nx _ _ ((B9.alloc L9 _).drew)).mono ?_;rintro e w1 ⟨rfl,rfl⟩)
        all_goals
         go_wp2_with fail;go_meet
         case rel=>exact⟨rfl,B9.drew⟩
       case rest=>
        obtain⟨rfl,Hc⟩:=hcut;have yw:Below wr.heap.size wr wc:=(B9.alloc L9 _).trans (Hc.mono (by simp));have fa:=hinv.kept yw;have dC:=(zA HM).kept ((zK.refl [] _).ak yw) (by simp);have d3:=dC.c3;have d2:wc.cell? ⟨wr.heap.size,2,none⟩=some (.bool rs[k].bs[j].1.no):=(Hc.cell (p:=⟨wr.heap.size,2,none⟩) (by simp)).trans (by rw[World.cell?_alloc_at _ _ _ _ rfl];rfl);have t2:=fa.row.cell (zM ps rs[k].R.head.pred).toNat (by omega);have t3:=fa.row.fz (zM ps rs[k].R.head.pred).toNat;have hSh:S (zM ps rs[k].R.head.pred).toNat<=1000:=Nat.le_trans (hinv.low f0 (zA Gc) _) (lR _);have gj:=dC.lt;have sx:=fa.row.sz;clear nx HM dC Hc yw hinv t1 c0 c3 q0 q1 q2 q3 q4 q5 p0 p1 p2 p3 p4 aZ qk fp F8 BA
        cases aW:rs[k].bs[j].1.no with
        | true=>
         rw[aW] at d2
         by_cases hup2:S (zM ps rs[k].R.head.pred).toNat<S (zM ps rs[k].bs[j].1.pred).toNat+1
         ·have jk:=fa.set (R:=rs[k].R) (List.mem_map.2 ⟨_,List.getElem_mem aF,rfl⟩) (A:=rs[k].bs[j].1) (by rw[lG];exact List.mem_map.2 ⟨_,List.getElem_mem fu,rfl⟩) (by unfold qJ;omega);have zm:=z4u (S:=S) (i:=(zM ps rs[k].R.head.pred).toNat) (v:=S (zM ps rs[k].bs[j].1.pred).toNat+1) hup2 ps.length (by omega);rw[aW] at jk;simp only[if_true,qJ,Int.natCast_add,Int.cast_ofNat_Int] at jk;have F5:=zC jk;have JQ:=zC zm;have Hn:(S (zM ps rs[k].R.head.pred).toNat:Int)<(S (zM ps rs[k].bs[j].1.pred).toNat:Int)+1:=(by omega);clear jk zm hup2;go_wp2_with fail;go_roundg (rs[k].bs.length-(j+1));exact⟨true,_,j+1,rfl,by omega,rfl,by go_num,zA F5,by have:=zA JQ;omega,λ _=>by have:=zA JQ;omega,by simp⟩;omega
         ·have dY:zjc ps S rs[k].R.head.pred rs[k].bs[j].1:=(by unfold zjc qJ;rw[aW];simp;omega);have oF:=zC dY;have Hn:¬ (S (zM ps rs[k].R.head.pred).toNat:Int)<(S (zM ps rs[k].bs[j].1.pred).toNat:Int)+1:=(by omega);clear dY hup2;go_wp2_with fail;go_roundg (rs[k].bs.length-(j+1));exact⟨b,S,j+1,rfl,by omega,rfl,by go_num,fa,vc,rT,λ e=>⟨(dz e).1,zoo fu (dz e).2 (zA oF)⟩⟩;omega
        | false=>
         rw[aW] at d2
         by_cases hup2:S (zM ps rs[k].R.head.pred).toNat<S (zM ps rs[k].bs[j].1.pred).toNat
         ·have jk:=fa.set (R:=rs[k].R) (List.mem_map.2 ⟨_,List.getElem_mem aF,rfl⟩) (A:=rs[k].bs[j].1) (by rw[lG];exact List.mem_map.2 ⟨_,List.getElem_mem fu,rfl⟩) (by unfold qJ;omega);have zm:=z4u (S:=S) (i:=(zM ps rs[k].R.head.pred).toNat) (v:=S (zM ps rs[k].bs[j].1.pred).toNat) hup2 ps.length (by omega);rw[aW] at jk;simp only[if_false,Bool.false_eq_true,qJ,Nat.add_zero] at jk;have F5:=zC jk;have JQ:=zC zm;have Hn:(S (zM ps rs[k].R.head.pred).toNat:Int)<(S (zM ps rs[k].bs[j].1.pred).toNat:Int):=(by omega);clear jk zm hup2;go_wp2_with fail;go_roundg (rs[k].bs.length-(j+1));exact⟨true,_,j+1,rfl,by omega,rfl,by go_num,zA F5,by have:=zA JQ;omega,λ _=>by have:=zA JQ;omega,by simp⟩;omega
         ·have dY:zjc ps S rs[k].R.head.pred rs[k].bs[j].1:=(by unfold zjc qJ;rw[aW];simp;omega);have oF:=zC dY;have Hn:¬ (S (zM ps rs[k].R.head.pred).toNat:Int)<(S (zM ps rs[k].bs[j].1.pred).toNat:Int):=(by omega);clear dY hup2;go_wp2_with fail;go_roundg (rs[k].bs.length-(j+1));exact⟨b,S,j+1,rfl,by omega,rfl,by go_num,fa,vc,rT,λ e=>⟨(dz e).1,zoo fu (dz e).2 (zA oF)⟩⟩;omega
      ·clear h2 hm;go_wp2_with fail;go_roundg (rs.length-(k+1));exact⟨b,S,k+1,rfl,by omega,rfl,by go_num,hinv,vc,rT,λ e=>zza aF (dz e).1 (by rw[lG];have:=(dz e).2;rwa [List.take_of_length_le (by simp;omega)] at this)⟩;omega
    ·have rD:(rs.map (·.R)).take k=rs.map (·.R):=List.take_of_length_le (by simp;omega);clear hm;go_wp2_with fail;go_roundg (if b then znd f0 ps.length-znd S ps.length+1 else 0)
     case measure=>
      have hle:=z4h (hinv.low f0 (zA Gc)) ps.length
      cases b with
      | false=>simp at bS ⊢;omega
      | true=>have:=rT rfl;simp at bS ⊢;omega
     case rel=>exact⟨b,S,rfl,Nat.le_refl _,hinv,λ e=>by have:=dz e;rwa [rD] at this⟩
end
section
open Go.RowKit
def zE (s:B8)(p:Nat)(bd:Int)(n:Nat):Int:=if n==30 then zav s p bd else bd
def zas (s:B8)(p:Nat)(bd:Int):zS:=⟨zI s p bd,(jN s p bd).1⟩
def zby (s:B8)(p:Nat)(bd:Int):Bool:=(tok s p).kind != 46&&decide (bd<0)
def zbr (s:B8):Nat->Nat->Int->List zS->List zS × Nat × Int
 | 0,p,bd,l=>(l,p,bd)
 | f+1,p,bd,l=>if zby s p bd then zbr s f (zb2 s p (zE s p bd l.length)) (jK s p (zE s p bd l.length)) (l++[zas s p (zE s p bd l.length)]) else (l,p,bd)
variable {s:B8}
theorem zxu (f:Nat):∀ {p:Nat} {bd:Int} {l:List zL},0<=bd->0<=(zcy s f p bd l).2.2:=by
 induction f with
 | zero=>intro p bd l h;exact h
 | succ f ih=>
  intro p bd l h;have h0:0<=zX s p bd l.length:=by
   unfold zX;split
   ·exact j5 _ _ _
   ·exact h
  have h1:=zsh (s:=s) (p:=p) h0;rw[zcy]
  split
  ·exact ih (zbv h1)
  ·exact zbv h1
variable {bd:Int} {p:Nat}
theorem zzi (h:0<=bd):0<=jK s p bd:=by
 have h1:=zn0 (s:=s) (p:=p) h;unfold jK;refine jL (zod ?_);unfold jN;split
 ·exact zxu 4 (zbv h1)
 ·exact zbv h1
theorem zy8 (s:B8)(p:Nat)(bd:Int)(l:List zS)(h:l.length<=30)(hg:zby s p bd=true):zbr s (31-l.length) p bd l=zbr s (31-(l++[zas s p (zE s p bd l.length)]).length) (zb2 s p (zE s p bd l.length)) (jK s p (zE s p bd l.length)) (l++[zas s p (zE s p bd l.length)]):=by
 have e1:31-l.length=(30-l.length)+1:=by omega
 have e2:31-(l++[zas s p (zE s p bd l.length)]).length=30-l.length:=by simp
 rw[e1,e2,zbr,if_pos hg]
theorem zrz (s:B8)(f p:Nat)(bd:Int)(l:List zS)(hg:zby s p bd=false):zbr s f p bd l=(l,p,bd):=by
 cases f with
 | zero=>rfl
 | succ f=>rw[zbr,if_neg (by rw[hg];decide)]
theorem zot {n:Nat}(hn:n=30):0<=jK s p (zE s p bd n):=by
 refine zzi ?_;subst hn;simp[zE];exact j5 _ _ _
def yG (s:B8):List zS × Nat × Int:=zbr s 31 0 (-1) []
def zT (s:B8):Int × P9:=yO ((yG s).1.flatMap zS.atoms) []
def yW (s:B8):Bool × Int × Int:=
 if 800<s.size then (false,1,0)
 else if 0<=(yG s).2.2 then (false,2,(yG s).2.2)
 else if 0<=(zT s).1 then (false,3,(zT s).1)
 else if 0<=yT (yG s).1 then (false,4,yT (yG s).1)
 else if 0<=vO (zT s).2 (vI (zT s).2 (yG s).1) (yG s).1 then (false,5,vO (zT s).2 (vI (zT s).2 (yG s).1) (yG s).1)
 else (true,0,0)
theorem zq5 (rs:List RR)(r:RR):zab (rs++[r])=zab rs++r.cells:=by simp[zab]
theorem mu.rH {w W w5:W8}{o:Nat}{rs:List RR}{ps qs:P9}{rv pv tv sv:Value}(h:mu w o rs ps qs rv pv tv sv)(hW:∀ k,k<w.heap.size->W.heap[k]?=w.heap[k]?)(hS:w.heap.size<=W.heap.size)(hg:W.grownBy w5 rv.ownBlock){r:RR}(hr:nA w (o+1) r.R r.hv r.bs r.bv){v':Value}(ay:w5.ownsRow (o+1) 246 6 v' (rs.length+1) (zab rs++r.cells)):
  mu (w5.setCell ⟨o,0,none⟩ v') o (rs++[r]) ps qs v' pv tv sv:=by
 have hb:=zgg hW hS h.rules hg h.lt;have cc:∀ j,w5.cell? ⟨o,j,none⟩=w.cell? ⟨o,j,none⟩:=λ j=>World.cell?_of_block hb
 have ff:∀ j,w5.frozen? ⟨o,j,none⟩=w.frozen? ⟨o,j,none⟩:=λ j=>World.frozen?_of_block hb
 have aH:=h.lt;have hs:=hg.size;refine⟨by simp;omega,Gi ((cc 0).trans h.c0),by rw[zal (by omega),cc 1];exact h.c1,by rw[zal (by omega),cc 2];exact h.c2,by rw[zal (by omega),cc 3];exact h.c3,λ j=>by rw[World.frozen?_setCell,ff j];exact h.fz j,?_,λ x hx=>?_,zeq hW hS h.rules hg h.fD (by decide),zeq hW hS h.rules hg h.ae (by decide)⟩
 ·rw[zq5,List.length_append];exact ownsRow_setCell_below ay (a:=⟨o,0,none⟩) (by simp) v'
 ·rcases List.mem_append.1 hx with hx | hx
  ·exact zkg hW hS h.rules hg (by decide) (by decide) (h.each x hx)
  ·simp at hx;subst hx;exact zkg hW hS h.rules hg (by decide) (by decide) hr
theorem z0q (f:Nat):∀ {p:Nat} {bd:Int} {l:List zL},(zcy s f p bd l).1.length<=l.length+f:=by
 induction f with
 | zero=>intro p bd l;simp[zcy]
 | succ f ih=>
  intro p bd l;rw[zcy]
  split
  ·refine Nat.le_trans ih ?_;first | (simp;done) | (simp;omega)
  ·first | (simp;done) | (simp;omega)
theorem zwj (s:B8)(p:Nat)(bd:Int):(jN s p bd).1.length<=4:=by
 unfold jN;split
 ·have:=z0q (s:=s) 4 (p:=vG s (zH s p bd).2.1 (zH s p bd).2.2 { data:=#[58,45] }) (bd:=vP s (zH s p bd).2.1 (zH s p bd).2.2 { data:=#[58,45] }) (l:=[]);simpa using this
 ·simp
theorem z4w (l:List RR)(h:∀ r∈l,r.R.body.length<=4):(yJ l).length<=5*l.length:=by
 induction l with
 | nil=>simp[yJ]
 | cons x r ih=>
  have h1:=ih (λ y hy=>h y (List.mem_cons_of_mem _ hy));have h2:=h x List.mem_cons_self;have e:yJ (x::r)=x.R.atoms++yJ r:=by simp[yJ]
  rw[e,List.length_append];simp only[zS.atoms,List.length_cons];omega
theorem zm6 (l:List RR):yJ l=(l.map (·.R)).flatMap zS.atoms:=by
 simp[yJ,List.flatMap_map]
end
section
theorem z6g (l:List zL):∀ ps,(yO l ps).2.length<=ps.length+l.length:=by
 induction l with
 | nil=>intro ps;simp[yO]
 | cons A r ih=>
  intro ps;have h:=zp5 ps A.pred A.ae.length;rw[yO]
  split
  ·have:=ih (qW ps A.pred A.ae.length);simp only[List.length_cons];omega
  ·simp only[List.length_cons];omega
theorem zr9 (nm:B8)(m:P9):∀ (l:P9) (k:Nat),0<=xR nm l k->xR nm (l++m) k=xR nm l k
 | [],k,h=>by simp[xR] at h
 | x::r,k,h=>by
  rw[List.cons_append];unfold xR at h ⊢
  split
  ·rfl
  ·rename_i bF;rw[if_neg bF] at h;exact zr9 nm m r (k+1) h
theorem z36 (nm:B8)(n:Nat):∀ (l:P9) (k:Nat),0<=xR nm (l++[(nm,n)]) k
 | [],k=>by simp[xR]
 | x::r,k=>by
  rw[List.cons_append];unfold xR
  split
  ·omega
  ·exact z36 nm n r (k+1)
theorem z7a (ps:P9)(nm:B8)(n:Nat):0<=zM (qW ps nm n) nm:=by
 unfold qW;split
 ·exact z36 nm n ps 0
 ·omega
theorem zu0 (ps:P9)(nm:B8)(n:Nat)(x:B8)(h:0<=zM ps x):0<=zM (qW ps nm n) x:=by
 unfold qW;split
 ·unfold zM at *;rw[zr9 x _ ps 0 h];exact h
 ·exact h
theorem zzm (l:List zL):∀ ps,(yO l ps).1<0->(∀ A∈l,0<=zM (yO l ps).2 A.pred)/\(∀ nm,0<=zM ps nm->0<=zM (yO l ps).2 nm):=by
 induction l with
 | nil=>intro ps _;exact⟨by simp,λ nm h=>h⟩
 | cons A r ih=>
  intro ps h;rw[yO] at h ⊢
  split
  ·rename_i hb;rw[if_pos hb] at h;obtain⟨h1,h2⟩:=ih _ h;refine⟨λ B hB=>?_,λ nm hn=>h2 nm (zu0 ps A.pred A.ae.length nm hn)⟩;rcases List.mem_cons.1 hB with rfl | hB
   ·exact h2 _ (z7a ps B.pred B.ae.length)
   ·exact h1 B hB
  ·rename_i hb;rw[if_neg hb] at h;simp at h;omega
theorem zel (l:List zL)(h:¬ 0<=(yO l []).1):zgl (yO l []).2 l:=(zzm l [] (by omega)).1
theorem ydu (n m i:Nat):∀ (d k:Nat) (M:Nat->Nat->Bool),n-k=d->∀ a b,fwK n m i M k a b=(M a b||(decide (a=i)&&decide (k<=b)&&decide (b<n)&&M i m&&M m b)):=by
 intro d
 induction d with
 | zero=>
  intro k M hd a b;rw[z48 (by omega)];have:¬ (k<=b/\b<n):=by omega
  by_cases h1:k<=b <;> by_cases h2:b<n <;> simp[h1,h2] <;> omega
 | succ d ih=>
  intro k M hd a b;rw[z9g (by omega),ih (k+1) _ (by omega) a b];have hM:∀ a b,(if M i m&&M m k then upd M i k else M) a b=(M a b||(decide (a=i)&&decide (b=k)&&M i m&&M m k)):=by
   intro a b
   cases h1:M i m <;> cases h2:M m k <;> simp[upd,Bool.or_comm]
  rw[hM a b,hM i m,hM m b];have Pk:k<n:=by omega
  by_cases e1:a=i
  ·by_cases e2:b=k
   ·subst e2
    cases M a b <;> cases M i m <;> cases M m b <;> simp[e1,Pk]
   ·by_cases e3:k<=b
    ·have e4:k+1<=b:=by omega
     cases M a b <;> cases M i m <;> cases M m b <;> simp[e1,e2,e3,e4]
    ·have e4:¬ k+1<=b:=by omega
     cases M a b <;> simp[e2,e3,e4]
  ·cases M a b <;> simp[e1]
theorem z90 (n m:Nat):∀ (d i:Nat) (M:Nat->Nat->Bool),n-i=d->∀ a b,fwI n m M i a b=(M a b||(decide (i<=a)&&decide (a<n)&&decide (b<n)&&M a m&&M m b)):=by
 intro d
 induction d with
 | zero=>
  intro i M hd a b;rw[z3u (by omega)]
  by_cases h1:i<=a <;> by_cases h2:a<n <;> simp[h1,h2] <;> omega
 | succ d ih=>
  intro i M hd a b;have hM:=ydu n m i _ 0 M rfl;rw[z9i (by omega),ih (i+1) _ (by omega) a b,hM a b,hM a m,hM m b];have ax:i<n:=by omega
  by_cases e1:a=i
  ·subst e1;have e4:¬ a+1<=a:=by omega
   cases M a b <;> cases M a m <;> cases M m b <;> simp[e4,ax]
  ·by_cases e3:i<=a
   ·have e4:i+1<=a:=by omega
    by_cases e5:m=i
    ·subst e5
     cases M a b <;> cases M a m <;> cases M m b <;> cases M m m <;> simp[e1,e3,e4]
    ·cases M a b <;> cases M a m <;> cases M m b <;> simp[e1,e3,e4,e5]
   ·have e4:¬ i+1<=a:=by omega
    cases M a b <;> simp[e1,e3,e4]
theorem zoe (n:Nat):∀ (d m:Nat) (M:Nat->Nat->Bool),n-m=d->m<=n->(∀ i j k,i<n->k<n->j<m->M i j=true->M j k=true->M i k=true) ->
  (∀ i j k,i<n->k<n->j<n->fwM n M m i j=true->fwM n M m j k=true->fwM n M m i k=true)/\(∀ i k,M i k=true->fwM n M m i k=true):=by
 intro d
 induction d with
 | zero=>
  intro m M hd pK h;rw[zve (by omega)];exact⟨λ i j k hi hk hj=>h i j k hi hk (by omega),λ i k h=>h⟩
 | succ d ih=>
  intro m M hd pK h;have hm:m<n:=by omega
  have hM:=z90 n m _ 0 M rfl;rw[z0g hm];have dG:∀ i j k,i<n->k<n->j<m+1->fwI n m M 0 i j=true->fwI n m M 0 j k=true->fwI n m M 0 i k=true:=by
   intro i j k hi hk hj h1 h2;have SR:j<n:=(by omega);rw[hM] at h1 h2 ⊢;simp only[Nat.zero_le,decide_true,Bool.true_and,hi,SR,hk,Bool.or_eq_true,Bool.and_eq_true] at h1 h2 ⊢
   by_cases ej:j=m
   ·subst ej;have a1:M i j=true:=(by rcases h1 with h1 | h1;exact h1;exact h1.1);have a2:M j k=true:=(by rcases h2 with h2 | h2;exact h2;exact h2.2);exact .inr ⟨a1,a2⟩
   ·have QE:j<m:=(by omega);rcases h1 with h1 | ⟨h1,O6⟩ <;> rcases h2 with h2 | ⟨h2,UI⟩
    ·exact .inl (h i j k hi hk QE h1 h2)
    ·exact .inr ⟨h i j m hi hm QE h1 h2,UI⟩
    ·exact .inr ⟨h1,h m j k hm hk QE O6 h2⟩
    ·exact .inr ⟨h1,UI⟩
  obtain⟨g1,g2⟩:=ih (m+1) (fwI n m M 0) (by omega) (by omega) dG;exact⟨g1,λ i k Jo=>g2 i k (by rw[hM,Jo];rfl)⟩
variable {i j:Nat}
theorem z63 {M:Nat->Nat->Bool}{a b:Nat}(h:M a b=true):upd M i j a b=true:=by simp[upd,h]
variable {h:Nat} {ps:P9}
theorem zm9 (l:List zL):∀ {M:Nat->Nat->Bool} {a b:Nat},M a b=true->zgx ps h l M a b=true:=by
 induction l with
 | nil=>intro M a b hM;exact hM
 | cons A r ih=>intro M a b hM;exact ih (z63 hM)
theorem zzq (l:List zS):∀ {M:Nat->Nat->Bool} {a b:Nat},M a b=true->zh8 ps l M a b=true:=by
 induction l with
 | nil=>intro M a b hM;exact hM
 | cons R r ih=>intro M a b hM;exact ih (zm9 R.body hM)
theorem zyb (l:List zL):∀ {M:Nat->Nat->Bool} {A:zL},A∈l->zgx ps h l M h (qJ ps A.pred)=true:=by
 induction l with
 | nil=>intro M A hA;cases hA
 | cons B r ih=>
  intro M A hA;rcases List.mem_cons.1 hA with rfl | hA
  ·exact zm9 r (by simp[upd])
  ·exact ih hA
theorem z33 (l:List zS):∀ {M:Nat->Nat->Bool} {R:zS} {A:zL},R∈l->A∈R.body->zh8 ps l M (qJ ps R.head.pred) (qJ ps A.pred)=true:=by
 induction l with
 | nil=>intro M R A hR;cases hR
 | cons B r ih=>
  intro M R A hR hA;rcases List.mem_cons.1 hR with rfl | hR
  ·exact zzq r (zyb R.body hA)
  ·exact ih hR hA
variable {rs:List zS}
theorem RJ {R:zS}{A:zL}(hR:R∈rs)(hA:A∈R.body):vI ps rs (qJ ps R.head.pred) (qJ ps A.pred)=true:=
 (zoe ps.length _ 0 _ rfl (Nat.zero_le _) (by intro i j k _ _ hj;omega)).2 _ _ (z33 rs hR hA)
theorem zhr {k:Nat}(hi:i<ps.length)(hj:j<ps.length)(hk:k<ps.length)(h1:vI ps rs i j=true)(h2:vI ps rs j k=true):vI ps rs i k=true:=
 (zoe ps.length _ 0 (zh8 ps rs (λ _ _=>false)) rfl (Nat.zero_le _) (by intro i j k _ _ hj;omega)).1 i j k hi hk hj h1 h2
variable {H:Nat->Nat->Bool}
theorem zzn {hd:B8}(l:List zL)(h:j4 ps H hd l<0):∀ A∈l,zp9 ps H hd A=false:=by
 induction l with
 | nil=>simp
 | cons B r ih=>
  rw[j4] at h
  split at h
  ·omega
  ·rename_i hb;intro A hA;rcases List.mem_cons.1 hA with rfl | hA
   ·simpa using hb
   ·exact ih h A hA
theorem z6b (l:List zS)(h:vO ps H l<0):∀ R∈l,∀ A∈R.body,zp9 ps H R.head.pred A=false:=by
 induction l with
 | nil=>simp
 | cons B r ih=>
  rw[vO] at h
  split at h
  ·omega
  ·rename_i hb;intro R hR;rcases List.mem_cons.1 hR with rfl | hR
   ·exact zzn R.body (by omega)
   ·exact ih h R hR
theorem z12 {α:Type}{p r:α->Bool}(l:List α)(h:∀ x∈l,p x=true->r x=true){y:α}(hy:y∈l)(hr:r y=true)(hp:p y=false):l.countP p+1<=l.countP r:=by
 induction l with
 | nil=>cases hy
 | cons x t ih=>
  have hm:t.countP p<=t.countP r:=List.countP_mono_left (λ z hz=>h z (List.mem_cons_of_mem _ hz));rcases List.mem_cons.1 hy with rfl | hy
  ·rw[List.countP_cons_of_pos hr,List.countP_cons_of_neg (by rw[hp];decide)];omega
  ·have h1:=ih (λ z hz=>h z (List.mem_cons_of_mem _ hz)) hy
   cases e:p x with
   | true=>rw[List.countP_cons_of_pos e,List.countP_cons_of_pos (h x List.mem_cons_self e)];omega
   | false=>
    rw[List.countP_cons_of_neg (by rw[e];decide)];have:t.countP r<=(x::t).countP r:=by
     cases e2:r x with
     | true=>rw[List.countP_cons_of_pos e2];omega
     | false=>rw[List.countP_cons_of_neg (by rw[e2];decide)];omega
    omega
def z94 (ps:P9)(rs:List zS)(p x:Nat):Bool:=
 rs.any λ R=>R.body.any λ A=>A.no&&((p==qJ ps R.head.pred||vI ps rs p (qJ ps R.head.pred))&&(qJ ps A.pred==x||vI ps rs (qJ ps A.pred) x))
theorem zgv (ps:P9)(rs:List zS)(aS:zgl ps (rs.flatMap zS.atoms))(h:¬ 0<=vO ps (vI ps rs) rs):∃ f,zez ps rs f/\∀ i,f i<=ps.length:=by
 have aW:=z6b rs (show vO ps (vI ps rs) rs<0 by omega);have uW:∀ R∈rs,0<=zM ps R.head.pred:=λ R hR=>aS _ (List.mem_flatMap.2 ⟨R,hR,List.mem_cons_self⟩)
 have di:∀ R∈rs,∀ A∈R.body,0<=zM ps A.pred:=λ R hR A hA=>aS _ (List.mem_flatMap.2 ⟨R,hR,List.mem_cons_of_mem _ hA⟩)
 have QF:∀ R∈rs,qJ ps R.head.pred<ps.length:=λ R hR=>vM (uW R hR)
 have MM:∀ R∈rs,∀ A∈R.body,qJ ps A.pred<ps.length:=λ R hR A hA=>vM (di R hR A hA)
 refine⟨λ p=>(List.range ps.length).countP (z94 ps rs p),λ R hR A hA=>?_,λ i=>by have:=List.countP_le_length (p:=z94 ps rs i) (l:=List.range ps.length);simpa using this⟩;have JC:=RJ (ps:=ps) hR hA;have himp:∀ x∈List.range ps.length,z94 ps rs (qJ ps A.pred) x=true->z94 ps rs (qJ ps R.head.pred) x=true:=by
  intro x _ hx;unfold z94 at hx ⊢;simp only[List.any_eq_true,Bool.and_eq_true,Bool.or_eq_true,beq_iff_eq] at hx ⊢;obtain⟨R',pH,A',Kj,hn,h1,h2⟩:=hx;refine⟨R',pH,A',Kj,hn,.inr ?_,h2⟩;rcases h1 with h1 | h1
  ·rw[<-h1];exact JC
  ·exact zhr (QF R hR) (MM R hR A hA) (QF R' pH) JC h1
 unfold zjc
 cases OY:A.no with
 | false=>
  simp only[Bool.false_eq_true,if_false,Nat.add_zero];exact List.countP_mono_left himp
 | true=>
  simp only[if_true];refine z12 _ himp (y:=qJ ps A.pred) (List.mem_range.2 (MM R hR A hA)) ?_ ?_
  ·unfold z94;simp only[List.any_eq_true,Bool.and_eq_true,Bool.or_eq_true,beq_iff_eq];exact⟨R,hR,A,hA,OY,.inl rfl,.inl rfl⟩
  ·cases hq:z94 ps rs (qJ ps A.pred) (qJ ps A.pred) with
   | false=>rfl
   | true=>
    exfalso
    unfold z94 at hq;simp only[List.any_eq_true,Bool.and_eq_true,Bool.or_eq_true,beq_iff_eq] at hq;obtain⟨R',pH,A',Kj,hn,h1,h2⟩:=hq;have hc:=aW R' pH A' Kj;unfold zp9 at hc;rw[hn,Bool.true_and,Bool.or_eq_false_iff] at hc;obtain⟨vs,oh⟩:=hc;have lq:=MM R hR A hA;have la:=QF R' pH;have lb:=MM R' pH A' Kj;have key:qJ ps A'.pred=qJ ps R'.head.pred\/vI ps rs (qJ ps A'.pred) (qJ ps R'.head.pred)=true:=by
     rcases h2 with h2 | h2 <;> rcases h1 with h1 | h1
     ·exact .inl (h2.trans h1)
     ·exact .inr (by rw[h2];exact h1)
     ·exact .inr (by rw[<-h1];exact h2)
     ·exact .inr (zhr lb lq la h2 h1)
    rcases key with key | key
    ·have p1:=di R' pH A' Kj;have p2:=uW R' pH;unfold qJ at key;have:zM ps A'.pred=zM ps R'.head.pred:=by omega
     rw[this] at vs;simp at vs
    ·rw[key] at oh;cases oh
end
end Go.Proofs.YtldkpahaocjdpaaGreat
