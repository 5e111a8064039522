/-
  The program's table of predicates: add, ground.
-/
import Derived.Test.YtldkpahaocjdpaaGreatC22
set_option maxHeartbeats 16000000
set_option maxRecDepth 1000000
namespace Go.Proofs.YtldkpahaocjdpaaGreat
section
open Go.RowKit Go.Maps
def stV (ps:P9)(S:B8->Nat):B8->Option Value:=λ k=>(xH ps k).map λ n=>Value.agg #[.string k,.int .i64 (S k),.int .i64 n]
variable {n:Nat}
theorem zh4 {ps:P9}{nm:B8}(h:qP ps nm n=true)(k:B8):xH (qG ps nm n) k=if k=nm then some n else xH ps k:=by
 rw[zao] at h;rw[zpt]
 by_cases e:k=nm
 ·subst e;rw[if_pos rfl]
  cases hn:xH ps k with
  | none=>rw[if_pos (by rfl),zjc,hn];simp
  | some m=>
   rw[hn] at h;simp at h;rw[if_neg (by simp),hn,h]
 ·rw[if_neg e]
  cases hn:xH ps nm with
  | none=>
   rw[if_pos (by rfl),zjc];have:¬ (nm.toList==k.toList)=true:=λ h=>e ((vO.1 h).symm)
   cases xH ps k with
   | none=>simp only[if_neg this]
   | some m=>rfl
  | some m=>rw[if_neg (by simp)]
theorem z8c (ps:P9)(nm:B8)(n:Nat)(h:qP ps nm n=true):zxk (stV ps (λ _=>0)) nm (.agg #[.string nm,.int .i64 0,.int .i64 n])=stV (qG ps nm n) (λ _=>0):=by
 funext k
 unfold stV;rw[zh4 h]
 by_cases e:k=nm
 ·subst e;rw[zav,if_pos rfl];rfl
 ·rw[jW e,if_neg e]
structure DO (w:W8)(b n:Nat)(V:B8->Option Value)(wr:W8):Prop where
 map:fD Tryz.prog 9 wr b n V
 kept:zN [b] w wr
variable {wr w:W8} {V:B8->Option Value} {b:Nat}
theorem DO.alloc (h:DO w b n V wr)(o:Obj):DO w b n V (wr.alloc o):=⟨h.map.alloc o,h.kept.alloc o⟩
theorem DO.put {m:Nat}{V':B8->Option Value}{w1:W8}(h:DO w b n V wr)(hm:fD Tryz.prog 9 w1 b m V')(hg:wr.grownBy w1 (some b)):DO w b m V' w1:=
 ⟨hm,h.kept.trans ⟨hg.os,hg.tape,hg.output,hg.size,λ k hk hn=>hg.block k hk (by simp at hn ⊢;exact hn)⟩⟩
theorem zx5 (w:W8)(b n:Nat)(ps:P9)(pd:B8)(a:O8)(nt c:Nat)(h:fD Tryz.prog 9 w b n (stV ps (λ _=>0)))(hn:n<=100000)(hp:pd.size<=800)(hb:qP ps pd nt=true):
  Calls Tryz.prog 97 #[.map (some b),.agg #[.string pd,.slice a nt c]] w λ e w'=>e=.returned (.tuple #[])/\fD Tryz.prog 9 w' b (n+1) (stV (qG ps pd nt) (λ _=>0))/\zN [b] w w':=by
 have h0:DO w b n (stV ps (λ _=>0)) (w.alloc (.cells #[.string pd,.slice a nt c] 79)):=DO.alloc ⟨h,zN.refl _ _⟩ _;have eV:=h0.map;have eU:pd.size<=maxLen:=by unfold maxLen;omega
 have HT:=zC h0;have HP:=zC (z8c ps pd nt hb);clear h h0 hb;go_enter Tryz.func97,Tryz.ntmps97;go_wp2_with (at_mapUpdate;refine zme _ rfl _ _ _ 73 rfl 9 185 Tryz.underlying9 Tryz.underlying73 b n (stV ps (λ _=>0)) rfl eV (by unfold maxLen;omega) pd (.agg #[.string pd,.int .i64 0,.int .i64 nt]) (by rfl) (by rfl) eU ?_);intro w2 il nA;have mX:=(zA HT).put il nA;rw[zA HP] at mX;have uT:=zC mX;clear HT il nA eV mX;go_wp2_with fail;go_end0;exact⟨rfl,(zA uT).map,(zA uT).kept⟩
def jJ (R:vX):P9:=(R.pd,R.ts.length)::R.body.map λ l=>(l.pd,l.ts.length)
def qQ:P9->P9->P9
 | [],ps=>ps
 | x::r,ps=>qQ r (qG ps x.1 x.2)
def zay:P9->P9->Prop
 | [],_=>True
 | x::r,ps=>qP ps x.1 x.2=true/\zay r (qG ps x.1 x.2)
theorem zcq (m:P9):∀ (l ps:P9),qQ (l++m) ps=qQ m (qQ l ps)
 | [],_=>rfl
 | _::r,_=>zcq m r _
theorem zdg (m:P9):∀ (l ps:P9),zay (l++m) ps↔zay l ps/\zay m (qQ l ps)
 | [],ps=>by simp[zay,qQ]
 | x::r,ps=>by rw[List.cons_append,zay,zay,zdg m r,qQ,and_assoc]
def zbp (ls:List (vJ × Value)):P9:=ls.map λ x=>(x.1.pd,x.1.ts.length)
theorem z0p {r:PR}{base:Nat}(h:sL w base r):jJ r.R=(r.R.pd,r.R.ts.length)::zbp r.bs:=by
 unfold jJ zbp;rw[<-h.eq,List.map_map];rfl
theorem zvt (w:W8)(base:Nat)(ar:O8)(cr:Nat)(rs:List PR)(h:l8 w base (.slice ar rs.length cr) rs)(oQ:rs.length<=30)(eG:∀ r∈rs,r.bs.length<=3)(nS:∀ r∈rs,r.R.pd.size<=800)(BW:∀ r∈rs,∀ x∈r.bs,x.1.pd.size<=800)(xx:zay ((rs.map (·.R)).flatMap jJ) []):
  Calls Tryz.prog 55 #[.slice ar rs.length cr] w λ e w'=>e=.returned (.map (some w.heap.size))/\w.heap.size<w'.heap.size/\Below w.heap.size w w'/\fD Tryz.prog 9 w' w.heap.size (4*rs.length) (stV (qQ ((rs.map (·.R)).flatMap jJ) []) (λ _=>0)):=by
 have uB:=@run_makeMap Tryz.prog;have h0:fD Tryz.prog 9 (w.alloc (.map #[] 0)) w.heap.size 0 (stV [] (λ _=>0)):=fD.made _ _ w;have b0:Below w.heap.size w (w.alloc (.map #[] 0)):=B9.alloc L9 _;have HR:=zC h;have Vh:=zC xx;clear h xx;go_enter Tryz.func55,Tryz.ntmps55;go_wp2_with fail
 go_loopg [11] rs.length (λ gg i wr=>∃ k:Nat,k<=rs.length/\gg=rs.length-k/\i=.int .i64 k/\Below w.heap.size w wr/\w.heap.size<wr.heap.size/\fD Tryz.prog 9 wr w.heap.size (4*k) (stV (qQ (((rs.map (·.R)).take k).flatMap jJ) []) (λ _=>0)))
 exact⟨0,Nat.zero_le _,rfl,rfl,b0,by simp,h0⟩
 case round=>
  clear h0 b0;obtain⟨k,hk,iZ,rfl,hB,aT,hm⟩:=hrel
  by_cases aE:k<rs.length
  ·have D3:=(zA HR).below hB;obtain⟨gr,eR,rh,Bt,BJ,B0,BB,lP⟩:=vU zly D3.row k aE;injection rh with h4 h5 h6
   subst h4 h6;have ay:=(zA HR).each _ (List.getElem_mem aE);obtain⟨ah,ch,zn⟩:=zD ay.hd;obtain⟨ab,cb,nx⟩:=zD ay.bo.row;have r0:=lP 0 (by omega);have r1:=lP 1 (by omega);have r2:=lP 2 (by omega);simp only[PR.cells,zn,nx,Nat.add_zero,List.getElem?_cons_zero,List.getElem?_cons_succ] at r0 r1 r2;have gX:=ay.bo;rw[nx] at gX;have CW:=zC gX;have kx:=nS _ (List.getElem_mem aE);have eK:=eG _ (List.getElem_mem aE);have GY:=BW _ (List.getElem_mem aE);have vq:((rs.map (·.R)).take (k+1)).flatMap jJ=((rs.map (·.R)).take k).flatMap jJ++((rs[k].R.pd,rs[k].R.ts.length)::zbp rs[k].bs):=by
    rw[zh7 aE,List.flatMap_append];simp[z0p ay]
   have KE:zay (((rs.map (·.R)).take k).flatMap jJ++((rs[k].R.pd,rs[k].R.ts.length)::zbp rs[k].bs)) []:=by
    have:=zA Vh;rw[<-List.take_append_drop (k+1) (rs.map (·.R)),List.flatMap_append,zdg,vq] at this;exact this.1
   rw[zdg,zay] at KE;obtain⟨_,KF,KG⟩:=KE;have SO:=zC (congrArg (λ l=>qQ l []) vq);generalize rf:qQ (((rs.map (·.R)).take k).flatMap jJ) []=ps at *;have O2:=zC (show qQ (((rs.map (·.R)).take (k+1)).flatMap jJ) []=qQ (zbp rs[k].bs) (qG ps rs[k].R.pd rs[k].R.ts.length) by rw[show qQ (((rs.map (·.R)).take (k+1)).flatMap jJ) []=_ from zA SO,zcq,rf];rfl);have bA:=(Below.refl wr.heap.size wr).alloc L9 (.cells #[.string rs[k].R.pd,.slice ah rs[k].R.ts.length ch,.slice ab rs[k].bs.length cb] 123);have AN:(wr.alloc (.cells #[.string rs[k].R.pd,.slice ah rs[k].R.ts.length ch,.slice ab rs[k].bs.length cb] 123)).heap[wr.heap.size]?=_:=heap_alloc_new wr _;have oM:=hB.trans (bA.mono (by omega));have kO:=hm.alloc (.cells #[.string rs[k].R.pd,.slice ah rs[k].R.ts.length ch,.slice ab rs[k].bs.length cb] 123);have Jq:=zC KG;clear lP ay zn nx gX D3 vq SO hB hm bA KG rf;go_wp2_with fail;refine (zx5 _ w.heap.size (4*k) ps rs[k].R.pd ah rs[k].R.ts.length ch kO (by omega) kx KF).mono ?_;rintro e w2 ⟨rfl,il,cy⟩;have Cc:=yX AN cy (by simp;omega);have cx:=cy.size;rw[World.size_alloc] at cx;have lf:=zY oM cy (by simp;omega) (by simp);obtain⟨x2,MF⟩:=zB Cc 2;clear AN cy oM kO r0 r1 r2 KF;generalize qG ps rs[k].R.pd rs[k].R.ts.length=ps1 at *;generalize tN:wr.heap.size=n1 at *;go_wp2_with fail
   go_loopg [22] rs[k].bs.length (λ gg2 j wj=>∃ (jj:Nat),jj<=rs[k].bs.length/\gg2=rs[k].bs.length-jj/\j=.int .i64 jj/\Below w.heap.size w wj/\n1<wj.heap.size/\fD Tryz.prog 9 wj w.heap.size (4*k+1+jj) (stV (qQ ((zbp rs[k].bs).take jj) ps1) (λ _=>0))/\zay ((zbp rs[k].bs).drop jj) (qQ ((zbp rs[k].bs).take jj) ps1))
   exact⟨0,Nat.zero_le _,rfl,rfl,lf,by omega,il,by simpa[qQ] using zA Jq⟩
   case round=>
    clear lf il Cc x2 MF Jq;obtain⟨j,hj,BI,rfl,hB,vs,hm,xx⟩:=hrel
    by_cases ig:j<rs[k].bs.length
    ·have pc:=(zA CW).below hB;obtain⟨g,cap,hv,oN,bR,cZ,da,hc⟩:=vU zt7 pc.row j ig;injection hv with h1 h2 h3
     subst h1 h3;obtain⟨bp,fw,km⟩:=zD (pc.each _ (List.getElem_mem ig));have q0:=hc 0 (by omega);have q1:=hc 1 (by omega);have q2:=hc 2 (by omega);simp only[vJ.cells,km,Nat.add_zero,List.getElem?_cons_zero,List.getElem?_cons_succ] at q0 q1 q2;have Lc:(zbp rs[k].bs).drop j=(rs[k].bs[j].1.pd,rs[k].bs[j].1.ts.length)::(zbp rs[k].bs).drop (j+1):=by
      rw[List.drop_eq_getElem_cons (by simpa[zbp] using ig)];simp[zbp]
     have vt:(zbp rs[k].bs).take (j+1)=(zbp rs[k].bs).take j++[(rs[k].bs[j].1.pd,rs[k].bs[j].1.ts.length)]:=by
      rw[List.take_succ_eq_append_getElem (by simpa[zbp] using ig)];simp[zbp]
     rw[Lc,zay] at xx;obtain⟨KH,KI⟩:=xx;have Uv:=GY _ (List.getElem_mem ig);have Ob:=zC (show zay ((zbp rs[k].bs).drop (j+1)) (qQ ((zbp rs[k].bs).take (j+1)) ps1) by rw[vt,zcq];exact KI);have lR:=zC (show qG (qQ ((zbp rs[k].bs).take j) ps1) rs[k].bs[j].1.pd rs[k].bs[j].1.ts.length=qQ ((zbp rs[k].bs).take (j+1)) ps1 by rw[vt,zcq];rfl);have bA:=(Below.refl wr.heap.size wr).alloc L9 (.cells #[.bool rs[k].bs[j].1.neg,.string rs[k].bs[j].1.pd,.slice bp rs[k].bs[j].1.ts.length fw] 183);have oM:=hB.trans (bA.mono (by omega));have kO:=hm.alloc (.cells #[.bool rs[k].bs[j].1.neg,.string rs[k].bs[j].1.pd,.slice bp rs[k].bs[j].1.ts.length fw] 183);clear hc km pc Lc vt KI hB hm bA;go_wp2_with fail;refine (zx5 _ w.heap.size (4*k+1+j) (qQ ((zbp rs[k].bs).take j) ps1) rs[k].bs[j].1.pd bp rs[k].bs[j].1.ts.length fw kO (by omega) Uv KH).mono ?_;rintro e w3 ⟨rfl,kP,mf⟩;have Eu:=mf.size;rw[World.size_alloc] at Eu;have lU:=zY oM mf (by simp;omega) (by simp);rw[zA lR] at kP;have IC:=zC kP;clear mf oM kO q0 q1 q2 KH kP;go_wp2_with fail;go_roundg (rs[k].bs.length-(j+1));exact⟨j+1,by omega,rfl,by go_num,lU,by omega,zA IC,zA Ob⟩;omega
    ·have vt:(zbp rs[k].bs).take j=zbp rs[k].bs:=List.take_of_length_le (by simp[zbp];omega);rw[vt] at hm;have HM:=zC (hm.mono (m:=4*(k+1)) (by omega));clear hm vt xx;go_wp2_with fail;go_roundg (rs.length-(k+1));exact⟨k+1,by omega,rfl,by go_num,hB,by omega,by rw[zA O2];exact zA HM⟩;omega
  ·have e:(rs.map (·.R)).take k=rs.map (·.R):=List.take_of_length_le (by simp;omega);have ek:k=rs.length:=(by omega);rw[e,ek] at hm;have HM:=zC hm;clear hm e;go_wp2_with fail;go_ret;exact⟨rfl,aT,hB,zA HM⟩
end
section
open Go.RowKit Go.Maps
def zom (S:B8->Nat):List vJ->Nat->Nat
 | [],m=>m
 | l::r,m=>zom S r (max m (S l.pd+if l.neg then 1 else 0))
open Classical in
noncomputable def z8a (S:B8->Nat)(k:B8)(v:Nat):B8->Nat:=λ x=>if x=k then v else S x
theorem zen (S:B8->Nat)(k:B8)(v:Nat):z8a S k v k=v:=by simp[z8a]
variable {S:B8->Nat}
theorem zez {k x:B8}{v:Nat}(h:x≠k):z8a S k v x=S x:=by simp[z8a,h]
noncomputable def zfk (S:B8->Nat)(R:vX):B8->Nat:=z8a S R.pd (zom S R.body (S R.pd))
variable {m:Nat}
theorem z16 {ls:List (vJ × Value)}{k:Nat}(h:k<ls.length):zom S ((ls.map (·.1)).drop k) m=zom S ((ls.map (·.1)).drop (k+1)) (max m (S ls[k].1.pd+if ls[k].1.neg then 1 else 0)):=by
 rw[List.drop_eq_getElem_cons (by simpa using h),zom];simp
theorem z8d (ps:P9)(S:B8->Nat)(nm:B8)(n v:Nat)(h:xH ps nm=some n):zxk (stV ps S) nm (.agg #[.string nm,.int .i64 v,.int .i64 n])=stV ps (z8a S nm v):=by
 funext k
 unfold stV
 by_cases e:k=nm
 ·subst e;rw[zav,h,zen];rfl
 ·rw[jW e,zez e]
variable {n:Nat}
theorem z6d {ps:P9}{nm:B8}(S:B8->Nat)(h:xH ps nm=some n):(stV ps S nm).getD (.agg #[.string { data:=#[] },.int .i64 0,.int .i64 0])=.agg #[.string nm,.int .i64 (S nm),.int .i64 n]:=by
 unfold stV;rw[h];rfl
theorem zod (S:B8->Nat):∀ (l:List vJ) (m:Nat),m<=zom S l m
 | [],_=>Nat.le_refl _
 | _::r,_=>Nat.le_trans (Nat.le_max_left _ _) (zod S r _)
theorem z15 {S:B8->Nat}{c:Nat}:∀ (l:List vJ) (m:Nat),m<=c->(∀ x∈l,(S x.pd+if x.neg then 1 else 0)<=c)->zom S l m<=c
 | [],_,h,_=>h
 | x::r,_,h,hl=>z15 r _ (Nat.max_le.2 ⟨h,hl x List.mem_cons_self⟩) (λ y hy=>hl y (List.mem_cons_of_mem _ hy))
theorem zur {S:B8->Nat}:∀ (l:List vJ) (m:Nat),∀ x∈l,(S x.pd+if x.neg then 1 else 0)<=zom S l m
 | [],_,_,hx=>by cases hx
 | _::r,_,x,hx=>by
  rcases List.mem_cons.1 hx with rfl | hx
  ·exact Nat.le_trans (Nat.le_max_right _ _) (zod S r _)
  ·exact zur r _ x hx
theorem znb (x y z:Value)(w:W8):Sem.run Tryz.prog (Instr.field 185 (.agg #[x,y,z]) 1) w=.ok y w:=by kernel_rfl
structure N8 (w:W8)(b n:Nat)(V:B8->Option Value)(pd:B8)(nt m:Nat)(wr:W8):Prop where
 map:fD Tryz.prog 9 wr b n V
 below:Below w.heap.size w wr
 size:w.heap.size+1<wr.heap.size
 Pr:wr.heap[w.heap.size+1]?=some (.cells #[.string pd,.int .i64 m,.int .i64 nt] 185 (0,0))
theorem N8.next {w:W8}{b:Nat}{V:B8->Option Value}{pd:B8}{nt:Nat}{wr:W8}(h:N8 w b n V pd nt m wr)(hb:b<w.heap.size)(x:Int)(m':Nat)(hx:x=m')(o:Obj):
  N8 w b n V pd nt m' ((wr.setCell ⟨w.heap.size+1,1,none⟩ (.int .i64 x)).alloc o):=by
 subst hx;refine⟨(h.map.block (Below.heap_setCell _ _ _ _ (by simp;omega))).alloc o,(h.below.setCell (by simp) _).alloc ?_ o,?_,?_⟩
 ·have:=h.size;simp[World.setCell];omega
 ·have:=h.size;rw[World.size_alloc];simp[World.setCell];omega
 ·have:=h.size;rw[Below.heap_alloc _ _ _ (by simp[World.setCell];omega),heap_setCell_same _ _ _ _ _ _ h.Pr];rfl
theorem z04 (w:W8)(b n base:Nat)(ps:P9)(S:B8->Nat)(pd:B8)(ah:O8)(nh ch:Nat)(ab:O8)(cb:Nat)(ls:List (vJ × Value))(h:fD Tryz.prog 9 w b n (stV ps S))(hL:mj w base (.slice ab ls.length cb) ls)(hn:n<=1000000000)(hp:pd.size<=800)(nt:Nat)(Uo:xH ps pd=some nt)(BW:∀ x∈ls,x.1.pd.size<=800/\∃ m,xH ps x.1.pd=some m)(hS:∀ k,S k<=100000)(ji:ls.length<=1000):
  Calls Tryz.prog 56 #[.map (some b),.agg #[.string pd,.slice ah nh ch,.slice ab ls.length cb]] w λ e w'=>e=.returned (.bool (decide (S pd<zom S (ls.map (·.1)) (S pd))))/\fD Tryz.prog 9 w' b (n+1) (stV ps (z8a S pd (zom S (ls.map (·.1)) (S pd))))/\zN [b] w w':=by
 have vc:=h.lt;have bA:=(Below.refl w.heap.size w).alloc L9 (.cells #[.string pd,.slice ah nh ch,.slice ab ls.length cb] 123);have eV:=h.alloc (.cells #[.string pd,.slice ah nh ch,.slice ab ls.length cb] 123);have eU:pd.size<=maxLen:=by unfold maxLen;omega
 have hu:=z6d S Uo;have Fu:=eV.alloc (.cells #[.string pd,.int .i64 (S pd),.int .i64 nt] 185);have bB:=bA.alloc (by simp) (.cells #[.string pd,.int .i64 (S pd),.int .i64 nt] 185);have tD:((w.alloc (.cells #[.string pd,.slice ah nh ch,.slice ab ls.length cb] 123)).alloc (.cells #[.string pd,.int .i64 (S pd),.int .i64 nt] 185)).heap[w.heap.size+1]?=some (.cells #[.string pd,.int .i64 (S pd),.int .i64 nt] 185 (0,0)):=by
  have:=heap_alloc_new (w.alloc (.cells #[.string pd,.slice ah nh ch,.slice ab ls.length cb] 123)) (.cells #[.string pd,.int .i64 (S pd),.int .i64 nt] 185);rw[World.size_alloc] at this;exact this
 have hSp:=hS pd;have HL:=zC hL;clear h hL;have Fg:=znb;go_enter Tryz.func56,Tryz.ntmps56;go_wp2_with (at_lookup;refine zgk _ rfl _ _ 73 rfl 9 185 Tryz.underlying9 Tryz.underlying73 (Tryz.zeroValue185 _) b n (stV ps S) rfl eV pd rfl eU _ hu ?_);clear eV bA
 go_loopg [20] ls.length (λ gg i wr=>∃ (k m:Nat),k<=ls.length/\gg=ls.length-k/\i=.int .i64 k/\N8 w b n (stV ps S) pd nt m wr/\S pd<=m/\m<=100001/\zom S ((ls.map (·.1)).drop k) m=zom S (ls.map (·.1)) (S pd))
 exact⟨0,S pd,Nat.zero_le _,rfl,rfl,⟨Fu,bB,by simp,tD⟩,Nat.le_refl _,by omega,rfl⟩
 case round=>
  clear Fu bB tD;obtain⟨k,m,hk,iZ,rfl,hR,hSm,il,uE⟩:=hrel;have hm:=hR.map;have hB:=hR.below;have aT:=hR.size;have tD:=hR.Pr;have HR:=zC hR;clear hR;obtain⟨x0,AR⟩:=zB tD 0;obtain⟨x1,td⟩:=zB tD 1;obtain⟨x2,MF⟩:=zB tD 2
  by_cases aE:k<ls.length
  ·have aP:=z16 (S:=S) (m:=m) aE;have HU:=zC (aP.symm.trans uE);clear aP uE;have PO:=(zA HL).below hB;obtain⟨g,cap,hv,oN,bR,cZ,da,hc⟩:=vU zt7 PO.row k aE;injection hv with h1 h2 h3
   subst h1 h3;obtain⟨bp,fw,km⟩:=zD (PO.each _ (List.getElem_mem aE));have q0:=hc 0 (by omega);have q1:=hc 1 (by omega);have q2:=hc 2 (by omega);simp only[vJ.cells,km,Nat.add_zero,List.getElem?_cons_zero,List.getElem?_cons_succ] at q0 q1 q2;obtain⟨Uv,mq,Yc⟩:=BW _ (List.getElem_mem aE);have Fx:ls[k].1.pd.size<=maxLen:=(by unfold maxLen;omega);have UK:=z6d S Yc;have hSq:=hS ls[k].1.pd;have Nx:=hm.alloc (.cells #[.bool ls[k].1.neg,.string ls[k].1.pd,.slice bp ls[k].1.ts.length fw] 183);clear hc km PO hm hB tD
   cases cO:ls[k].1.neg with
   | true=>
    rw[cO] at q0 Nx HU;go_wp2_with (at_lookup;refine zgk _ rfl _ _ 73 rfl 9 185 Tryz.underlying9 Tryz.underlying73 (Tryz.zeroValue185 _) b n (stV ps S) rfl Nx ls[k].1.pd rfl Fx _ UK ?_);have hN:=(zA HR).next vc (max (m:Int) ((S ls[k].1.pd:Int)+1)) (max m (S ls[k].1.pd+1)) (by omega) (.cells #[.bool true,.string ls[k].1.pd,.slice bp ls[k].1.ts.length fw] 183);go_roundg (ls.length-(k+1));exact⟨k+1,max m (S ls[k].1.pd+1),by omega,rfl,by go_num,hN,by omega,by omega,by simpa using zA HU⟩;omega
   | false=>
    rw[cO] at q0 Nx HU;go_wp2_with (at_lookup;refine zgk _ rfl _ _ 73 rfl 9 185 Tryz.underlying9 Tryz.underlying73 (Tryz.zeroValue185 _) b n (stV ps S) rfl Nx ls[k].1.pd rfl Fx _ UK ?_);have hN:=(zA HR).next vc (max (m:Int) (S ls[k].1.pd:Int)) (max m (S ls[k].1.pd)) (by omega) (.cells #[.bool false,.string ls[k].1.pd,.slice bp ls[k].1.ts.length fw] 183);go_roundg (ls.length-(k+1));exact⟨k+1,max m (S ls[k].1.pd),by omega,rfl,by go_num,hN,by omega,by omega,by simpa using zA HU⟩;omega
  ·have hd:(ls.map (·.1)).drop k=[]:=List.drop_eq_nil_of_le (by simp;omega);rw[hd,zom] at uE;have M1:=zC uE;have eN:=zC (z8d ps S pd nt m Uo);clear hd uE hu tD;go_wp2_with (at_mapUpdate;refine zme _ rfl _ _ _ 73 rfl 9 185 Tryz.underlying9 Tryz.underlying73 b n (stV ps S) rfl hm (by unfold maxLen;omega) pd (.agg #[.string pd,.int .i64 m,.int .i64 nt]) (by rfl) (by rfl) eU ?_);intro w2 il nA;have mX:=DO.put ⟨hm,(zN.refl _ _).ai hB⟩ il nA;rw[zA eN,zA M1] at mX;have uT:=zC mX;have E9:w2.heap[w.heap.size+1]?=some (.cells #[.string pd,.int .i64 m,.int .i64 nt] 185 (0,0)):=by
    rw[nA.block _ aT (by simp;omega)];exact (zA HR).Pr
   obtain⟨y1,Jh⟩:=zB E9 1;clear il nA mX hm hB E9 x0 x1 x2 AR td MF;go_wp2_with fail;go_ret;exact⟨by rw[zA M1];rfl,(zA uT).map,(zA uT).kept⟩
end
section
open Go.RowKit Go.Maps
def zxq (f:B8->Nat)(R:vX):Prop:=∀ l∈R.body,(f l.pd+if l.neg then 1 else 0)<=f R.pd
def zd7 (rs:List vX)(f:B8->Nat):Prop:=∀ R∈rs,zxq f R
def z5v (rs:List vX)(S:B8->Nat):Prop:=∀ f,zd7 rs f->∀ k,S k<=f k
theorem zqa (S:B8->Nat)(R:vX)(k:B8):S k<=zfk S R k:=by
 unfold zfk
 by_cases e:k=R.pd
 ·subst e;rw[zen];exact zod _ _ _
 ·rw[zez e];exact Nat.le_refl _
variable {R:vX} {S:B8->Nat} {rs:List vX}
theorem zz3 (h:z5v rs S)(hR:R∈rs):z5v rs (zfk S R):=by
 intro f hf k;unfold zfk
 by_cases e:k=R.pd
 ·subst e;rw[zen];refine z15 _ _ (h f hf _) λ x hx=>?_
  have h1:=h f hf x.pd;have h2:=hf R hR x hx;omega
 ·rw[zez e];exact h f hf k
theorem zsf (h:¬ S R.pd<zom S R.body (S R.pd)):zxq S R/\zfk S R=S:=by
 have h2:zom S R.body (S R.pd)=S R.pd:=Nat.le_antisymm (Nat.not_lt.1 h) (zod _ _ _);refine⟨λ l hl=>?_,?_⟩
 ·have:=zur R.body (S R.pd) (S:=S) l hl
  rwa [h2] at this
 ·funext k
  unfold zfk
  by_cases e:k=R.pd
  ·subst e;rw[zen,h2]
  ·rw[zez e]
def zqu (S:B8->Nat):P9->Nat
 | []=>0
 | p::r=>S p.1+zqu S r
theorem zn9 {S T:B8->Nat}(h:∀ k,S k<=T k):∀ ps,zqu S ps<=zqu T ps
 | []=>Nat.le_refl _
 | p::r=>Nat.add_le_add (h p.1) (zn9 h r)
theorem z1r {S T:B8->Nat}(h:∀ k,S k<=T k){p:B8 × Nat}(hp:S p.1<T p.1):∀ ps,p∈ps->zqu S ps<zqu T ps
 | [],hm=>by cases hm
 | q::r,hm=>by
  rcases List.mem_cons.1 hm with rfl | hm
  ·exact Nat.add_lt_add_of_lt_of_le hp (zn9 h r)
  ·exact Nat.add_lt_add_of_le_of_lt (h q.1) (z1r h hp r hm)
theorem zl8 {S:B8->Nat}{c:Nat}(h:∀ k,S k<=c):∀ ps,zqu S ps<=c*ps.length
 | []=>Nat.zero_le _
 | p::r=>by
  have:=zl8 h r;have h1:=h p.1;simp only[zqu,List.length_cons,Nat.mul_add,Nat.mul_one];omega
theorem zpy {nm:B8}{n:Nat}:∀ {ps:P9},xH ps nm=some n->∃ p∈ps,p.1=nm
 | [],h=>by simp[xH] at h
 | p::r,h=>by
  rw[xH] at h
  split at h
  ·rename_i e;exact⟨p,List.mem_cons_self,vO.1 e⟩
  ·obtain⟨q,hq,e⟩:=zpy h;exact⟨q,List.mem_cons_of_mem _ hq,e⟩
structure MM (rs:List vX)(ps:P9)(S0:B8->Nat)(k:Nat)(b:Bool)(S:B8->Nat):Prop where
 low:z5v rs S
 ge:zqu S0 ps<=zqu S ps
 up:b=true->zqu S0 ps<zqu S ps
 keeps:b=false->∀ R∈rs.take k,zxq S R
theorem MM.next {ps:P9}{S0:B8->Nat}{k:Nat}{b:Bool}(h:MM rs ps S0 k b S)(hk:k<rs.length){n:Nat}(hn:xH ps rs[k].pd=some n):MM rs ps S0 (k+1) (if decide (S rs[k].pd<zom S rs[k].body (S rs[k].pd)) then true else b) (zfk S rs[k]):=by
 have zu:=zn9 (zqa S rs[k]) ps
 by_cases hu:S rs[k].pd<zom S rs[k].body (S rs[k].pd)
 ·obtain⟨p,hp,e⟩:=zpy hn;have aG:zqu S ps<zqu (zfk S rs[k]) ps:=z1r (zqa S rs[k]) (p:=p) (by rw[e,zfk,zen];exact hu) ps hp;simp only[hu,decide_true,if_true];exact⟨zz3 h.low (List.getElem_mem hk),Nat.le_trans h.ge zu,λ _=>Nat.lt_of_le_of_lt h.ge aG,λ e=>by cases e⟩
 ·obtain⟨h1,h2⟩:=zsf hu;simp only[hu,decide_false,h2];refine⟨h.low,h.ge,by simpa using h.up,λ e R hR=>?_⟩;rw[List.take_succ_eq_append_getElem hk,List.mem_append] at hR;rcases hR with hR | hR
  ·exact h.keeps (by simpa using e) R hR
  ·rw[List.mem_singleton.1 hR];exact h1
theorem z9p (w:W8)(base:Nat)(ar:O8)(cr:Nat)(rs:List PR)(ps:P9)(h:l8 w base (.slice ar rs.length cr) rs)(oQ:rs.length<=30)(eG:∀ r∈rs,r.bs.length<=3)(nS:∀ r∈rs,r.R.pd.size<=800)(BW:∀ r∈rs,∀ x∈r.bs,x.1.pd.size<=800)(xx:zay ((rs.map (·.R)).flatMap jJ) [])(rf:qQ ((rs.map (·.R)).flatMap jJ) []=ps)(b8:ps.length<=1000)(ay:∀ r∈rs,(∃ n,xH ps r.R.pd=some n)/\∀ x∈r.bs,∃ n,xH ps x.1.pd=some n)(f0:B8->Nat)(sS:zd7 (rs.map (·.R)) f0)(nO:∀ k,f0 k<=1000):
  Calls Tryz.prog 35 #[.slice ar rs.length cr] w λ e w'=>e=.returned (.map (some w.heap.size))/\w.heap.size<w'.heap.size/\Below w.heap.size w w'/\∃ (S:B8->Nat) (n:Nat),fD Tryz.prog 9 w' w.heap.size n (stV ps S)/\n<=1000000000/\zd7 (rs.map (·.R)) S/\z5v (rs.map (·.R)) S:=by
 have HR:=zC h;have hsf:=zl8 nO ps;go_enter Tryz.func35,Tryz.ntmps35;go_wp2_with fail;refine (zvt w base ar cr rs h oQ eG nS BW xx).mono ?_;rintro e w1 ⟨rfl,cz,aM,kO⟩;rw[rf] at kO;clear h xx rf;go_wp2_with fail
 go_loopg [4] (zqu f0 ps+1) (λ gg r wr=>∃ (b:Bool) (S:B8->Nat) (n:Nat),r=.bool b/\(b=true->zqu f0 ps-zqu S ps+1<=gg)/\n+30*gg<=120+30*(zqu f0 ps+1)/\Below w.heap.size w wr/\w.heap.size<wr.heap.size/\fD Tryz.prog 9 wr w.heap.size n (stV ps S)/\z5v (rs.map (·.R)) S/\(b=false->zd7 (rs.map (·.R)) S))
 exact⟨true,λ _=>0,4*rs.length,rfl,λ _=>by omega,by omega,aM,cz,kO,λ _ _ _=>Nat.zero_le _,λ e=>by cases e⟩
 case round=>
  clear aM cz kO;obtain⟨b,S0,n0,rfl,dI,QN,hB,aT,hm,cC,gF⟩:=hrel
  cases b with
  | false=>
   have HV:=zC (gF rfl);have A8:=zC cC;clear cC gF;go_wp2_with fail;go_ret;exact⟨rfl,aT,hB,S0,n0,hm,by omega,zA HV,zA A8⟩
  | true=>
   have iZ:=dI rfl;generalize AF:gk=g1 at *;have h0:MM (rs.map (·.R)) ps S0 0 false S0:=⟨cC,Nat.le_refl _,(λ e=>by cases e),λ _ R hR=>by simp at hR⟩;clear dI gF cC;go_wp2_with fail
   go_loopg [4,12] rs.length (λ gg2 r j wj=>∃ (b:Bool) (S:B8->Nat) (k:Nat),r=.bool b/\k<=rs.length/\gg2=rs.length-k/\j=.int .i64 k/\Below w.heap.size w wj/\w.heap.size<wj.heap.size/\fD Tryz.prog 9 wj w.heap.size (n0+k) (stV ps S)/\MM (rs.map (·.R)) ps S0 k b S)
   exact⟨false,S0,0,rfl,Nat.zero_le _,rfl,rfl,hB,aT,hm,h0⟩
   case round=>
    clear hB hm h0;obtain⟨b,S,k,rfl,hk,Ln,rfl,hB,aT,hm,iK⟩:=hrel
    by_cases aE:k<rs.length
    ·have D3:=(zA HR).below hB;obtain⟨gr,eR,rh,Bt,BJ,B0,BB,lP⟩:=vU zly D3.row k aE;injection rh with h4 h5 h6
     subst h4 h6;have Ab:=(zA HR).each _ (List.getElem_mem aE);obtain⟨ah,ch,zn⟩:=zD Ab.hd;obtain⟨ab,cb,nx⟩:=zD Ab.bo.row;have r0:=lP 0 (by omega);have r1:=lP 1 (by omega);have r2:=lP 2 (by omega);simp only[PR.cells,zn,nx,Nat.add_zero,List.getElem?_cons_zero,List.getElem?_cons_succ] at r0 r1 r2;have kx:=nS _ (List.getElem_mem aE);obtain⟨⟨nt,uD⟩,zx⟩:=ay _ (List.getElem_mem aE);have GY:=BW _ (List.getElem_mem aE);have Xl:=eG _ (List.getElem_mem aE);have kO:=hm.alloc (.cells #[.string rs[k].R.pd,.slice ah rs[k].R.ts.length ch,.slice ab rs[k].bs.length cb] 123);have oM:=hB.alloc (by omega) (.cells #[.string rs[k].R.pd,.slice ah rs[k].R.ts.length ch,.slice ab rs[k].bs.length cb] 123);have gX:mj (wr.alloc (.cells #[.string rs[k].R.pd,.slice ah rs[k].R.ts.length ch,.slice ab rs[k].bs.length cb] 123)) base (.slice ab rs[k].bs.length cb) rs[k].bs:=by
      have:=Ab.bo.below oM
      rwa [nx] at this
     have QU:=iK.next (by simpa using aE) (n:=nt) (by simpa using uD);have Fq:∀ x,S x<=100000:=λ x=>Nat.le_trans (Nat.le_trans (iK.low f0 sS x) (nO x)) (by omega)
     simp only[List.getElem_map] at QU;have heq:=Ab.eq;have Au:=zC QU;clear lP Ab zn nx D3 QU iK hB hm;go_wp2_with fail;refine (z04 _ w.heap.size (n0+k) base ps S rs[k].R.pd ah rs[k].R.ts.length ch ab cb rs[k].bs kO gX (by omega) kx nt uD (λ x hx=>⟨GY x hx,zx x hx⟩) Fq (by omega)).mono ?_;rintro e w3 ⟨rfl,kP,mf⟩;have Eu:=mf.size;rw[World.size_alloc] at Eu;have lU:=zY oM mf (by simp;omega) (by simp);rw[heq] at kP ⊢;have IC:Hid (fD Tryz.prog 9 w3 w.heap.size (n0+(k+1)) (stV ps (zfk S rs[k].R))):=zC kP;clear kP mf oM kO gX r0 r1 r2 Fq heq;generalize decide (S rs[k].R.pd<zom S rs[k].R.body (S rs[k].R.pd))=c at Au ⊢
     cases c with
     | true=>
      go_wp2_with fail;go_roundg (rs.length-(k+1));exact⟨true,_,k+1,rfl,by omega,rfl,by go_num,lU,by omega,zA IC,zA Au⟩;omega
     | false=>
      go_wp2_with fail;go_roundg (rs.length-(k+1));exact⟨b,_,k+1,rfl,by omega,rfl,by go_num,lU,by omega,zA IC,zA Au⟩;omega
    ·have eU:k=rs.length:=(by omega);have zu:=iK.ge;have uE:=iK.up;have I0:=zn9 (iK.low f0 sS) ps;have SH:=zC iK;have M1:=zC uE;clear iK uE;go_wp2_with fail;go_roundg (g1-1);exact⟨b,S,n0+k,rfl,λ e=>by have:=zA M1 e;omega,by omega,hB,aT,hm,(zA SH).low,λ e R hR=>(zA SH).keeps e R (by rwa [List.take_of_length_le (by simp;omega)])⟩;omega
end
end Go.Proofs.YtldkpahaocjdpaaGreat
