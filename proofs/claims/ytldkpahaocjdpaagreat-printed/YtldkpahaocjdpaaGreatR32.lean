/-
  Plain: the bytes of a witness, as the program takes them.
-/
import Derived.Test.YtldkpahaocjdpaaGreatR29
set_option maxHeartbeats 16000000
set_option maxRecDepth 1000000
namespace Go.Proofs.YtldkpahaocjdpaaGreat
section
def rdP (pos:List Nat):Nat->List Nat->Option (List (Nat × List Nat))
 | 0,[]=>some []
 | 0,_::_=>none
 | _+1,[]=>none
 | n+1,r::q=>match pos[r]? with
  | none=>none
  | some m=>if q.length<m then none else match rdP pos n (q.drop m) with
   | none=>none
   | some l=>some ((r,q.take m)::l)
def takeP:List PAtm->List Nat->List Th->ax->Option ax
 | [],_,_,e=>some e
 | a::r,fr,S,e=>match fr with
  | []=>none
  | x::q=>match S[x]? with
   | none=>none
   | some t=>match aG e a t with
    | none=>none
    | some e'=>takeP r q S e'
structure aK where
 r:PR
 e:ax
 t:Th
def stepsP (rp:List PR):List (Nat × List Nat)->List aK->Option (List aK)
 | [],st=>some st
 | x::q,st=>match rp[x.1]? with
  | none=>none
  | some R=>match takeP (posOf R.bs) x.2 (st.map (·.t)) [] with
   | none=>none
   | some e=>stepsP rp q (st++[⟨R,e,aB e (aO R)⟩])
theorem takeP_cons (a:PAtm)(r:List PAtm)(fr:List Nat)(S:List Th)(e:ax):takeP (a::r) fr S e=match fr with | []=>none | x::q=>match S[x]? with | none=>none | some t=>match aG e a t with | none=>none | some e'=>takeP r q S e':=by cases fr <;> rfl
def posL (rp:List PR):List Nat:=rp.map λ r=>(posOf r.bs).length
theorem take_matches:∀ (cs:List PAtm) (fr:List Nat) (S:List Th) (e0 e:ax),takeP cs fr S e0=some e->e∈pmatches (S.map λ t=>(t,0)) cs e0
 | [],_,_,_,_,h=>by obtain rfl:=Option.some.inj h;simp[pmatches]
 | a::r,fr,S,e0,e,h=>by
  rw[takeP_cons] at h
  cases fr with
  | nil=>cases h
  | cons x q=>
   simp only at h
   cases hx:S[x]? with
   | none=>rw[hx] at h;cases h
   | some t=>
    rw[hx] at h;simp only at h
    cases hp:aG e0 a t with
    | none=>rw[hp] at h;cases h
    | some e'=>
     rw[hp] at h;simp only at h;rw[pmatches,List.mem_flatMap];refine⟨(t,0),List.mem_map.2 ⟨t,List.mem_of_getElem? hx,rfl⟩,?_⟩;simp only[hp];exact take_matches r q S e' e h
theorem posOf_len (ls:List (PLit × Value)):(posOf ls).length<=ls.length:=by
 unfold posOf aC;rw[List.length_map,List.length_map];exact List.length_filter_le _ _
end
section
open Go.RowKit Go.Maps
structure ND where
 r:Nat
 fr:List Nat
 v:Value
def dX (x:ND):Nat × List Nat:=(x.r,x.fr)
def ndCells (x:ND):V8:=[.int .i64 (x.r:Nat),x.v]
theorem ndCells_len (x:ND):(ndCells x).length=2:=rfl
structure bN (w:W8)(base:Nat)(nv:Value)(aJ:List ND):Prop where
 row:w.ownsRow base 150 2 nv aJ.length (aJ.flatMap ndCells)
 each:∀ x∈aJ,w.ownsRow base 3 1 x.v x.fr.length (cO x.fr)
variable {nv:Value} {base:Nat} {w:W8}
theorem bN.below {w':W8}{aJ:List ND}(h:bN w base nv aJ)(k:Below w.heap.size w w'):bN w' base nv aJ:=
 ⟨own_below h.row k (λ g e=>(h.row.lt g e).2),λ x hx=>own_below (h.each x hx) k (λ g e=>((h.each x hx).lt g e).2)⟩
theorem bN.low {base':Nat}{aJ:List ND}(h:bN w base nv aJ)(hb:base'<=base):bN w base' nv aJ:=⟨aw h.row hb,λ x hx=>aw (h.each x hx) hb⟩
def renum (B:Nat->Bool):List (Nat × List Nat)->Nat->(Nat->Nat)->List (Nat × List Nat)->List (Nat × List Nat)
 | [],_,_,out=>out
 | x::r,i,pl,out=>if B i then renum B r (i+1) (iH pl i out.length) (out++[(x.1,x.2.map (iH pl i out.length))]) else renum B r (i+1) pl out
variable {pl:Nat->Nat}
theorem renum_step {B:Nat->Bool}{l:List (Nat × List Nat)}{k:Nat}{out:List (Nat × List Nat)}(h:k<l.length):renum B (l.drop k) k pl out=if B k then renum B (l.drop (k+1)) (k+1) (iH pl k out.length) (out++[(l[k].1,l[k].2.map (iH pl k out.length))]) else renum B (l.drop (k+1)) (k+1) pl out:=by
 rw[List.drop_eq_getElem_cons h];rfl
structure iX (w:W8)(n:Nat)(pl:Nat->Nat)(out:List ND)(nv:Value)(wr:W8):Prop where
 rD:bU wr w.heap.size 3 n (λ i=>.int .i64 (pl i:Nat))
 aJ:bN wr (w.heap.size+1) nv out
 k:Below w.heap.size w wr
theorem iX.below {w:W8}{n:Nat}{pl:Nat->Nat}{out:List ND}{nv:Value}{wr w':W8}(h:iX w n pl out nv wr)(k:Below wr.heap.size wr w'):iX w n pl out nv w':=
 ⟨h.rD.below k,h.aJ.below k,h.k.trans (k.mono h.k.size)⟩
variable {out:List ND} {n:Nat}
theorem iX.put {wr:W8}(h:iX w n pl out nv wr)(i v:Nat):iX w n (iH pl i v) out nv (wr.setCell ⟨w.heap.size,i,none⟩ (.int .i64 (v:Nat))):=by
 have blk:∀ g,g≠w.heap.size->(wr.setCell ⟨w.heap.size,i,none⟩ (.int .i64 (v:Nat))).heap[g]?=wr.heap[g]?:=λ g hg=>Below.heap_setCell _ _ _ _ (by simpa using hg)
 refine⟨(h.rD.set i (.int .i64 (v:Nat))).eq λ j _=>?_,⟨own_block h.aJ.row (λ g e=>blk g (by have:=(h.aJ.row.lt g e).1;omega)),λ x hx=>own_block (h.aJ.each x hx) (λ g e=>blk g (by have:=((h.aJ.each x hx).lt g e).1;omega))⟩,h.k.setCell L9 _⟩;unfold iH
 split <;> rfl
theorem iX.add {GF:Value}{wX W w5:W8}{x:ND}(h:iX w n pl out nv wX)(hx:wX.ownsRow (w.heap.size+1) 3 1 x.v x.fr.length (cO x.fr))(hW:Below wX.heap.size wX W)(hg:W.grownBy w5 nv.ownBlock)(aI:w5.ownsRow (w.heap.size+1) 150 2 GF (out.length+1) (out.flatMap ndCells++ndCells x)):iX w n pl (out++[x]) GF w5:=by
 have I5:Kept [] wX W:=⟨hW.os,hW.tape,hW.output,hW.size,λ i hi _=>hW.block i hi⟩;have k5:Kept nv.ownBlock.toList wX w5:=(I5.mono (by simp)).trans (Kept.eK hg);have n1:∀ b∈nv.ownBlock.toList,dM wX 3 b:=own_notT h.aJ.row (by decide);have fN:∀ b∈nv.ownBlock.toList,w.heap.size+1<=b:=λ b hb=>(h.aJ.row.lt b (by simpa using hb)).1
 refine⟨h.rD.block (k5.block _ h.rD.lt (λ hm=>by have:=fN _ hm;omega)),⟨?_,λ y hy=>?_⟩,below_kept h.k k5 h.k.size (λ b hb=>by have:=fN b hb;omega)⟩
 ·rw[List.length_append,List.flatMap_append];simpa using aI
 ·rcases List.mem_append.1 hy with hy | hy
  ·exact own_keptT (h.aJ.each y hy) k5 (λ b hb=>.inr (n1 b hb))
  ·rw[List.mem_singleton.1 hy];exact own_keptT hx k5 (λ b hb=>.inr (n1 b hb))
structure RnNamed (wB:W8)(m:Nat)(fv:Nat->Nat)(j:Nat)(wi:W8):Prop where
 k:Below wB.heap.size wB wi
 row:bU wi wB.heap.size 3 m (λ q=>.int .i64 ((if q<j then fv q else 0:Nat)))
def RenumPost (w:W8)(ns:List (Nat × List Nat))(e:Ending)(w':W8):Prop:=
 ∃ (out:List ND) (a:O8) (c:Nat),e=.returned (.slice a out.length c)/\bN w' w.heap.size (.slice a out.length c) out/\out.map dX=ns/\Below w.heap.size w w'
theorem infoNode:(Tryz.prog.info? 150).map (λ i=>(i.zero,i.size,i.bytes))=some (some (.agg #[.int .i64 0,.slice none 0 0]),2,32):=by kernel_rfl
theorem nd_cell (w1:W8)(x:ND)(j:Nat)(u:Value)(h:(ndCells x)[j]?=some u):(w1.alloc (.cells #[.int .i64 (x.r:Nat),x.v] 150)).cell? ((⟨w1.heap.size,0,none⟩:Addr).add j)=some u:=by
 have e:(⟨w1.heap.size,0,none⟩:Addr).add j=⟨w1.heap.size,j,none⟩:=by unfold Addr.add;split <;> simp_all
 rw[e,World.cell?_alloc_at _ _ _ _ rfl];simpa[ndCells] using h
theorem nd_one {r:Nat}{fr:List Nat}(p:O8){c:Nat}:∀ u∈ndCells ⟨r,fr,.slice p n c⟩,u.oneCell'=true:=by
 intro u hu;simp[ndCells] at hu;rcases hu with rfl | rfl <;> rfl
theorem renum_any (w:W8)(base gb:Nat)(an:O8)(cn:Nat)(aJ:List ND)(B:Nat->Bool)(h:bN w base (.slice an aJ.length cn) aJ)(hB:bU w gb 4 aJ.length (λ i=>.bool (B i)))(hl:aJ.length<=50)(hf:∀ x∈aJ,x.fr.length<=3/\∀ y∈x.fr,y<aJ.length):
  Calls Tryz.prog 70 #[.slice an aJ.length cn,.slice (some ⟨gb,0,none⟩) aJ.length aJ.length] w (RenumPost w (renum B (aJ.map dX) 0 (λ _=>0) [])):=by
 obtain⟨i0,hi,dK,ir,bZ⟩:=info_parts infoNode;have H:=hide h;have HB:=hide hB;have HF:=hide hf;clear h hB hf;have qZ:=λ n hn=>make_ints n hn
 have C0:=make_ints aJ.length (by omega);go_enter Tryz.func70,Tryz.ntmps70;go_upto_region 3 with fail;generalize hw0:World.alloc w _=w0;have k0:Below w.heap.size w w0:=by rw[<-hw0];exact (Below.refl w.heap.size w).alloc L9 _
 have r0:bU w0 w.heap.size 3 aJ.length (λ _=>.int .i64 0):=by rw[<-hw0];exact bU.start w _ _ _
 clear hw0 C0;have H0:=hide (show iX w aJ.length (λ _=>0) [] (.slice none 0 0) w0 from ⟨r0,⟨World.ownsRow_nil _ _ _ _,by simp⟩,k0⟩);clear k0 r0;go_upto_region 4 with fail
 go_loopg [5,17] aJ.length (λ gg nv i wr=>∃ (k:Nat) (pl:Nat->Nat) (out:List ND),k<=aJ.length/\gg=aJ.length-k/\i=.int .i64 k/\out.length<=k/\iX w aJ.length pl out nv wr/\renum B ((aJ.map dX).drop k) k pl (out.map dX)=renum B (aJ.map dX) 0 (λ _=>0) [])
 exact⟨0,_,[],Nat.zero_le _,rfl,rfl,Nat.le_refl _,ad H0,rfl⟩
 case round=>
  clear H0;obtain⟨k,pl,out,hk,fM,rfl,AB,ak,bj⟩:=hrel;obtain⟨ao,co,rfl⟩:=own_slice ak.aJ.row;have vo:=hide bj;clear bj
  by_cases aN:k<aJ.length
  ·obtain⟨x,pL⟩:∃ x,x=aJ[k]:=⟨_,rfl⟩;have bC:x∈aJ:=(by rw[pL];exact List.getElem_mem aN);obtain⟨g,cap,hv,iC,dp,dG,dx,hc⟩:=row_at ndCells_len (ad H).row k aN;injection hv with h1 h2 h3
   subst h1 h3;have xi:=(ad H).each x bC;obtain⟨av,cv,u4⟩:=own_slice xi;have e0:wr.cell? ⟨g,k*2,none⟩=some (.int .i64 (x.r:Nat)):=(by rw[pL];exact (ak.k.cell (p:=⟨g,k*2,none⟩) dp).trans (hc 0 (by omega)));have e1:wr.cell? ⟨g,k*2+1,none⟩=some (.slice av x.fr.length cv):=(by rw[<-u4,pL];exact (ak.k.cell (p:=⟨g,k*2+1,none⟩) dp).trans (hc 1 (by omega)));have gW:(k:Int)<aJ.length:=(by omega);have jL:=(ad HB).cell aN;have Cz:=(ad HB).lt;have fu:(wr.alloc (.cells #[.int .i64 (x.r:Nat),.slice av x.fr.length cv] 150)).cell? ⟨gb,k,none⟩=some (.bool (B k)):=by
    have k1:Below w.heap.size w (wr.alloc (.cells #[.int .i64 (x.r:Nat),.slice av x.fr.length cv] 150)):=ak.k.alloc ak.k.size _;exact (k1.cell (p:=⟨gb,k,none⟩) Cz).trans jL
   have bt:=hide ak;have HX:=hide pL;have fT:=hide (renum_step (B:=B) (l:=aJ.map dX) (k:=k) (pl:=pl) (out:=out.map dX) (by simpa using aN));obtain⟨Fs,lE⟩:=ad HF x bC;have xw:=hide xi;have BM:=hide u4;have wI:=hide lE;clear hc ak pL bC h2 xi u4 lE jL
   cases hb:B k with
   | false=>
    rw[hb] at fu;have jF:=hide hb;clear hb;go_wp2_with fail;go_roundg (aJ.length-(k+1))
    case measure=>omega
    case rel=>
     have ak:=ad bt;refine⟨k+1,pl,out,by omega,rfl,by go_num,by omega,ak.below (B9.alloc L9 _),?_⟩;rw[<-ad vo,ad fT,ad jF];rfl
   | true=>
    rw[hb] at fu;have jF:=hide hb;clear hb;have ak:=ad bt;have di:=ak.below ((Below.refl wr.heap.size wr).alloc L9 (.cells #[.int .i64 (x.r:Nat),.slice av x.fr.length cv] 150));have pc:=di.rD.cell aN;have pf:=di.rD.fz k;have hpw:w.heap.size<wr.heap.size:=ak.rD.lt;have yJ:=(ak.put k out.length).below (B9.alloc L9 (.cells #[.int .i64 (x.r:Nat),.slice av x.fr.length cv] 150));have tu:=hide yJ;have GD:((wr.setCell ⟨w.heap.size,k,none⟩ (.int .i64 (out.length:Nat))).alloc (.cells #[.int .i64 (x.r:Nat),.slice av x.fr.length cv] 150)).heap[wr.heap.size]?=some (.cells #[.int .i64 (x.r:Nat),.slice av x.fr.length cv] 150 (0,0)):=by
     have:=heap_alloc_new (wr.setCell ⟨w.heap.size,k,none⟩ (.int .i64 (out.length:Nat))) (.cells #[.int .i64 (x.r:Nat),.slice av x.fr.length cv] 150);rw[World.size_setCell] at this;exact this
    have nW:=hide GD;have uG:=qZ x.fr.length (by omega);clear ak di yJ GD qZ;go_upto_region 9 with fail;generalize sT:World.alloc (World.setCell wr _ _) (.cells #[.int .i64 (x.r:Nat),.slice av x.fr.length cv] 150)=wB at *;have sB:wB.heap.size=wr.heap.size+1:=(by rw[<-sT];simp);clear sT fu pc pf uG e0 e1;generalize hwc:World.alloc wB _=wC;have kC:Below wB.heap.size wB wC:=(by rw[<-hwc];exact (Below.refl wB.heap.size wB).alloc L9 _);have rC:bU wC wB.heap.size 3 x.fr.length (λ _=>.int .i64 0):=(by rw[<-hwc];exact bU.start wB _ _ _);clear hwc;obtain⟨jW,uL⟩:∃ jW,jW=iH pl k out.length:=⟨_,rfl⟩;obtain⟨fv,Fw⟩:∃ fv:Nat->Nat,fv=λ q=>jW (x.fr[q]?.getD 0):=⟨_,rfl⟩
    have D4:=hide Fw;rw[<-uL] at tu;have wZ:=hide uL;have H1:=hide (show RnNamed wB x.fr.length fv 0 wC from ⟨kC,rC.eq (λ i hi=>by simp)⟩);have GC:=(block_cells ((kC.block _ (by omega)).trans (ad nW)) 1).1;simp only[List.getElem?_toArray,List.getElem?_cons_zero,List.getElem?_cons_succ] at GC;clear kC rC uL Fw;rw[<-sB];have n9:=hide sB;clear sB;generalize hxb:wr.heap.size=xb at *;go_upto_region 10 with fail
    go_loopg [39] x.fr.length (λ gg2 jj wi=>∃ j:Nat,j<=x.fr.length/\gg2=x.fr.length-j/\jj=.int .i64 j/\RnNamed wB x.fr.length fv j wi)
    exact⟨0,Nat.zero_le _,rfl,rfl,ad H1⟩
    case round=>
     clear H1 GC;obtain⟨j,hj,uo,rfl,mH⟩:=hrel;have rn:=(ad tu).below mH.k
     by_cases hlj:j<x.fr.length
     ·have u5:=own_below (ad xw) rn.k (λ g e=>((ad xw).lt g e).2);rw[ad BM] at u5;obtain⟨gv,rfl,Jp,Da,Cv,Cw⟩:=numAt u5 j hlj;have hy:x.fr[j]<aJ.length:=ad wI _ (List.getElem_mem hlj);have hpy:=rn.rD.cell hy;have hrc:=mH.row.cell hlj;have Di:=mH.row.fz j;have vJ:(j:Int)<x.fr.length:=(by omega);have Kr:(x.fr[j]:Int)<aJ.length:=(by omega);have Hw:=hide mH;have HV:=hide (show fv j=jW x.fr[j] by rw[ad D4];simp[hlj]);clear mH rn u5;generalize x.fr[j]=y at *;go_wp2_with fail;go_roundg (x.fr.length-(j+1))
      case measure=>omega
      case rel=>
       have mH:=ad Hw;refine⟨j+1,by omega,rfl,by go_num,mH.k.setCell L9 _,(mH.row.set j _).eq λ q hq=>?_⟩
       by_cases e:q=j
       ·subst e;simp[ad HV]
       ·have e2:(q<j+1)=(q<j):=(by apply propext;omega);simp only[if_neg e,e2]
     ·have CH:j=x.fr.length:=(by omega);subst CH;have sH:bU wr wB.heap.size 3 x.fr.length (λ q=>.int .i64 (fv q:Nat)):=mH.row.eq (λ q hq=>by rw[if_pos hq]);have da:=(mH.k.block xb (by have:=ad n9;omega)).trans (ad nW);have b0:=(block_cells da 0).1;simp only[List.getElem?_toArray,List.getElem?_cons_zero] at b0;have lE:((List.range x.fr.length).map fv)=x.fr.map jW:=by
       rw[ad D4];apply List.ext_getElem
       ·simp
       ·intro q h1 h2;simp at h1;simp[h1]
      have Kg:w.heap.size+1<=wB.heap.size:=(ad tu).rD.lt;have aI:=sH.cO (by unfold maxLen;omega) (base:=w.heap.size+1) Kg;rw[lE] at aI;have fO:wr.ownsRow (w.heap.size+1) 3 1 (.slice (some ⟨wB.heap.size,0,none⟩) x.fr.length x.fr.length) (x.fr.map jW).length (cO (x.fr.map jW)):=(by rw[List.length_map];exact aI);have sV:=mH.k.size;have bH:=rn.aJ.row.alloc (.cells #[.int .i64 (x.r:Nat),.slice (some ⟨wB.heap.size,0,none⟩) x.fr.length x.fr.length] 150);have ng:=hide rn;have Hz:=hide fO;have Df:out.length<=50:=(by omega);clear rn mH sH da lE aI fO;go_wp2_with (at_builtin;refine wpList_append_own _ rfl _ _ 91 rfl (w.heap.size+1) 150 i0 _ 2 32 Tryz.underlying91 hi dK ir bZ rfl (by decide) _ _ _ rfl bH ⟨wr.heap.size,0,none⟩ 1 1 (ndCells ⟨x.r,x.fr.map jW,.slice (some ⟨wB.heap.size,0,none⟩) x.fr.length x.fr.length⟩) rfl rfl (nd_cell wr ⟨x.r,x.fr.map jW,.slice (some ⟨wB.heap.size,0,none⟩) x.fr.length x.fr.length⟩) (nd_one _) (by unfold maxLen;omega) (by omega) (by simp;omega) ?_;intro v5 w5 dm dz jv;clear jv;obtain⟨a5,gz,rfl⟩:=own_slice dm;have mY:=hide dm;have jG:=hide dz;clear dm dz);go_roundg (aJ.length-(k+1))
      case measure=>omega
      case rel=>
       refine⟨k+1,jW,out++[⟨x.r,x.fr.map jW,.slice (some ⟨wB.heap.size,0,none⟩) x.fr.length x.fr.length⟩],by omega,rfl,by go_num,by rw[List.length_append];simp;omega,(ad ng).add (x:=⟨x.r,x.fr.map jW,.slice (some ⟨wB.heap.size,0,none⟩) x.fr.length x.fr.length⟩) (ad Hz) (B9.alloc L9 _) (ad jG) (ad mY),?_⟩;rw[<-ad vo,ad fT,ad jF,if_pos rfl,List.map_append,List.length_map,<-ad wZ];simp only[List.getElem_map,<-ad HX];rfl
  ·have he:k=aJ.length:=(by omega);subst he;have HE:=hide (show out.map dX=renum B (aJ.map dX) 0 (λ _=>0) [] by rw[<-ad vo,List.drop_of_length_le (by simp)];rfl);have bt:=hide ak;clear ak;go_wp2_with fail;go_ret;exact⟨out,ao,co,rfl,(ad bt).aJ.low (by omega),ad HE,(ad bt).k⟩
end
section
open Go.RowKit Go.Maps
def readP (pos:List Nat):List Nat->Option (Nat × List Nat)
 | []=>none
 | r::q=>match pos[r]? with
  | none=>none
  | some m=>if q.length<m then none else some (r,q.take m)
inductive RdOut (w w':W8):Option (Nat × List Nat)->Ending->Prop
 | no:RdOut w w' none (.returned (.tuple #[.agg #[.int .i64 0,.slice none 0 0],.bool false]))
 | yes {r:Nat} {fr:List Nat} {a:O8} {c:Nat}:w'.ownsRow w.heap.size 3 1 (.slice a fr.length c) fr.length (cO fr)->RdOut w w' (some (r,fr)) (.returned (.tuple #[.agg #[.int .i64 (r:Nat),.slice a fr.length c],.bool true]))
structure fh (w:W8)(r:Nat)(fr:List Nat)(v:Value)(wr:W8):Prop where
 k:Below w.heap.size w wr
 res:wr.heap[w.heap.size]?=some (.cells #[.int .i64 0,.slice none 0 0] 150 (0,0))
 box:wr.heap[w.heap.size+1]?=some (.cells #[.int .i64 (r:Nat),v] 150 (0,0))
 row:wr.ownsRow (w.heap.size+1+1) 3 1 v fr.length (cO fr)
variable {wr w:W8} {v:Value} {fr:List Nat}
theorem fh.lt {r:Nat}(h:fh w r fr v wr):w.heap.size+1<wr.heap.size:=(Array.getElem?_eq_some_iff.1 h.box).1
theorem fh.below {r:Nat}{w':W8}(h:fh w r fr v wr)(k:Below wr.heap.size wr w'):fh w r fr v w':=
 have l:=h.lt
 ⟨h.k.trans (k.mono h.k.size),(k.block _ (by omega)).trans h.res,(k.block _ l).trans h.box,own_below h.row k (λ g e=>(h.row.lt g e).2)⟩
theorem fh.start (w:W8)(r:Nat):fh w r [] (.slice none 0 0) ((w.alloc (.cells #[.int .i64 0,.slice none 0 0] 150)).alloc (.cells #[.int .i64 (r:Nat),.slice none 0 0] 150)):=by
 refine⟨((Below.refl _ w).alloc L9 _).alloc (by simp) _,?_,?_,World.ownsRow_nil _ _ _ _⟩
 ·rw[Below.heap_alloc _ _ _ (by simp)];exact heap_alloc_new w _
 ·have:=heap_alloc_new (w.alloc (.cells #[.int .i64 0,.slice none 0 0] 150)) (.cells #[.int .i64 (r:Nat),.slice none 0 0] 150);rw[World.size_alloc] at this;exact this
variable {W w5:W8}
theorem fh.add {r:Nat}{v':Value}{x:Nat}(h:fh w r fr v wr)(hW:Below wr.heap.size wr W)(hg:W.grownBy w5 v.ownBlock)(aI:w5.ownsRow (w.heap.size+1+1) 3 1 v' (fr.length+1) (cO fr++[.int .i64 (x:Nat)])):fh w r (fr++[x]) v' (w5.setCell ⟨w.heap.size+1,1,none⟩ v'):=by
 have hB:=h.below hW;have l:=hB.lt;have k5:Kept v.ownBlock.toList W w5:=Kept.eK hg;have aX:∀ x∈v.ownBlock.toList,w.heap.size+1+1<=x:=λ x hx=>(hB.row.lt x (by simpa using hx)).1
 have b1:w5.heap[w.heap.size+1]?=some (.cells #[.int .i64 (r:Nat),v] 150 (0,0)):=(k5.block _ l (λ hm=>by have:=aX _ hm;omega)).trans hB.box;have b0:w5.heap[w.heap.size]?=some (.cells #[.int .i64 0,.slice none 0 0] 150 (0,0)):=(k5.block _ (by omega) (λ hm=>by have:=aX _ hm;omega)).trans hB.res;refine⟨?_,?_,by rw[heap_setCell_same _ _ _ _ _ _ b1];rfl,?_⟩
 ·refine Below.setCell ?_ (by show w.heap.size<=w.heap.size+1;omega) _;have hs:=hB.k.size;refine⟨hg.os.trans hB.k.os,hg.tape.trans hB.k.tape,hg.output.trans hB.k.output,Nat.le_trans hB.k.size hg.size,λ i hi=>?_⟩;rw[hg.block i (by omega) (λ e=>by have:=(hB.row.lt i e.symm).1;omega)];exact hB.k.block i hi
 ·rw[Below.heap_setCell _ _ _ _ (by show w.heap.size≠w.heap.size+1;omega)];exact b0
 ·rw[List.length_append,show cO (fr++[x])=cO fr++[.int .i64 (x:Nat)] by unfold cO;rw[List.map_append];rfl];exact ownsRow_setCell_below aI (by show w.heap.size+1<_;omega) _
theorem fh.AP {r:Nat}(h:fh w r fr v wr)(hW:Below wr.heap.size wr W)(hg:W.grownBy w5 v.ownBlock):w5.heap[w.heap.size+1]?=some (.cells #[.int .i64 (r:Nat),v] 150 (0,0)):=by
 have hB:=h.below hW;have l:=hB.lt;have k5:Kept v.ownBlock.toList W w5:=Kept.eK hg;exact (k5.block _ l (λ hm=>by have:=(hB.row.lt _ (by simpa using hm)).1;omega)).trans hB.box
theorem fh.va {r:Nat}(h:fh w r fr v wr):wr.cell? ⟨w.heap.size,0,none⟩=some (.int .i64 0)/\wr.cell? ⟨w.heap.size,1,none⟩=some (.slice none 0 0)/\wr.frozen? ⟨w.heap.size,0,none⟩=false/\wr.frozen? ⟨w.heap.size,1,none⟩=false:=⟨(block_cells h.res 0).1,(block_cells h.res 1).1,(block_cells h.res 0).2,(block_cells h.res 1).2⟩
theorem readnode_any (w:W8)(base:Nat)(a:O8)(c:Nat)(bs:List Nat)(hb:iP w a c bs)(ar:O8)(cr:Nat)(rs:List PR)(hr:bR w base (.slice ar rs.length cr) rs)(h3:∀ r∈rs,r.bs.length<=3):
  Calls Tryz.prog 177 #[.slice a bs.length c,.slice ar rs.length cr] w λ e w'=>RdOut w w' (readP (posL rs) bs) e/\Below w.heap.size w w':=by
 have k0:Below w.heap.size w (w.alloc (.cells #[.int .i64 0,.slice none 0 0] 150)):=B9.alloc L9 _;have z0:(w.alloc (.cells #[.int .i64 0,.slice none 0 0] 150)).cell? ⟨w.heap.size,0,none⟩=some (.int .i64 0):=(block_cells (heap_alloc_new w _) 0).1;have z1:(w.alloc (.cells #[.int .i64 0,.slice none 0 0] 150)).cell? ⟨w.heap.size,1,none⟩=some (.slice none 0 0):=(block_cells (heap_alloc_new w _) 1).1;have cq:=hide k0;have HR:=hide hr
 cases bs with
 | nil=>
  clear hb hr k0;go_enter Tryz.func177,Tryz.ntmps177;go_wp2_with fail;refine bodyPost_ret (v:=.tuple #[.agg #[.int .i64 0,.slice none 0 0],.bool false]) (by simp[results,Tryz.results177,go_sem]) rfl ?_;exact⟨.no,ad cq⟩
 | cons r q=>
  obtain⟨g,o,rfl,hg,hc⟩:=hb.at_ (by simp);have F1:=hb.byte r List.mem_cons_self;have kR:=hb.cap;have yQ:=hb.max;have HB:=hide hb;have c0:=(k0.cell (p:=⟨g,o,none⟩) hg).trans (hc 0 (by simp));simp only[List.getElem_cons_zero] at c0;have hlen:(r::q).length=q.length+1:=rfl;rw[hlen] at kR ⊢;clear hb hr k0 hc hlen;have FX:((q.length:Int)+1==0)=false:=by rw[beq_eq_false_iff_ne];omega
  by_cases eI:r<rs.length
  ·have J3:(r:Int)<rs.length:=(by omega);have lI:¬ rs.length<=r:=(by omega);have kX:(rs[r].bs.filter (isNeg false)).length=(posOf rs[r].bs).length:=(by unfold posOf aC;rw[List.length_map,List.length_map]);have kh:(posL rs)[r]?=some (posOf rs[r].bs).length:=(by unfold posL;rw[List.getElem?_map,List.getElem?_eq_getElem eI];rfl);have ey:(posOf rs[r].bs).length<=3:=Nat.le_trans (posOf_len _) (h3 _ (List.getElem_mem eI));have od:=fh.start w r;go_enter Tryz.func177,Tryz.ntmps177;go_upto_region 4 with fail;clear c0;generalize ((w.alloc (.cells #[.int .i64 0,.slice none 0 0] 150)).alloc (.cells #[.int .i64 (r:Nat),.slice none 0 0] 150))=w1 at *;have ez:=(ad HR).below od.k;obtain⟨gr,oJ,nM,oS,o5,pn,oY,fL⟩:=row_at pr_len ez.row r eI;injection nM with h4 h5 h6
   subst h4 h6;have ak:=ez.each _ (List.getElem_mem eI);obtain⟨ah,ch,nz⟩:=own_slice ak.hd;obtain⟨ab,cb,iB⟩:=own_slice ak.bo.row;have r0:=fL 0 (by omega);have r1:=fL 1 (by omega);have r2:=fL 2 (by omega);simp only[PR.cells,nz,iB,Nat.add_zero,List.getElem?_cons_zero,List.getElem?_cons_succ] at r0 r1 r2;obtain⟨b0,-⟩:=block_cells od.box 0;simp only[List.getElem?_toArray,List.getElem?_cons_zero] at b0;have eL:=ak.bo;rw[iB] at eL;have tI:=hide (positive_any w1 base rs[r].R.pd ah rs[r].R.ts.length ch ab cb rs[r].bs eL (by have:=h3 _ (List.getElem_mem eI);omega));have vq:=hide od;clear ak eL fL ez od z0 z1;go_wp2_with fail;refine (ad tI).mono ?_;rintro e w2 ⟨ap,cp,rfl,-,aU,-⟩;have dw:=(ad vq).below aU;have mx:=(ad HB).below dw.k;have yj:=dw.box;rw[kX];generalize hM:(posOf rs[r].bs).length=M at *
   by_cases hq:q.length<M
   ·have HN:=hide (show readP (posL rs) (r::q)=none by rw[readP];simp only[kh];rw[if_pos hq]);obtain⟨s0,s1,f0,f1⟩:=dw.va;have tz:=hide dw.k;have AE:(q.length:Int)+1<1+M:=(by omega);clear dw mx yj kh tI vq b0 r0 r1 r2 hM;go_wp2_with fail;obtain⟨p0,p1⟩:=cs_two s0 s1 (.int .i64 0) (.slice none 0 0);refine bodyPost_ret (v:=.tuple #[.agg #[.int .i64 0,.slice none 0 0],.bool false]) (by simp[results,Tryz.results177,go_sem,p0,p1]) rfl ?_;rw[ad HN];exact⟨.no,((ad tz).setCell L9 _).setCell L9 _⟩
   ·have HN:=hide (show readP (posL rs) (r::q)=some (r,q.take M) by rw[readP];simp only[kh];rw[if_neg hq]);have AE:¬ (q.length:Int)+1<1+M:=(by omega);obtain⟨i0,hi,dK,ir,bZ⟩:=info_parts infoInt;have fG:=hide dw;have s1:(1:Int)<=1+M:=(by omega);have s2:(1:Int)+M<=c:=(by omega);have s3:(0:Int)<=1+M:=(by omega);clear dw mx yj kh tI vq b0 r0 r1 r2 hM
    by_cases mC:c=1
    ·have ua:M=0:=(by omega);subst ua;go_wp2_with fail
     go_loopg [45] 0 (λ gg i wr=>gg=0/\i=.int .i64 0/\fh w r [] (.slice none 0 0) wr)
     exact⟨rfl,rfl,ad fG⟩
     case round=>
      clear fG;obtain⟨nB,rfl,ak⟩:=hrel;obtain⟨b0,IF⟩:=block_cells ak.box 0;obtain⟨b1,IG⟩:=block_cells ak.box 1;obtain⟨s0,s4,f0,f1⟩:=ak.va;simp only[List.getElem?_toArray,List.getElem?_cons_zero,List.getElem?_cons_succ] at b0 b1;have bt:=hide ak;clear ak;go_wp2_with fail;obtain⟨p0,p1⟩:=cs_two s0 s4 (.int .i64 (r:Nat)) (.slice none 0 0);refine bodyPost_ret (v:=.tuple #[.agg #[.int .i64 (r:Nat),.slice none 0 0],.bool true]) (by simp[results,Tryz.results177,go_sem,p0,p1]) rfl ?_;rw[ad HN];exact⟨.yes (fr:=q.take 0) (World.ownsRow_nil _ _ _ _),((ad bt).k.setCell L9 _).setCell L9 _⟩
    ·go_wp2_with fail;rw[show 1+M-1=M by omega]
     go_loopg [45] M (λ gg i wr=>∃ (j:Nat) (v:Value),j<=M/\gg=M-j/\i=.int .i64 j/\fh w r (q.take j) v wr)
     exact⟨0,_,Nat.zero_le _,rfl,rfl,ad fG⟩
     case round=>
      clear fG;obtain⟨j,v,hj,uo,rfl,ak⟩:=hrel;obtain⟨av,cv,rfl⟩:=own_slice ak.row;have bP:=ak.lt;have ij:(q.take j).length=j:=(by rw[List.length_take];omega);obtain⟨b0,IF⟩:=block_cells ak.box 0;obtain⟨b1,IG⟩:=block_cells ak.box 1;simp only[List.getElem?_toArray,List.getElem?_cons_zero,List.getElem?_cons_succ] at b0 b1
      by_cases hlj:j<M
      ·have FE:j<q.length:=(by omega);obtain⟨g',o',e1,jo,qg⟩:=((ad HB).below ak.k).at_ (by simp);injection e1 with e1
       injection e1 with e1 e2
       subst e1 e2;have cj:=qg (j+1) (by simp;omega);simp only[List.getElem_cons_succ] at cj;have Gj:q[j]<256:=(ad HB).byte _ (List.mem_cons_of_mem _ (List.getElem_mem FE));have vJ:(j:Int)<M:=(by omega);have HT:=hide (show q.take (j+1)=q.take j++[q[j]] from List.take_succ_eq_append_getElem FE);generalize q[j]=x at *;rw[show o+(j+1)=o+1+j by omega] at cj;have aE:=ak.row;have bH:=aE.alloc (.cells #[.int .i64 (x:Nat)] 3);have gF:=hide (World.news_of_block (heap_alloc_new wr (.cells #[.int .i64 (x:Nat)] 3)));have bt:=hide ak;rw[ij] at b1 bH;generalize hF:q.take j=F at *;have HF:=hide hF;have rK:=hide ij;clear ak aE qg hF ij;go_wp2_with (at_builtin;refine wpList_append_own _ rfl _ _ 24 rfl (w.heap.size+1+1) 3 i0 _ 1 8 Tryz.underlying24 hi dK ir bZ rfl (by decide) _ _ _ rfl bH ⟨wr.heap.size,0,none⟩ 1 1 [.int .i64 (x:Nat)] rfl rfl (ad gF) (by intro u hu;rw[List.mem_singleton.1 hu];rfl) (by unfold maxLen;omega) (by omega) (by simp;omega) ?_;intro v6 w6 hown6 lF hne6;clear hne6;obtain⟨a6,c6,rfl⟩:=own_slice hown6;have pj:=(ad bt).AP (B9.alloc L9 _) (by rw[ad rK];exact lF);obtain⟨d1,df1⟩:=block_cells pj 1;have A9:=hide ((ad bt).add (x:=x) (v':=.slice a6 (j+1) c6) (B9.alloc L9 _) (by rw[ad rK];exact lF) (by rw[ad rK];exact hown6));clear hown6 lF pj);go_roundg (M-(j+1));exact⟨j+1,_,by omega,rfl,by go_num,by rw[ad HT];exact ad A9⟩;omega
      ·have Ju:j=M:=(by omega);subst Ju;obtain⟨s0,s4,f0,f1⟩:=ak.va;have aE:=ak.row;rw[ij] at aE b1;have iV:=hide (show wr.ownsRow (w.heap.size+1+1) 3 1 (.slice av j cv) j (cO (q.take j)) from aE);have bt:=hide ak;have rK:=hide ij;clear ak aE ij;go_wp2_with fail;obtain⟨p0,p1⟩:=cs_two s0 s4 (.int .i64 (r:Nat)) (.slice av j cv);refine bodyPost_ret (v:=.tuple #[.agg #[.int .i64 (r:Nat),.slice av j cv],.bool true]) (by simp[results,Tryz.results177,go_sem,p0,p1]) rfl ?_;rw[ad HN];have hy:=RdOut.yes (w:=w) (w':=(wr.setCell ⟨w.heap.size,0,none⟩ (.int .i64 (r:Nat))).setCell ⟨w.heap.size,1,none⟩ (.slice av j cv)) (r:=r) (fr:=q.take j) (a:=av) (c:=cv) (by rw[ad rK];exact aw (ownsRow_setCell_below (ownsRow_setCell_below (ad iV) (by show w.heap.size<_;omega) _) (by show w.heap.size<_;omega) _) (by omega));rw[ad rK] at hy;exact⟨hy,((ad bt).k.setCell L9 _).setCell L9 _⟩
  ·have J3:¬ (r:Int)<rs.length:=(by omega);have HN:=hide (show readP (posL rs) (r::q)=none by rw[readP,List.getElem?_eq_none (by unfold posL;rw[List.length_map];omega)]);go_enter Tryz.func177,Tryz.ntmps177;go_wp2_with fail;refine bodyPost_ret (v:=.tuple #[.agg #[.int .i64 0,.slice none 0 0],.bool false]) (by simp[results,Tryz.results177,go_sem]) rfl ?_;rw[ad HN];exact⟨.no,ad cq⟩
end
end Go.Proofs.YtldkpahaocjdpaaGreat
