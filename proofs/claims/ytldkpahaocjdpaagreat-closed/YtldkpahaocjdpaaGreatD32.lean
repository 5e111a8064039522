/-
  Plain: the bytes of a witness, as the program takes them.
-/
import Derived.Test.YtldkpahaocjdpaaGreatD31
set_option maxHeartbeats 16000000
set_option maxRecDepth 1000000
namespace Go.Proofs.YtldkpahaocjdpaaGreat
section
def rdP (pos:List Nat):Nat->List Nat->Option (List (Nat × List Nat))
 | 0,[]=>some []
 | 0,_::_=>none
 | _+1,[]=>none
 | n+1,r::q=>match pos[r]? with
  | none=>none
  | some m=>if q.length<m then none else match rdP pos n (q.drop m) with
   | none=>none
   | some l=>some ((r,q.take m)::l)
def zdd:List yY->List Nat->List Th->zX->Option zX
 | [],_,_,e=>some e
 | a::r,fr,S,e=>match fr with
  | []=>none
  | x::q=>match S[x]? with
   | none=>none
   | some t=>match zV e a t with
    | none=>none
    | some e'=>zdd r q S e'
structure yL where
 r:PR
 e:zX
 t:Th
def zaj (rp:List PR):List (Nat × List Nat)->List yL->Option (List yL)
 | [],st=>some st
 | x::q,st=>match rp[x.1]? with
  | none=>none
  | some R=>match zdd (zK R.bs) x.2 (st.map (·.t)) [] with
   | none=>none
   | some e=>zaj rp q (st++[⟨R,e,zT e (vJ R)⟩])
theorem zde (a:yY)(r:List yY)(fr:List Nat)(S:List Th)(e:zX):zdd (a::r) fr S e=match fr with | []=>none | x::q=>match S[x]? with | none=>none | some t=>match zV e a t with | none=>none | some e'=>zdd r q S e':=by cases fr <;> rfl
def zix (rp:List PR):List Nat:=rp.map λ r=>(zK r.bs).length
theorem zjv:∀ (cs:List yY) (fr:List Nat) (S:List Th) (e0 e:zX),zdd cs fr S e0=some e->e∈zQ (S.map λ t=>(t,0)) cs e0
 | [],_,_,_,_,h=>by obtain rfl:=Option.some.inj h;simp[zQ]
 | a::r,fr,S,e0,e,h=>by
  rw[zde] at h
  cases fr with
  | nil=>cases h
  | cons x q=>
   simp only at h
   cases hx:S[x]? with
   | none=>rw[hx] at h;cases h
   | some t=>
    rw[hx] at h;simp only at h
    cases hp:zV e0 a t with
    | none=>rw[hp] at h;cases h
    | some e'=>
     rw[hp] at h;simp only at h;rw[zQ,List.mem_flatMap];refine⟨(t,0),List.mem_map.2 ⟨t,List.mem_of_getElem? hx,rfl⟩,?_⟩;simp only[hp];exact zjv r q S e' e h
theorem zhy (ls:List (yX × Value)):(zK ls).length<=ls.length:=by
 unfold zK zY;rw[List.length_map,List.length_map];exact List.length_filter_le _ _
end
section
open Go.RowKit Go.Maps
structure ND where
 r:Nat
 fr:List Nat
 v:Value
def dX (x:ND):Nat × List Nat:=(x.r,x.fr)
def zax (x:ND):V8:=[.int .i64 (x.r:Nat),x.v]
theorem zdw (x:ND):(zax x).length=2:=rfl
structure jT (w:W8)(base:Nat)(nv:Value)(aJ:List ND):Prop where
 row:w.ownsRow base 150 2 nv aJ.length (aJ.flatMap zax)
 each:∀ x∈aJ,w.ownsRow base 3 1 x.v x.fr.length (cO x.fr)
variable {nv:Value} {base:Nat} {w:W8}
theorem jT.below {w':W8}{aJ:List ND}(h:jT w base nv aJ)(k:Below w.heap.size w w'):jT w' base nv aJ:=
 ⟨zG h.row k (λ g e=>(h.row.lt g e).2),λ x hx=>zG (h.each x hx) k (λ g e=>((h.each x hx).lt g e).2)⟩
theorem jT.low {base':Nat}{aJ:List ND}(h:jT w base nv aJ)(hb:base'<=base):jT w base' nv aJ:=⟨zI h.row hb,λ x hx=>zI (h.each x hx) hb⟩
def zd3 (B:Nat->Bool):List (Nat × List Nat)->Nat->(Nat->Nat)->List (Nat × List Nat)->List (Nat × List Nat)
 | [],_,_,out=>out
 | x::r,i,pl,out=>if B i then zd3 B r (i+1) (fI pl i out.length) (out++[(x.1,x.2.map (fI pl i out.length))]) else zd3 B r (i+1) pl out
variable {pl:Nat->Nat}
theorem zyw {B:Nat->Bool}{l:List (Nat × List Nat)}{k:Nat}{out:List (Nat × List Nat)}(h:k<l.length):zd3 B (l.drop k) k pl out=if B k then zd3 B (l.drop (k+1)) (k+1) (fI pl k out.length) (out++[(l[k].1,l[k].2.map (fI pl k out.length))]) else zd3 B (l.drop (k+1)) (k+1) pl out:=by
 rw[List.drop_eq_getElem_cons h];rfl
structure gu (w:W8)(n:Nat)(pl:Nat->Nat)(out:List ND)(nv:Value)(wr:W8):Prop where
 rD:aG wr w.heap.size 3 n (λ i=>.int .i64 (pl i:Nat))
 aJ:jT wr (w.heap.size+1) nv out
 k:Below w.heap.size w wr
theorem gu.below {w:W8}{n:Nat}{pl:Nat->Nat}{out:List ND}{nv:Value}{wr w':W8}(h:gu w n pl out nv wr)(k:Below wr.heap.size wr w'):gu w n pl out nv w':=
 ⟨h.rD.below k,h.aJ.below k,h.k.trans (k.mono h.k.size)⟩
variable {out:List ND} {n:Nat}
theorem gu.put {wr:W8}(h:gu w n pl out nv wr)(i v:Nat):gu w n (fI pl i v) out nv (wr.setCell ⟨w.heap.size,i,none⟩ (.int .i64 (v:Nat))):=by
 have blk:∀ g,g≠w.heap.size->(wr.setCell ⟨w.heap.size,i,none⟩ (.int .i64 (v:Nat))).heap[g]?=wr.heap[g]?:=λ g hg=>Below.heap_setCell _ _ _ _ (by simpa using hg)
 refine⟨(h.rD.set i (.int .i64 (v:Nat))).eq λ j _=>?_,⟨zP h.aJ.row (λ g e=>blk g (by have:=(h.aJ.row.lt g e).1;omega)),λ x hx=>zP (h.aJ.each x hx) (λ g e=>blk g (by have:=((h.aJ.each x hx).lt g e).1;omega))⟩,h.k.setCell L9 _⟩;unfold fI
 split <;> rfl
theorem gu.add {GF:Value}{wX W w5:W8}{x:ND}(h:gu w n pl out nv wX)(hx:wX.ownsRow (w.heap.size+1) 3 1 x.v x.fr.length (cO x.fr))(hW:Below wX.heap.size wX W)(hg:W.grownBy w5 nv.ownBlock)(aI:w5.ownsRow (w.heap.size+1) 150 2 GF (out.length+1) (out.flatMap zax++zax x)):gu w n pl (out++[x]) GF w5:=by
 have I5:yC [] wX W:=⟨hW.os,hW.tape,hW.output,hW.size,λ i hi _=>hW.block i hi⟩;have k5:yC nv.ownBlock.toList wX w5:=(I5.mono (by simp)).trans (yC.eK hg);have n1:∀ b∈nv.ownBlock.toList,aY wX 3 b:=vH h.aJ.row (by decide);have fN:∀ b∈nv.ownBlock.toList,w.heap.size+1<=b:=λ b hb=>(h.aJ.row.lt b (by simpa using hb)).1
 refine⟨h.rD.block (k5.block _ h.rD.lt (λ hm=>by have:=fN _ hm;omega)),⟨?_,λ y hy=>?_⟩,yE h.k k5 h.k.size (λ b hb=>by have:=fN b hb;omega)⟩
 ·rw[List.length_append,List.flatMap_append];simpa using aI
 ·rcases List.mem_append.1 hy with hy | hy
  ·exact vR (h.aJ.each y hy) k5 (λ b hb=>.inr (n1 b hb))
  ·rw[List.mem_singleton.1 hy];exact vR hx k5 (λ b hb=>.inr (n1 b hb))
structure zzx (wB:W8)(m:Nat)(fv:Nat->Nat)(j:Nat)(wi:W8):Prop where
 k:Below wB.heap.size wB wi
 row:aG wi wB.heap.size 3 m (λ q=>.int .i64 ((if q<j then fv q else 0:Nat)))
def zzv (w:W8)(ns:List (Nat × List Nat))(e:Ending)(w':W8):Prop:=
 ∃ (out:List ND) (a:O8) (c:Nat),e=.returned (.slice a out.length c)/\jT w' w.heap.size (.slice a out.length c) out/\out.map dX=ns/\Below w.heap.size w w'
theorem zpf:(Tryz.prog.info? 150).map (λ i=>(i.zero,i.size,i.bytes))=some (some (.agg #[.int .i64 0,.slice none 0 0]),2,32):=by kernel_rfl
theorem z2a (w1:W8)(x:ND)(j:Nat)(u:Value)(h:(zax x)[j]?=some u):(w1.alloc (.cells #[.int .i64 (x.r:Nat),x.v] 150)).cell? ((⟨w1.heap.size,0,none⟩:Addr).add j)=some u:=by
 have e:(⟨w1.heap.size,0,none⟩:Addr).add j=⟨w1.heap.size,j,none⟩:=by unfold Addr.add;split <;> simp_all
 rw[e,World.cell?_alloc_at _ _ _ _ rfl];simpa[zax] using h
theorem z89 {r:Nat}{fr:List Nat}(p:O8){c:Nat}:∀ u∈zax ⟨r,fr,.slice p n c⟩,u.oneCell'=true:=by
 intro u hu;simp[zax] at hu;rcases hu with rfl | rfl <;> rfl
theorem z3c (w:W8)(base gb:Nat)(an:O8)(cn:Nat)(aJ:List ND)(B:Nat->Bool)(h:jT w base (.slice an aJ.length cn) aJ)(hB:aG w gb 4 aJ.length (λ i=>.bool (B i)))(hl:aJ.length<=50)(hf:∀ x∈aJ,x.fr.length<=3/\∀ y∈x.fr,y<aJ.length):
  Calls Tryz.prog 70 #[.slice an aJ.length cn,.slice (some ⟨gb,0,none⟩) aJ.length aJ.length] w (zzv w (zd3 B (aJ.map dX) 0 (λ _=>0) [])):=by
 obtain⟨i0,hi,dK,cB,bZ⟩:=info_parts zpf;have H:=zC h;have HB:=zC hB;have HF:=zC hf;clear h hB hf;have kL:=λ n hn=>zld n hn
 have C0:=zld aJ.length (by omega);go_enter Tryz.func70,Tryz.ntmps70;go_upto_region 3 with fail;generalize hw0:World.alloc w _=w0;have k0:Below w.heap.size w w0:=by rw[<-hw0];exact (Below.refl w.heap.size w).alloc L9 _
 have r0:aG w0 w.heap.size 3 aJ.length (λ _=>.int .i64 0):=by rw[<-hw0];exact aG.start w _ _ _
 clear hw0 C0;have H0:=zC (show gu w aJ.length (λ _=>0) [] (.slice none 0 0) w0 from ⟨r0,⟨World.ownsRow_nil _ _ _ _,by simp⟩,k0⟩);clear k0 r0;go_upto_region 4 with fail
 go_loopg [5,17] aJ.length (λ gg nv i wr=>∃ (k:Nat) (pl:Nat->Nat) (out:List ND),k<=aJ.length/\gg=aJ.length-k/\i=.int .i64 k/\out.length<=k/\gu w aJ.length pl out nv wr/\zd3 B ((aJ.map dX).drop k) k pl (out.map dX)=zd3 B (aJ.map dX) 0 (λ _=>0) [])
 exact⟨0,_,[],Nat.zero_le _,rfl,rfl,Nat.le_refl _,zA H0,rfl⟩
 case round=>
  clear H0;obtain⟨k,pl,out,hk,fM,rfl,AB,ak,bj⟩:=hrel;obtain⟨ao,co,rfl⟩:=zE ak.aJ.row;have vo:=zC bj;clear bj
  by_cases aN:k<aJ.length
  ·obtain⟨x,pL⟩:∃ x,x=aJ[k]:=⟨_,rfl⟩;have bC:x∈aJ:=(by rw[pL];exact List.getElem_mem aN);obtain⟨g,cap,hv,iC,dp,dG,dx,hc⟩:=vL zdw (zA H).row k aN;injection hv with h1 h2 h3
   subst h1 h3;have u3:=(zA H).each x bC;obtain⟨av,cv,u4⟩:=zE u3;have e0:wr.cell? ⟨g,k*2,none⟩=some (.int .i64 (x.r:Nat)):=(by rw[pL];exact (ak.k.cell (p:=⟨g,k*2,none⟩) dp).trans (hc 0 (by omega)));have e1:wr.cell? ⟨g,k*2+1,none⟩=some (.slice av x.fr.length cv):=(by rw[<-u4,pL];exact (ak.k.cell (p:=⟨g,k*2+1,none⟩) dp).trans (hc 1 (by omega)));have gW:(k:Int)<aJ.length:=(by omega);have aL:=(zA HB).cell aN;have Cz:=(zA HB).lt;have fu:(wr.alloc (.cells #[.int .i64 (x.r:Nat),.slice av x.fr.length cv] 150)).cell? ⟨gb,k,none⟩=some (.bool (B k)):=by
    have k1:Below w.heap.size w (wr.alloc (.cells #[.int .i64 (x.r:Nat),.slice av x.fr.length cv] 150)):=ak.k.alloc ak.k.size _;exact (k1.cell (p:=⟨gb,k,none⟩) Cz).trans aL
   have bt:=zC ak;have HX:=zC pL;have fT:=zC (zyw (B:=B) (l:=aJ.map dX) (k:=k) (pl:=pl) (out:=out.map dX) (by simpa using aN));obtain⟨Fs,lE⟩:=zA HF x bC;have xw:=zC u3;have BM:=zC u4;have wI:=zC lE;clear hc ak pL bC h2 u3 u4 lE aL
   cases hb:B k with
   | false=>
    rw[hb] at fu;have eS:=zC hb;clear hb;go_wp2_with fail;go_roundg (aJ.length-(k+1))
    case measure=>omega
    case rel=>
     have ak:=zA bt;refine⟨k+1,pl,out,by omega,rfl,by go_num,by omega,ak.below (B9.alloc L9 _),?_⟩;rw[<-zA vo,zA fT,zA eS];rfl
   | true=>
    rw[hb] at fu;have eS:=zC hb;clear hb;have ak:=zA bt;have di:=ak.below ((Below.refl wr.heap.size wr).alloc L9 (.cells #[.int .i64 (x.r:Nat),.slice av x.fr.length cv] 150));have pc:=di.rD.cell aN;have pf:=di.rD.fz k;have hpw:w.heap.size<wr.heap.size:=ak.rD.lt;have LH:=(ak.put k out.length).below (B9.alloc L9 (.cells #[.int .i64 (x.r:Nat),.slice av x.fr.length cv] 150));have tu:=zC LH;have GD:((wr.setCell ⟨w.heap.size,k,none⟩ (.int .i64 (out.length:Nat))).alloc (.cells #[.int .i64 (x.r:Nat),.slice av x.fr.length cv] 150)).heap[wr.heap.size]?=some (.cells #[.int .i64 (x.r:Nat),.slice av x.fr.length cv] 150 (0,0)):=by
     have:=heap_alloc_new (wr.setCell ⟨w.heap.size,k,none⟩ (.int .i64 (out.length:Nat))) (.cells #[.int .i64 (x.r:Nat),.slice av x.fr.length cv] 150);rw[World.size_setCell] at this;exact this
    have nW:=zC GD;have uG:=kL x.fr.length (by omega);clear ak di LH GD kL;go_upto_region 9 with fail;generalize sT:World.alloc (World.setCell wr _ _) (.cells #[.int .i64 (x.r:Nat),.slice av x.fr.length cv] 150)=wB at *;have sB:wB.heap.size=wr.heap.size+1:=(by rw[<-sT];simp);clear sT fu pc pf uG e0 e1;generalize tU:World.alloc wB _=wC;have kC:Below wB.heap.size wB wC:=(by rw[<-tU];exact (Below.refl wB.heap.size wB).alloc L9 _);have rC:aG wC wB.heap.size 3 x.fr.length (λ _=>.int .i64 0):=(by rw[<-tU];exact aG.start wB _ _ _);clear tU;obtain⟨cH,uL⟩:∃ cH,cH=fI pl k out.length:=⟨_,rfl⟩;obtain⟨fv,Fw⟩:∃ fv:Nat->Nat,fv=λ q=>cH (x.fr[q]?.getD 0):=⟨_,rfl⟩
    have D4:=zC Fw;rw[<-uL] at tu;have wZ:=zC uL;have H1:=zC (show zzx wB x.fr.length fv 0 wC from ⟨kC,rC.eq (λ i hi=>by simp)⟩);have GC:=(zB ((kC.block _ (by omega)).trans (zA nW)) 1).1;simp only[List.getElem?_toArray,List.getElem?_cons_zero,List.getElem?_cons_succ] at GC;clear kC rC uL Fw;rw[<-sB];have n9:=zC sB;clear sB;generalize hxb:wr.heap.size=xb at *;go_upto_region 10 with fail
    go_loopg [39] x.fr.length (λ gg2 jj wi=>∃ j:Nat,j<=x.fr.length/\gg2=x.fr.length-j/\jj=.int .i64 j/\zzx wB x.fr.length fv j wi)
    exact⟨0,Nat.zero_le _,rfl,rfl,zA H1⟩
    case round=>
     clear H1 GC;obtain⟨j,hj,uo,rfl,mH⟩:=hrel;have rn:=(zA tu).below mH.k
     by_cases hlj:j<x.fr.length
     ·have u5:=zG (zA xw) rn.k (λ g e=>((zA xw).lt g e).2);rw[zA BM] at u5;obtain⟨gv,rfl,Jp,Da,Cv,Cw⟩:=z2d u5 j hlj;have hy:x.fr[j]<aJ.length:=zA wI _ (List.getElem_mem hlj);have hpy:=rn.rD.cell hy;have hrc:=mH.row.cell hlj;have Di:=mH.row.fz j;have ER:(j:Int)<x.fr.length:=(by omega);have Kr:(x.fr[j]:Int)<aJ.length:=(by omega);have Hw:=zC mH;have HV:=zC (show fv j=cH x.fr[j] by rw[zA D4];simp[hlj]);clear mH rn u5;generalize x.fr[j]=y at *;go_wp2_with fail;go_roundg (x.fr.length-(j+1))
      case measure=>omega
      case rel=>
       have mH:=zA Hw;refine⟨j+1,by omega,rfl,by go_num,mH.k.setCell L9 _,(mH.row.set j _).eq λ q hq=>?_⟩
       by_cases e:q=j
       ·subst e;simp[zA HV]
       ·have e2:(q<j+1)=(q<j):=(by apply propext;omega);simp only[if_neg e,e2]
     ·have CH:j=x.fr.length:=(by omega);subst CH;have sH:aG wr wB.heap.size 3 x.fr.length (λ q=>.int .i64 (fv q:Nat)):=mH.row.eq (λ q hq=>by rw[if_pos hq]);have da:=(mH.k.block xb (by have:=zA n9;omega)).trans (zA nW);have b0:=(zB da 0).1;simp only[List.getElem?_toArray,List.getElem?_cons_zero] at b0;have lE:((List.range x.fr.length).map fv)=x.fr.map cH:=by
       rw[zA D4];apply List.ext_getElem
       ·simp
       ·intro q h1 h2;simp at h1;simp[h1]
      have Kg:w.heap.size+1<=wB.heap.size:=(zA tu).rD.lt;have aI:=sH.cO (by unfold maxLen;omega) (base:=w.heap.size+1) Kg;rw[lE] at aI;have fO:wr.ownsRow (w.heap.size+1) 3 1 (.slice (some ⟨wB.heap.size,0,none⟩) x.fr.length x.fr.length) (x.fr.map cH).length (cO (x.fr.map cH)):=(by rw[List.length_map];exact aI);have sV:=mH.k.size;have bH:=rn.aJ.row.alloc (.cells #[.int .i64 (x.r:Nat),.slice (some ⟨wB.heap.size,0,none⟩) x.fr.length x.fr.length] 150);have ng:=zC rn;have Hz:=zC fO;have Df:out.length<=50:=(by omega);clear rn mH sH da lE aI fO;go_wp2_with (at_builtin;refine wpList_append_own _ rfl _ _ 91 rfl (w.heap.size+1) 150 i0 _ 2 32 Tryz.underlying91 hi dK cB bZ rfl (by decide) _ _ _ rfl bH ⟨wr.heap.size,0,none⟩ 1 1 (zax ⟨x.r,x.fr.map cH,.slice (some ⟨wB.heap.size,0,none⟩) x.fr.length x.fr.length⟩) rfl rfl (z2a wr ⟨x.r,x.fr.map cH,.slice (some ⟨wB.heap.size,0,none⟩) x.fr.length x.fr.length⟩) (z89 _) (by unfold maxLen;omega) (by omega) (by simp;omega) ?_;intro v5 w5 hown5 dz hne5;clear hne5;obtain⟨a5,gz,rfl⟩:=zE hown5;have mY:=zC hown5;have br:=zC dz;clear hown5 dz);go_roundg (aJ.length-(k+1))
      case measure=>omega
      case rel=>
       refine⟨k+1,cH,out++[⟨x.r,x.fr.map cH,.slice (some ⟨wB.heap.size,0,none⟩) x.fr.length x.fr.length⟩],by omega,rfl,by go_num,by rw[List.length_append];simp;omega,(zA ng).add (x:=⟨x.r,x.fr.map cH,.slice (some ⟨wB.heap.size,0,none⟩) x.fr.length x.fr.length⟩) (zA Hz) (B9.alloc L9 _) (zA br) (zA mY),?_⟩;rw[<-zA vo,zA fT,zA eS,if_pos rfl,List.map_append,List.length_map,<-zA wZ];simp only[List.getElem_map,<-zA HX];rfl
  ·have he:k=aJ.length:=(by omega);subst he;have HE:=zC (show out.map dX=zd3 B (aJ.map dX) 0 (λ _=>0) [] by rw[<-zA vo,List.drop_of_length_le (by simp)];rfl);have bt:=zC ak;clear ak;go_wp2_with fail;go_ret;exact⟨out,ao,co,rfl,(zA bt).aJ.low (by omega),zA HE,(zA bt).k⟩
end
section
open Go.RowKit Go.Maps
def zhz (pos:List Nat):List Nat->Option (Nat × List Nat)
 | []=>none
 | r::q=>match pos[r]? with
  | none=>none
  | some m=>if q.length<m then none else some (r,q.take m)
inductive z5b (w w':W8):Option (Nat × List Nat)->Ending->Prop
 | no:z5b w w' none (.returned (.tuple #[.agg #[.int .i64 0,.slice none 0 0],.bool false]))
 | yes {r:Nat} {fr:List Nat} {a:O8} {c:Nat}:w'.ownsRow w.heap.size 3 1 (.slice a fr.length c) fr.length (cO fr)->z5b w w' (some (r,fr)) (.returned (.tuple #[.agg #[.int .i64 (r:Nat),.slice a fr.length c],.bool true]))
structure dT (w:W8)(r:Nat)(fr:List Nat)(v:Value)(wr:W8):Prop where
 k:Below w.heap.size w wr
 res:wr.heap[w.heap.size]?=some (.cells #[.int .i64 0,.slice none 0 0] 150 (0,0))
 box:wr.heap[w.heap.size+1]?=some (.cells #[.int .i64 (r:Nat),v] 150 (0,0))
 row:wr.ownsRow (w.heap.size+1+1) 3 1 v fr.length (cO fr)
variable {wr w:W8} {v:Value} {fr:List Nat}
theorem dT.lt {r:Nat}(h:dT w r fr v wr):w.heap.size+1<wr.heap.size:=(Array.getElem?_eq_some_iff.1 h.box).1
theorem dT.below {r:Nat}{w':W8}(h:dT w r fr v wr)(k:Below wr.heap.size wr w'):dT w r fr v w':=
 have l:=h.lt
 ⟨h.k.trans (k.mono h.k.size),(k.block _ (by omega)).trans h.res,(k.block _ l).trans h.box,zG h.row k (λ g e=>(h.row.lt g e).2)⟩
theorem dT.start (w:W8)(r:Nat):dT w r [] (.slice none 0 0) ((w.alloc (.cells #[.int .i64 0,.slice none 0 0] 150)).alloc (.cells #[.int .i64 (r:Nat),.slice none 0 0] 150)):=by
 refine⟨((Below.refl _ w).alloc L9 _).alloc (by simp) _,?_,?_,World.ownsRow_nil _ _ _ _⟩
 ·rw[Below.heap_alloc _ _ _ (by simp)];exact heap_alloc_new w _
 ·have:=heap_alloc_new (w.alloc (.cells #[.int .i64 0,.slice none 0 0] 150)) (.cells #[.int .i64 (r:Nat),.slice none 0 0] 150);rw[World.size_alloc] at this;exact this
variable {W w5:W8}
theorem dT.add {r:Nat}{v':Value}{x:Nat}(h:dT w r fr v wr)(hW:Below wr.heap.size wr W)(hg:W.grownBy w5 v.ownBlock)(aI:w5.ownsRow (w.heap.size+1+1) 3 1 v' (fr.length+1) (cO fr++[.int .i64 (x:Nat)])):dT w r (fr++[x]) v' (w5.setCell ⟨w.heap.size+1,1,none⟩ v'):=by
 have hB:=h.below hW;have l:=hB.lt;have k5:yC v.ownBlock.toList W w5:=yC.eK hg;have aX:∀ x∈v.ownBlock.toList,w.heap.size+1+1<=x:=λ x hx=>(hB.row.lt x (by simpa using hx)).1
 have b1:w5.heap[w.heap.size+1]?=some (.cells #[.int .i64 (r:Nat),v] 150 (0,0)):=(k5.block _ l (λ hm=>by have:=aX _ hm;omega)).trans hB.box;have b0:w5.heap[w.heap.size]?=some (.cells #[.int .i64 0,.slice none 0 0] 150 (0,0)):=(k5.block _ (by omega) (λ hm=>by have:=aX _ hm;omega)).trans hB.res;refine⟨?_,?_,by rw[heap_setCell_same _ _ _ _ _ _ b1];rfl,?_⟩
 ·refine Below.setCell ?_ (by show w.heap.size<=w.heap.size+1;omega) _;have hs:=hB.k.size;refine⟨hg.os.trans hB.k.os,hg.tape.trans hB.k.tape,hg.output.trans hB.k.output,Nat.le_trans hB.k.size hg.size,λ i hi=>?_⟩;rw[hg.block i (by omega) (λ e=>by have:=(hB.row.lt i e.symm).1;omega)];exact hB.k.block i hi
 ·rw[Below.heap_setCell _ _ _ _ (by show w.heap.size≠w.heap.size+1;omega)];exact b0
 ·rw[List.length_append,show cO (fr++[x])=cO fr++[.int .i64 (x:Nat)] by unfold cO;rw[List.map_append];rfl];exact ownsRow_setCell_below aI (by show w.heap.size+1<_;omega) _
theorem dT.AP {r:Nat}(h:dT w r fr v wr)(hW:Below wr.heap.size wr W)(hg:W.grownBy w5 v.ownBlock):w5.heap[w.heap.size+1]?=some (.cells #[.int .i64 (r:Nat),v] 150 (0,0)):=by
 have hB:=h.below hW;have l:=hB.lt;have k5:yC v.ownBlock.toList W w5:=yC.eK hg;exact (k5.block _ l (λ hm=>by have:=(hB.row.lt _ (by simpa using hm)).1;omega)).trans hB.box
theorem dT.va {r:Nat}(h:dT w r fr v wr):wr.cell? ⟨w.heap.size,0,none⟩=some (.int .i64 0)/\wr.cell? ⟨w.heap.size,1,none⟩=some (.slice none 0 0)/\wr.frozen? ⟨w.heap.size,0,none⟩=false/\wr.frozen? ⟨w.heap.size,1,none⟩=false:=⟨(zB h.res 0).1,(zB h.res 1).1,(zB h.res 0).2,(zB h.res 1).2⟩
theorem zsh (w:W8)(base:Nat)(a:O8)(c:Nat)(bs:List Nat)(hb:iP w a c bs)(ar:O8)(cr:Nat)(rs:List PR)(hr:aD w base (.slice ar rs.length cr) rs)(h3:∀ r∈rs,r.bs.length<=3):
  Calls Tryz.prog 177 #[.slice a bs.length c,.slice ar rs.length cr] w λ e w'=>z5b w w' (zhz (zix rs) bs) e/\Below w.heap.size w w':=by
 have k0:Below w.heap.size w (w.alloc (.cells #[.int .i64 0,.slice none 0 0] 150)):=B9.alloc L9 _;have z0:(w.alloc (.cells #[.int .i64 0,.slice none 0 0] 150)).cell? ⟨w.heap.size,0,none⟩=some (.int .i64 0):=(zB (heap_alloc_new w _) 0).1;have z1:(w.alloc (.cells #[.int .i64 0,.slice none 0 0] 150)).cell? ⟨w.heap.size,1,none⟩=some (.slice none 0 0):=(zB (heap_alloc_new w _) 1).1;have cq:=zC k0;have HR:=zC hr
 cases bs with
 | nil=>
  clear hb hr k0;go_enter Tryz.func177,Tryz.ntmps177;go_wp2_with fail;refine bodyPost_ret (v:=.tuple #[.agg #[.int .i64 0,.slice none 0 0],.bool false]) (by simp[results,Tryz.results177,go_sem]) rfl ?_;exact⟨.no,zA cq⟩
 | cons r q=>
  obtain⟨g,o,rfl,hg,hc⟩:=hb.at_ (by simp);have F1:=hb.byte r List.mem_cons_self;have kR:=hb.cap;have kK:=hb.max;have HB:=zC hb;have c0:=(k0.cell (p:=⟨g,o,none⟩) hg).trans (hc 0 (by simp));simp only[List.getElem_cons_zero] at c0;have hlen:(r::q).length=q.length+1:=rfl;rw[hlen] at kR ⊢;clear hb hr k0 hc hlen;have FX:((q.length:Int)+1==0)=false:=by rw[beq_eq_false_iff_ne];omega
  by_cases eI:r<rs.length
  ·have J3:(r:Int)<rs.length:=(by omega);have lI:¬ rs.length<=r:=(by omega);have kX:(rs[r].bs.filter (yW false)).length=(zK rs[r].bs).length:=(by unfold zK zY;rw[List.length_map,List.length_map]);have kh:(zix rs)[r]?=some (zK rs[r].bs).length:=(by unfold zix;rw[List.getElem?_map,List.getElem?_eq_getElem eI];rfl);have ey:(zK rs[r].bs).length<=3:=Nat.le_trans (zhy _) (h3 _ (List.getElem_mem eI));have od:=dT.start w r;go_enter Tryz.func177,Tryz.ntmps177;go_upto_region 4 with fail;clear c0;generalize ((w.alloc (.cells #[.int .i64 0,.slice none 0 0] 150)).alloc (.cells #[.int .i64 (r:Nat),.slice none 0 0] 150))=w1 at *;have ez:=(zA HR).below od.k;obtain⟨gr,oJ,nM,oS,o5,pn,oY,fL⟩:=vL znq ez.row r eI;injection nM with h4 h5 h6
   subst h4 h6;have ak:=ez.each _ (List.getElem_mem eI);obtain⟨ah,ch,nz⟩:=zE ak.hd;obtain⟨ab,cb,iB⟩:=zE ak.bo.row;have r0:=fL 0 (by omega);have r1:=fL 1 (by omega);have r2:=fL 2 (by omega);simp only[PR.cells,nz,iB,Nat.add_zero,List.getElem?_cons_zero,List.getElem?_cons_succ] at r0 r1 r2;obtain⟨b0,-⟩:=zB od.box 0;simp only[List.getElem?_toArray,List.getElem?_cons_zero] at b0;have eL:=ak.bo;rw[iB] at eL;have tI:=zC (za7 w1 base rs[r].R.pd ah rs[r].R.ts.length ch ab cb rs[r].bs eL (by have:=h3 _ (List.getElem_mem eI);omega));have vq:=zC od;clear ak eL fL ez od z0 z1;go_wp2_with fail;refine (zA tI).mono ?_;rintro e w2 ⟨ap,cp,rfl,-,aU,-⟩;have dw:=(zA vq).below aU;have mx:=(zA HB).below dw.k;have yj:=dw.box;rw[kX];generalize hM:(zK rs[r].bs).length=M at *
   by_cases hq:q.length<M
   ·have HN:=zC (show zhz (zix rs) (r::q)=none by rw[zhz];simp only[kh];rw[if_pos hq]);obtain⟨s0,s1,f0,f1⟩:=dw.va;have tz:=zC dw.k;have AE:(q.length:Int)+1<1+M:=(by omega);clear dw mx yj kh tI vq b0 r0 r1 r2 hM;go_wp2_with fail;obtain⟨p0,p1⟩:=zm7 s0 s1 (.int .i64 0) (.slice none 0 0);refine bodyPost_ret (v:=.tuple #[.agg #[.int .i64 0,.slice none 0 0],.bool false]) (by simp[results,Tryz.results177,go_sem,p0,p1]) rfl ?_;rw[zA HN];exact⟨.no,((zA tz).setCell L9 _).setCell L9 _⟩
   ·have HN:=zC (show zhz (zix rs) (r::q)=some (r,q.take M) by rw[zhz];simp only[kh];rw[if_neg hq]);have AE:¬ (q.length:Int)+1<1+M:=(by omega);obtain⟨i0,hi,dK,cB,bZ⟩:=info_parts z1d;have fG:=zC dw;have s1:(1:Int)<=1+M:=(by omega);have s2:(1:Int)+M<=c:=(by omega);have s3:(0:Int)<=1+M:=(by omega);clear dw mx yj kh tI vq b0 r0 r1 r2 hM
    by_cases mC:c=1
    ·have ua:M=0:=(by omega);subst ua;go_wp2_with fail
     go_loopg [45] 0 (λ gg i wr=>gg=0/\i=.int .i64 0/\dT w r [] (.slice none 0 0) wr)
     exact⟨rfl,rfl,zA fG⟩
     case round=>
      clear fG;obtain⟨nB,rfl,ak⟩:=hrel;obtain⟨b0,IF⟩:=zB ak.box 0;obtain⟨b1,IG⟩:=zB ak.box 1;obtain⟨s0,s4,f0,f1⟩:=ak.va;simp only[List.getElem?_toArray,List.getElem?_cons_zero,List.getElem?_cons_succ] at b0 b1;have bt:=zC ak;clear ak;go_wp2_with fail;obtain⟨p0,p1⟩:=zm7 s0 s4 (.int .i64 (r:Nat)) (.slice none 0 0);refine bodyPost_ret (v:=.tuple #[.agg #[.int .i64 (r:Nat),.slice none 0 0],.bool true]) (by simp[results,Tryz.results177,go_sem,p0,p1]) rfl ?_;rw[zA HN];exact⟨.yes (fr:=q.take 0) (World.ownsRow_nil _ _ _ _),((zA bt).k.setCell L9 _).setCell L9 _⟩
    ·go_wp2_with fail;rw[show 1+M-1=M by omega]
     go_loopg [45] M (λ gg i wr=>∃ (j:Nat) (v:Value),j<=M/\gg=M-j/\i=.int .i64 j/\dT w r (q.take j) v wr)
     exact⟨0,_,Nat.zero_le _,rfl,rfl,zA fG⟩
     case round=>
      clear fG;obtain⟨j,v,hj,uo,rfl,ak⟩:=hrel;obtain⟨av,cv,rfl⟩:=zE ak.row;have bP:=ak.lt;have ij:(q.take j).length=j:=(by rw[List.length_take];omega);obtain⟨b0,IF⟩:=zB ak.box 0;obtain⟨b1,IG⟩:=zB ak.box 1;simp only[List.getElem?_toArray,List.getElem?_cons_zero,List.getElem?_cons_succ] at b0 b1
      by_cases hlj:j<M
      ·have FE:j<q.length:=(by omega);obtain⟨g',o',e1,jo,qg⟩:=((zA HB).below ak.k).at_ (by simp);injection e1 with e1
       injection e1 with e1 e2
       subst e1 e2;have cj:=qg (j+1) (by simp;omega);simp only[List.getElem_cons_succ] at cj;have Gj:q[j]<256:=(zA HB).byte _ (List.mem_cons_of_mem _ (List.getElem_mem FE));have ER:(j:Int)<M:=(by omega);have HT:=zC (show q.take (j+1)=q.take j++[q[j]] from List.take_succ_eq_append_getElem FE);generalize q[j]=x at *;rw[show o+(j+1)=o+1+j by omega] at cj;have aE:=ak.row;have bH:=aE.alloc (.cells #[.int .i64 (x:Nat)] 3);have gF:=zC (World.news_of_block (heap_alloc_new wr (.cells #[.int .i64 (x:Nat)] 3)));have bt:=zC ak;rw[ij] at b1 bH;generalize hF:q.take j=F at *;have HF:=zC hF;have rK:=zC ij;clear ak aE qg hF ij;go_wp2_with (at_builtin;refine wpList_append_own _ rfl _ _ 24 rfl (w.heap.size+1+1) 3 i0 _ 1 8 Tryz.underlying24 hi dK cB bZ rfl (by decide) _ _ _ rfl bH ⟨wr.heap.size,0,none⟩ 1 1 [.int .i64 (x:Nat)] rfl rfl (zA gF) (by intro u hu;rw[List.mem_singleton.1 hu];rfl) (by unfold maxLen;omega) (by omega) (by simp;omega) ?_;intro v6 w6 hown6 lF hne6;clear hne6;obtain⟨a6,c6,rfl⟩:=zE hown6;have pj:=(zA bt).AP (B9.alloc L9 _) (by rw[zA rK];exact lF);obtain⟨d1,df1⟩:=zB pj 1;have A9:=zC ((zA bt).add (x:=x) (v':=.slice a6 (j+1) c6) (B9.alloc L9 _) (by rw[zA rK];exact lF) (by rw[zA rK];exact hown6));clear hown6 lF pj);go_roundg (M-(j+1));exact⟨j+1,_,by omega,rfl,by go_num,by rw[zA HT];exact zA A9⟩;omega
      ·have Ju:j=M:=(by omega);subst Ju;obtain⟨s0,s4,f0,f1⟩:=ak.va;have aE:=ak.row;rw[ij] at aE b1;have iV:=zC (show wr.ownsRow (w.heap.size+1+1) 3 1 (.slice av j cv) j (cO (q.take j)) from aE);have bt:=zC ak;have rK:=zC ij;clear ak aE ij;go_wp2_with fail;obtain⟨p0,p1⟩:=zm7 s0 s4 (.int .i64 (r:Nat)) (.slice av j cv);refine bodyPost_ret (v:=.tuple #[.agg #[.int .i64 (r:Nat),.slice av j cv],.bool true]) (by simp[results,Tryz.results177,go_sem,p0,p1]) rfl ?_;rw[zA HN];have hy:=z5b.yes (w:=w) (w':=(wr.setCell ⟨w.heap.size,0,none⟩ (.int .i64 (r:Nat))).setCell ⟨w.heap.size,1,none⟩ (.slice av j cv)) (r:=r) (fr:=q.take j) (a:=av) (c:=cv) (by rw[zA rK];exact zI (ownsRow_setCell_below (ownsRow_setCell_below (zA iV) (by show w.heap.size<_;omega) _) (by show w.heap.size<_;omega) _) (by omega));rw[zA rK] at hy;exact⟨hy,((zA bt).k.setCell L9 _).setCell L9 _⟩
  ·have J3:¬ (r:Int)<rs.length:=(by omega);have HN:=zC (show zhz (zix rs) (r::q)=none by rw[zhz,List.getElem?_eq_none (by unfold zix;rw[List.length_map];omega)]);go_enter Tryz.func177,Tryz.ntmps177;go_wp2_with fail;refine bodyPost_ret (v:=.tuple #[.agg #[.int .i64 0,.slice none 0 0],.bool false]) (by simp[results,Tryz.results177,go_sem]) rfl ?_;rw[zA HN];exact⟨.no,zA cq⟩
end
end Go.Proofs.YtldkpahaocjdpaaGreat
