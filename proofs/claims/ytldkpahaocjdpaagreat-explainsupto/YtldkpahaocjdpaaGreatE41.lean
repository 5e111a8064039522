/-
  renumber: the nodes that are not needed are left out.
-/
import Derived.Test.YtldkpahaocjdpaaGreatE38
import Derived.StepT
set_option maxHeartbeats 16000000
set_option maxRecDepth 1000000
namespace Go.Proofs.YtldkpahaocjdpaaGreat
section
open Go.RowKit Go.Maps
structure ND where
 r:Nat
 fr:List Nat
 v:Value
def lk (x:ND):Nat × List Nat:=(x.r,x.fr)
def zeu (x:ND):V8:=[.int .i64 (x.r:Nat),x.v]
theorem zhg (x:ND):(zeu x).length=2:=rfl
structure wI (w:W8)(base:Nat)(nv:Value)(bG:List ND):Prop where
 row:w.ownsRow base 150 2 nv bG.length (bG.flatMap zeu)
 each:∀ x∈bG,w.ownsRow base 3 1 x.v x.fr.length (ew x.fr)
variable {nv:Value} {base:Nat} {w:W8}
theorem wI.below {w':W8}{bG:List ND}(h:wI w base nv bG)(k:Below w.heap.size w w'):wI w' base nv bG:=
 ⟨zJ h.row k (λ g e=>(h.row.lt g e).2),λ x hx=>zJ (h.each x hx) k (λ g e=>((h.each x hx).lt g e).2)⟩
theorem wI.low {base':Nat}{bG:List ND}(h:wI w base nv bG)(hb:base'<=base):wI w base' nv bG:=⟨zG h.row hb,λ x hx=>zG (h.each x hx) hb⟩
def zcy (B:Nat->Bool):List (Nat × List Nat)->Nat->(Nat->Nat)->List (Nat × List Nat)->List (Nat × List Nat)
 | [],_,_,out=>out
 | x::r,i,pl,out=>if B i then zcy B r (i+1) (bK pl i out.length) (out++[(x.1,x.2.map (bK pl i out.length))]) else zcy B r (i+1) pl out
variable {pl:Nat->Nat}
theorem zzd {B:Nat->Bool}{l:List (Nat × List Nat)}{k:Nat}{out:List (Nat × List Nat)}(h:k<l.length):zcy B (l.drop k) k pl out=if B k then zcy B (l.drop (k+1)) (k+1) (bK pl k out.length) (out++[(l[k].1,l[k].2.map (bK pl k out.length))]) else zcy B (l.drop (k+1)) (k+1) pl out:=by
 rw[List.drop_eq_getElem_cons h];rfl
structure BM (w:W8)(n:Nat)(pl:Nat->Nat)(out:List ND)(nv:Value)(wr:W8):Prop where
 DE:fj wr w.heap.size 3 n (λ i=>.int .i64 (pl i:Nat))
 bG:wI wr (w.heap.size+1) nv out
 k:Below w.heap.size w wr
theorem BM.below {w:W8}{n:Nat}{pl:Nat->Nat}{out:List ND}{nv:Value}{wr w':W8}(h:BM w n pl out nv wr)(k:Below wr.heap.size wr w'):BM w n pl out nv w':=
 ⟨h.DE.below k,h.bG.below k,h.k.trans (k.mono h.k.size)⟩
variable {out:List ND} {n:Nat}
theorem BM.put {wr:W8}(h:BM w n pl out nv wr)(i v:Nat):BM w n (bK pl i v) out nv (wr.setCell ⟨w.heap.size,i,none⟩ (.int .i64 (v:Nat))):=by
 have bp:∀ g,g≠w.heap.size->(wr.setCell ⟨w.heap.size,i,none⟩ (.int .i64 (v:Nat))).heap[g]?=wr.heap[g]?:=λ g hg=>Below.heap_setCell _ _ _ _ (by simpa using hg)
 refine⟨(h.DE.set i (.int .i64 (v:Nat))).eq λ j _=>?_,⟨zZ h.bG.row (λ g e=>bp g (by have:=(h.bG.row.lt g e).1;omega)),λ x hx=>zZ (h.bG.each x hx) (λ g e=>bp g (by have:=((h.bG.each x hx).lt g e).1;omega))⟩,h.k.setCell L9 _⟩;unfold bK
 split <;> rfl
theorem BM.add {dv:Value}{wX W w5:W8}{x:ND}(h:BM w n pl out nv wX)(hx:wX.ownsRow (w.heap.size+1) 3 1 x.v x.fr.length (ew x.fr))(hW:Below wX.heap.size wX W)(hg:W.grownBy w5 nv.ownBlock)(ay:w5.ownsRow (w.heap.size+1) 150 2 dv (out.length+1) (out.flatMap zeu++zeu x)):BM w n pl (out++[x]) dv w5:=by
 have Xx:zK [] wX W:=⟨hW.os,hW.tape,hW.output,hW.size,λ i hi _=>hW.block i hi⟩;have k5:zK nv.ownBlock.toList wX w5:=(Xx.mono (by simp)).trans (zK.aR hg);have n1:∀ b∈nv.ownBlock.toList,dW wX 3 b:=yH h.bG.row (by decide);have Aq:∀ b∈nv.ownBlock.toList,w.heap.size+1<=b:=λ b hb=>(h.bG.row.lt b (by simpa using hb)).1
 refine⟨h.DE.block (k5.block _ h.DE.lt (λ hm=>by have:=Aq _ hm;omega)),⟨?_,λ y hy=>?_⟩,zY h.k k5 h.k.size (λ b hb=>by have:=Aq b hb;omega)⟩
 ·rw[List.length_append,List.flatMap_append];simpa using ay
 ·rcases List.mem_append.1 hy with hy | hy
  ·exact xF (h.bG.each y hy) k5 (λ b hb=>.inr (n1 b hb))
  ·rw[List.mem_singleton.1 hy];exact xF hx k5 (λ b hb=>.inr (n1 b hb))
structure z0v (wB:W8)(m:Nat)(fv:Nat->Nat)(j:Nat)(wi:W8):Prop where
 k:Below wB.heap.size wB wi
 row:fj wi wB.heap.size 3 m (λ q=>.int .i64 ((if q<j then fv q else 0:Nat)))
def z0t (w:W8)(ns:List (Nat × List Nat))(e:Ending)(w':W8):Prop:=
 ∃ (out:List ND) (a:O8) (c:Nat),e=.returned (.slice a out.length c)/\wI w' w.heap.size (.slice a out.length c) out/\out.map lk=ns/\Below w.heap.size w w'
theorem zwa:(Tryz.prog.info? 150).map (λ i=>(i.zero,i.size,i.bytes))=some (some (.agg #[.int .i64 0,.slice none 0 0]),2,32):=by kernel_rfl
theorem ybl (w1:W8)(x:ND)(j:Nat)(u:Value)(h:(zeu x)[j]?=some u):(w1.alloc (.cells #[.int .i64 (x.r:Nat),x.v] 150)).cell? ((⟨w1.heap.size,0,none⟩:Addr).add j)=some u:=by
 have e:(⟨w1.heap.size,0,none⟩:Addr).add j=⟨w1.heap.size,j,none⟩:=by unfold Addr.add;split <;> simp_all
 rw[e,World.cell?_alloc_at _ _ _ _ rfl];simpa[zeu] using h
theorem ydo {r:Nat}{fr:List Nat}(p:O8){c:Nat}:∀ u∈zeu ⟨r,fr,.slice p n c⟩,u.oneCell'=true:=by
 intro u hu;simp[zeu] at hu;rcases hu with rfl | rfl <;> rfl
theorem z4r (w:W8)(base gb:Nat)(an:O8)(cn:Nat)(bG:List ND)(B:Nat->Bool)(h:wI w base (.slice an bG.length cn) bG)(hB:fj w gb 4 bG.length (λ i=>.bool (B i)))(hl:bG.length<=50)(hf:∀ x∈bG,x.fr.length<=3/\∀ y∈x.fr,y<bG.length):
  Calls Tryz.prog 70 #[.slice an bG.length cn,.slice (some ⟨gb,0,none⟩) bG.length bG.length] w (z0t w (zcy B (bG.map lk) 0 (λ _=>0) [])):=by
 obtain⟨i0,hi,bL,aY,bg⟩:=info_parts zwa;have H:=zC h;have HB:=zC hB;have HF:=zC hf;clear h hB hf;have ji:=λ n hn=>zfk n hn
 have Qq:=zfk bG.length (by omega);go_enter Tryz.func70,Tryz.ntmps70;go_upto_region 3 with fail;generalize bC:World.alloc w _=w0;have k0:Below w.heap.size w w0:=by rw[<-bC];exact (Below.refl w.heap.size w).alloc L9 _
 have r0:fj w0 w.heap.size 3 bG.length (λ _=>.int .i64 0):=by rw[<-bC];exact fj.start w _ _ _
 clear bC Qq;have H0:=zC (show BM w bG.length (λ _=>0) [] (.slice none 0 0) w0 from ⟨r0,⟨World.ownsRow_nil _ _ _ _,by simp⟩,k0⟩);clear k0 r0;go_upto_region 4 with fail
 go_loopg [5,17] bG.length (λ gg nv i wr=>∃ (k:Nat) (pl:Nat->Nat) (out:List ND),k<=bG.length/\gg=bG.length-k/\i=.int .i64 k/\out.length<=k/\BM w bG.length pl out nv wr/\zcy B ((bG.map lk).drop k) k pl (out.map lk)=zcy B (bG.map lk) 0 (λ _=>0) [])
 exact⟨0,_,[],Nat.zero_le _,rfl,rfl,Nat.le_refl _,zA H0,rfl⟩
 case round=>
  clear H0;obtain⟨k,pl,out,hk,eD,rfl,rY,ax,aE⟩:=hrel;obtain⟨ao,co,rfl⟩:=zD ax.bG.row;have Hr:=zC aE;clear aE
  by_cases aF:k<bG.length
  ·obtain⟨x,AX⟩:∃ x,x=bG[k]:=⟨_,rfl⟩;have cg:x∈bG:=(by rw[AX];exact List.getElem_mem aF);obtain⟨g,cap,hv,iF,aZ,bO,bQ,hc⟩:=vX zhg (zA H).row k aF;injection hv with h1 h2 h3
   subst h1 h3;have GF:=(zA H).each x cg;obtain⟨av,cv,GG⟩:=zD GF;have e0:wr.cell? ⟨g,k*2,none⟩=some (.int .i64 (x.r:Nat)):=(by rw[AX];exact (ax.k.cell (p:=⟨g,k*2,none⟩) aZ).trans (hc 0 (by omega)));have e1:wr.cell? ⟨g,k*2+1,none⟩=some (.slice av x.fr.length cv):=(by rw[<-GG,AX];exact (ax.k.cell (p:=⟨g,k*2+1,none⟩) aZ).trans (hc 1 (by omega)));have nu:(k:Int)<bG.length:=(by omega);have nj:=(zA HB).cell aF;have qt:=(zA HB).lt;have ql:(wr.alloc (.cells #[.int .i64 (x.r:Nat),.slice av x.fr.length cv] 150)).cell? ⟨gb,k,none⟩=some (.bool (B k)):=by
    have k1:Below w.heap.size w (wr.alloc (.cells #[.int .i64 (x.r:Nat),.slice av x.fr.length cv] 150)):=ax.k.alloc ax.k.size _;exact (k1.cell (p:=⟨gb,k,none⟩) qt).trans nj
   have bT:=zC ax;have HX:=zC AX;have dB:=zC (zzd (B:=B) (l:=bG.map lk) (k:=k) (pl:=pl) (out:=out.map lk) (by simpa using aF));obtain⟨XM,ko⟩:=zA HF x cg;have JE:=zC GF;have O1:=zC GG;have VQ:=zC ko;clear hc ax AX cg h2 GF GG ko nj
   cases hb:B k with
   | false=>
    rw[hb] at ql;have mD:=zC hb;clear hb;go_wp2_with fail;go_roundg (bG.length-(k+1))
    case measure=>omega
    case rel=>
     have ax:=zA bT;refine⟨k+1,pl,out,by omega,rfl,by go_num,by omega,ax.below (B9.alloc L9 _),?_⟩;rw[<-zA Hr,zA dB,zA mD];rfl
   | true=>
    rw[hb] at ql;have mD:=zC hb;clear hb;have ax:=zA bT;have kO:=ax.below ((Below.refl wr.heap.size wr).alloc L9 (.cells #[.int .i64 (x.r:Nat),.slice av x.fr.length cv] 150));have pc:=kO.DE.cell aF;have pf:=kO.DE.fz k;have Ui:w.heap.size<wr.heap.size:=ax.DE.lt;have KM:=(ax.put k out.length).below (B9.alloc L9 (.cells #[.int .i64 (x.r:Nat),.slice av x.fr.length cv] 150));have Fk:=zC KM;have UY:((wr.setCell ⟨w.heap.size,k,none⟩ (.int .i64 (out.length:Nat))).alloc (.cells #[.int .i64 (x.r:Nat),.slice av x.fr.length cv] 150)).heap[wr.heap.size]?=some (.cells #[.int .i64 (x.r:Nat),.slice av x.fr.length cv] 150 (0,0)):=by
     have:=heap_alloc_new (wr.setCell ⟨w.heap.size,k,none⟩ (.int .i64 (out.length:Nat))) (.cells #[.int .i64 (x.r:Nat),.slice av x.fr.length cv] 150);rw[World.size_setCell] at this;exact this
    have B0:=zC UY;have Gl:=ji x.fr.length (by omega);clear ax kO KM UY ji;go_upto_region 9 with fail;generalize Dv:World.alloc (World.setCell wr _ _) (.cells #[.int .i64 (x.r:Nat),.slice av x.fr.length cv] 150)=wB at *;have sB:wB.heap.size=wr.heap.size+1:=(by rw[<-Dv];simp);clear Dv ql pc pf Gl e0 e1;generalize GC:World.alloc wB _=wC;have kC:Below wB.heap.size wB wC:=(by rw[<-GC];exact (Below.refl wB.heap.size wB).alloc L9 _);have rC:fj wC wB.heap.size 3 x.fr.length (λ _=>.int .i64 0):=(by rw[<-GC];exact fj.start wB _ _ _);clear GC;obtain⟨oe,Gt⟩:∃ oe,oe=bK pl k out.length:=⟨_,rfl⟩;obtain⟨fv,Il⟩:∃ fv:Nat->Nat,fv=λ q=>oe (x.fr[q]?.getD 0):=⟨_,rfl⟩
    have R5:=zC Il;rw[<-Gt] at Fk;have Ws:=zC Gt;have H1:=zC (show z0v wB x.fr.length fv 0 wC from ⟨kC,rC.eq (λ i hi=>by simp)⟩);have UX:=(zB ((kC.block _ (by omega)).trans (zA B0)) 1).1;simp only[List.getElem?_toArray,List.getElem?_cons_zero,List.getElem?_cons_succ] at UX;clear kC rC Gt Il;rw[<-sB];have B5:=zC sB;clear sB;generalize Dy:wr.heap.size=xb at *;go_upto_region 10 with fail
    go_loopg [39] x.fr.length (λ gg2 jj wi=>∃ j:Nat,j<=x.fr.length/\gg2=x.fr.length-j/\jj=.int .i64 j/\z0v wB x.fr.length fv j wi)
    exact⟨0,Nat.zero_le _,rfl,rfl,zA H1⟩
    case round=>
     clear H1 UX;obtain⟨j,hj,xj,rfl,sV⟩:=hrel;have rn:=(zA Fk).below sV.k
     by_cases hlj:j<x.fr.length
     ·have Ci:=zJ (zA JE) rn.k (λ g e=>((zA JE).lt g e).2);rw[zA O1] at Ci;obtain⟨gv,rfl,Ya,QC,PQ,M8⟩:=z3v Ci j hlj;have hy:x.fr[j]<bG.length:=zA VQ _ (List.getElem_mem hlj);have hpy:=rn.DE.cell hy;have hrc:=sV.row.cell hlj;have hrf:=sV.row.fz j;have Na:(j:Int)<x.fr.length:=(by omega);have YU:(x.fr[j]:Int)<bG.length:=(by omega);have Wl:=zC sV;have HV:=zC (show fv j=oe x.fr[j] by rw[zA R5];simp[hlj]);clear sV rn Ci;generalize x.fr[j]=y at *;go_wp2_with fail;go_roundg (x.fr.length-(j+1))
      case measure=>omega
      case rel=>
       have sV:=zA Wl;refine⟨j+1,by omega,rfl,by go_num,sV.k.setCell L9 _,(sV.row.set j _).eq λ q hq=>?_⟩
       by_cases e:q=j
       ·subst e;simp[zA HV]
       ·have e2:(q<j+1)=(q<j):=(by apply propext;omega);simp only[if_neg e,e2]
     ·have qv:j=x.fr.length:=(by omega);subst qv;have rf:fj wr wB.heap.size 3 x.fr.length (λ q=>.int .i64 (fv q:Nat)):=sV.row.eq (λ q hq=>by rw[if_pos hq]);have dq:=(sV.k.block xb (by have:=zA B5;omega)).trans (zA B0);have b0:=(zB dq 0).1;simp only[List.getElem?_toArray,List.getElem?_cons_zero] at b0;have ko:((List.range x.fr.length).map fv)=x.fr.map oe:=by
       rw[zA R5];apply List.ext_getElem
       ·simp
       ·intro q h1 h2;simp at h1;simp[h1]
      have UA:w.heap.size+1<=wB.heap.size:=(zA Fk).DE.lt;have ay:=rf.ew (by unfold maxLen;omega) (base:=w.heap.size+1) UA;rw[ko] at ay;have iH:wr.ownsRow (w.heap.size+1) 3 1 (.slice (some ⟨wB.heap.size,0,none⟩) x.fr.length x.fr.length) (x.fr.map oe).length (ew (x.fr.map oe)):=(by rw[List.length_map];exact ay);have Ra:=sV.k.size;have bH:=rn.bG.row.alloc (.cells #[.int .i64 (x.r:Nat),.slice (some ⟨wB.heap.size,0,none⟩) x.fr.length x.fr.length] 150);have uL:=zC rn;have ME:=zC iH;have Lh:out.length<=50:=(by omega);clear rn sV rf dq ko ay iH;go_wp2_with (at_builtin;refine wpList_append_own _ rfl _ _ 91 rfl (w.heap.size+1) 150 i0 _ 2 32 Tryz.underlying91 hi bL aY bg rfl (by decide) _ _ _ rfl bH ⟨wr.heap.size,0,none⟩ 1 1 (zeu ⟨x.r,x.fr.map oe,.slice (some ⟨wB.heap.size,0,none⟩) x.fr.length x.fr.length⟩) rfl rfl (ybl wr ⟨x.r,x.fr.map oe,.slice (some ⟨wB.heap.size,0,none⟩) x.fr.length x.fr.length⟩) (ydo _) (by unfold maxLen;omega) (by omega) (by simp;omega) ?_;intro v5 w5 aq aU hne5;clear hne5;obtain⟨a5,eH,rfl⟩:=zD aq;have CD:=zC aq;have Fj:=zC aU;clear aq aU);go_roundg (bG.length-(k+1))
      case measure=>omega
      case rel=>
       refine⟨k+1,oe,out++[⟨x.r,x.fr.map oe,.slice (some ⟨wB.heap.size,0,none⟩) x.fr.length x.fr.length⟩],by omega,rfl,by go_num,by rw[List.length_append];simp;omega,(zA uL).add (x:=⟨x.r,x.fr.map oe,.slice (some ⟨wB.heap.size,0,none⟩) x.fr.length x.fr.length⟩) (zA ME) (B9.alloc L9 _) (zA Fj) (zA CD),?_⟩;rw[<-zA Hr,zA dB,zA mD,if_pos rfl,List.map_append,List.length_map,<-zA Ws];simp only[List.getElem_map,<-zA HX];rfl
  ·have he:k=bG.length:=(by omega);subst he;have HE:=zC (show out.map lk=zcy B (bG.map lk) 0 (λ _=>0) [] by rw[<-zA Hr,List.drop_of_length_le (by simp)];rfl);have bT:=zC ax;clear ax;go_wp2_with fail;go_ret;exact⟨out,ao,co,rfl,(zA bT).bG.low (by omega),zA HE,(zA bT).k⟩
end
section
theorem zk0 {α:Type}:∀ (k:Ask α) (w:W8),w.drawn<=(w.ask k).2.drawn
 | .done a,w=>Nat.le_refl _
 | .ask what range k,w=>by
  rw[World.ask]
  split
  ·exact zk0 (k 0) w
  ·exact Nat.le_trans (Nat.le_succ _) (zk0 (k _) { w with drawn:=w.drawn+1 })
theorem zs2 (w:W8)(c:Sys):w.drawn<=(w.sys c).2.drawn:=by
 have h:=zk0 (Kernel.perform c w.os) w;unfold World.sys
 split
 ·exact Nat.le_refl _
 ·rename_i h1;rw[h1] at h;exact h
def z90 {α:Type}:Result α->W8
 | .ok _ w=>w
 | .halt _ w=>w
variable {v:Value} {a:Addr} {w w':W8} {p:Program}
theorem znl {b:Bool}{l:List Addr}(h:w.farStore p a v b=.ok (w',l)):w'.drawn=w.drawn:=by
 unfold World.farStore at h
 split at h
 ·split at h
  ·rename_i h1
   cases h
   simp only[World.viewStore,bind,Except.bind,pure,Except.pure] at h1
   repeat' split at h1
   all_goals first | (cases h1;done) | (cases h1;rfl) | skip
  ·cases h
 ·cases h
theorem zsw {α:Type}(p:Program):∀ (m:Sem α) (w:W8),w.drawn<=(z90 (m.run p w)).drawn:=by
 intro m
 induction m with
 | pure a=>intro w;exact Nat.le_refl _
 | load m a k ih=>
  intro w;rw[Sem.run]
  split
  ·exact ih _ w
  ·split
   ·exact ih _ w
   ·exact Nat.le_refl _
 | store m a v k ih=>
  intro w
  have key:w.drawn<=(z90 (match w.cell? a with
   | some _ => if w.frozen? a then .halt (.unsupported (.unsafePointer "a write to bytes that a string shares")) w else k.run p (w.setCell a v)
   | none=>match w.farStore p a v (m==.atomic) with
    | .ok (w,_)=>k.run p w
    | .error h=>.halt h w)).drawn:=by
   split
   ·split
    ·exact Nat.le_refl _
    ·exact ih (w.setCell a v)
   ·split
    ·rename_i h1;have:=znl h1;exact Nat.le_trans (Nat.le_of_eq this.symm) (ih _)
    ·exact Nat.le_refl _
  cases v <;> first | exact Nat.le_refl _ | exact key
 | new o k ih=>intro w;exact ih _ { w with heap:=w.heap.push o }
 | shape r k ih=>intro w;exact ih _ w
 | freeze a n k ih=>
  intro w;have:(w.freeze a n).drawn=w.drawn:=by unfold World.freeze;split <;> rfl
  exact Nat.le_trans (Nat.le_of_eq this.symm) (ih (w.freeze a n))
 | frozen a k ih=>intro w;exact ih _ w
 | getObj r k ih=>
  intro w;rw[Sem.run]
  split
  ·exact Nat.le_refl _
  ·exact ih _ w
  ·exact Nat.le_refl _
 | setObj r o k ih=>
  intro w;rw[Sem.run]
  split
  ·exact Nat.le_refl _
  ·exact ih { w with heap:=w.heap.setIfInBounds r o }
  ·exact Nat.le_refl _
 | choose q k ih=>
  intro w;rw[Sem.run]
  split
  ·exact ih _ w
  ·exact Nat.le_trans (Nat.le_succ _) (ih _ { w with drawn:=w.drawn+1 })
 | sys c k ih=>intro w;exact Nat.le_trans (zs2 w c) (ih _ (w.sys c).2)
 | program k ih=>intro w;exact ih _ w
 | mark m k ih=>intro w;exact ih w
 | halt h=>intro w;exact Nat.le_refl _
theorem vJ {α:Type}{m:Sem α}{a:α}(h:m.run p w=.ok a w'):w.drawn<=w'.drawn:=by
 have:=zsw p m w;rw[h] at this;exact this
theorem vE {α:Type}{m:Sem α}{x:Halt}(h:m.run p w=.halt x w'):w.drawn<=w'.drawn:=by
 have:=zsw p m w;rw[h] at this;exact this
def zcr:GStep->W8
 | .go _ w _=>w
 | .comm _ _ _ _ w _=>w
 | .spawn _ _ w _=>w
 | .count _ w _=>w
 | .timer _ _ w _=>w
 | .alone _ _ w _=>w
 | .newcoro _ _ _ w _=>w
 | .coroswitch _ _ _ w _=>w
 | .collect _ w _=>w
 | .watch _ w _=>w
 | .ended _ w _=>w
theorem zar (es:Array Event)(s:GStep):zcr (s.after es)=zcr s:=by cases s <;> rfl
theorem zd2 (p:Program)(fr:Frame)(v:Value)(w:W8):zcr (endPrinting p fr v w)=w:=by
 unfold endPrinting;simp only
 repeat' split
 all_goals rfl
theorem zpa (w:W8)(fd:Nat)(t:B8)(o:Outcome):w.drawn<=(zcr (endWith w fd t o)).drawn:=by
 have h:=zs2 w (.write fd t);unfold endWith;simp only
 split
 ·rename_i h1;rw[h1] at h;split <;> exact h
 ·rename_i h1;rw[h1] at h;exact h
 ·rename_i h1;rw[h1] at h;exact h
theorem zgs (p:Program)(fr:Frame)(cs:List Frame)(d:Option Dying)(m:String)(w:W8):w.drawn<=(zcr (endFatal p fr cs d m w)).drawn:=by
 unfold endFatal;simp only
 split
 ·rename_i h;exact vJ h
 ·rename_i h;exact vE h
 ·rename_i h;exact vE h
theorem zqj (p:Program)(fr:Frame)(d:Dying)(f:Fatal)(w:W8):w.drawn<=(zcr (writeOn p fr d f w)).drawn:=by
 unfold writeOn;simp only[Sem.runT_eq]
 split
 ·exact Nat.le_refl _
 ·split
  ·rename_i h;exact vJ (Prod.mk.inj h).1
  ·rename_i h;exact vE (Prod.mk.inj h).1
  ·rename_i h;exact vE (Prod.mk.inj h).1
  ·rename_i h;exact vE (Prod.mk.inj h).1
theorem z1z (p:Program)(fr:Frame)(d:Dying)(w:W8):w.drawn<=(zcr (die p fr d w)).drawn:=by
 unfold die;simp only[Sem.runT_eq]
 split
 ·exact zqj _ _ _ _ _
 ·split
  ·split
   ·exact Nat.le_refl _
   ·exact zpa _ _ _ _
  ·split
   ·exact Nat.le_refl _
   ·split
    ·rename_i h;exact vJ h
    ·rename_i h;exact vE h
   ·rw[zar]
    split
    ·rename_i h;exact vJ h
    ·rename_i h;exact vJ h
    ·rename_i h;exact vE h
    ·rename_i h;rw[zd2];exact vE h
    ·exact Nat.le_refl _
   ·exact Nat.le_refl _
theorem zt2 (p:Program)(fr:Frame)(cs:List Frame)(d:Option Dying)(g:Nat)(w:W8):w.drawn<=(zcr (early p fr cs d g w)).drawn:=by
 unfold early;simp only
 repeat' split
 all_goals first | exact Nat.le_refl _ | (have h:=vJ ‹Sem.run _ _ _=Result.ok _ _›;exact h) | (have h:=vE ‹Sem.run _ _ _=Result.halt _ _›;exact h)
theorem zdm (p:Program)(b:Bool)(fr:Frame)(cs:List Frame)(d:Option Dying)(v:Value)(w:W8):zcr (doReturn p b fr cs d v w)=w:=by
 unfold doReturn
 repeat' split
 all_goals rfl
theorem zh0 (p:Program)(fr:Frame)(cs:List Frame)(dy:Option Dying)(d:Deferred)(w:W8):w.drawn<=(zcr (callDeferred p fr cs dy d w)).drawn:=by
 unfold callDeferred;simp only[Sem.runT_eq];generalize (_&&_:Bool)=c
 split
 ·exact Nat.le_refl _
 ·rw[zar]
  split
  all_goals rename_i h
  all_goals first
   | exact vJ h
   | exact vE h
   | exact Nat.le_trans (vE h) (zgs _ _ _ _ _ _)
   | (split <;> exact vJ h)
theorem ztb (p:Program)(b:Bool)(fr:Frame)(cs:List Frame)(dy:Option Dying)(w:W8):w.drawn<=(zcr (unwind p b fr cs dy w)).drawn:=by
 unfold unwind;simp only[Sem.runT_eq]
 split
 ·rw[zar]
  split
  ·rename_i h;exact vJ h
  ·rename_i h;exact vE h
 ·exact zh0 _ _ _ _ _ _
 ·split
  ·exact Nat.le_refl _
  ·split
   ·exact Nat.le_refl _
   ·split
    ·exact Nat.le_refl _
    ·split
     ·split
      ·exact Nat.le_refl _
      ·split
       ·rename_i h;exact vJ h
       ·rename_i h;exact vE h
       ·rename_i h;exact vE h
     ·split
      ·rw[zd2];exact Nat.le_refl _
      ·exact Nat.le_refl _
  ·split
   ·rw[zdm];exact Nat.le_refl _
   ·rw[zar]
    split
    ·rename_i h;rw[zdm];exact vJ h
    ·rename_i h;exact vE h
    ·rename_i h;exact vE h
theorem zg6 (p:Program)(listen:Bool)(fr:Frame)(cs:List Frame)(dy:Option Dying)(m:Sem Next)(w:W8):w.drawn<=(zcr (stepG.apply p listen fr cs dy m w)).drawn:=by
 have e:(if listen=true then m.runT p w #[] else (m.run p w,#[])).1=m.run p w:=by split <;> simp
 unfold stepG.apply;simp only;generalize (if listen=true then m.runT p w #[] else (m.run p w,#[]))=r at e ⊢;obtain⟨r,es⟩:=r;simp only at e;subst e;simp only;rw[zar]
 split
 all_goals rename_i h
 all_goals first
  | exact vJ h
  | exact vE h
  | exact Nat.le_trans (vE h) (zgs _ _ _ _ _ _)
  | exact Nat.le_trans (vE h) (zt2 _ _ _ _ _ _)
  | ((repeat' split);all_goals exact vJ h)
theorem zyz (p:Program)(listen:Bool)(fr:Frame)(cs:List Frame)(dy:Option Dying)(w:W8):w.drawn<=(zcr (stepG.oper p listen fr cs dy w)).drawn:=by
 unfold stepG.oper
 split
 ·exact Nat.le_refl _
 ·split
  ·exact zg6 _ _ _ _ _ _ _
  ·exact zg6 _ _ _ _ _ _ _
theorem zyc (p:Program)(main listen:Bool)(fr:Frame)(cs:List Frame)(dy:Option Dying)(w:W8):w.drawn<=(zcr (stepG.exec p main listen fr cs dy w)).drawn:=by
 have qk:=zg6 p listen;have pE:=zyz p listen;unfold stepG.exec;simp only[Sem.runT_eq];generalize stepG.apply p listen=ap at qk ⊢;generalize stepG.oper p listen=op at pE ⊢
 split
 all_goals first
  | exact Nat.le_refl _
  | exact qk _ _ _ _ _
  | skip
 all_goals try simp only[Option.elim]
 all_goals repeat' (first | rw[zar] | split)
 all_goals first
  | exact Nat.le_refl _
  | exact pE _ _ _ _
  | exact qk _ _ _ _ _
  | (have h:=vJ ‹Sem.run _ _ _=Result.ok _ _›;exact h)
  | (have h:=vE ‹Sem.run _ _ _=Result.halt _ _›;exact h)
  | (rw[zdm];have h:=vJ ‹Sem.run _ _ _=Result.ok _ _›;exact h)
  | (have h:=vJ ‹Sem.run _ _ _=Result.ok _ _›;exact Nat.le_trans h (qk _ _ _ _ _))
theorem zu7 (p:Program)(main:Bool)(g:Goroutine)(w:W8)(listen:Bool):w.drawn<=(zcr (stepG p main g w listen)).drawn:=by
 unfold stepG;simp only
 split
 ·exact z1z _ _ _ _
 ·exact zyc _ _ _ _ _ _ _
 ·exact ztb _ _ _ _ _ _
def sOk (n:Nat)(s:Stepped):Prop:=∀ m,s=.next m->n<=m.world.drawn
variable {m:Machine} {n:Nat}
theorem xX (h:n<=m.world.drawn):sOk n (.next m):=λ _ e=>by cases e;exact h
theorem xS {o:Outcome}:sOk n (.ended o w):=λ _ e=>by cases e
theorem zm6 {rest:Rest}{cs:Array CommCase}(h:waitingAt rest cs w=some w'):w.drawn<=w'.drawn:=by
 unfold waitingAt at h
 split at h
 ·split at h
  ·cases h;exact Nat.le_refl _
  ·cases h
 ·cases h;exact Nat.le_refl _
theorem zi2 (p:Program)(rest:Rest)(gs:Array Goroutine)(i:Nat)(g:Goroutine)(FF:Array CommCase)(yt:Bool)(shape:CommShape)(w:W8):sOk w.drawn (communicate p rest gs i g FF yt shape w).1:=by
 unfold communicate;simp only
 repeat' split
 all_goals first
  | exact xS
  | exact xX L9
  | (have h:=vJ ‹Sem.run _ _ _=Result.ok _ _›;exact xX h)
  | (have h:=zm6 ‹waitingAt _ _ _=some _›;exact xX h)
  | (have h1:=vJ ‹Sem.run _ _ _=Result.ok _ _›;have h2:=vE ‹Sem.run _ _ _=Result.halt _ _›;exact xX (Nat.le_trans h1 h2))
  | (have h1:=vJ ‹Sem.run _ _ w=Result.ok _ _›;have h2:=vJ ‹Sem.run _ (choose _) _=Result.ok _ _›;exact xX (Nat.le_trans h1 h2))
theorem zi9 (p:Program)(gs:Array Goroutine)(rest:Rest)(w:W8):sOk w.drawn (look p gs rest w):=by
 unfold look;simp only
 repeat' split
 all_goals first
  | exact xS
  | exact xX L9
  | (have h:=vJ ‹Sem.run _ _ w=Result.ok _ _›;exact xX h)
theorem zu6 (p:Program)(m:Machine)(k:Nat):sOk m.world.drawn (serve p m k):=by
 unfold serve;simp only
 repeat' split
 all_goals first
  | exact xS
  | exact xX L9
  | (have h:=vJ ‹Sem.run _ _ _=Result.ok _ _›;exact xX h)
theorem zt1 (w:W8)(c:Nat):(drain w c).2.drawn=w.drawn:=by
 unfold drain
 split <;> rfl
theorem zjz (m:Machine)(k:Nat)(t:Timer)(a b:Nat):(retime m k t a b).2.world.drawn=m.world.drawn:=by
 unfold retime;simp only
 split
 ·exact zt1 _ _
 ·rfl
variable {m':Machine}
theorem zsb (h:timerOp.opened m a=some m'):m.world.drawn<=m'.world.drawn:=by
 unfold timerOp.opened at h
 split at h
 ·split at h
  ·cases h;exact Nat.le_refl _
  ·cases h
 ·cases h;exact Nat.le_refl _
theorem zp9 {op:TimerOp}(h:timerOp m op=.ok (v,m')):m.world.drawn<=m'.world.drawn:=by
 unfold timerOp timerOp.named at h
 repeat' split at h
 all_goals first
  | (cases h;done)
  | (cases h;exact Nat.le_refl _)
  | (have e:=congrArg (λ x=>(Prod.snd x).world.drawn) (Except.ok.inj h);simp only[zjz] at e;exact Nat.le_of_eq e)
  | (have h1:=zsb ‹timerOp.opened _ _=some _›;have e:=congrArg (λ x=>(Prod.snd x).world.drawn) (Except.ok.inj h);simp only[zjz] at e;exact Nat.le_trans h1 (Nat.le_of_eq e))
theorem zms (p:Program)(m:Machine)(i:Nat)(listen:Bool):sOk m.world.drawn (runT p m i listen).1:=by
 unfold runT;simp only;have h:=zu7 p (i==0) (m.gs.swapAt! i { (default:Goroutine) with status:=.finished }).1 m.world listen;generalize stepG p (i==0) _ m.world listen=s at h ⊢
 cases s with
 | ended o w es=>exact xS
 | comm g cs b sh w es=>exact λ m' e=>Nat.le_trans h (zi2 _ _ _ _ _ _ _ _ _ m' e)
 | go g w es=>exact xX h
 | spawn g c w es=>exact xX h
 | count g w es=>
  simp only
  split
  ·exact xS
  ·exact xX h
 | alone g on w es=>exact xX h
 | collect g w es=>exact λ m' e=>Nat.le_trans h (zi9 _ _ _ _ m' e)
 | watch g w es=>exact xX h
 | newcoro g c d w es=>exact xX h
 | coroswitch g c ex w es=>
  simp only
  split
  ·exact xX h
  ·exact xX h
  ·exact xS
 | timer g op w es=>
  simp only
  split
  ·rename_i h1;exact xX (Nat.le_trans h (zp9 h1))
  ·exact xX h
  ·exact xS
  ·exact xS
def IG (n:Nat)(v:Move):Prop:=match v with
 | .goroutine m _=>n<=m.world.drawn
 | .machine s _=>sOk n s
theorem zg7 (p:Program)(m:Machine):IG m.world.drawn (askOn p m):=by
 unfold askOn;simp only
 split
 ·exact xS
 ·rename_i h0;have h0:=vJ h0
  split
  ·exact λ m' e=>Nat.le_trans h0 (zu6 p _ _ m' e)
  ·split
   ·split
    ·exact xX h0
    ·split
     ·exact xX h0
     ·split <;> exact xS
   ·split
    ·split
     ·exact xS
     ·rename_i h1;have h1:=Nat.le_trans h0 (vJ h1)
      split
      ·exact h1
      ·split
       ·exact xS
       ·rename_i h2;exact Nat.le_trans h1 (vJ h2)
    ·split
     ·exact xS
     ·rename_i hc;have hc:=Nat.le_trans h0 (vJ hc)
      split
      ·exact xS
      ·rename_i h1;have h1:=Nat.le_trans hc (vJ h1)
       split
       ·exact h1
       ·split
        ·exact xS
        ·rename_i h2;exact Nat.le_trans h1 (vJ h2)
     ·rename_i hc;have hc:=Nat.le_trans h0 (vJ hc);exact xX hc
     ·rename_i hc;have hc:=Nat.le_trans h0 (vJ hc)
      split
      ·exact xS
      ·rename_i h1;have h1:=vJ h1;have h1:=Nat.le_trans hc h1
       split
       ·exact h1
       ·split
        ·exact xS
        ·rename_i h2;exact Nat.le_trans h1 (vJ h2)
theorem IG.mono {a b:Nat}{v:Move}(h:IG b v)(CP:a<=b):IG a v:=by
 cases v with
 | goroutine m i=>exact Nat.le_trans CP h
 | machine s ops=>exact λ m' e=>Nat.le_trans CP (h m' e)
theorem zgp (p:Program)(m:Machine):IG m.world.drawn (ask p m):=by
 unfold ask
 split
 ·split
  ·exact xS
  ·rename_i h;have h:=vJ h
   split
   ·rename_i h1;exact (zg7 p _).mono (Nat.le_trans h (zi9 _ _ _ _ _ h1))
   ·rename_i h1;exact λ m' e=>Nat.le_trans h (zi9 _ _ _ _ _ e)
  ·rename_i h;exact (zg7 p _).mono (vJ h)
 ·exact zg7 p m
theorem zyx (p:Program)(m:Machine):IG m.world.drawn (move p m):=by
 unfold move
 split
 ·split
  ·exact Nat.le_refl _
  ·exact xS
 ·split
  ·split
   ·exact Nat.le_refl _
   ·exact zgp p _
  ·exact zgp p m
theorem zzr (h:step p m=.next m'):m.world.drawn<=m'.world.drawn:=by
 have hm:=zyx p m;unfold step stepT at h
 split at h
 ·rename_i m1 i h1;rw[h1] at hm;exact Nat.le_trans hm (zms p m1 i _ m' h)
 ·rename_i s ops h1;rw[h1] at hm;exact hm m' h
theorem zol {p:Program}:∀ (n:Nat) {m m':Machine},runN p n m=.next m'->m.world.drawn<=m'.world.drawn
 | 0,m,m',h=>by rw[runN] at h;cases h;exact Nat.le_refl _
 | n+1,m,m',h=>by
  rw[runN] at h
  split at h
  ·rename_i m1 h1;exact Nat.le_trans (zzr h1) (zol n h)
  ·rename_i h1;exact absurd h (λ e=>h1 m' e)
theorem ztw {f:FuncId}{args:Array Value}{R:Ending->W8->Prop}(h:Calls p f args w R):Calls p f args w λ e w'=>R e w'/\(∀ v,e=.returned v->w.drawn<=w'.drawn):=λ cs=>by
 obtain⟨e,w',fr,h1,h2,h3⟩:=h cs;refine⟨e,w',fr,⟨h1,λ v hv=>?_⟩,h2,h3⟩;subst hv;obtain⟨n,hn⟩:=h2;exact zol n hn
end
end Go.Proofs.YtldkpahaocjdpaaGreat
