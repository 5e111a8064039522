/-
  Plain: what the steps say; when a witness is right, as the program asks it.
-/
import Derived.Test.YtldkpahaocjdpaaGreatC43
set_option maxHeartbeats 16000000
set_option maxRecDepth 1000000
namespace Go.Proofs.YtldkpahaocjdpaaGreat
section
def j3 (st:List xA):List (Th × Nat):=(st.map (·.t)).zipIdx
def zux (Sp:B8->Nat)(k:Nat)(st:List xA):Prop:=∀ s∈st,∀ a∈zbh s.r.bs,xZ s.e a∉st.map (·.t)/\Sp a.p<k
def zxo (Sp:B8->Nat)(k:Nat)(rp:List PR)(st:List xA):Prop:=∀ r∈rp,Sp r.R.pd<k->∀ e∈zbq (j3 st) (zbh r.bs) (yZ r.bs) [],xZ e (kz r)∈st.map (·.t)
def Dp (rp:List PR)(Sp:B8->Nat)(m:Nat)(b:List Nat)(k:Nat)(st:List xA):Prop:=
 ∃ ns,zg2 (zdy rp) b=some (k,ns)/\k<=m/\j8 rp ns []=some st/\(st.map (·.t)).Nodup/\zux Sp k st/\zxo Sp k rp st
theorem qK (st:List xA):(j3 st).map (·.1)=st.map (·.t):=by unfold j3;rw[List.zipIdx_map_fst]
theorem zg9 {K L:List (Th × Nat)}(h:K.map (·.1)=L.map (·.1)):∀ (pos:List j6) (e:xF),yY K pos e=yY L pos e
 | [],e=>rfl
 | a::r,e=>by
  have h1:∀ M:List (Th × Nat),yY M (a::r) e=(M.map (·.1)).flatMap λ t=>match jA e a t with | some e'=>yY M r e' | none=>[]:=λ M=>by
   rw[yY,List.flatMap_map];rfl
  rw[h1,h1,h]
  congr 1
  funext t
  cases jA e a t with
  | none=>rfl
  | some e'=>exact zg9 h r e'
variable {K:List (Th × Nat)}
theorem zan {t:Th}:(j2 K t).isSome=true↔t∈K.map (·.1):=by
 constructor
 ·intro h;obtain⟨n,hn⟩:=Option.isSome_iff_exists.1 h;exact List.mem_map.2 ⟨_,Jn hn,rfl⟩
 ·intro h
  cases hk:j2 K t with
  | some n=>rfl
  | none=>
   obtain⟨p,hp,e⟩:=List.mem_map.1 h;exact absurd (show (t,p.2)∈K by rw[<-e];exact hp) (zbu hk _)
theorem zwk {L:List (Th × Nat)}(h:K.map (·.1)=L.map (·.1))(neg pos:List j6)(e:xF):zbq K neg pos e=zbq L neg pos e:=by
 unfold zbq;rw[zg9 h]
 congr 1
 funext x
 have:∀ y,(j2 K y).isSome=(j2 L y).isSome:=λ y=>by
  rw[Bool.eq_iff_iff,zan,zan,h]
 unfold zag;simp only[this]
end
section
structure Jp (ps:P9)(rp:List PR)(s:xA):Prop where
 aX:s.r∈rp
 xe:yad ps s.r s.e
 th:s.t=xZ s.e (kz s.r)
variable {rp:List PR} {ps:P9}
theorem Jp.ti {s:xA}(h:Jp ps rp s):sO ps s.t:=by rw[h.th];exact h.xe.hd
theorem z5e (hR:∀ r∈rp,xh ps r){st:List xA}(hs:∀ s∈st,Jp ps rp s){R:PR}(hr:R∈rp){fr:List Nat}{e:xF}(h:zca (yZ R.bs) fr (st.map (·.t)) []=some e):yad ps R e:=
 (hR R hr).xe (K:=(st.map (·.t)).map λ t=>(t,0)) (λ p hp=>by
  obtain⟨t,ht,rfl⟩:=List.mem_map.1 hp;obtain⟨s,mh,rfl⟩:=List.mem_map.1 ht
  exact (hs s mh).ti) (zeo _ _ _ _ _ h)
theorem ze0 {ps:P9}{rp:List PR}(hR:∀ r∈rp,xh ps r):∀ (ns:List (Nat × List Nat)) (st ky:List xA),(∀ s∈st,Jp ps rp s)->j8 rp ns st=some ky->∀ s∈ky,Jp ps rp s
 | [],st,ky,hs,h=>by
  obtain rfl:=Option.some.inj h;exact hs
 | x::q,st,ky,hs,h=>by
  rw[j8] at h
  split at h
  ·cases h
  ·rename_i R hx
   split at h
   ·cases h
   ·rename_i e he;refine ze0 hR q _ ky (λ s mh=>?_) h;rcases List.mem_append.1 mh with mh | mh
    ·exact hs s mh
    ·rw[List.mem_singleton.1 mh];exact⟨List.mem_of_getElem? hx,z5e hR hs (List.mem_of_getElem? hx) he,rfl⟩
end
section
open Go.RowKit
attribute [local go_sem ↓] zhi ze7 ze5 ze6 zjh zdq
attribute [local go_sem] zdo z1b
theorem zzh:(Tryz.prog.info? 352).map (λ i=>(i.zero,i.size,i.bytes))=some (some (zfb zdv),33,536):=by kernel_rfl
theorem z47 (s:xA)(h:s.r.hv.oneCell'=true/\s.r.bv.oneCell'=true):∀ u∈zZ s,u.oneCell'=true:=by
 have:=zug s h;rw[Array.all_eq_true_iff_forall_mem] at this;exact λ u hu=>this u (by simpa using hu)
theorem z1k {rp:List PR}{ns:List (Nat × List Nat)}{st:List xA}{k:Nat}(h:k<ns.length)(hr:ns[k].1<rp.length):j8 rp (ns.drop k) st=match zca (yZ rp[ns[k].1].bs) ns[k].2 (st.map (·.t)) [] with | none=>none | some e=>j8 rp (ns.drop (k+1)) (st++[zi2 rp[ns[k].1] (some e)]):=by
 rw[List.drop_eq_getElem_cons h,j8,List.getElem?_eq_getElem hr];rfl
structure Dr (w:W8)(K:Nat)(nv v:Value)(st:List xA)(wr:W8):Prop where
 kp:Below w.heap.size w wr
 box:wr.heap[w.heap.size]?=some (.cells #[.int .i64 (K:Nat),nv] 93 (0,0))
 st:wr.ownsRow (w.heap.size+1) 352 33 v st.length (st.flatMap zZ)
variable {wr w:W8} {nv v:Value} {K:Nat}
theorem Dr.lt {st:List xA}(h:Dr w K nv v st wr):w.heap.size<wr.heap.size:=(Array.getElem?_eq_some_iff.1 h.box).1
theorem Dr.below {st:List xA}{w':W8}(h:Dr w K nv v st wr)(k:Below wr.heap.size wr w'):Dr w K nv v st w':=
 ⟨h.kp.trans (k.mono h.kp.size),(k.block _ h.lt).trans h.box,zH h.st k (λ g e=>(h.st.lt g e).2)⟩
theorem Dr.add {wX W w5:W8}{v':Value}{st:List xA}{s:xA}(h:Dr w K nv v st wX)(hW:Below wX.heap.size wX W)(hg:W.grownBy w5 v.ownBlock)(aC:w5.ownsRow (w.heap.size+1) 352 33 v' (st.length+1) (st.flatMap zZ++zZ s)):Dr w K nv v' (st++[s]) w5:=by
 have hB:=h.below hW;have k5:zN v.ownBlock.toList W w5:=zN.aN hg;have cC:∀ x∈v.ownBlock.toList,w.heap.size+1<=x:=λ x hx=>(hB.st.lt x (by simpa using hx)).1
 exact⟨zY hB.kp k5 hB.kp.size (λ b hm=>by have:=cC b hm;omega),(k5.block _ hB.lt (λ hm=>by have:=cC _ hm;omega)).trans hB.box,by rw[List.length_append,List.flatMap_append];simpa using aC⟩
structure z21 (w:W8)(base:Nat)(rs:List PR)(rv:Value)(bZ:List ND)(nv:Value):Prop where
 rules:l8 w base rv rs
 l3:∀ r∈rs,r.bs.length<=3
 t4:∀ r∈rs,∀ x∈r.bs,x.1.ts.length<=4
 h4:∀ r∈rs,r.R.ts.length<=4
 nodes:CK w 0 nv bZ
 gH:bZ.length<=50
 ix:∀ x∈bZ,∃ h:x.r<rs.length,x.fr.length=(yZ rs[x.r].bs).length
def zx3 (w:W8)(o:Option (List xA))(e:Ending)(w':W8):Prop:=Below w.heap.size w w'/\∃ v,e=.returned (.tuple #[v,.bool o.isSome])/\zmj w' (w.heap.size+1) v (o.getD [])
theorem z1l (w:W8)(base K:Nat)(rs:List PR)(ar:O8)(cr:Nat)(bZ:List ND)(an:O8)(cn:Nat)(h:z21 w base rs (.slice ar rs.length cr) bZ (.slice an bZ.length cn)):
  Calls Tryz.prog 178 #[.agg #[.int .i64 (K:Nat),.slice an bZ.length cn],.slice ar rs.length cr] w (zx3 w (j8 rs (bZ.map sA) [])):=by
 have NB:=yN h.nodes.row;have Rf:=yN h.rules.row;unfold maxLen at NB Rf;have H:=zC h;have kU:=h.gH;obtain⟨i0,tI,cQ,cz,cx⟩:=info_parts zzh;clear h;go_enter Tryz.func178,Tryz.ntmps178;go_upto_region 2 with fail;generalize dK:World.alloc w _=w0;have h0:Dr w K (.slice an bZ.length cn) (.slice none 0 0) [] w0:=by
  rw[<-dK];exact⟨B9.alloc L9 _,heap_alloc_new w _,World.ownsRow_nil _ _ _ _⟩
 clear dK;have c1:=(zB h0.box 1).1;simp only[List.getElem?_toArray,List.getElem?_cons_zero,List.getElem?_cons_succ] at c1;have tl:=zC h0;clear h0;go_wp2_with fail;clear c1;generalize AB:j8 rs (bZ.map sA) []=T at *;have Bb:=zC AB;clear AB
 go_loopg [6,14] bZ.length (λ gg v ii wr=>∃ (k:Nat) (st:List xA),k<=bZ.length/\gg=bZ.length-k/\ii=.int .i64 k/\Dr w K (.slice an bZ.length cn) v st wr/\st.length=k/\j8 rs ((bZ.map sA).drop k) st=T)
 exact⟨0,[],Nat.zero_le _,rfl,rfl,zA tl,rfl,zA Bb⟩
 case round=>
  clear tl Bb;obtain⟨k,st,hk,iZ,rfl,ay,vp,ax⟩:=hrel;obtain⟨av,cv,rfl⟩:=zD ay.st;have gJ:=zC ay;have ET:=zC vp;have cV:=zC ax;have sY:=ay.lt
  by_cases aE:k<bZ.length
  ·have nC:(k:Int)<bZ.length:=(by omega);have kY:=(zA H).nodes.below ay.kp;obtain⟨gn,DT,hv,-,bR,cZ,da,hc⟩:=vU zr4 kY.row k aE;injection hv with i1 i2 i3
   subst i1 i3;have bY:=List.getElem_mem aE;have tG:=kY.each _ bY;obtain⟨af,cf,Dh⟩:=zD tG;have e0:=hc 0 (by omega);have e1:=hc 1 (by omega);simp only[zc1,List.getElem?_cons_zero,List.getElem?_cons_succ] at e0 e1;rw[Dh] at e1 tG;obtain⟨Jc,Mi⟩:=(zA H).ix _ bY;have aP:=z1k (rp:=rs) (ns:=bZ.map sA) (st:=st) (k:=k) (by simpa using aE) (by simpa[sA] using Jc);simp only[List.getElem_map,sA] at aP;rw[aP] at ax;have HT:=zC ax;have sW:=(zA H).rules.row;have mM:=((zA H).rules.each _ (List.getElem_mem Jc));have iK:=mM.one;have h3:=(zA H).l3 _ (List.getElem_mem Jc);have FD:=(zA H).t4 _ (List.getElem_mem Jc);have Qf:=(zA H).h4 _ (List.getElem_mem Jc);obtain⟨gr,Na,rh,-,mQ,NC,Nz,lP⟩:=vU (f:=PR.cells) (n:=3) (λ _=>rfl) (zH sW ay.kp (λ g e=>(sW.lt g e).2)) bZ[k].r Jc;injection rh with i1 i2 i3
   subst i1 i3;have r0:=lP 0 (by omega);have r1:=lP 1 (by omega);have r2:=lP 2 (by omega);simp only[PR.cells,List.getElem?_cons_zero,List.getElem?_cons_succ,Nat.add_zero] at r0 r1 r2 e0;obtain⟨ah,ch,sP⟩:=zD mM.hd;obtain⟨ab,cb,rY⟩:=zD mM.bo.row;rw[sP] at r1;rw[rY] at r2;have RE:((bZ[k].r:Nat):Int)<rs.length:=(by omega);have ze:=zC iK;have Ix:=zC (And.intro sP rY);have lR:=zC (λ (W:W8) (hW:Below wr.heap.size wr W)=>z01 W base rs[bZ[k].r] bZ[k].fr af cf st av cv ⟨⟨zH mM.hd (ay.kp.trans (hW.mono ay.kp.size)) (λ g e=>(mM.hd.lt g e).2),mM.bo.below (ay.kp.trans (hW.mono ay.kp.size)),mM.eq⟩,h3,FD,Qf,zH (zF tG (Nat.zero_le _)) hW (λ g e=>(tG.lt g e).2),Mi,⟨zH (zF ay.st (Nat.zero_le _)) hW (λ g e=>(ay.st.lt g e).2)⟩⟩);rw[sP,rY] at lR;clear ay vp ax kY hc aP sW mM lP iK bY tG Dh FD Qf sP rY Mi h3 cV;generalize hR:rs[bZ[k].r]=R at *;generalize hX:bZ[k].r=x at *;generalize Kx:bZ[k].fr=FR at *;generalize hO:zca (yZ R.bs) FR (st.map (·.t)) []=O at *;have HOO:=zC hO;clear hO Kx hX hR;have B7:(zi2 R O).r.hv.oneCell'=true/\(zi2 R O).r.bv.oneCell'=true:=by
    cases O with
    | none=>exact⟨rfl,rfl⟩
    | some e=>exact zA ze
   have FB:=λ (W:W8) (s:xA)=>zge W s (zi2 R O) B7
   go_upto_region 5 with fail;generalize gI:World.alloc wr _=w3;have k3:Below wr.heap.size wr w3:=(by rw[<-gI];exact B9.alloc L9 _);have y3:w3.heap[wr.heap.size]?=some (.cells #[.int .i64 (x:Nat),.slice af FR.length cf] 150 (0,0)):=(by rw[<-gI];exact heap_alloc_new wr _);have s3:wr.heap.size<w3.heap.size:=(by rw[<-gI];simp);clear gI;have a0:=(zB y3 0).1;have a1:=(zB y3 1).1;simp only[List.getElem?_toArray,List.getElem?_cons_zero,List.getElem?_cons_succ] at a0 a1;have u0:=(k3.cell (p:=⟨gr,x*3,none⟩) mQ).trans r0;have u1:=(k3.cell (p:=⟨gr,x*3+1,none⟩) mQ).trans r1;have u2:=(k3.cell (p:=⟨gr,x*3+2,none⟩) mQ).trans r2;have HA:=zC (λ (W:W8) (hW:Below w3.heap.size w3 W)=>(show W.cell? ⟨wr.heap.size,0,none⟩=some (.int .i64 (x:Nat))/\W.cell? ⟨wr.heap.size,1,none⟩=some (.slice af FR.length cf)/\W.cell? ⟨gr,x*3,none⟩=some (.string R.R.pd)/\W.cell? ⟨gr,x*3+1,none⟩=some (.slice ah R.R.ts.length ch)/\W.cell? ⟨gr,x*3+2,none⟩=some (.slice ab R.bs.length cb) from ⟨(hW.cell (p:=⟨wr.heap.size,0,none⟩) (by show wr.heap.size<_;omega)).trans a0,(hW.cell (p:=⟨wr.heap.size,1,none⟩) (by show wr.heap.size<_;omega)).trans a1,(hW.cell (p:=⟨gr,x*3,none⟩) (by show gr<_;omega)).trans u0,(hW.cell (p:=⟨gr,x*3+1,none⟩) (by show gr<_;omega)).trans u1,(hW.cell (p:=⟨gr,x*3+2,none⟩) (by show gr<_;omega)).trans u2⟩));have J2:=zC (λ (W:W8) (hW:Below w3.heap.size w3 W)=>zA lR W (k3.trans (hW.mono k3.size)));have EN:=zC k3;clear e0 e1 r0 r1 r2 y3 k3
   go_cut [9,10] from 15 to 36 (λ p c wc=>∃ nb,p=.pointer (some ⟨nb,0,none⟩)/\c=.bool O.isSome/\nu wc nb (zi2 R O)/\Below w3.heap.size w3 wc)
   case first=>
    go_region_held3 (λ w'=>w'.cell? ⟨wr.heap.size,0,none⟩=some (.int .i64 (x:Nat))/\w'.cell? ⟨wr.heap.size,1,none⟩=some (.slice af FR.length cf)/\w'.cell? ⟨gr,x*3,none⟩=some (.string R.R.pd)/\w'.cell? ⟨gr,x*3+1,none⟩=some (.slice ah R.R.ts.length ch)/\w'.cell? ⟨gr,x*3+2,none⟩=some (.slice ab R.bs.length cb)) ((refine zA HA _ ?_;first | exact dT | exact B9.drew | exact (B9.alloc L9 _).drew | exact dT.alloc dT.size _ | exact yI dT L9 _)) ((go_at_call 222;refine (zA J2 _ (by first | exact B9.drew | exact (B9.alloc L9 _).drew)).mono ?_;rintro en w4 ⟨cM,rfl⟩;have dT:Below w3.heap.size w3 w4:=(by first | exact zV cM | exact zes (B9.alloc L9 _) cM);first | (have Ah:=((nu.new w3 zdv).below (zV cM)).store (zi2 R O) B7) | skip))
    all_goals
     go_wp2_with fail;go_meet
     case rel=>first | exact⟨_,rfl,rfl,nu.new _ _,dT.alloc dT.size _⟩ | exact⟨_,rfl,rfl,setRow_heap _ _ _ _ _ _ ((nu.new w3 zdv).below (zV cM)),yI dT L9 _⟩
   case rest=>
    generalize wc=wA at *;obtain⟨nb,rfl,rfl,tT,lE⟩:=hcut;have nB:=((zA gJ).below (zA EN)).below lE;have DC:=zC nB;clear HA lR J2 a0 a1 u0 u1 u2
    cases zm:O with
    | none=>
     have HE:=zC (show T=none by rw[<-zA HT,zm]);clear nB tT lE zm;go_wp2_with fail
     go_ret2
     rw[zA HE];exact⟨(zA DC).kp,_,rfl,⟨World.ownsRow_nil _ _ _ _⟩⟩
    | some e=>
     rw[zm] at tT;have HE:=zC (show j8 rs ((bZ.map sA).drop (k+1)) (st++[zi2 R (some e)])=T by rw[<-zA HT,zm]);have Gk:(zi2 R (some e)).r.hv.oneCell'=true/\(zi2 R (some e)).r.bv.oneCell'=true:=zA ze;have Eb:=tT.load;generalize zi2 R (some e)=sn at *;have bT:=nB.st.alloc (.cells (zZ sn).toArray 352);have dJ:=zC (World.news_of_block (heap_alloc_new wA (.cells (zZ sn).toArray 352)));have vp:st.length<=50:=(by have:=zA ET;omega);have Ja:=nB.lt;clear nB tT lE zm B7 FB;go_wp2_with (at_builtin;refine wpList_append_own _ rfl _ _ 303 rfl (w.heap.size+1) 352 i0 _ 33 536 Tryz.underlying303 tI cQ cz cx rfl (by decide) _ _ _ rfl bT ⟨wA.heap.size,0,none⟩ 1 1 (zZ sn) rfl rfl (zA dJ) (z47 sn Gk) (by unfold maxLen;omega) (by omega) (by simp;omega) ?_;intro v5 w5 aj aU hne5;clear hne5;obtain⟨a5,ie,rfl⟩:=zD aj;have zb:=zC aj;have uO:=zC aU;clear aj aU);go_roundg (bZ.length-(k+1));exact⟨k+1,st++[sn],by omega,rfl,by go_num,(zA DC).add (B9.alloc L9 _) (zA uO) (zA zb),by have:=zA ET;rw[List.length_append,List.length_singleton];omega,zA HE⟩;omega
  ·have nC:¬ (k:Int)<bZ.length:=(by omega);have HE:=zC (show T=some st by rw[<-ax,List.drop_of_length_le (by simp;omega)];rfl);clear ay vp ax;go_wp2_with fail
   go_ret2
   rw[zA HE];exact⟨(zA gJ).kp,_,rfl,⟨(zA gJ).st⟩⟩
end
section
open Go.RowKit Go.Maps
attribute [local go_sem ↓] zhi ze7 ze5 ze6 zjh zdq za9
attribute [local go_sem] zdo
theorem zwv (st:List xA)(s:xA):j3 (st++[s])=j3 st++[(s.t,st.length)]:=by
 unfold j3;rw[List.map_append,List.zipIdx_append,List.length_map];simp
def zuz (w:W8)(st:List xA)(e:Ending)(w':W8):Prop:=Below w.heap.size w w'/\((¬ (st.map (·.t)).Nodup/\e=.returned (.tuple #[.map none,.bool false]))\/((st.map (·.t)).Nodup/\e=.returned (.tuple #[.map (some w.heap.size),.bool true])/\jg w' w.heap.size (j3 st)))
theorem zvs (w:W8)(base:Nat)(st:List xA)(a:O8)(c:Nat)(h:zmj w base (.slice a st.length c) st)(cd:∀ s∈st,zhm s.t)(WX:st.length<=50)(iK:∀ s∈st,s.r.hv.oneCell'=true/\s.r.bv.oneCell'=true):
  Calls Tryz.prog 179 #[.slice a st.length c] w (zuz w st):=by
 have hm:=yN h.row;unfold maxLen at hm;have H:=zC h;have gK:=zC cd;have ze:=zC iK;clear h cd iK;have uB:=@run_makeMap Tryz.prog;go_enter Tryz.func179,Tryz.ntmps179;go_upto_region 2 with fail;clear uB;have zy:=jg.made w;have iW:Below w.heap.size w (w.alloc (.map #[] 0)):=B9.alloc L9 _;generalize (w.alloc (.map #[] 0))=w0 at *;have tl:=zC (And.intro zy iW);clear zy iW;go_wp2_with fail
 go_loopg [12] st.length (λ gg ii wr=>∃ k:Nat,k<=st.length/\gg=st.length-k/\ii=.int .i64 k/\jg wr w.heap.size (j3 (st.take k))/\Below w.heap.size w wr)
 exact⟨0,Nat.zero_le _,rfl,rfl,(zA tl).1,(zA tl).2⟩
 case round=>
  clear tl;obtain⟨k,hk,iZ,rfl,eV,dh⟩:=hrel;have Ge:=zC eV;have ly:=zC dh;have sY:=eV.lt
  by_cases aE:k<st.length
  ·have nC:(k:Int)<st.length:=(by omega);have aB:=zH (zA H).row dh (λ g e=>((zA H).row.lt g e).2);obtain⟨g,cap,hv,-,bR,cZ,da,hc⟩:=zso aB aE;injection hv with h1 h2 h3
   subst h1 h3;have bY:=List.getElem_mem aE;have hT:=zA gK _ bY;have Gk:=zA ze _ bY;have Eb:=zl5 hc
   have lR:=zC (show j3 (st.take (k+1))=j3 (st.take k)++[(st[k].t,k)] by
    rw[List.take_succ_eq_append_getElem aE,zwv,List.length_take,Nat.min_eq_left (by omega)])
   have hlen:(j3 (st.take k)).length<maxLen:=by
    unfold j3 maxLen;rw[List.length_zipIdx,List.length_map,List.length_take];omega
   have me:=zC (show st.map (·.t)=(st.take k).map (·.t)++st[k].t::(st.drop (k+1)).map (·.t) by
    rw[<-List.map_cons,<-List.drop_eq_getElem_cons aE,<-List.map_append,List.take_append_drop])
   have FB:=λ (W:W8) (s:xA)=>zge W s st[k] Gk
   have tT:=nu.new wr st[k]
   have YC:=zqs (o:=0) (s:=st[k]) (w:=wr.alloc (.cells (zZ st[k]).toArray 352)) (g:=wr.heap.size) (λ j hj=>by
    rw[Nat.zero_add,(zB tT j).1,List.getElem?_toArray])
   rw[Nat.zero_add] at YC;have I2:=(zA Ge).alloc (.cells (zZ st[k]).toArray 352);have oL:=zC (dh.alloc dh.size (.cells (zZ st[k]).toArray 352));generalize st[k]=s at *;clear eV dh aB hc bY tT Ge
   cases qo:j2 (j3 (st.take k)) s.t with
   | some m=>
    have Ou:=zC (show ¬ (st.map (·.t)).Nodup by
     intro kY;rw[zA me,List.nodup_append] at kY;have h5:s.t∈(st.take k).map (·.t):=by
      rw[<-qK];exact zan.1 (by rw[qo];rfl)
     exact kY.2.2 _ h5 _ List.mem_cons_self rfl)
    go_wp2_with (at_lookup;refine zbr _ rfl _ _ 82 rfl Tryz.underlying82 w.heap.size (j3 (st.take k)) rfl I2 s.t rfl hT _ rfl true (by rw[qo];rfl) ?_)
    go_ret2
    exact⟨zA oL,.inl ⟨zA Ou,rfl⟩⟩
   | none=>
    have uR:=zC qo;go_wp2_with (first | (at_lookup;refine zbr _ rfl _ _ 82 rfl Tryz.underlying82 w.heap.size (j3 (st.take k)) rfl I2 s.t rfl hT _ rfl false (by rw[zA uR];rfl) ?_) | (at_mapUpdate;refine z8m _ rfl _ _ _ 82 rfl Tryz.underlying82 w.heap.size (j3 (st.take k)) rfl I2 hlen s.t k rfl rfl hT ?_;intro w3 kP yl;have IC:=zC kP;have MZ:=zC yl;clear kP yl));go_roundg (st.length-(k+1))
    case measure=>omega
    case rel=>
     have g3:=(zA MZ).grown;have kA:=zA oL;refine⟨k+1,by omega,rfl,by go_num,?_,⟨g3.os.trans kA.os,g3.tape.trans kA.tape,g3.output.trans kA.output,Nat.le_trans kA.size g3.size,λ j hj=>(g3.block j (by have:=kA.size;omega) (by simp;omega)).trans (kA.block j hj)⟩⟩;have h3:=zA IC;have Q6:zrb (j3 (st.take k)) s.t k=j3 (st.take k)++[(s.t,k)]:=(by unfold zrb;rw[zA uR];rfl);rw[Q6] at h3;rw[zA lR];exact h3
  ·have nC:¬ (k:Int)<st.length:=(by omega);have qn:st.take k=st:=List.take_of_length_le (by omega)
   have za:=zC (show (st.map (·.t)).Nodup by
    have:=eV.nodup;rw[qK,qn] at this
    exact this)
   rw[qn] at Ge;clear eV dh qn;go_wp2_with fail
   go_ret2
   exact⟨zA ly,.inr ⟨zA za,rfl,zA Ge⟩⟩
end
section
open Go.RowKit Go.Maps Go.ChangeMaps Go.WideMaps
attribute [local go_sem ↓] zcw zbe zdd qB za9 zau zat zas zhi ze7 ze5 ze6 zjh zdq
attribute [local go_sem] zdo
theorem fD.Cs {w:W8}{b n:Nat}{V:B8->Option Value}(h:fD Tryz.prog 9 w b n V){key:B8}(eU:key.size<=maxLen):(Instr.lookup 73 (.map (some b)) (.string key) false).run Tryz.prog w=.ok ((V key).getD (.agg #[.string { data:=#[] },.int .i64 0,.int .i64 0])) w:=by
 obtain⟨D,hD,h3⟩:=h;obtain⟨v,ps,nE,hv⟩:=hD.lookup (string_keyed Tryz.underlying9) Tryz.underlying73 (Tryz.zeroValue185 _) (zd:=.held (.agg #[.string { data:=#[] },.int .i64 0,.int .i64 0])) (zp:=[]) rfl (keyOf_string_mk Tryz.underlying9 eU);have h1:=((h3 key).2 _).symm.trans (zev hv);have h2:(V key).getD (.agg #[.string { data:=#[] },.int .i64 0,.int .i64 0])=v:=DataW.held.inj h1;rw[h2];exact nE
structure z6g (w:W8)(base mb tb n:Nat)(ps:P9)(Sp:B8->Nat)(st:List xA)(sv:Value):Prop where
 steps:zmj w 0 sv st
 gH:st.length<=50
 aX:∀ s∈st,sL w base s.r
 l3:∀ s∈st,s.r.bs.length<=3
 t4:∀ s∈st,∀ x∈s.r.bs,x.1.ts.length<=4
 len:∀ s∈st,s.e.length<=12
 neg:∀ s∈st,∀ a∈zbh s.r.bs,zhm (xZ s.e a)/\a.p.size<=800/\(xH ps a.p).isSome=true
 m:jg w mb (j3 st)
 t:fD Tryz.prog 9 w tb n (stV ps Sp)
def zsy (w:W8)(P:Prop)(e:Ending)(w':W8):Prop:=Below w.heap.size w w'/\∃ c:Bool,e=.returned (.bool c)/\(c=true↔P)
def z6p (Sp:B8->Nat)(K:Nat)(st:List xA)(s:xA)(a:j6):Prop:=xZ s.e a∉st.map (·.t)/\Sp a.p<K
theorem zvf (w:W8)(base mb tb n K:Nat)(nv:Value)(ps:P9)(Sp:B8->Nat)(st:List xA)(a:O8)(c:Nat)(h:z6g w base mb tb n ps Sp st (.slice a st.length c))(an:O8)(nn cn:Nat)(env:nv=.slice an nn cn):
  Calls Tryz.prog 180 #[.agg #[.int .i64 (K:Nat),nv],.slice a st.length c,.map (some mb),.map (some tb)] w (zsy w (zux Sp K st)):=by
 subst env;have hm:=yN h.steps.row;unfold maxLen at hm;have H:=zC h;have vu:=h.t.lt;have bh:=h.m.lt;clear h;have Fg:=znb;go_enter Tryz.func180,Tryz.ntmps180;go_upto_region 1 with fail;have iW:Below w.heap.size w (w.alloc (.cells #[.int .i64 (K:Nat),.slice an nn cn] 93)):=B9.alloc L9 _;have sR:=heap_alloc_new w (.cells #[.int .i64 (K:Nat),.slice an nn cn] 93);generalize (w.alloc (.cells #[.int .i64 (K:Nat),.slice an nn cn] 93))=w0 at *;have tl:=zC (And.intro iW sR);clear iW sR;go_wp2_with fail
 go_loopg [17] st.length (λ gg ii wr=>∃ k:Nat,k<=st.length/\gg=st.length-k/\ii=.int .i64 k/\Below w.heap.size w wr/\wr.heap[w.heap.size]?=some (.cells #[.int .i64 (K:Nat),.slice an nn cn] 93 (0,0))/\∀ s∈st.take k,∀ x∈zbh s.r.bs,z6p Sp K st s x)
 exact⟨0,Nat.zero_le _,rfl,rfl,(zA tl).1,(zA tl).2,by simp⟩
 case round=>
  clear tl;obtain⟨k,hk,iZ,rfl,dh,ed,aL⟩:=hrel;have ly:=zC dh;have Du:=zC ed;have cY:=zC aL;have sY:=(Array.getElem?_eq_some_iff.1 ed).1
  by_cases aE:k<st.length
  ·have nC:(k:Int)<st.length:=(by omega);have aB:=zH (zA H).steps.row dh (λ g e=>((zA H).steps.row.lt g e).2);obtain⟨g,cap,hv,-,bR,cZ,da,hc⟩:=zso aB aE;injection hv with h1 h2 h3
   subst h1 h3;have bY:=List.getElem_mem aE;have mM:=(zA H).aX _ bY;have Gk:=mM.one;have Eb:=zl5 hc;have lR:=zC (show st.take (k+1)=st.take k++[st[k]] from List.take_succ_eq_append_getElem aE);have FB:=λ (W:W8) (s:xA)=>zge W s st[k] Gk
   have nR:=(zA H).l3 _ bY;have FD:=(zA H).t4 _ bY;have hlen:=(zA H).len _ bY;have cO:=(zA H).neg _ bY;obtain⟨ah,ch,sP⟩:=zD mM.hd;obtain⟨ab,cb,rY⟩:=zD mM.bo.row;have gX:=mM.bo;rw[rY] at gX;have CW:=zC gX;have tT:=nu.new wr st[k];have kr:=zC bY;have Wj:=zC FD;have rT:=zC cO;have kA:=(Below.refl wr.heap.size wr).alloc L9 (.cells (zZ st[k]).toArray 352);generalize hS:st[k]=s at *;clear hc aB bY mM FD cO gX aL ed dh;go_upto_region 4 with fail;generalize nj:World.alloc wr _=w1 at *;have c0:=(zB tT 0).1;have c1:=(zB tT 1).1;have c2:=(zB tT 2).1;simp only[zZ,PR.cells,List.getElem?_toArray,List.cons_append,List.nil_append,List.getElem?_cons_zero,List.getElem?_cons_succ] at c0 c1 c2;rw[sP] at c1;rw[rY] at c2;have UY:Below w.heap.size w w1:=(zA ly).trans (kA.mono (zA ly).size);have SG:=zC (zip w1 base s.r.R.pd ah s.r.R.ts.length ch ab cb s.r.bs ((zA CW).below UY) (by omega));have SP:=zC tT;have oL:=zC kA;have s1:wr.heap.size<w1.heap.size:=tT.lt;clear nj tT kA UY Eb FB;go_upto_region 5 with (go_at_call 223;refine (zA SG).mono ?_;rintro en wP ⟨ap,cp,rfl,pw,KX,RG⟩;have C3:=zC pw;have F2:=zC KX;clear pw KX RG);clear c0 c1 c2 SG;have mg:(s.r.bs.filter (vD true)).length=(yQ true s.r.bs).length:=(by unfold yQ;rw[List.length_map]);have ng:(yQ true s.r.bs).length<=3:=by
    rw[<-mg];exact Nat.le_trans (List.length_filter_le _ _) nR
   have UA:wP.ownsRow 0 79 2 (.slice ap (yQ true s.r.bs).length cp) (yQ true s.r.bs).length ((yQ true s.r.bs).flatMap zd8):=by
    have:=zA C3;rw[mg,<-R5] at this;exact zF this (Nat.zero_le _)
   have UZ:Below w.heap.size w wP:=(zA ly).trans (((zA oL).trans ((zA F2).mono (zA oL).size)).mono (zA ly).size);have TR:wP.heap[w.heap.size]?=some (.cells #[.int .i64 (K:Nat),.slice an nn cn] 93 (0,0)):=(((zA oL).trans ((zA F2).mono (zA oL).size)).block _ sY).trans (zA Du);have UE:nu wP wr.heap.size s:=(zA SP).below (zA F2);have xm:=zC UA;have JO:=zC UZ;have JC:=zC TR;have O3:=zC UE;rw[mg];generalize wr.heap.size=b10 at *;clear mg C3 F2 SP oL ly Du UA UZ TR UE s1
   go_loopg [25] (yQ true s.r.bs).length (λ gg ii wq=>∃ j:Nat,j<=(yQ true s.r.bs).length/\gg=(yQ true s.r.bs).length-j/\ii=.int .i64 j/\Below wP.heap.size wP wq/\∀ x∈(yQ true s.r.bs).take j,z6p Sp K st s x.1)
   exact⟨0,Nat.zero_le _,rfl,rfl,Below.refl _ _,by simp⟩
   case round=>
    obtain⟨j,hj,BI,rfl,AJ,xy⟩:=hrel;have JM:=zC AJ;have Vi:=zC xy;have Ql:Below w.heap.size w wr:=(zA JO).trans (AJ.mono (zA JO).size);have JN:=zC Ql;have Bz:=(AJ.block _ (Array.getElem?_eq_some_iff.1 (zA JC)).1).trans (zA JC)
    by_cases hlj:j<(yQ true s.r.bs).length
    ·have IW:(j:Int)<(yQ true s.r.bs).length:=(by omega);have aB:=zH (zA xm) AJ (λ g e=>((zA xm).lt g e).2);obtain⟨gp,WN,hv,-,XJ,Yk,Xv,hc⟩:=vU zi5 aB j hlj;injection hv with h1 h2 h3
     subst h1 h3;have hx:=List.getElem_mem hlj;obtain⟨y,hy,yo⟩:=zc6 hx;obtain⟨AT,zk⟩:∃ AT,AT=(yQ true s.r.bs)[j].1:=⟨_,rfl⟩;have PC:AT∈zbh s.r.bs:=(by rw[zk];exact List.mem_map_of_mem hx);have mU:=(zA CW).each y hy;obtain⟨ta,tc,sr⟩:=zD mU;have DY:AT=(zg3 y).1:=(by rw[zk,yo]);have kU:AT.ts.length<=4:=(by rw[DY];exact zA Wj y hy);have e0:wr.cell? ⟨gp,j*2,none⟩=some (.string AT.p):=(by have:=hc 0 (by omega);rw[zk];exact this);have e1:wr.cell? ⟨gp,j*2+1,none⟩=some (.slice ta AT.ts.length tc):=by
      have:=hc 1 (by omega);rw[yo] at this;rw[DY];exact this.trans (by show some y.2=_;rw[sr];rfl)
     have nG:w.ownsRow base 191 1 (.slice ta AT.ts.length tc) AT.ts.length (AT.ts.map zcb):=by
      rw[DY];rw[sr] at mU;exact mU
     obtain⟨cd,kx,rf⟩:=zA rT AT PC;have eU:AT.p.size<=maxLen:=(by unfold maxLen;omega);obtain⟨m,il⟩:=Option.isSome_iff_exists.1 rf;have hu:(stV ps Sp AT.p).getD (.agg #[.string { data:=#[] },.int .i64 0,.int .i64 0])=.agg #[.string AT.p,.int .i64 (Sp AT.p),.int .i64 m]:=(by unfold stV;rw[il];rfl);have Pb:=zC (show (yQ true s.r.bs).take (j+1)=(yQ true s.r.bs).take j++[(yQ true s.r.bs)[j]] from List.take_succ_eq_append_getElem hlj);have Ju:=zC zk;have Sh:=zC PC;have kA:=(Below.refl wr.heap.size wr).alloc L9 (.cells #[.string AT.p,.slice ta AT.ts.length tc] 79);have nc:=heap_alloc_new wr (.cells #[.string AT.p,.slice ta AT.ts.length tc] 79);have UH:=(zA O3).below AJ;clear hc hx yo zk PC mU sr DY rf il aB xy Ql h2;go_upto_region 7 with fail;generalize lL:World.alloc wr _=w2 at *;have I8:=(UH.below kA).bound;have a0:=(zB nc 0).1;have a1:=(zB nc 1).1;simp only[List.getElem?_toArray,List.getElem?_cons_zero,List.getElem?_cons_succ] at a0 a1;have rO:Below w.heap.size w w2:=(zA JN).trans (kA.mono (zA JN).size);have xi:=zC (zg8 w2 base s.e AT ta tc (zH nG rO (λ g e1=>(nG.lt g e1).2)) kU hlen);have lV:=(kA.block _ (Array.getElem?_eq_some_iff.1 Bz).1).trans Bz;have ID:=zC (And.intro rO (And.intro nc lV));have QR:wr.heap.size<w2.heap.size:=(Array.getElem?_eq_some_iff.1 nc).1
     have qv:=zC (λ (W:W8) (hW:Below w2.heap.size w2 W)=>(show jg W mb (j3 st)/\fD Tryz.prog 9 W tb n (stV ps Sp)/\W.cell? ⟨wr.heap.size,0,none⟩=some (.string AT.p)/\W.cell? ⟨w.heap.size,0,none⟩=some (.int .i64 (K:Nat))/\Below w.heap.size w W/\Below wP.heap.size wP W from by
      have kW:=rO.trans (hW.mono rO.size);refine⟨(zA H).m.block (kW.block mb bh),(zA H).t.block (kW.block tb vu),(hW.cell (p:=⟨wr.heap.size,0,none⟩) QR).trans a0,?_,kW,(zA JM).trans ((kA.trans (hW.mono kA.size)).mono (zA JM).size)⟩;have:=(zB lV 0).1
      exact (hW.cell (p:=⟨w.heap.size,0,none⟩) (Array.getElem?_eq_some_iff.1 lV).1).trans this))
     generalize hPF:xZ s.e AT=TH at *;have SJ:=zC hPF;clear lL nc UH rO kA e0 e1 nG lV Bz AJ
     cases qo:j2 (j3 st) TH with
     | some m1=>
      have lz:=zC (show ¬ zux Sp K st from λ hd=>by
       have h5:=(hd s (zA kr) AT (zA Sh)).1;rw[zA SJ] at h5;refine h5 ?_;rw[<-qK]
       exact zan.1 (by rw[qo];rfl))
      have uR:=zC qo;clear qo;go_wp2_with (first | (go_at_call 146;refine (zA xi).mono ?_;rintro en w4 ⟨cM,rfl⟩;obtain⟨m4,t4,x4,y4,k4,q4⟩:=zA qv w4 cM;have Ht:=t4.Cs eU;rw[hu] at Ht;have EO:=zC k4;clear cM k4 q4) | (at_lookup;refine zbr _ rfl _ _ 82 rfl Tryz.underlying82 mb (j3 st) rfl m4 TH rfl cd _ rfl true (by rw[zA uR];rfl) ?_));go_ret;exact⟨zA EO,false,rfl,⟨λ h=>by (cases h),λ h=>absurd h (zA lz)⟩⟩
     | none=>
      have uR:=zC qo
      have VP:=zC (show TH∉st.map (·.t) from λ h5=>by
       rw[<-qK] at h5;have:=zan.2 h5;rw[qo] at this
       cases this)
      clear qo
      by_cases uZ:Sp AT.p<K
      ·have Gt:¬ ((K:Int)<=Sp AT.p):=(by omega);have va:decide ((K:Int)<=Sp AT.p)=false:=(by simp;omega);go_wp2_with (first | (go_at_call 146;refine (zA xi).mono ?_;rintro en w4 ⟨cM,rfl⟩;obtain⟨m4,t4,x4,y4,k4,q4⟩:=zA qv w4 cM;have Ht:=t4.Cs eU;rw[hu] at Ht;have EO:=zC q4;clear cM k4 q4) | (at_lookup;refine zbr _ rfl _ _ 82 rfl Tryz.underlying82 mb (j3 st) rfl m4 TH rfl cd _ rfl false (by rw[zA uR];rfl) ?_));go_roundg ((yQ true s.r.bs).length-(j+1))
       case measure=>omega
       case rel=>
        refine⟨j+1,by omega,rfl,by go_num,zA EO,λ x hx=>?_⟩;rw[zA Pb] at hx;rcases List.mem_append.1 hx with hx | hx
        ·exact zA Vi x hx
        ·rw[List.mem_singleton.1 hx];refine⟨?_,?_⟩
         ·rw[<-zA Ju,zA SJ];exact zA VP
         ·rw[<-zA Ju];exact uZ
      ·have Gt:(K:Int)<=Sp AT.p:=(by omega);have va:decide ((K:Int)<=Sp AT.p)=true:=(by simp;omega);have lz:=zC (show ¬ zux Sp K st from λ hd=>uZ (hd s (zA kr) AT (zA Sh)).2);go_wp2_with (first | (go_at_call 146;refine (zA xi).mono ?_;rintro en w4 ⟨cM,rfl⟩;obtain⟨m4,t4,x4,y4,k4,q4⟩:=zA qv w4 cM;have Ht:=t4.Cs eU;rw[hu] at Ht;have EO:=zC k4;clear cM k4 q4) | (at_lookup;refine zbr _ rfl _ _ 82 rfl Tryz.underlying82 mb (j3 st) rfl m4 TH rfl cd _ rfl false (by rw[zA uR];rfl) ?_));go_ret;exact⟨zA EO,false,rfl,⟨λ h=>by (cases h),λ h=>absurd h (zA lz)⟩⟩
    ·have IW:¬ (j:Int)<(yQ true s.r.bs).length:=by omega
     have HD:=zC (show ∀ x∈zbh s.r.bs,z6p Sp K st s x from λ x hx=>by
      obtain⟨y,hy,rfl⟩:=List.mem_map.1 hx
      exact xy y (by rw[List.take_of_length_le (by omega)];exact hy))
     have Ol:=zC Bz;clear xy Ql AJ Bz;go_wp2_with fail;go_roundg (st.length-(k+1))
     case measure=>omega
     case rel=>
      refine⟨k+1,by omega,rfl,by go_num,zA JN,zA Ol,λ x hx=>?_⟩;rw[zA lR] at hx;rcases List.mem_append.1 hx with hx | hx
      ·exact zA cY x hx
      ·rw[List.mem_singleton.1 hx];exact zA HD
  ·have nC:¬ (k:Int)<st.length:=(by omega);have qn:st.take k=st:=List.take_of_length_le (by omega);rw[qn] at cY;clear aL ed dh qn;go_wp2_with fail;go_ret;exact⟨zA ly,true,rfl,⟨λ _=>zA cY,λ _=>rfl⟩⟩
end
end Go.Proofs.YtldkpahaocjdpaaGreat
