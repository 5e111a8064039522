/-
  fromBytes: a witness is read.
-/
import Derived.Test.YtldkpahaocjdpaaGreatM32
set_option maxHeartbeats 16000000
set_option maxRecDepth 1000000
namespace Go.Proofs.YtldkpahaocjdpaaGreat
section
open Go.RowKit Go.Maps
theorem zv1 (pos:List Nat)(n:Nat)(rest:List Nat):rdP pos (n+1) rest=match zhm pos rest with | none=>none | some x=>match rdP pos n (rest.drop (1+x.2.length)) with | none=>none | some l=>some (x::l):=by
 cases rest with
 | nil=>rfl
 | cons r q=>
  rw[rdP,zhm]
  cases hp:pos[r]? with
  | none=>rfl
  | some m=>
   simp only
   by_cases h:q.length<m
   ·rw[if_pos h,if_pos h]
   ·rw[if_neg h,if_neg h];simp only[List.length_take];rw[show (r::q).drop (1+min m q.length)=q.drop m by rw[Nat.add_comm,List.drop_succ_cons,Nat.min_eq_left (by omega)]]
    cases rdP pos n (q.drop m) <;> rfl
variable {x:Nat × List Nat} {rest:List Nat}
theorem z2b {pos:List Nat}(h:zhm pos rest=some x):1+x.2.length<=rest.length:=by
 cases rest with
 | nil=>cases h
 | cons r q=>
  rw[zhm] at h
  split at h
  ·cases h
  ·split at h
   ·cases h
   ·obtain rfl:=Option.some.inj h;simp only[List.length_take,List.length_cons];omega
theorem z2a {rs:List PR}(h3:∀ r∈rs,r.bs.length<=3)(h:zhm (zio rs) rest=some x):x.2.length<=3:=by
 cases rest with
 | nil=>cases h
 | cons r q=>
  rw[zhm] at h
  split at h
  ·cases h
  ·rename_i m hm
   split at h
   ·cases h
   ·obtain rfl:=Option.some.inj h;unfold zio at hm;rw[List.getElem?_map] at hm
    cases hr:rs[r]? with
    | none=>rw[hr] at hm;cases hm
    | some R=>
     rw[hr] at hm;obtain rfl:=Option.some.inj hm;have h1:=zhl R.bs;have h2:=h3 R (List.mem_of_getElem? hr);simp only[List.length_take];omega
structure dW (w:W8)(k:Nat)(aJ:List ND)(nv:Value)(wr:W8):Prop where
 kp:Below w.heap.size w wr
 res:wr.heap[w.heap.size]?=some (.cells #[.int .i64 0,.slice none 0 0] 93 (0,0))
 box:wr.heap[w.heap.size+1]?=some (.cells #[.int .i64 (k:Nat),nv] 93 (0,0))
 aJ:jQ wr (w.heap.size+1+1) nv aJ
variable {wr w:W8} {nv:Value}
theorem dW.lt {k:Nat}{aJ:List ND}(h:dW w k aJ nv wr):w.heap.size+1<wr.heap.size:=(Array.getElem?_eq_some_iff.1 h.box).1
theorem dW.below {w:W8}{k:Nat}{aJ:List ND}{nv:Value}{wr w':W8}(h:dW w k aJ nv wr)(b:Below wr.heap.size wr w'):dW w k aJ nv w':=
 have l:=h.lt
 ⟨h.kp.trans (b.mono h.kp.size),(b.block _ (by omega)).trans h.res,(b.block _ l).trans h.box,h.aJ.below b⟩
theorem dW.start (w:W8)(k:Nat):dW w k [] (.slice none 0 0) ((w.alloc (.cells #[.int .i64 0,.slice none 0 0] 93)).alloc (.cells #[.int .i64 (k:Nat),.slice none 0 0] 93)):=by
 refine⟨((Below.refl _ w).alloc L9 _).alloc (by simp) _,?_,?_,⟨World.ownsRow_nil _ _ _ _,by simp⟩⟩
 ·rw[Below.heap_alloc _ _ _ (by simp)];exact heap_alloc_new w _
 ·have:=heap_alloc_new (w.alloc (.cells #[.int .i64 0,.slice none 0 0] 93)) (.cells #[.int .i64 (k:Nat),.slice none 0 0] 93);rw[World.size_alloc] at this;exact this
variable {W w5:W8}
theorem dW.AP {k:Nat}{aJ:List ND}(h:dW w k aJ nv wr)(hW:Below wr.heap.size wr W)(hg:W.grownBy w5 nv.ownBlock):w5.heap[w.heap.size+1]?=some (.cells #[.int .i64 (k:Nat),nv] 93 (0,0)):=by
 have hB:=h.below hW;have l:=hB.lt;have k5:z7 nv.ownBlock.toList W w5:=z7.eK hg;exact (k5.block _ l (λ hm=>by have:=(hB.aJ.row.lt _ (by simpa using hm)).1;omega)).trans hB.box
theorem dW.add {k:Nat}{aJ:List ND}{v':Value}{x:ND}(h:dW w k aJ nv wr)(hx:wr.ownsRow (w.heap.size+1+1) 3 1 x.v x.fr.length (cO x.fr))(hW:Below wr.heap.size wr W)(hg:W.grownBy w5 nv.ownBlock)(aI:w5.ownsRow (w.heap.size+1+1) 150 2 v' (aJ.length+1) (aJ.flatMap zam++zam x)):dW w k (aJ++[x]) v' (w5.setCell ⟨w.heap.size+1,1,none⟩ v'):=by
 have hB:=h.below hW;have l:=hB.lt;have k5:z7 nv.ownBlock.toList W w5:=z7.eK hg;have aX:∀ x∈nv.ownBlock.toList,w.heap.size+1+1<=x:=λ x hx=>(hB.aJ.row.lt x (by simpa using hx)).1
 have nt:∀ b∈nv.ownBlock.toList,aO W 3 b:=vG hB.aJ.row (by decide);have b1:=h.AP hW hg;have b0:w5.heap[w.heap.size]?=some (.cells #[.int .i64 0,.slice none 0 0] 93 (0,0)):=(k5.block _ (by omega) (λ hm=>by have:=aX _ hm;omega)).trans hB.res;have Kj:=zF hx hW (λ g e=>(hx.lt g e).2);refine⟨?_,?_,by rw[heap_setCell_same _ _ _ _ _ _ b1];rfl,⟨?_,λ y hy=>?_⟩⟩
 ·refine Below.setCell ?_ (by show w.heap.size<=w.heap.size+1;omega) _;have hs:=hB.kp.size;refine⟨hg.os.trans hB.kp.os,hg.tape.trans hB.kp.tape,hg.output.trans hB.kp.output,Nat.le_trans hB.kp.size hg.size,λ i hi=>?_⟩;rw[hg.block i (by omega) (λ e=>by have:=(hB.aJ.row.lt i e.symm).1;omega)];exact hB.kp.block i hi
 ·rw[Below.heap_setCell _ _ _ _ (by show w.heap.size≠w.heap.size+1;omega)];exact b0
 ·rw[List.length_append,List.flatMap_append];have:=ownsRow_setCell_below (a:=⟨w.heap.size+1,1,none⟩) aI (by show w.heap.size+1<_;omega) v';simpa using this
 ·refine ownsRow_setCell_below ?_ (by show w.heap.size+1<_;omega) _;rcases List.mem_append.1 hy with hy | hy
  ·exact vN (hB.aJ.each y hy) k5 (λ b hb=>.inr (nt b hb))
  ·rw[List.mem_singleton.1 hy];exact vN Kj k5 (λ b hb=>.inr (nt b hb))
inductive LO (w w':W8):Option (Nat × List (Nat × List Nat))->Ending->Prop
 | no:LO w w' none (.returned (.tuple #[.agg #[.int .i64 0,.slice none 0 0],.bool false]))
 | yes {k:Nat} {aJ:List ND} {a:O8} {c:Nat}:jQ w' w.heap.size (.slice a aJ.length c) aJ->LO w w' (some (k,aJ.map dX)) (.returned (.tuple #[.agg #[.int .i64 (k:Nat),.slice a aJ.length c],.bool true]))
def zjr (pos bs:List Nat):Option (Nat × List (Nat × List Nat)):=match bs with
 | k::n::rest=>if 50<n then none else (rdP pos n rest).map λ l=>(k,l)
 | _=>none
theorem zo0 (w:W8)(base:Nat)(a:O8)(c:Nat)(bs:List Nat)(hb:iP w a c bs)(ar:O8)(cr:Nat)(rs:List PR)(hr:aw w base (.slice ar rs.length cr) rs)(h3:∀ r∈rs,r.bs.length<=3):
  Calls Tryz.prog 121 #[.slice a bs.length c,.slice ar rs.length cr] w λ e w'=>LO w w' (zjr (zio rs) bs) e/\Below w.heap.size w w':=by
 have k0:Below w.heap.size w (w.alloc (.cells #[.int .i64 0,.slice none 0 0] 93)):=B9.alloc L9 _;have cq:=zC k0;have HR:=zC hr
 match bs,hb with
 | [],hb=>
  clear hb hr k0;go_enter Tryz.func121,Tryz.ntmps121;go_wp2_with fail;refine bodyPost_ret (v:=.tuple #[.agg #[.int .i64 0,.slice none 0 0],.bool false]) (by simp[results,Tryz.results121,go_sem]) rfl ?_;exact⟨.no,zA cq⟩
 | [x],hb=>
  clear hb hr k0;go_enter Tryz.func121,Tryz.ntmps121;go_wp2_with fail;refine bodyPost_ret (v:=.tuple #[.agg #[.int .i64 0,.slice none 0 0],.bool false]) (by simp[results,Tryz.results121,go_sem]) rfl ?_;exact⟨.no,zA cq⟩
 | k::n::rest,hb=>
  obtain⟨g,o,rfl,hg,hc⟩:=hb.at_ (by simp);have FF:=hb.byte k List.mem_cons_self;have FO:=hb.byte n (List.mem_cons_of_mem _ List.mem_cons_self);have kR:=hb.cap;have iO:=hb.max;have HB:=zC (hb.drop 2);have c0:=(k0.cell (p:=⟨g,o,none⟩) hg).trans (hc 0 (by simp));have c1:=(k0.cell (p:=⟨g,o+1,none⟩) hg).trans (hc 1 (by simp));simp only[List.getElem_cons_zero,List.getElem_cons_succ] at c0 c1;have hlen:(k::n::rest).length=rest.length+1+1:=rfl;rw[hlen] at kR ⊢;have lG:¬ ((rest.length:Int)+1+1<2):=by omega
  clear hb hr k0 hc hlen
  by_cases hn:50<n
  ·have po:(50:Int)<n:=(by omega);have HN:=zC (show zjr (zio rs) (k::n::rest)=none by unfold zjr;simp only;rw[if_pos hn]);go_enter Tryz.func121,Tryz.ntmps121;go_wp2_with fail;refine bodyPost_ret (v:=.tuple #[.agg #[.int .i64 0,.slice none 0 0],.bool false]) (by simp[results,Tryz.results121,go_sem]) rfl ?_;rw[zA HN];exact⟨.no,zA cq⟩
  ·have po:¬ (50:Int)<n:=(by omega);have HN:=zC (show zjr (zio rs) (k::n::rest)=(rdP (zio rs) n rest).map λ l=>(k,l) by unfold zjr;simp only;rw[if_neg hn]);have od:=dW.start w k;go_enter Tryz.func121,Tryz.ntmps121;go_upto_region 4 with fail;have k1:Below w.heap.size w ((w.alloc (.cells #[.int .i64 0,.slice none 0 0] 93)).alloc (.cells #[.int .i64 (k:Nat),.slice none 0 0] 93)):=od.kp;have d1:((w.alloc (.cells #[.int .i64 0,.slice none 0 0] 93)).alloc (.cells #[.int .i64 (k:Nat),.slice none 0 0] 93)).cell? ⟨g,o+1,none⟩=some (.int .u8 (n:Nat)):=(by rw[World.cell?_alloc_past _ _ _ (by simp;omega)];exact c1);have cR:=zC (show iP w (some ⟨g,o+2,none⟩) (c-2) rest from zA HB);clear c0 c1 HB;generalize ((w.alloc (.cells #[.int .i64 0,.slice none 0 0] 93)).alloc (.cells #[.int .i64 (k:Nat),.slice none 0 0] 93))=w1 at *;have vq:=zC od;clear od
   go_cut [7] (λ v wc=>∃ a' c',v=.slice a' rest.length c'/\iP w a' c' rest/\wc=w1)
   case first=>
    have s1:(2:Int)<=(rest.length:Int)+1+1:=(by omega);have HC:=zC (And.intro kR iO);clear kR;go_wp2_with fail
    ·subst h;go_meet
     case rel=>
      have ee:rest=[]:=List.eq_nil_of_length_eq_zero (by have:=(zA HC).1;omega);refine⟨_,_,rfl,?_,rfl⟩;rw[ee];exact iP.none _ _ (by unfold maxLen;omega)
    ·go_meet
     case rel=>exact⟨_,_,rfl,zA cR,rfl⟩
   case rest=>
    generalize wc=wA at *;obtain⟨a0,IH,rfl,EM,Gg⟩:=hcut;subst Gg;have kr:=zC EM;clear EM;go_wp2_with fail
    go_loopg [7,30] n (λ gg v ii wr=>∃ (i:Nat) (aJ:List ND) (nv:Value) (eA:List Nat) (a':O8) (c':Nat),i<=n/\gg=n-i/\v=.slice a' eA.length c'/\ii=.int .u8 i/\dW w k aJ nv wr/\iP w a' c' eA/\aJ.length=i/\rdP (zio rs) n rest=(rdP (zio rs) (n-i) eA).map (aJ.map dX++·))
    exact⟨0,[],_,rest,a0,IH,Nat.zero_le _,rfl,rfl,rfl,zA vq,zA kr,rfl,by rw[Nat.sub_zero];cases rdP (zio rs) n rest <;> rfl⟩
    case round=>
     clear vq kr;obtain⟨i,aJ,nv,eA,a',c',Js,Fy,rfl,rfl,ak,iD,lI,bj⟩:=hrel;obtain⟨an,cn,rfl⟩:=zE ak.aJ.row;have bt:=zC ak;have kr:=zC iD;have gL:=zC bj;have Bj:=zC lI
     by_cases hin':i<n
     ·have K6:(i:Int)<n:=(by omega);have iQ:=zC (zrx wr base a' c' eA (iD.below ak.kp) ar cr rs ((zA HR).below ak.kp) h3);clear ak iD bj lI;go_wp2_with fail;refine (zA iQ).mono ?_;rintro e w2 ⟨hO,aU⟩;generalize hX:zhm (zio rs) eA=X at hO
      cases hO with
      | no=>
       have dw:=(zA bt).below aU;obtain⟨s0,f0⟩:=zB dw.res 0;obtain⟨s1,f1⟩:=zB dw.res 1;simp only[List.getElem?_toArray,List.getElem?_cons_zero,List.getElem?_cons_succ] at s0 s1;have CN:=dw.lt;have jz:w.heap.size<w2.heap.size:=by omega
       have qz:=zC (show zjr (zio rs) (k::n::rest)=none by
        rw[zA HN,zA gL,show n-i=(n-i-1)+1 by omega,zv1,hX]
        rfl)
       have tz:=zC dw.kp;clear dw hX iQ gL kr bt;go_upto_region 9 with fail;have ka:=(Below.refl w2.heap.size w2).alloc L9 (.cells #[.int .i64 0,.slice none 0 0] 150);have t0:=(ka.cell (p:=⟨w.heap.size,0,none⟩) jz).trans s0;have t1:=(ka.cell (p:=⟨w.heap.size,1,none⟩) jz).trans s1;have g0:=(ka.frozen (p:=⟨w.heap.size,0,none⟩) jz).trans f0;have g1:=(ka.frozen (p:=⟨w.heap.size,1,none⟩) jz).trans f1;have qy:=zC ((zA tz).alloc (Nat.le_of_lt jz) (.cells #[.int .i64 0,.slice none 0 0] 150));clear ka;generalize (w2.alloc (.cells #[.int .i64 0,.slice none 0 0] 150))=w3 at *;go_wp2_with fail;obtain⟨p0,p1⟩:=zne t0 t1 (.int .i64 0) (.slice none 0 0);refine bodyPost_ret (v:=.tuple #[.agg #[.int .i64 0,.slice none 0 0],.bool false]) (by simp[results,Tryz.results121,go_sem,p0,p1]) rfl ?_;rw[zA qz];exact⟨.no,((zA qy).setCell L9 _).setCell L9 _⟩
      | @yes r fr af cf aI=>
       have dw:=(zA bt).below aU;obtain⟨q0,e0⟩:=zB dw.box 0;obtain⟨q1,e1⟩:=zB dw.box 1;simp only[List.getElem?_toArray,List.getElem?_cons_zero,List.getElem?_cons_succ] at q0 q1;have CN:=dw.lt;have iG:=z2b hX;have Fs:=z2a h3 hX;have HX:=zC hX;have fG:=zC dw;have ka:=(Below.refl w2.heap.size w2).alloc L9 (.cells #[.int .i64 (r:Nat),.slice af fr.length cf] 150);have jx:=dw.below ka;have qp:=zF aI ka (λ g e=>(aI.lt g e).2);have kZ:=heap_alloc_new w2 (.cells #[.int .i64 (r:Nat),.slice af fr.length cf] 150);have um:w.heap.size+1+1<=wr.heap.size:=(by have:=(zA bt).lt;omega);have D5:=zC um;have hnw:wr.heap.size<=w2.heap.size:=aU.size;have Hx:=zC (λ g e=>((zA bt).aJ.row.lt g e).2);clear dw hX iQ bt q0 q1 e0 e1 fG aI;go_upto_region 10 with fail;generalize hw3:(w2.alloc (.cells #[.int .i64 (r:Nat),.slice af fr.length cf] 150))=w3 at *;generalize w2.heap.size=nb at *;clear hw3 ka;obtain⟨q0,e0⟩:=zB jx.box 0;obtain⟨q1,e1⟩:=zB jx.box 1;obtain⟨m0,-⟩:=zB kZ 0;obtain⟨m1,-⟩:=zB kZ 1;simp only[List.getElem?_toArray,List.getElem?_cons_zero,List.getElem?_cons_succ] at q0 q1 m0 m1;have JG:=jx.lt;have dJ:=(Array.getElem?_eq_some_iff.1 kZ).1;obtain⟨i0,hi,dK,cB,bZ⟩:=info_parts zo2;have bH:=jx.aJ.row.alloc (.cells #[.int .i64 (r:Nat),.slice af fr.length cf] 150);have ku:=zC jx;have gP:=zC qp;have FQ:aJ.length<=50:=(by have:=zA Bj;omega);have ju:=zC kZ;clear jx qp kZ;go_upto_region 11 with (at_builtin;refine wpList_append_own _ rfl _ _ 91 rfl (w.heap.size+1+1) 150 i0 _ 2 32 Tryz.underlying91 hi dK cB bZ rfl (by decide) _ _ _ rfl bH ⟨w3.heap.size,0,none⟩ 1 1 (zam ⟨r,fr,.slice af fr.length cf⟩) rfl rfl (z1d w3 ⟨r,fr,.slice af fr.length cf⟩) (z7w _) (by unfold maxLen;omega) (by omega) (by simp;omega) ?_;intro v5 w5 hown5 dz hne5;clear hne5;obtain⟨a5,gz,rfl⟩:=zE hown5;have iK:=(zA ku).AP (B9.alloc L9 _) dz;obtain⟨j1,Kw⟩:=zB iK 1;have mY:=zC hown5;have br:=zC dz;clear hown5 dz iK)
       have r7:=(zA ku).add (x:=⟨r,fr,.slice af fr.length cf⟩) (zI (zA gP) (zA D5)) (B9.alloc L9 _) (zA br) (zA mY)
       have vo:=zC (show rdP (zio rs) n rest=(rdP (zio rs) (n-(i+1)) (eA.drop (1+fr.length))).map ((aJ++[(⟨r,fr,.slice af fr.length cf⟩:ND)]).map dX++·) by
        rw[zA gL,show n-i=(n-(i+1))+1 by omega,zv1,zA HX];simp only
        cases rdP (zio rs) (n-(i+1)) (eA.drop (1+fr.length)) with
        | none=>rfl
        | some l=>simp[dX])
       obtain⟨g2,o2,rfl,dd,-⟩:=(zA kr).at_ (by omega);have yo:=(zA kr).cap;have FM:=(zA kr).max;have ow:=zC ((zA kr).drop (1+fr.length));have JL:w3.heap.size<=w5.heap.size:=(by have:=(zA br).size;simp at this;omega);have Dd:(w5.setCell ⟨w.heap.size+1,1,none⟩ (.slice a5 (aJ.length+1) gz)).cell? ⟨nb,1,none⟩=some (.slice af fr.length cf):=by
        rw[World.cell?_setCell_far _ _ _ _ (by show w.heap.size+1≠nb;have:=zA D5;omega)];have eO:=(zA br).block nb (by simp;omega) (λ e=>by have:=zA Hx nb e.symm;omega);refine (World.cell?_of_block (a:=⟨nb,1,none⟩) (eO.trans (Below.heap_alloc _ _ _ dJ))).trans ?_;exact (zB (zA ju) 1).1
       generalize (w5.setCell ⟨w.heap.size+1,1,none⟩ (.slice a5 (aJ.length+1) gz))=w6 at *;have mj:=zC r7;have js:(1:Int)+fr.length<=eA.length:=(by omega);have lj:(0:Int)<=1+fr.length:=(by omega);clear r7 gL kr j1 Kw q0 q1 m0 m1 e0 e1 bH;go_wp2_with fail
       ·have ee:eA.drop (1+fr.length)=[]:=List.eq_nil_of_length_eq_zero (by rw[List.length_drop];omega);go_roundg (n-(i+1));exact⟨i+1,_,_,eA.drop (1+fr.length),_,_,by omega,rfl,by rw[List.length_drop],by go_num,zA mj,by rw[ee];exact iP.none _ _ (by unfold maxLen;omega),by simp[zA Bj],zA vo⟩;omega
       ·go_roundg (n-(i+1))
        case measure=>omega
        case rel=>exact⟨i+1,_,_,eA.drop (1+fr.length),_,_,by omega,rfl,by rw[List.length_drop],by go_num,zA mj,zA ow,by simp[zA Bj],zA vo⟩
     ·have CE:i=n:=(by omega);subst CE;obtain⟨s0,f0⟩:=zB ak.res 0;obtain⟨s1,f1⟩:=zB ak.res 1;obtain⟨q0,e0⟩:=zB ak.box 0;obtain⟨q1,e1⟩:=zB ak.box 1;simp only[List.getElem?_toArray,List.getElem?_cons_zero,List.getElem?_cons_succ] at s0 s1 q0 q1;have bP:=ak.lt;have oo:w.heap.size<w.heap.size+1+1:=(by omega);rw[Nat.sub_self] at bj
      cases eA with
      | nil=>
       have qz:=zC (show zjr (zio rs) (k::i::rest)=some (k,aJ.map dX) by rw[zA HN,bj];simp[rdP]);clear ak iD bj lI gL kr;go_wp2_with fail;obtain⟨p0,p1⟩:=zne s0 s1 (.int .i64 (k:Nat)) (.slice an aJ.length cn);refine bodyPost_ret (v:=.tuple #[.agg #[.int .i64 (k:Nat),.slice an aJ.length cn],.bool true]) (by simp[results,Tryz.results121,go_sem,p0,p1]) rfl ?_;rw[zA qz];refine⟨.yes ?_,((zA bt).kp.setCell L9 _).setCell L9 _⟩;have dB:=(zA bt).aJ;exact⟨zI (ownsRow_setCell_below (ownsRow_setCell_below dB.row oo _) oo _) (by omega),λ y hy=>zI (ownsRow_setCell_below (ownsRow_setCell_below (dB.each y hy) oo _) oo _) (by omega)⟩
      | cons x q=>
       have qz:=zC (show zjr (zio rs) (k::i::rest)=none by rw[zA HN,bj];rfl);have qh:(x::q).length=q.length+1:=rfl;rw[qh];have FX:(0:Int)<(q.length:Int)+1:=(by omega);clear ak iD bj lI gL kr qh;go_wp2_with fail;obtain⟨p0,p1⟩:=zne s0 s1 (.int .i64 0) (.slice none 0 0);refine bodyPost_ret (v:=.tuple #[.agg #[.int .i64 0,.slice none 0 0],.bool false]) (by simp[results,Tryz.results121,go_sem,p0,p1]) rfl ?_;rw[zA qz];exact⟨.no,((zA bt).kp.setCell L9 _).setCell L9 _⟩
end
section
open Go.RowKit
def zM (s:yJ):V8:=s.r.cells++(zS s.e++zJ s.t)
def zfs (s:yJ):Value:=.agg (zM s).toArray
def yb7:PR:=⟨⟨{ data:=#[] },[],[]⟩,.slice none 0 0,[],.slice none 0 0⟩
def zd6:yJ:=⟨yb7,[],({ data:=#[] },[])⟩
theorem zv4 (s:yJ):(zM s).length=33:=rfl
theorem zo3:(Tryz.prog.info? 352).map (·.size)=some 33:=by kernel_rfl
theorem zv5 (s:yJ)(h:s.r.hv.oneCell'=true/\s.r.bv.oneCell'=true):(zM s).toArray.all (·.oneCell')=true:=by
 have h1:=h.1;have h2:=h.2;simp[zM,PR.cells,zS,zJ,Value.oneCell'] at h1 h2 ⊢;exact⟨h1,h2⟩
noncomputable def zn5 (v:Value):Sem Value:=Instr.loadAt 352 v
noncomputable def zps (p v:Value):Sem Unit:=Instr.storeAt 352 p v
noncomputable def zt8 (h:Bool)(v:Value):Sem Value:=Instr.alloc 352 h v
noncomputable def ziz (p:Array (Nat × Value)):Sem Value:=Instr.build 352 p
noncomputable def z98 (n:Nat)(p:Array (Nat × Value)):Sem Value:=Instr.buildSlice 303 n p
theorem zhv (v:Value):Instr.loadAt 352 v=zn5 v:=rfl
theorem zfp (p v:Value):Instr.storeAt 352 p v=zps p v:=rfl
theorem zfn (h:Bool)(v:Value):Instr.alloc 352 h v=zt8 h v:=rfl
theorem zfo (p:Array (Nat × Value)):Instr.build 352 p=ziz p:=rfl
theorem zj8 (n:Nat)(p:Array (Nat × Value)):Instr.buildSlice 303 n p=z98 n p:=rfl
theorem zd2 (s:yJ):(zfs s).cells=(zM s).toArray:=rfl
def gO (w:W8)(b:Nat)(s:yJ):Prop:=w.heap[b]?=some (.cells (zM s).toArray 352 (0,0))
variable {s:yJ} {b:Nat} {w:W8}
theorem gO.load (h:gO w b s):(zn5 (.pointer (some ⟨b,0,none⟩))).run Tryz.prog w=.ok (zfs s) w:=by
 unfold zn5;refine run_loadAt_mid w b 0 352 (zM s) _ (λ j v hv=>?_) Tryz.underlying352 rfl (by rw[zo3];rfl);rw[Nat.zero_add];have:=(zB h j).1;rw[this,List.getElem?_toArray];exact hv
theorem gO.new (w:W8)(s:yJ):gO (w.alloc (.cells (zM s).toArray 352)) w.heap.size s:=heap_alloc_new w _
theorem gO.lt (h:gO w b s):b<w.heap.size:=(Array.getElem?_eq_some_iff.1 h).1
theorem gO.below {w':W8}(h:gO w b s)(k:Below w.heap.size w w'):gO w' b s:=(k.block b h.lt).trans h
theorem gO.store (h:gO w b s)(s':yJ)(h1:s'.r.hv.oneCell'=true/\s'.r.bv.oneCell'=true):(zps (.pointer (some ⟨b,0,none⟩)) (zfs s')).run Tryz.prog w=.ok () (w.setRow b (zM s').toArray):=by
 unfold zps Instr.storeAt Instr.sureAddr;simp only[Sem.run_bind,Sem.run_pure,Result.andThen_ok];exact run_storeVar_row w b _ 352 _ _ h (by rw[zo3];rfl) rfl (zv5 s' h1)
theorem zd0 (w:W8)(v:Value):(zt8 true v).run Tryz.prog w=.ok (.pointer (some ⟨w.heap.size,0,none⟩)) (w.alloc (.cells (zM zd6).toArray 352)):=by
 unfold zt8;simp[Instr.alloc,newVar,newRow,go_sem,zM,zd6,yb7,PR.cells,zJ,xE,Th.p,Th.ts,zS,eAt]
theorem zgo (w:W8)(s s':yJ)(h1:s'.r.hv.oneCell'=true/\s'.r.bv.oneCell'=true):(zps (.pointer (some ⟨w.heap.size,0,none⟩)) (zfs s')).run Tryz.prog (w.alloc (.cells (zM s).toArray 352))=.ok () (w.alloc (.cells (zM s').toArray 352)):=by
 rw[(gO.new w s).store s' h1,World.setRow_alloc_new]
theorem zr4 (w:W8):(ziz #[]).run Tryz.prog w=.ok (zfs zd6) w:=by unfold ziz;kernel_rfl
theorem zt4 (w:W8)(r:PR)(e:zX)(t:Th):(ziz #[(0,.agg #[.string r.R.pd,r.hv,r.bv]),(1,vY e),(2,thV t)]).run Tryz.prog w=.ok (zfs ⟨r,e,t⟩) w:=by unfold ziz;kernel_rfl
theorem z2j (w:W8)(s:yJ):(z98 1 #[(0,zfs s)]).run Tryz.prog w=.ok (.slice (some ⟨w.heap.size,0,none⟩) 1 1) (w.alloc (.cells (zM s).toArray 352)):=by unfold z98;kernel_rfl
theorem ze6 {fn:Func}{p u:Tmp}(h:fn.results=#[.cell p 352,.tmp u])(tmps:Array Value)(w:W8)(g:Nat)(s:yJ)(hp:tmps.getD p undef=.pointer (some ⟨g,0,none⟩))(hg:gO w g s):
  (results fn tmps).run Tryz.prog w=.ok (.tuple #[zfs s,tmps.getD u undef]) w:=by
 have rf:tmps[p]?.getD undef=.pointer (some ⟨g,0,none⟩):=by simpa using hp
 have bR:tmps.getD u undef=tmps[u]?.getD undef:=by simp
 have hl:(loadVar 352 ⟨g,0,none⟩).run Tryz.prog w=.ok (zfs s) w:=by
  have:=hg.load;unfold zn5 Instr.loadAt Instr.sureAddr at this;simpa only[Sem.run_bind,Sem.run_pure,Result.andThen_ok] using this
 rw[bR];simp[results,h,rf,asAddr,hl]
structure zol (w:W8)(base:Nat)(v:Value)(st:List yJ):Prop where
 row:w.ownsRow base 352 33 v st.length (st.flatMap zM)
theorem zua {base:Nat}{v:Value}{st:List yJ}(h:w.ownsRow base 352 33 v st.length (st.flatMap zM)){k:Nat}(hk:k<st.length):∃ g cap,v=.slice (some ⟨g,0,none⟩) st.length cap/\base<=g/\g<w.heap.size/\st.length<=cap/\cap<=maxLen/\∀ j,j<33->w.cell? ⟨g,k*33+j,none⟩=(zM st[k])[j]?:=
 vJ (f:=zM) zv4 h k hk
variable {g o:Nat}
theorem zn6 (h:∀ j,j<33->w.cell? ⟨g,o+j,none⟩=(zM s)[j]?):(zn5 (.pointer (some ⟨g,o,none⟩))).run Tryz.prog w=.ok (zfs s) w:=by
 unfold zn5;refine run_loadAt_mid w g o 352 (zM s) _ (λ j v hv=>?_) Tryz.underlying352 rfl (by rw[zo3];rfl);have hj:j<33:=by
  have:=(List.getElem?_eq_some_iff.1 hv).1;rw[zv4] at this;exact this
 exact (h j hj).trans hv
theorem zr8 (h:∀ j,j<33->w.cell? ⟨g,o+j,none⟩=(zM s)[j]?):(zec (.pointer (some ⟨g,o+28,none⟩))).run Tryz.prog w=.ok (thV s.t) w:=by
 unfold zec;refine run_loadAt_mid w g (o+28) 88 (zJ s.t) _ (λ j v hv=>?_) Tryz.underlying88 rfl (by rw[zfz];rfl);have hj:j<5:=(List.getElem?_eq_some_iff.1 hv).1;rw[Nat.add_assoc,h (28+j) (by omega)];rw[<-hv];unfold zM;rw[List.getElem?_append_right (by show 3<=_;omega),List.getElem?_append_right (by show 25<=28+j-3;omega)]
 show (zJ s.t)[28+j-3-25]?=_
 rw[show 28+j-3-25=j by omega]
theorem zyf (h:∀ j,j<33->w.cell? ⟨g,o+j,none⟩=(zM s)[j]?):(zge (.pointer (some ⟨g,o+3,none⟩))).run Tryz.prog w=.ok (vY s.e) w:=by
 unfold zge;refine run_loadAt_mid w g (o+3) 135 (zS s.e) _ (λ j v hv=>?_) Tryz.underlying135 rfl (by rw[zb9];rfl);have hj:j<25:=(List.getElem?_eq_some_iff.1 hv).1;rw[Nat.add_assoc,h (3+j) (by omega)];rw[<-hv];unfold zM;rw[List.getElem?_append_right (by show 3<=_;omega),List.getElem?_append_left (by show 3+j-3<25;omega)]
 show (zS s.e)[3+j-3]?=_
 rw[show 3+j-3=j by omega]
theorem gO.cells (h:gO w b s):∀ j,j<33->w.cell? ⟨b,0+j,none⟩=(zM s)[j]?:=λ j _=>by rw[Nat.zero_add,(zB h j).1,List.getElem?_toArray]
theorem gO.bound (h:gO w b s):(zge (.pointer (some ⟨b,3,none⟩))).run Tryz.prog w=.ok (vY s.e) w:=by
 have:=zyf h.cells
 rwa [Nat.zero_add] at this
end
end Go.Proofs.YtldkpahaocjdpaaGreat
