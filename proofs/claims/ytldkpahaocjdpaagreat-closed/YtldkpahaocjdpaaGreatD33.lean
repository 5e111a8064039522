/-
  fromBytes: a witness is read.
-/
import Derived.Test.YtldkpahaocjdpaaGreatD32
set_option maxHeartbeats 16000000
set_option maxRecDepth 1000000
namespace Go.Proofs.YtldkpahaocjdpaaGreat
section
open Go.RowKit Go.Maps
theorem zwo (pos:List Nat)(n:Nat)(rest:List Nat):rdP pos (n+1) rest=match zhz pos rest with | none=>none | some x=>match rdP pos n (rest.drop (1+x.2.length)) with | none=>none | some l=>some (x::l):=by
 cases rest with
 | nil=>rfl
 | cons r q=>
  rw[rdP,zhz]
  cases hp:pos[r]? with
  | none=>rfl
  | some m=>
   simp only
   by_cases h:q.length<m
   ·rw[if_pos h,if_pos h]
   ·rw[if_neg h,if_neg h];simp only[List.length_take];rw[show (r::q).drop (1+min m q.length)=q.drop m by rw[Nat.add_comm,List.drop_succ_cons,Nat.min_eq_left (by omega)]]
    cases rdP pos n (q.drop m) <;> rfl
variable {x:Nat × List Nat} {rest:List Nat}
theorem z3b {pos:List Nat}(h:zhz pos rest=some x):1+x.2.length<=rest.length:=by
 cases rest with
 | nil=>cases h
 | cons r q=>
  rw[zhz] at h
  split at h
  ·cases h
  ·split at h
   ·cases h
   ·obtain rfl:=Option.some.inj h;simp only[List.length_take,List.length_cons];omega
theorem z3a {rs:List PR}(h3:∀ r∈rs,r.bs.length<=3)(h:zhz (zix rs) rest=some x):x.2.length<=3:=by
 cases rest with
 | nil=>cases h
 | cons r q=>
  rw[zhz] at h
  split at h
  ·cases h
  ·rename_i m hm
   split at h
   ·cases h
   ·obtain rfl:=Option.some.inj h;unfold zix at hm;rw[List.getElem?_map] at hm
    cases hr:rs[r]? with
    | none=>rw[hr] at hm;cases hm
    | some R=>
     rw[hr] at hm;obtain rfl:=Option.some.inj hm;have h1:=zhy R.bs;have h2:=h3 R (List.mem_of_getElem? hr);simp only[List.length_take];omega
structure eA (w:W8)(k:Nat)(aJ:List ND)(nv:Value)(wr:W8):Prop where
 kp:Below w.heap.size w wr
 res:wr.heap[w.heap.size]?=some (.cells #[.int .i64 0,.slice none 0 0] 93 (0,0))
 box:wr.heap[w.heap.size+1]?=some (.cells #[.int .i64 (k:Nat),nv] 93 (0,0))
 aJ:jT wr (w.heap.size+1+1) nv aJ
variable {wr w:W8} {nv:Value}
theorem eA.lt {k:Nat}{aJ:List ND}(h:eA w k aJ nv wr):w.heap.size+1<wr.heap.size:=(Array.getElem?_eq_some_iff.1 h.box).1
theorem eA.below {w:W8}{k:Nat}{aJ:List ND}{nv:Value}{wr w':W8}(h:eA w k aJ nv wr)(b:Below wr.heap.size wr w'):eA w k aJ nv w':=
 have l:=h.lt
 ⟨h.kp.trans (b.mono h.kp.size),(b.block _ (by omega)).trans h.res,(b.block _ l).trans h.box,h.aJ.below b⟩
theorem eA.start (w:W8)(k:Nat):eA w k [] (.slice none 0 0) ((w.alloc (.cells #[.int .i64 0,.slice none 0 0] 93)).alloc (.cells #[.int .i64 (k:Nat),.slice none 0 0] 93)):=by
 refine⟨((Below.refl _ w).alloc L9 _).alloc (by simp) _,?_,?_,⟨World.ownsRow_nil _ _ _ _,by simp⟩⟩
 ·rw[Below.heap_alloc _ _ _ (by simp)];exact heap_alloc_new w _
 ·have:=heap_alloc_new (w.alloc (.cells #[.int .i64 0,.slice none 0 0] 93)) (.cells #[.int .i64 (k:Nat),.slice none 0 0] 93);rw[World.size_alloc] at this;exact this
variable {W w5:W8}
theorem eA.AP {k:Nat}{aJ:List ND}(h:eA w k aJ nv wr)(hW:Below wr.heap.size wr W)(hg:W.grownBy w5 nv.ownBlock):w5.heap[w.heap.size+1]?=some (.cells #[.int .i64 (k:Nat),nv] 93 (0,0)):=by
 have hB:=h.below hW;have l:=hB.lt;have k5:yC nv.ownBlock.toList W w5:=yC.eK hg;exact (k5.block _ l (λ hm=>by have:=(hB.aJ.row.lt _ (by simpa using hm)).1;omega)).trans hB.box
theorem eA.add {k:Nat}{aJ:List ND}{v':Value}{x:ND}(h:eA w k aJ nv wr)(hx:wr.ownsRow (w.heap.size+1+1) 3 1 x.v x.fr.length (cO x.fr))(hW:Below wr.heap.size wr W)(hg:W.grownBy w5 nv.ownBlock)(aI:w5.ownsRow (w.heap.size+1+1) 150 2 v' (aJ.length+1) (aJ.flatMap zax++zax x)):eA w k (aJ++[x]) v' (w5.setCell ⟨w.heap.size+1,1,none⟩ v'):=by
 have hB:=h.below hW;have l:=hB.lt;have k5:yC nv.ownBlock.toList W w5:=yC.eK hg;have aX:∀ x∈nv.ownBlock.toList,w.heap.size+1+1<=x:=λ x hx=>(hB.aJ.row.lt x (by simpa using hx)).1
 have nt:∀ b∈nv.ownBlock.toList,aY W 3 b:=vH hB.aJ.row (by decide);have b1:=h.AP hW hg;have b0:w5.heap[w.heap.size]?=some (.cells #[.int .i64 0,.slice none 0 0] 93 (0,0)):=(k5.block _ (by omega) (λ hm=>by have:=aX _ hm;omega)).trans hB.res;have Kj:=zG hx hW (λ g e=>(hx.lt g e).2);refine⟨?_,?_,by rw[heap_setCell_same _ _ _ _ _ _ b1];rfl,⟨?_,λ y hy=>?_⟩⟩
 ·refine Below.setCell ?_ (by show w.heap.size<=w.heap.size+1;omega) _;have hs:=hB.kp.size;refine⟨hg.os.trans hB.kp.os,hg.tape.trans hB.kp.tape,hg.output.trans hB.kp.output,Nat.le_trans hB.kp.size hg.size,λ i hi=>?_⟩;rw[hg.block i (by omega) (λ e=>by have:=(hB.aJ.row.lt i e.symm).1;omega)];exact hB.kp.block i hi
 ·rw[Below.heap_setCell _ _ _ _ (by show w.heap.size≠w.heap.size+1;omega)];exact b0
 ·rw[List.length_append,List.flatMap_append];have:=ownsRow_setCell_below (a:=⟨w.heap.size+1,1,none⟩) aI (by show w.heap.size+1<_;omega) v';simpa using this
 ·refine ownsRow_setCell_below ?_ (by show w.heap.size+1<_;omega) _;rcases List.mem_append.1 hy with hy | hy
  ·exact vR (hB.aJ.each y hy) k5 (λ b hb=>.inr (nt b hb))
  ·rw[List.mem_singleton.1 hy];exact vR Kj k5 (λ b hb=>.inr (nt b hb))
inductive Mq (w w':W8):Option (Nat × List (Nat × List Nat))->Ending->Prop
 | no:Mq w w' none (.returned (.tuple #[.agg #[.int .i64 0,.slice none 0 0],.bool false]))
 | yes {k:Nat} {aJ:List ND} {a:O8} {c:Nat}:jT w' w.heap.size (.slice a aJ.length c) aJ->Mq w w' (some (k,aJ.map dX)) (.returned (.tuple #[.agg #[.int .i64 (k:Nat),.slice a aJ.length c],.bool true]))
def zjz (pos bs:List Nat):Option (Nat × List (Nat × List Nat)):=match bs with
 | k::n::rest=>if 50<n then none else (rdP pos n rest).map λ l=>(k,l)
 | _=>none
theorem zpd (w:W8)(base:Nat)(a:O8)(c:Nat)(bs:List Nat)(hb:iP w a c bs)(ar:O8)(cr:Nat)(rs:List PR)(hr:aD w base (.slice ar rs.length cr) rs)(h3:∀ r∈rs,r.bs.length<=3):
  Calls Tryz.prog 121 #[.slice a bs.length c,.slice ar rs.length cr] w λ e w'=>Mq w w' (zjz (zix rs) bs) e/\Below w.heap.size w w':=by
 have k0:Below w.heap.size w (w.alloc (.cells #[.int .i64 0,.slice none 0 0] 93)):=B9.alloc L9 _;have cq:=zC k0;have HR:=zC hr
 match bs,hb with
 | [],hb=>
  clear hb hr k0;go_enter Tryz.func121,Tryz.ntmps121;go_wp2_with fail;refine bodyPost_ret (v:=.tuple #[.agg #[.int .i64 0,.slice none 0 0],.bool false]) (by simp[results,Tryz.results121,go_sem]) rfl ?_;exact⟨.no,zA cq⟩
 | [x],hb=>
  clear hb hr k0;go_enter Tryz.func121,Tryz.ntmps121;go_wp2_with fail;refine bodyPost_ret (v:=.tuple #[.agg #[.int .i64 0,.slice none 0 0],.bool false]) (by simp[results,Tryz.results121,go_sem]) rfl ?_;exact⟨.no,zA cq⟩
 | k::n::rest,hb=>
  obtain⟨g,o,rfl,hg,hc⟩:=hb.at_ (by simp);have FF:=hb.byte k List.mem_cons_self;have FO:=hb.byte n (List.mem_cons_of_mem _ List.mem_cons_self);have kR:=hb.cap;have kK:=hb.max;have HB:=zC (hb.drop 2);have c0:=(k0.cell (p:=⟨g,o,none⟩) hg).trans (hc 0 (by simp));have c1:=(k0.cell (p:=⟨g,o+1,none⟩) hg).trans (hc 1 (by simp));simp only[List.getElem_cons_zero,List.getElem_cons_succ] at c0 c1;have hlen:(k::n::rest).length=rest.length+1+1:=rfl;rw[hlen] at kR ⊢;have lG:¬ ((rest.length:Int)+1+1<2):=by omega
  clear hb hr k0 hc hlen
  by_cases hn:50<n
  ·have po:(50:Int)<n:=(by omega);have HN:=zC (show zjz (zix rs) (k::n::rest)=none by unfold zjz;simp only;rw[if_pos hn]);go_enter Tryz.func121,Tryz.ntmps121;go_wp2_with fail;refine bodyPost_ret (v:=.tuple #[.agg #[.int .i64 0,.slice none 0 0],.bool false]) (by simp[results,Tryz.results121,go_sem]) rfl ?_;rw[zA HN];exact⟨.no,zA cq⟩
  ·have po:¬ (50:Int)<n:=(by omega);have HN:=zC (show zjz (zix rs) (k::n::rest)=(rdP (zix rs) n rest).map λ l=>(k,l) by unfold zjz;simp only;rw[if_neg hn]);have od:=eA.start w k;go_enter Tryz.func121,Tryz.ntmps121;go_upto_region 4 with fail;have k1:Below w.heap.size w ((w.alloc (.cells #[.int .i64 0,.slice none 0 0] 93)).alloc (.cells #[.int .i64 (k:Nat),.slice none 0 0] 93)):=od.kp;have d1:((w.alloc (.cells #[.int .i64 0,.slice none 0 0] 93)).alloc (.cells #[.int .i64 (k:Nat),.slice none 0 0] 93)).cell? ⟨g,o+1,none⟩=some (.int .u8 (n:Nat)):=(by rw[World.cell?_alloc_past _ _ _ (by simp;omega)];exact c1);have cR:=zC (show iP w (some ⟨g,o+2,none⟩) (c-2) rest from zA HB);clear c0 c1 HB;generalize ((w.alloc (.cells #[.int .i64 0,.slice none 0 0] 93)).alloc (.cells #[.int .i64 (k:Nat),.slice none 0 0] 93))=w1 at *;have vq:=zC od;clear od
   go_cut [7] (λ v wc=>∃ a' c',v=.slice a' rest.length c'/\iP w a' c' rest/\wc=w1)
   case first=>
    have s1:(2:Int)<=(rest.length:Int)+1+1:=(by omega);have HC:=zC (And.intro kR kK);clear kR;go_wp2_with fail
    ·subst h;go_meet
     case rel=>
      have ee:rest=[]:=List.eq_nil_of_length_eq_zero (by have:=(zA HC).1;omega);refine⟨_,_,rfl,?_,rfl⟩;rw[ee];exact iP.none _ _ (by unfold maxLen;omega)
    ·go_meet
     case rel=>exact⟨_,_,rfl,zA cR,rfl⟩
   case rest=>
    generalize wc=wA at *;obtain⟨a0,IH,rfl,EM,Gg⟩:=hcut;subst Gg;have kr:=zC EM;clear EM;go_wp2_with fail
    go_loopg [7,30] n (λ gg v ii wr=>∃ (i:Nat) (aJ:List ND) (nv:Value) (nS:List Nat) (a':O8) (c':Nat),i<=n/\gg=n-i/\v=.slice a' nS.length c'/\ii=.int .u8 i/\eA w k aJ nv wr/\iP w a' c' nS/\aJ.length=i/\rdP (zix rs) n rest=(rdP (zix rs) (n-i) nS).map (aJ.map dX++·))
    exact⟨0,[],_,rest,a0,IH,Nat.zero_le _,rfl,rfl,rfl,zA vq,zA kr,rfl,by rw[Nat.sub_zero];cases rdP (zix rs) n rest <;> rfl⟩
    case round=>
     clear vq kr;obtain⟨i,aJ,nv,nS,a',c',Js,Fy,rfl,rfl,ak,iD,lI,bj⟩:=hrel;obtain⟨an,cn,rfl⟩:=zE ak.aJ.row;have bt:=zC ak;have kr:=zC iD;have gL:=zC bj;have Bj:=zC lI
     by_cases cL:i<n
     ·have LD:(i:Int)<n:=(by omega);have iQ:=zC (zsh wr base a' c' nS (iD.below ak.kp) ar cr rs ((zA HR).below ak.kp) h3);clear ak iD bj lI;go_wp2_with fail;refine (zA iQ).mono ?_;rintro e w2 ⟨hO,aU⟩;generalize hX:zhz (zix rs) nS=X at hO
      cases hO with
      | no=>
       have dw:=(zA bt).below aU;obtain⟨s0,f0⟩:=zB dw.res 0;obtain⟨s1,f1⟩:=zB dw.res 1;simp only[List.getElem?_toArray,List.getElem?_cons_zero,List.getElem?_cons_succ] at s0 s1;have CN:=dw.lt;have jz:w.heap.size<w2.heap.size:=by omega
       have qz:=zC (show zjz (zix rs) (k::n::rest)=none by
        rw[zA HN,zA gL,show n-i=(n-i-1)+1 by omega,zwo,hX]
        rfl)
       have tz:=zC dw.kp;clear dw hX iQ gL kr bt;go_upto_region 9 with fail;have ka:=(Below.refl w2.heap.size w2).alloc L9 (.cells #[.int .i64 0,.slice none 0 0] 150);have t0:=(ka.cell (p:=⟨w.heap.size,0,none⟩) jz).trans s0;have t1:=(ka.cell (p:=⟨w.heap.size,1,none⟩) jz).trans s1;have g0:=(ka.frozen (p:=⟨w.heap.size,0,none⟩) jz).trans f0;have g1:=(ka.frozen (p:=⟨w.heap.size,1,none⟩) jz).trans f1;have qy:=zC ((zA tz).alloc (Nat.le_of_lt jz) (.cells #[.int .i64 0,.slice none 0 0] 150));clear ka;generalize (w2.alloc (.cells #[.int .i64 0,.slice none 0 0] 150))=w3 at *;go_wp2_with fail;obtain⟨p0,p1⟩:=zm7 t0 t1 (.int .i64 0) (.slice none 0 0);refine bodyPost_ret (v:=.tuple #[.agg #[.int .i64 0,.slice none 0 0],.bool false]) (by simp[results,Tryz.results121,go_sem,p0,p1]) rfl ?_;rw[zA qz];exact⟨.no,((zA qy).setCell L9 _).setCell L9 _⟩
      | @yes r fr af cf aI=>
       have dw:=(zA bt).below aU;obtain⟨q0,e0⟩:=zB dw.box 0;obtain⟨q1,e1⟩:=zB dw.box 1;simp only[List.getElem?_toArray,List.getElem?_cons_zero,List.getElem?_cons_succ] at q0 q1;have CN:=dw.lt;have iG:=z3b hX;have Fs:=z3a h3 hX;have HX:=zC hX;have fG:=zC dw;have ka:=(Below.refl w2.heap.size w2).alloc L9 (.cells #[.int .i64 (r:Nat),.slice af fr.length cf] 150);have jx:=dw.below ka;have qp:=zG aI ka (λ g e=>(aI.lt g e).2);have kZ:=heap_alloc_new w2 (.cells #[.int .i64 (r:Nat),.slice af fr.length cf] 150);have um:w.heap.size+1+1<=wr.heap.size:=(by have:=(zA bt).lt;omega);have D5:=zC um;have MG:wr.heap.size<=w2.heap.size:=aU.size;have Hx:=zC (λ g e=>((zA bt).aJ.row.lt g e).2);clear dw hX iQ bt q0 q1 e0 e1 fG aI;go_upto_region 10 with fail;generalize hw3:(w2.alloc (.cells #[.int .i64 (r:Nat),.slice af fr.length cf] 150))=w3 at *;generalize w2.heap.size=nb at *;clear hw3 ka;obtain⟨q0,e0⟩:=zB jx.box 0;obtain⟨q1,e1⟩:=zB jx.box 1;obtain⟨m0,-⟩:=zB kZ 0;obtain⟨m1,-⟩:=zB kZ 1;simp only[List.getElem?_toArray,List.getElem?_cons_zero,List.getElem?_cons_succ] at q0 q1 m0 m1;have JG:=jx.lt;have dJ:=(Array.getElem?_eq_some_iff.1 kZ).1;obtain⟨i0,hi,dK,cB,bZ⟩:=info_parts zpf;have bH:=jx.aJ.row.alloc (.cells #[.int .i64 (r:Nat),.slice af fr.length cf] 150);have ku:=zC jx;have iO:=zC qp;have FQ:aJ.length<=50:=(by have:=zA Bj;omega);have ju:=zC kZ;clear jx qp kZ;go_upto_region 11 with (at_builtin;refine wpList_append_own _ rfl _ _ 91 rfl (w.heap.size+1+1) 150 i0 _ 2 32 Tryz.underlying91 hi dK cB bZ rfl (by decide) _ _ _ rfl bH ⟨w3.heap.size,0,none⟩ 1 1 (zax ⟨r,fr,.slice af fr.length cf⟩) rfl rfl (z2a w3 ⟨r,fr,.slice af fr.length cf⟩) (z89 _) (by unfold maxLen;omega) (by omega) (by simp;omega) ?_;intro v5 w5 hown5 dz hne5;clear hne5;obtain⟨a5,gz,rfl⟩:=zE hown5;have kJ:=(zA ku).AP (B9.alloc L9 _) dz;obtain⟨j1,Kw⟩:=zB kJ 1;have mY:=zC hown5;have br:=zC dz;clear hown5 dz kJ)
       have r7:=(zA ku).add (x:=⟨r,fr,.slice af fr.length cf⟩) (zI (zA iO) (zA D5)) (B9.alloc L9 _) (zA br) (zA mY)
       have vo:=zC (show rdP (zix rs) n rest=(rdP (zix rs) (n-(i+1)) (nS.drop (1+fr.length))).map ((aJ++[(⟨r,fr,.slice af fr.length cf⟩:ND)]).map dX++·) by
        rw[zA gL,show n-i=(n-(i+1))+1 by omega,zwo,zA HX];simp only
        cases rdP (zix rs) (n-(i+1)) (nS.drop (1+fr.length)) with
        | none=>rfl
        | some l=>simp[dX])
       obtain⟨g2,o2,rfl,dd,-⟩:=(zA kr).at_ (by omega);have yo:=(zA kr).cap;have FM:=(zA kr).max;have ow:=zC ((zA kr).drop (1+fr.length));have JL:w3.heap.size<=w5.heap.size:=(by have:=(zA br).size;simp at this;omega);have Dd:(w5.setCell ⟨w.heap.size+1,1,none⟩ (.slice a5 (aJ.length+1) gz)).cell? ⟨nb,1,none⟩=some (.slice af fr.length cf):=by
        rw[World.cell?_setCell_far _ _ _ _ (by show w.heap.size+1≠nb;have:=zA D5;omega)];have eO:=(zA br).block nb (by simp;omega) (λ e=>by have:=zA Hx nb e.symm;omega);refine (World.cell?_of_block (a:=⟨nb,1,none⟩) (eO.trans (Below.heap_alloc _ _ _ dJ))).trans ?_;exact (zB (zA ju) 1).1
       generalize (w5.setCell ⟨w.heap.size+1,1,none⟩ (.slice a5 (aJ.length+1) gz))=w6 at *;have mj:=zC r7;have js:(1:Int)+fr.length<=nS.length:=(by omega);have lj:(0:Int)<=1+fr.length:=(by omega);clear r7 gL kr j1 Kw q0 q1 m0 m1 e0 e1 bH;go_wp2_with fail
       ·have ee:nS.drop (1+fr.length)=[]:=List.eq_nil_of_length_eq_zero (by rw[List.length_drop];omega);go_roundg (n-(i+1));exact⟨i+1,_,_,nS.drop (1+fr.length),_,_,by omega,rfl,by rw[List.length_drop],by go_num,zA mj,by rw[ee];exact iP.none _ _ (by unfold maxLen;omega),by simp[zA Bj],zA vo⟩;omega
       ·go_roundg (n-(i+1))
        case measure=>omega
        case rel=>exact⟨i+1,_,_,nS.drop (1+fr.length),_,_,by omega,rfl,by rw[List.length_drop],by go_num,zA mj,zA ow,by simp[zA Bj],zA vo⟩
     ·have CE:i=n:=(by omega);subst CE;obtain⟨s0,f0⟩:=zB ak.res 0;obtain⟨s1,f1⟩:=zB ak.res 1;obtain⟨q0,e0⟩:=zB ak.box 0;obtain⟨q1,e1⟩:=zB ak.box 1;simp only[List.getElem?_toArray,List.getElem?_cons_zero,List.getElem?_cons_succ] at s0 s1 q0 q1;have bP:=ak.lt;have oo:w.heap.size<w.heap.size+1+1:=(by omega);rw[Nat.sub_self] at bj
      cases nS with
      | nil=>
       have qz:=zC (show zjz (zix rs) (k::i::rest)=some (k,aJ.map dX) by rw[zA HN,bj];simp[rdP]);clear ak iD bj lI gL kr;go_wp2_with fail;obtain⟨p0,p1⟩:=zm7 s0 s1 (.int .i64 (k:Nat)) (.slice an aJ.length cn);refine bodyPost_ret (v:=.tuple #[.agg #[.int .i64 (k:Nat),.slice an aJ.length cn],.bool true]) (by simp[results,Tryz.results121,go_sem,p0,p1]) rfl ?_;rw[zA qz];refine⟨.yes ?_,((zA bt).kp.setCell L9 _).setCell L9 _⟩;have dB:=(zA bt).aJ;exact⟨zI (ownsRow_setCell_below (ownsRow_setCell_below dB.row oo _) oo _) (by omega),λ y hy=>zI (ownsRow_setCell_below (ownsRow_setCell_below (dB.each y hy) oo _) oo _) (by omega)⟩
      | cons x q=>
       have qz:=zC (show zjz (zix rs) (k::i::rest)=none by rw[zA HN,bj];rfl);have qh:(x::q).length=q.length+1:=rfl;rw[qh];have FX:(0:Int)<(q.length:Int)+1:=(by omega);clear ak iD bj lI gL kr qh;go_wp2_with fail;obtain⟨p0,p1⟩:=zm7 s0 s1 (.int .i64 0) (.slice none 0 0);refine bodyPost_ret (v:=.tuple #[.agg #[.int .i64 0,.slice none 0 0],.bool false]) (by simp[results,Tryz.results121,go_sem,p0,p1]) rfl ?_;rw[zA qz];exact⟨.no,((zA bt).kp.setCell L9 _).setCell L9 _⟩
end
section
open Go.RowKit
def zM (s:yL):V8:=s.r.cells++(zW s.e++zJ s.t)
def zf7 (s:yL):Value:=.agg (zM s).toArray
def ydl:PR:=⟨⟨{ data:=#[] },[],[]⟩,.slice none 0 0,[],.slice none 0 0⟩
def zec:yL:=⟨ydl,[],({ data:=#[] },[])⟩
theorem zwr (s:yL):(zM s).length=33:=rfl
theorem zpg:(Tryz.prog.info? 352).map (·.size)=some 33:=by kernel_rfl
theorem zws (s:yL)(h:s.r.hv.oneCell'=true/\s.r.bv.oneCell'=true):(zM s).toArray.all (·.oneCell')=true:=by
 have h1:=h.1;have h2:=h.2;simp[zM,PR.cells,zW,zJ,Value.oneCell'] at h1 h2 ⊢;exact⟨h1,h2⟩
noncomputable def znw (v:Value):Sem Value:=Instr.loadAt 352 v
noncomputable def zp2 (p v:Value):Sem Unit:=Instr.storeAt 352 p v
noncomputable def zur (h:Bool)(v:Value):Sem Value:=Instr.alloc 352 h v
noncomputable def zi7 (p:Array (Nat × Value)):Sem Value:=Instr.build 352 p
noncomputable def ybg (n:Nat)(p:Array (Nat × Value)):Sem Value:=Instr.buildSlice 303 n p
theorem zh5 (v:Value):Instr.loadAt 352 v=znw v:=rfl
theorem zf3 (p v:Value):Instr.storeAt 352 p v=zp2 p v:=rfl
theorem zfy (h:Bool)(v:Value):Instr.alloc 352 h v=zur h v:=rfl
theorem zfz (p:Array (Nat × Value)):Instr.build 352 p=zi7 p:=rfl
theorem zkf (n:Nat)(p:Array (Nat × Value)):Instr.buildSlice 303 n p=ybg n p:=rfl
theorem zd7 (s:yL):(zf7 s).cells=(zM s).toArray:=rfl
def gO (w:W8)(b:Nat)(s:yL):Prop:=w.heap[b]?=some (.cells (zM s).toArray 352 (0,0))
variable {s:yL} {b:Nat} {w:W8}
theorem gO.load (h:gO w b s):(znw (.pointer (some ⟨b,0,none⟩))).run Tryz.prog w=.ok (zf7 s) w:=by
 unfold znw;refine run_loadAt_mid w b 0 352 (zM s) _ (λ j v hv=>?_) Tryz.underlying352 rfl (by rw[zpg];rfl);rw[Nat.zero_add];have:=(zB h j).1;rw[this,List.getElem?_toArray];exact hv
theorem gO.new (w:W8)(s:yL):gO (w.alloc (.cells (zM s).toArray 352)) w.heap.size s:=heap_alloc_new w _
theorem gO.lt (h:gO w b s):b<w.heap.size:=(Array.getElem?_eq_some_iff.1 h).1
theorem gO.below {w':W8}(h:gO w b s)(k:Below w.heap.size w w'):gO w' b s:=(k.block b h.lt).trans h
theorem gO.store (h:gO w b s)(s':yL)(h1:s'.r.hv.oneCell'=true/\s'.r.bv.oneCell'=true):(zp2 (.pointer (some ⟨b,0,none⟩)) (zf7 s')).run Tryz.prog w=.ok () (w.setRow b (zM s').toArray):=by
 unfold zp2 Instr.storeAt Instr.sureAddr;simp only[Sem.run_bind,Sem.run_pure,Result.andThen_ok];exact run_storeVar_row w b _ 352 _ _ h (by rw[zpg];rfl) rfl (zws s' h1)
theorem zd5 (w:W8)(v:Value):(zur true v).run Tryz.prog w=.ok (.pointer (some ⟨w.heap.size,0,none⟩)) (w.alloc (.cells (zM zec).toArray 352)):=by
 unfold zur;simp[Instr.alloc,newVar,newRow,go_sem,zM,zec,ydl,PR.cells,zJ,xF,Th.p,Th.ts,zW,eAt]
theorem zg3 (w:W8)(s s':yL)(h1:s'.r.hv.oneCell'=true/\s'.r.bv.oneCell'=true):(zp2 (.pointer (some ⟨w.heap.size,0,none⟩)) (zf7 s')).run Tryz.prog (w.alloc (.cells (zM s).toArray 352))=.ok () (w.alloc (.cells (zM s').toArray 352)):=by
 rw[(gO.new w s).store s' h1,World.setRow_alloc_new]
theorem zso (w:W8):(zi7 #[]).run Tryz.prog w=.ok (zf7 zec) w:=by unfold zi7;kernel_rfl
theorem zun (w:W8)(r:PR)(e:zX)(t:Th):(zi7 #[(0,.agg #[.string r.R.pd,r.hv,r.bv]),(1,jD e),(2,thV t)]).run Tryz.prog w=.ok (zf7 ⟨r,e,t⟩) w:=by unfold zi7;kernel_rfl
theorem z3j (w:W8)(s:yL):(ybg 1 #[(0,zf7 s)]).run Tryz.prog w=.ok (.slice (some ⟨w.heap.size,0,none⟩) 1 1) (w.alloc (.cells (zM s).toArray 352)):=by unfold ybg;kernel_rfl
theorem zfd {fn:Func}{p u:Tmp}(h:fn.results=#[.cell p 352,.tmp u])(tmps:Array Value)(w:W8)(g:Nat)(s:yL)(hp:tmps.getD p undef=.pointer (some ⟨g,0,none⟩))(hg:gO w g s):
  (results fn tmps).run Tryz.prog w=.ok (.tuple #[zf7 s,tmps.getD u undef]) w:=by
 have rf:tmps[p]?.getD undef=.pointer (some ⟨g,0,none⟩):=by simpa using hp
 have cC:tmps.getD u undef=tmps[u]?.getD undef:=by simp
 have hl:(loadVar 352 ⟨g,0,none⟩).run Tryz.prog w=.ok (zf7 s) w:=by
  have:=hg.load;unfold znw Instr.loadAt Instr.sureAddr at this;simpa only[Sem.run_bind,Sem.run_pure,Result.andThen_ok] using this
 rw[cC];simp[results,h,rf,asAddr,hl]
structure zoc (w:W8)(base:Nat)(v:Value)(st:List yL):Prop where
 row:w.ownsRow base 352 33 v st.length (st.flatMap zM)
theorem zut {base:Nat}{v:Value}{st:List yL}(h:w.ownsRow base 352 33 v st.length (st.flatMap zM)){k:Nat}(hk:k<st.length):∃ g cap,v=.slice (some ⟨g,0,none⟩) st.length cap/\base<=g/\g<w.heap.size/\st.length<=cap/\cap<=maxLen/\∀ j,j<33->w.cell? ⟨g,k*33+j,none⟩=(zM st[k])[j]?:=
 vL (f:=zM) zwr h k hk
variable {g o:Nat}
theorem znx (h:∀ j,j<33->w.cell? ⟨g,o+j,none⟩=(zM s)[j]?):(znw (.pointer (some ⟨g,o,none⟩))).run Tryz.prog w=.ok (zf7 s) w:=by
 unfold znw;refine run_loadAt_mid w g o 352 (zM s) _ (λ j v hv=>?_) Tryz.underlying352 rfl (by rw[zpg];rfl);have hj:j<33:=by
  have:=(List.getElem?_eq_some_iff.1 hv).1;rw[zwr] at this;exact this
 exact (h j hj).trans hv
theorem zsq (h:∀ j,j<33->w.cell? ⟨g,o+j,none⟩=(zM s)[j]?):(zej (.pointer (some ⟨g,o+28,none⟩))).run Tryz.prog w=.ok (thV s.t) w:=by
 unfold zej;refine run_loadAt_mid w g (o+28) 88 (zJ s.t) _ (λ j v hv=>?_) Tryz.underlying88 rfl (by rw[zgd];rfl);have hj:j<5:=(List.getElem?_eq_some_iff.1 hv).1;rw[Nat.add_assoc,h (28+j) (by omega)];rw[<-hv];unfold zM;rw[List.getElem?_append_right (by show 3<=_;omega),List.getElem?_append_right (by show 25<=28+j-3;omega)]
 show (zJ s.t)[28+j-3-25]?=_
 rw[show 28+j-3-25=j by omega]
theorem zy5 (h:∀ j,j<33->w.cell? ⟨g,o+j,none⟩=(zM s)[j]?):(zgp (.pointer (some ⟨g,o+3,none⟩))).run Tryz.prog w=.ok (jD s.e) w:=by
 unfold zgp;refine run_loadAt_mid w g (o+3) 135 (zW s.e) _ (λ j v hv=>?_) Tryz.underlying135 rfl (by rw[zcg];rfl);have hj:j<25:=(List.getElem?_eq_some_iff.1 hv).1;rw[Nat.add_assoc,h (3+j) (by omega)];rw[<-hv];unfold zM;rw[List.getElem?_append_right (by show 3<=_;omega),List.getElem?_append_left (by show 3+j-3<25;omega)]
 show (zW s.e)[3+j-3]?=_
 rw[show 3+j-3=j by omega]
theorem gO.cells (h:gO w b s):∀ j,j<33->w.cell? ⟨b,0+j,none⟩=(zM s)[j]?:=λ j _=>by rw[Nat.zero_add,(zB h j).1,List.getElem?_toArray]
theorem gO.bound (h:gO w b s):(zgp (.pointer (some ⟨b,3,none⟩))).run Tryz.prog w=.ok (jD s.e) w:=by
 have:=zy5 h.cells
 rwa [Nat.zero_add] at this
end
end Go.Proofs.YtldkpahaocjdpaaGreat
