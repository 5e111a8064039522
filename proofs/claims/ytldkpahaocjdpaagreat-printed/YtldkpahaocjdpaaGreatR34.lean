/-
  fromBytes: a witness is read.
-/
import Derived.Test.YtldkpahaocjdpaaGreatR33
set_option maxHeartbeats 16000000
set_option maxRecDepth 1000000
namespace Go.Proofs.YtldkpahaocjdpaaGreat
section
open Go.RowKit Go.Maps
theorem zx9 (pos:List Nat)(n:Nat)(rest:List Nat):rdP pos (n+1) rest=match zib pos rest with | none=>none | some x=>match rdP pos n (rest.drop (1+x.2.length)) with | none=>none | some l=>some (x::l):=by
 cases rest with
 | nil=>rfl
 | cons r q=>
  rw[rdP,zib]
  cases hp:pos[r]? with
  | none=>rfl
  | some m=>
   simp only
   by_cases h:q.length<m
   ·rw[if_pos h,if_pos h]
   ·rw[if_neg h,if_neg h];simp only[List.length_take];rw[show (r::q).drop (1+min m q.length)=q.drop m by rw[Nat.add_comm,List.drop_succ_cons,Nat.min_eq_left (by omega)]]
    cases rdP pos n (q.drop m) <;> rfl
variable {x:Nat × List Nat} {rest:List Nat}
theorem z4y {pos:List Nat}(h:zib pos rest=some x):1+x.2.length<=rest.length:=by
 cases rest with
 | nil=>cases h
 | cons r q=>
  rw[zib] at h
  split at h
  ·cases h
  ·split at h
   ·cases h
   ·obtain rfl:=Option.some.inj h;simp only[List.length_take,List.length_cons];omega
theorem z4x {rs:List PR}(h3:∀ r∈rs,r.bs.length<=3)(h:zib (zjd rs) rest=some x):x.2.length<=3:=by
 cases rest with
 | nil=>cases h
 | cons r q=>
  rw[zib] at h
  split at h
  ·cases h
  ·rename_i m hm
   split at h
   ·cases h
   ·obtain rfl:=Option.some.inj h;unfold zjd at hm;rw[List.getElem?_map] at hm
    cases hr:rs[r]? with
    | none=>rw[hr] at hm;cases hm
    | some R=>
     rw[hr] at hm;obtain rfl:=Option.some.inj hm;have h1:=zia R.bs;have h2:=h3 R (List.mem_of_getElem? hr);simp only[List.length_take];omega
structure ff (w:W8)(k:Nat)(aJ:List ND)(nv:Value)(wr:W8):Prop where
 kp:Below w.heap.size w wr
 res:wr.heap[w.heap.size]?=some (.cells #[.int .i64 0,.slice none 0 0] 93 (0,0))
 box:wr.heap[w.heap.size+1]?=some (.cells #[.int .i64 (k:Nat),nv] 93 (0,0))
 aJ:jS wr (w.heap.size+1+1) nv aJ
variable {wr w:W8} {nv:Value}
theorem ff.lt {k:Nat}{aJ:List ND}(h:ff w k aJ nv wr):w.heap.size+1<wr.heap.size:=(Array.getElem?_eq_some_iff.1 h.box).1
theorem ff.below {w:W8}{k:Nat}{aJ:List ND}{nv:Value}{wr w':W8}(h:ff w k aJ nv wr)(b:Below wr.heap.size wr w'):ff w k aJ nv w':=
 have l:=h.lt
 ⟨h.kp.trans (b.mono h.kp.size),(b.block _ (by omega)).trans h.res,(b.block _ l).trans h.box,h.aJ.below b⟩
theorem ff.start (w:W8)(k:Nat):ff w k [] (.slice none 0 0) ((w.alloc (.cells #[.int .i64 0,.slice none 0 0] 93)).alloc (.cells #[.int .i64 (k:Nat),.slice none 0 0] 93)):=by
 refine⟨((Below.refl _ w).alloc L9 _).alloc (by simp) _,?_,?_,⟨World.ownsRow_nil _ _ _ _,by simp⟩⟩
 ·rw[Below.heap_alloc _ _ _ (by simp)];exact heap_alloc_new w _
 ·have:=heap_alloc_new (w.alloc (.cells #[.int .i64 0,.slice none 0 0] 93)) (.cells #[.int .i64 (k:Nat),.slice none 0 0] 93);rw[World.size_alloc] at this;exact this
variable {W w5:W8}
theorem ff.AP {k:Nat}{aJ:List ND}(h:ff w k aJ nv wr)(hW:Below wr.heap.size wr W)(hg:W.grownBy w5 nv.ownBlock):w5.heap[w.heap.size+1]?=some (.cells #[.int .i64 (k:Nat),nv] 93 (0,0)):=by
 have hB:=h.below hW;have l:=hB.lt;have k5:yA nv.ownBlock.toList W w5:=yA.eK hg;exact (k5.block _ l (λ hm=>by have:=(hB.aJ.row.lt _ (by simpa using hm)).1;omega)).trans hB.box
theorem ff.add {k:Nat}{aJ:List ND}{v':Value}{x:ND}(h:ff w k aJ nv wr)(hx:wr.ownsRow (w.heap.size+1+1) 3 1 x.v x.fr.length (cO x.fr))(hW:Below wr.heap.size wr W)(hg:W.grownBy w5 nv.ownBlock)(aI:w5.ownsRow (w.heap.size+1+1) 150 2 v' (aJ.length+1) (aJ.flatMap zax++zax x)):ff w k (aJ++[x]) v' (w5.setCell ⟨w.heap.size+1,1,none⟩ v'):=by
 have hB:=h.below hW;have l:=hB.lt;have k5:yA nv.ownBlock.toList W w5:=yA.eK hg;have aX:∀ x∈nv.ownBlock.toList,w.heap.size+1+1<=x:=λ x hx=>(hB.aJ.row.lt x (by simpa using hx)).1
 have nt:∀ b∈nv.ownBlock.toList,bf W 3 b:=vL hB.aJ.row (by decide);have b1:=h.AP hW hg;have b0:w5.heap[w.heap.size]?=some (.cells #[.int .i64 0,.slice none 0 0] 93 (0,0)):=(k5.block _ (by omega) (λ hm=>by have:=aX _ hm;omega)).trans hB.res;have Kj:=zG hx hW (λ g e=>(hx.lt g e).2);refine⟨?_,?_,by rw[heap_setCell_same _ _ _ _ _ _ b1];rfl,⟨?_,λ y hy=>?_⟩⟩
 ·refine Below.setCell ?_ (by show w.heap.size<=w.heap.size+1;omega) _;have hs:=hB.kp.size;refine⟨hg.os.trans hB.kp.os,hg.tape.trans hB.kp.tape,hg.output.trans hB.kp.output,Nat.le_trans hB.kp.size hg.size,λ i hi=>?_⟩;rw[hg.block i (by omega) (λ e=>by have:=(hB.aJ.row.lt i e.symm).1;omega)];exact hB.kp.block i hi
 ·rw[Below.heap_setCell _ _ _ _ (by show w.heap.size≠w.heap.size+1;omega)];exact b0
 ·rw[List.length_append,List.flatMap_append];have:=ownsRow_setCell_below (a:=⟨w.heap.size+1,1,none⟩) aI (by show w.heap.size+1<_;omega) v';simpa using this
 ·refine ownsRow_setCell_below ?_ (by show w.heap.size+1<_;omega) _;rcases List.mem_append.1 hy with hy | hy
  ·exact vP (hB.aJ.each y hy) k5 (λ b hb=>.inr (nt b hb))
  ·rw[List.mem_singleton.1 hy];exact vP Kj k5 (λ b hb=>.inr (nt b hb))
inductive MF (w w':W8):Option (Nat × List (Nat × List Nat))->Ending->Prop
 | no:MF w w' none (.returned (.tuple #[.agg #[.int .i64 0,.slice none 0 0],.bool false]))
 | yes {k:Nat} {aJ:List ND} {a:O8} {c:Nat}:jS w' w.heap.size (.slice a aJ.length c) aJ->MF w w' (some (k,aJ.map dX)) (.returned (.tuple #[.agg #[.int .i64 (k:Nat),.slice a aJ.length c],.bool true]))
def zke (pos bs:List Nat):Option (Nat × List (Nat × List Nat)):=match bs with
 | k::n::rest=>if 50<n then none else (rdP pos n rest).map λ l=>(k,l)
 | _=>none
theorem zqe (w:W8)(base:Nat)(a:O8)(c:Nat)(bs:List Nat)(hb:iP w a c bs)(ar:O8)(cr:Nat)(rs:List PR)(hr:aD w base (.slice ar rs.length cr) rs)(h3:∀ r∈rs,r.bs.length<=3):
  Calls Tryz.prog 121 #[.slice a bs.length c,.slice ar rs.length cr] w λ e w'=>MF w w' (zke (zjd rs) bs) e/\Below w.heap.size w w':=by
 have k0:Below w.heap.size w (w.alloc (.cells #[.int .i64 0,.slice none 0 0] 93)):=B9.alloc L9 _;have cq:=zC k0;have HR:=zC hr
 match bs,hb with
 | [],hb=>
  clear hb hr k0;go_enter Tryz.func121,Tryz.ntmps121;go_wp2_with fail;refine bodyPost_ret (v:=.tuple #[.agg #[.int .i64 0,.slice none 0 0],.bool false]) (by simp[results,Tryz.results121,go_sem]) rfl ?_;exact⟨.no,zA cq⟩
 | [x],hb=>
  clear hb hr k0;go_enter Tryz.func121,Tryz.ntmps121;go_wp2_with fail;refine bodyPost_ret (v:=.tuple #[.agg #[.int .i64 0,.slice none 0 0],.bool false]) (by simp[results,Tryz.results121,go_sem]) rfl ?_;exact⟨.no,zA cq⟩
 | k::n::rest,hb=>
  obtain⟨g,o,rfl,hg,hc⟩:=hb.at_ (by simp);have FF:=hb.byte k List.mem_cons_self;have FO:=hb.byte n (List.mem_cons_of_mem _ List.mem_cons_self);have kR:=hb.cap;have lM:=hb.max;have HB:=zC (hb.drop 2);have c0:=(k0.cell (p:=⟨g,o,none⟩) hg).trans (hc 0 (by simp));have c1:=(k0.cell (p:=⟨g,o+1,none⟩) hg).trans (hc 1 (by simp));simp only[List.getElem_cons_zero,List.getElem_cons_succ] at c0 c1;have hlen:(k::n::rest).length=rest.length+1+1:=rfl;rw[hlen] at kR ⊢;have lG:¬ ((rest.length:Int)+1+1<2):=by omega
  clear hb hr k0 hc hlen
  by_cases hn:50<n
  ·have po:(50:Int)<n:=(by omega);have HN:=zC (show zke (zjd rs) (k::n::rest)=none by unfold zke;simp only;rw[if_pos hn]);go_enter Tryz.func121,Tryz.ntmps121;go_wp2_with fail;refine bodyPost_ret (v:=.tuple #[.agg #[.int .i64 0,.slice none 0 0],.bool false]) (by simp[results,Tryz.results121,go_sem]) rfl ?_;rw[zA HN];exact⟨.no,zA cq⟩
  ·have po:¬ (50:Int)<n:=(by omega);have HN:=zC (show zke (zjd rs) (k::n::rest)=(rdP (zjd rs) n rest).map λ l=>(k,l) by unfold zke;simp only;rw[if_neg hn]);have od:=ff.start w k;go_enter Tryz.func121,Tryz.ntmps121;go_upto_region 4 with fail;have k1:Below w.heap.size w ((w.alloc (.cells #[.int .i64 0,.slice none 0 0] 93)).alloc (.cells #[.int .i64 (k:Nat),.slice none 0 0] 93)):=od.kp;have d1:((w.alloc (.cells #[.int .i64 0,.slice none 0 0] 93)).alloc (.cells #[.int .i64 (k:Nat),.slice none 0 0] 93)).cell? ⟨g,o+1,none⟩=some (.int .u8 (n:Nat)):=(by rw[World.cell?_alloc_past _ _ _ (by simp;omega)];exact c1);have cR:=zC (show iP w (some ⟨g,o+2,none⟩) (c-2) rest from zA HB);clear c0 c1 HB;generalize ((w.alloc (.cells #[.int .i64 0,.slice none 0 0] 93)).alloc (.cells #[.int .i64 (k:Nat),.slice none 0 0] 93))=w1 at *;have vq:=zC od;clear od
   go_cut [7] (λ v wc=>∃ a' c',v=.slice a' rest.length c'/\iP w a' c' rest/\wc=w1)
   case first=>
    have s1:(2:Int)<=(rest.length:Int)+1+1:=(by omega);have HC:=zC (And.intro kR lM);clear kR;go_wp2_with fail
    ·subst h;go_meet
     case rel=>
      have ee:rest=[]:=List.eq_nil_of_length_eq_zero (by have:=(zA HC).1;omega);refine⟨_,_,rfl,?_,rfl⟩;rw[ee];exact iP.none _ _ (by unfold maxLen;omega)
    ·go_meet
     case rel=>exact⟨_,_,rfl,zA cR,rfl⟩
   case rest=>
    generalize wc=wA at *;obtain⟨a0,IH,rfl,EM,Gg⟩:=hcut;subst Gg;have kr:=zC EM;clear EM;go_wp2_with fail
    go_loopg [7,30] n (λ gg v ii wr=>∃ (i:Nat) (aJ:List ND) (nv:Value) (fy:List Nat) (a':O8) (c':Nat),i<=n/\gg=n-i/\v=.slice a' fy.length c'/\ii=.int .u8 i/\ff w k aJ nv wr/\iP w a' c' fy/\aJ.length=i/\rdP (zjd rs) n rest=(rdP (zjd rs) (n-i) fy).map (aJ.map dX++·))
    exact⟨0,[],_,rest,a0,IH,Nat.zero_le _,rfl,rfl,rfl,zA vq,zA kr,rfl,by rw[Nat.sub_zero];cases rdP (zjd rs) n rest <;> rfl⟩
    case round=>
     clear vq kr;obtain⟨i,aJ,nv,fy,a',c',Js,Fy,rfl,rfl,ak,iD,lI,bj⟩:=hrel;obtain⟨an,cn,rfl⟩:=zE ak.aJ.row;have bt:=zC ak;have kr:=zC iD;have gL:=zC bj;have Bj:=zC lI
     by_cases hin':i<n
     ·have Kt:(i:Int)<n:=(by omega);have iQ:=zC (ztv wr base a' c' fy (iD.below ak.kp) ar cr rs ((zA HR).below ak.kp) h3);clear ak iD bj lI;go_wp2_with fail;refine (zA iQ).mono ?_;rintro e w2 ⟨hO,aU⟩;generalize hX:zib (zjd rs) fy=X at hO
      cases hO with
      | no=>
       have dw:=(zA bt).below aU;obtain⟨s0,f0⟩:=zB dw.res 0;obtain⟨s1,f1⟩:=zB dw.res 1;simp only[List.getElem?_toArray,List.getElem?_cons_zero,List.getElem?_cons_succ] at s0 s1;have CN:=dw.lt;have jz:w.heap.size<w2.heap.size:=by omega
       have qz:=zC (show zke (zjd rs) (k::n::rest)=none by
        rw[zA HN,zA gL,show n-i=(n-i-1)+1 by omega,zx9,hX]
        rfl)
       have tz:=zC dw.kp;clear dw hX iQ gL kr bt;go_upto_region 9 with fail;have ka:=(Below.refl w2.heap.size w2).alloc L9 (.cells #[.int .i64 0,.slice none 0 0] 150);have t0:=(ka.cell (p:=⟨w.heap.size,0,none⟩) jz).trans s0;have t1:=(ka.cell (p:=⟨w.heap.size,1,none⟩) jz).trans s1;have g0:=(ka.frozen (p:=⟨w.heap.size,0,none⟩) jz).trans f0;have g1:=(ka.frozen (p:=⟨w.heap.size,1,none⟩) jz).trans f1;have qy:=zC ((zA tz).alloc (Nat.le_of_lt jz) (.cells #[.int .i64 0,.slice none 0 0] 150));clear ka;generalize (w2.alloc (.cells #[.int .i64 0,.slice none 0 0] 150))=w3 at *;go_wp2_with fail;obtain⟨p0,p1⟩:=zom t0 t1 (.int .i64 0) (.slice none 0 0);refine bodyPost_ret (v:=.tuple #[.agg #[.int .i64 0,.slice none 0 0],.bool false]) (by simp[results,Tryz.results121,go_sem,p0,p1]) rfl ?_;rw[zA qz];exact⟨.no,((zA qy).setCell L9 _).setCell L9 _⟩
      | @yes r fr af cf aI=>
       have dw:=(zA bt).below aU;obtain⟨q0,e0⟩:=zB dw.box 0;obtain⟨q1,e1⟩:=zB dw.box 1;simp only[List.getElem?_toArray,List.getElem?_cons_zero,List.getElem?_cons_succ] at q0 q1;have CN:=dw.lt;have iG:=z4y hX;have Fs:=z4x h3 hX;have HX:=zC hX;have fG:=zC dw;have ka:=(Below.refl w2.heap.size w2).alloc L9 (.cells #[.int .i64 (r:Nat),.slice af fr.length cf] 150);have jx:=dw.below ka;have qp:=zG aI ka (λ g e=>(aI.lt g e).2);have kZ:=heap_alloc_new w2 (.cells #[.int .i64 (r:Nat),.slice af fr.length cf] 150);have um:w.heap.size+1+1<=wr.heap.size:=(by have:=(zA bt).lt;omega);have D5:=zC um;have M3:wr.heap.size<=w2.heap.size:=aU.size;have Hx:=zC (λ g e=>((zA bt).aJ.row.lt g e).2);clear dw hX iQ bt q0 q1 e0 e1 fG aI;go_upto_region 10 with fail;generalize hw3:(w2.alloc (.cells #[.int .i64 (r:Nat),.slice af fr.length cf] 150))=w3 at *;generalize w2.heap.size=nb at *;clear hw3 ka;obtain⟨q0,e0⟩:=zB jx.box 0;obtain⟨q1,e1⟩:=zB jx.box 1;obtain⟨m0,-⟩:=zB kZ 0;obtain⟨m1,-⟩:=zB kZ 1;simp only[List.getElem?_toArray,List.getElem?_cons_zero,List.getElem?_cons_succ] at q0 q1 m0 m1;have JG:=jx.lt;have dJ:=(Array.getElem?_eq_some_iff.1 kZ).1;obtain⟨i0,hi,dK,aj,bZ⟩:=info_parts zqg;have bH:=jx.aJ.row.alloc (.cells #[.int .i64 (r:Nat),.slice af fr.length cf] 150);have ku:=zC jx;have jw:=zC qp;have FQ:aJ.length<=50:=(by have:=zA Bj;omega);have ju:=zC kZ;clear jx qp kZ;go_upto_region 11 with (at_builtin;refine wpList_append_own _ rfl _ _ 91 rfl (w.heap.size+1+1) 150 i0 _ 2 32 Tryz.underlying91 hi dK aj bZ rfl (by decide) _ _ _ rfl bH ⟨w3.heap.size,0,none⟩ 1 1 (zax ⟨r,fr,.slice af fr.length cf⟩) rfl rfl (z3v w3 ⟨r,fr,.slice af fr.length cf⟩) (yai _) (by unfold maxLen;omega) (by omega) (by simp;omega) ?_;intro v5 w5 ad dz aw;clear aw;obtain⟨a5,gz,rfl⟩:=zE ad;have ln:=(zA ku).AP (B9.alloc L9 _) dz;obtain⟨j1,Kw⟩:=zB ln 1;have mY:=zC ad;have bp:=zC dz;clear ad dz ln)
       have r7:=(zA ku).add (x:=⟨r,fr,.slice af fr.length cf⟩) (zI (zA jw) (zA D5)) (B9.alloc L9 _) (zA bp) (zA mY)
       have vo:=zC (show rdP (zjd rs) n rest=(rdP (zjd rs) (n-(i+1)) (fy.drop (1+fr.length))).map ((aJ++[(⟨r,fr,.slice af fr.length cf⟩:ND)]).map dX++·) by
        rw[zA gL,show n-i=(n-(i+1))+1 by omega,zx9,zA HX];simp only
        cases rdP (zjd rs) (n-(i+1)) (fy.drop (1+fr.length)) with
        | none=>rfl
        | some l=>simp[dX])
       obtain⟨g2,o2,rfl,dd,-⟩:=(zA kr).at_ (by omega);have yo:=(zA kr).cap;have FM:=(zA kr).max;have ow:=zC ((zA kr).drop (1+fr.length));have JL:w3.heap.size<=w5.heap.size:=(by have:=(zA bp).size;simp at this;omega);have Dd:(w5.setCell ⟨w.heap.size+1,1,none⟩ (.slice a5 (aJ.length+1) gz)).cell? ⟨nb,1,none⟩=some (.slice af fr.length cf):=by
        rw[World.cell?_setCell_far _ _ _ _ (by show w.heap.size+1≠nb;have:=zA D5;omega)];have eO:=(zA bp).block nb (by simp;omega) (λ e=>by have:=zA Hx nb e.symm;omega);refine (World.cell?_of_block (a:=⟨nb,1,none⟩) (eO.trans (Below.heap_alloc _ _ _ dJ))).trans ?_;exact (zB (zA ju) 1).1
       generalize (w5.setCell ⟨w.heap.size+1,1,none⟩ (.slice a5 (aJ.length+1) gz))=w6 at *;have mj:=zC r7;have js:(1:Int)+fr.length<=fy.length:=(by omega);have lj:(0:Int)<=1+fr.length:=(by omega);clear r7 gL kr j1 Kw q0 q1 m0 m1 e0 e1 bH;go_wp2_with fail
       ·have ee:fy.drop (1+fr.length)=[]:=List.eq_nil_of_length_eq_zero (by rw[List.length_drop];omega);go_roundg (n-(i+1));exact⟨i+1,_,_,fy.drop (1+fr.length),_,_,by omega,rfl,by rw[List.length_drop],by go_num,zA mj,by rw[ee];exact iP.none _ _ (by unfold maxLen;omega),by simp[zA Bj],zA vo⟩;omega
       ·go_roundg (n-(i+1))
        case measure=>omega
        case rel=>exact⟨i+1,_,_,fy.drop (1+fr.length),_,_,by omega,rfl,by rw[List.length_drop],by go_num,zA mj,zA ow,by simp[zA Bj],zA vo⟩
     ·have CE:i=n:=(by omega);subst CE;obtain⟨s0,f0⟩:=zB ak.res 0;obtain⟨s1,f1⟩:=zB ak.res 1;obtain⟨q0,e0⟩:=zB ak.box 0;obtain⟨q1,e1⟩:=zB ak.box 1;simp only[List.getElem?_toArray,List.getElem?_cons_zero,List.getElem?_cons_succ] at s0 s1 q0 q1;have bP:=ak.lt;have oo:w.heap.size<w.heap.size+1+1:=(by omega);rw[Nat.sub_self] at bj
      cases fy with
      | nil=>
       have qz:=zC (show zke (zjd rs) (k::i::rest)=some (k,aJ.map dX) by rw[zA HN,bj];simp[rdP]);clear ak iD bj lI gL kr;go_wp2_with fail;obtain⟨p0,p1⟩:=zom s0 s1 (.int .i64 (k:Nat)) (.slice an aJ.length cn);refine bodyPost_ret (v:=.tuple #[.agg #[.int .i64 (k:Nat),.slice an aJ.length cn],.bool true]) (by simp[results,Tryz.results121,go_sem,p0,p1]) rfl ?_;rw[zA qz];refine⟨.yes ?_,((zA bt).kp.setCell L9 _).setCell L9 _⟩;have dB:=(zA bt).aJ;exact⟨zI (ownsRow_setCell_below (ownsRow_setCell_below dB.row oo _) oo _) (by omega),λ y hy=>zI (ownsRow_setCell_below (ownsRow_setCell_below (dB.each y hy) oo _) oo _) (by omega)⟩
      | cons x q=>
       have qz:=zC (show zke (zjd rs) (k::i::rest)=none by rw[zA HN,bj];rfl);have qh:(x::q).length=q.length+1:=rfl;rw[qh];have FX:(0:Int)<(q.length:Int)+1:=(by omega);clear ak iD bj lI gL kr qh;go_wp2_with fail;obtain⟨p0,p1⟩:=zom s0 s1 (.int .i64 0) (.slice none 0 0);refine bodyPost_ret (v:=.tuple #[.agg #[.int .i64 0,.slice none 0 0],.bool false]) (by simp[results,Tryz.results121,go_sem,p0,p1]) rfl ?_;rw[zA qz];exact⟨.no,((zA bt).kp.setCell L9 _).setCell L9 _⟩
end
section
open Go.RowKit
def zO (s:yM):V8:=s.r.cells++(zT s.e++zK s.t)
def zgh (s:yM):Value:=.agg (zO s).toArray
def yez:PR:=⟨⟨{ data:=#[] },[],[]⟩,.slice none 0 0,[],.slice none 0 0⟩
def zej:yM:=⟨yez,[],({ data:=#[] },[])⟩
theorem zyc (s:yM):(zO s).length=33:=rfl
theorem zqh:(Tryz.prog.info? 352).map (·.size)=some 33:=by kernel_rfl
theorem zyd (s:yM)(h:s.r.hv.oneCell'=true/\s.r.bv.oneCell'=true):(zO s).toArray.all (·.oneCell')=true:=by
 have h1:=h.1;have h2:=h.2;simp[zO,PR.cells,zT,zK,Value.oneCell'] at h1 h2 ⊢;exact⟨h1,h2⟩
noncomputable def zph (v:Value):Sem Value:=Instr.loadAt 352 v
noncomputable def zrf (p v:Value):Sem Unit:=Instr.storeAt 352 p v
noncomputable def zv9 (h:Bool)(v:Value):Sem Value:=Instr.alloc 352 h v
noncomputable def zjm (p:Array (Nat × Value)):Sem Value:=Instr.build 352 p
noncomputable def ycw (n:Nat)(p:Array (Nat × Value)):Sem Value:=Instr.buildSlice 303 n p
theorem zik (v:Value):Instr.loadAt 352 v=zph v:=rfl
theorem zgc (p v:Value):Instr.storeAt 352 p v=zrf p v:=rfl
theorem zga (h:Bool)(v:Value):Instr.alloc 352 h v=zv9 h v:=rfl
theorem zgb (p:Array (Nat × Value)):Instr.build 352 p=zjm p:=rfl
theorem zkt (n:Nat)(p:Array (Nat × Value)):Instr.buildSlice 303 n p=ycw n p:=rfl
theorem zee (s:yM):(zgh s).cells=(zO s).toArray:=rfl
def gO (w:W8)(b:Nat)(s:yM):Prop:=w.heap[b]?=some (.cells (zO s).toArray 352 (0,0))
variable {s:yM} {b:Nat} {w:W8}
theorem gO.load (h:gO w b s):(zph (.pointer (some ⟨b,0,none⟩))).run Tryz.prog w=.ok (zgh s) w:=by
 unfold zph;refine run_loadAt_mid w b 0 352 (zO s) _ (λ j v hv=>?_) Tryz.underlying352 rfl (by rw[zqh];rfl);rw[Nat.zero_add];have:=(zB h j).1;rw[this,List.getElem?_toArray];exact hv
theorem gO.new (w:W8)(s:yM):gO (w.alloc (.cells (zO s).toArray 352)) w.heap.size s:=heap_alloc_new w _
theorem gO.lt (h:gO w b s):b<w.heap.size:=(Array.getElem?_eq_some_iff.1 h).1
theorem gO.below {w':W8}(h:gO w b s)(k:Below w.heap.size w w'):gO w' b s:=(k.block b h.lt).trans h
theorem gO.store (h:gO w b s)(s':yM)(h1:s'.r.hv.oneCell'=true/\s'.r.bv.oneCell'=true):(zrf (.pointer (some ⟨b,0,none⟩)) (zgh s')).run Tryz.prog w=.ok () (w.setRow b (zO s').toArray):=by
 unfold zrf Instr.storeAt Instr.sureAddr;simp only[Sem.run_bind,Sem.run_pure,Result.andThen_ok];exact run_storeVar_row w b _ 352 _ _ h (by rw[zqh];rfl) rfl (zyd s' h1)
theorem zec (w:W8)(v:Value):(zv9 true v).run Tryz.prog w=.ok (.pointer (some ⟨w.heap.size,0,none⟩)) (w.alloc (.cells (zO zej).toArray 352)):=by
 unfold zv9;simp[Instr.alloc,newVar,newRow,go_sem,zO,zej,yez,PR.cells,zK,xF,Th.p,Th.ts,zT,eAt]
theorem zhb (w:W8)(s s':yM)(h1:s'.r.hv.oneCell'=true/\s'.r.bv.oneCell'=true):(zrf (.pointer (some ⟨w.heap.size,0,none⟩)) (zgh s')).run Tryz.prog (w.alloc (.cells (zO s).toArray 352))=.ok () (w.alloc (.cells (zO s').toArray 352)):=by
 rw[(gO.new w s).store s' h1,World.setRow_alloc_new]
theorem zt1 (w:W8):(zjm #[]).run Tryz.prog w=.ok (zgh zej) w:=by unfold zjm;kernel_rfl
theorem zv5 (w:W8)(r:PR)(e:zY)(t:Th):(zjm #[(0,.agg #[.string r.R.pd,r.hv,r.bv]),(1,jA e),(2,thV t)]).run Tryz.prog w=.ok (zgh ⟨r,e,t⟩) w:=by unfold zjm;kernel_rfl
theorem z49 (w:W8)(s:yM):(ycw 1 #[(0,zgh s)]).run Tryz.prog w=.ok (.slice (some ⟨w.heap.size,0,none⟩) 1 1) (w.alloc (.cells (zO s).toArray 352)):=by unfold ycw;kernel_rfl
theorem zfj {fn:Func}{p u:Tmp}(h:fn.results=#[.cell p 352,.tmp u])(tmps:Array Value)(w:W8)(g:Nat)(s:yM)(hp:tmps.getD p undef=.pointer (some ⟨g,0,none⟩))(hg:gO w g s):
  (results fn tmps).run Tryz.prog w=.ok (.tuple #[zgh s,tmps.getD u undef]) w:=by
 have rf:tmps[p]?.getD undef=.pointer (some ⟨g,0,none⟩):=by simpa using hp
 have cD:tmps.getD u undef=tmps[u]?.getD undef:=by simp
 have hl:(loadVar 352 ⟨g,0,none⟩).run Tryz.prog w=.ok (zgh s) w:=by
  have:=hg.load;unfold zph Instr.loadAt Instr.sureAddr at this;simpa only[Sem.run_bind,Sem.run_pure,Result.andThen_ok] using this
 rw[cD];simp[results,h,rf,asAddr,hl]
structure zpz (w:W8)(base:Nat)(v:Value)(st:List yM):Prop where
 row:w.ownsRow base 352 33 v st.length (st.flatMap zO)
theorem zwb {base:Nat}{v:Value}{st:List yM}(h:w.ownsRow base 352 33 v st.length (st.flatMap zO)){k:Nat}(hk:k<st.length):∃ g cap,v=.slice (some ⟨g,0,none⟩) st.length cap/\base<=g/\g<w.heap.size/\st.length<=cap/\cap<=maxLen/\∀ j,j<33->w.cell? ⟨g,k*33+j,none⟩=(zO st[k])[j]?:=
 vE (f:=zO) zyc h k hk
variable {g o:Nat}
theorem zpi (h:∀ j,j<33->w.cell? ⟨g,o+j,none⟩=(zO s)[j]?):(zph (.pointer (some ⟨g,o,none⟩))).run Tryz.prog w=.ok (zgh s) w:=by
 unfold zph;refine run_loadAt_mid w g o 352 (zO s) _ (λ j v hv=>?_) Tryz.underlying352 rfl (by rw[zqh];rfl);have hj:j<33:=by
  have:=(List.getElem?_eq_some_iff.1 hv).1;rw[zyc] at this;exact this
 exact (h j hj).trans hv
theorem zt5 (h:∀ j,j<33->w.cell? ⟨g,o+j,none⟩=(zO s)[j]?):(zeq (.pointer (some ⟨g,o+28,none⟩))).run Tryz.prog w=.ok (thV s.t) w:=by
 unfold zeq;refine run_loadAt_mid w g (o+28) 88 (zK s.t) _ (λ j v hv=>?_) Tryz.underlying88 rfl (by rw[zgn];rfl);have hj:j<5:=(List.getElem?_eq_some_iff.1 hv).1;rw[Nat.add_assoc,h (28+j) (by omega)];rw[<-hv];unfold zO;rw[List.getElem?_append_right (by show 3<=_;omega),List.getElem?_append_right (by show 25<=28+j-3;omega)]
 show (zK s.t)[28+j-3-25]?=_
 rw[show 28+j-3-25=j by omega]
theorem z0x (h:∀ j,j<33->w.cell? ⟨g,o+j,none⟩=(zO s)[j]?):(zgy (.pointer (some ⟨g,o+3,none⟩))).run Tryz.prog w=.ok (jA s.e) w:=by
 unfold zgy;refine run_loadAt_mid w g (o+3) 135 (zT s.e) _ (λ j v hv=>?_) Tryz.underlying135 rfl (by rw[zch];rfl);have hj:j<25:=(List.getElem?_eq_some_iff.1 hv).1;rw[Nat.add_assoc,h (3+j) (by omega)];rw[<-hv];unfold zO;rw[List.getElem?_append_right (by show 3<=_;omega),List.getElem?_append_left (by show 3+j-3<25;omega)]
 show (zT s.e)[3+j-3]?=_
 rw[show 3+j-3=j by omega]
theorem gO.cells (h:gO w b s):∀ j,j<33->w.cell? ⟨b,0+j,none⟩=(zO s)[j]?:=λ j _=>by rw[Nat.zero_add,(zB h j).1,List.getElem?_toArray]
theorem gO.bound (h:gO w b s):(zgy (.pointer (some ⟨b,3,none⟩))).run Tryz.prog w=.ok (jA s.e) w:=by
 have:=z0x h.cells
 rwa [Nat.zero_add] at this
end
section
open Go.RowKit
attribute [local go_sem ↓] qP jN qN xU vS vA xZ xY zik zgc zga zgb zkt zee
attribute [local go_sem] vZ qE zec zt1
def zkh (r:PR)(o:Option zY):yM:=match o with | none=>zej | some e=>⟨r,e,zZ e (jB r)⟩
def z60 (w:W8)(r:PR)(o:Option zY)(en:Ending)(w':W8):Prop:=Below w.heap.size w w'/\en=.returned (.tuple #[zgh (zkh r o),.bool o.isSome])
variable {k:Nat} {e:zY} {S:List Th} {fr:List Nat} {cs:List xG}
theorem z9b (hk:k<cs.length)(hf:k<fr.length)(hx:S.length<=fr[k]):zdl (cs.drop k) (fr.drop k) S e=none:=by
 rw[List.drop_eq_getElem_cons hk,List.drop_eq_getElem_cons hf,zdm];simp only;rw[List.getElem?_eq_none hx]
theorem z9a (hk:k<cs.length)(hf:k<fr.length)(hx:fr[k]<S.length):zdl (cs.drop k) (fr.drop k) S e=match yC e cs[k] S[fr[k]] with | none=>none | some e'=>zdl (cs.drop (k+1)) (fr.drop (k+1)) S e':=by
 rw[List.drop_eq_getElem_cons hk,List.drop_eq_getElem_cons hf,zdm];simp only;rw[List.getElem?_eq_getElem hx];rfl
structure yba (w:W8)(base:Nat)(r:PR)(fr:List Nat)(fv:Value)(st:List yM)(sv:Value):Prop where
 rule:bu w base r
 l3:r.bs.length<=3
 t4:∀ x∈r.bs,x.1.ts.length<=4
 h4:r.R.ts.length<=4
 Lv:w.ownsRow 0 3 1 fv fr.length (cO fr)
 BX:fr.length=(zM r.bs).length
 steps:zpz w 0 sv st
structure nQ (w:W8)(r:PR)(ap:O8)(cp:Nat)(e:zY)(wr:W8):Prop where
 kp:Below w.heap.size w wr
 rb:wr.heap[w.heap.size]?=some (.cells #[.string r.R.pd,r.hv,r.bv] 123 (0,0))
 sb:gO wr (w.heap.size+1) zej
 bb:BV wr (w.heap.size+1+1) e
 pr:wr.ownsRow (w.heap.size+1+1+1) 79 2 (.slice ap (zW false r.bs).length cp) (zW false r.bs).length ((zW false r.bs).flatMap zew)
theorem nQ.below {w:W8}{r:PR}{ap:O8}{cp:Nat}{e:zY}{wr w':W8}(h:nQ w r ap cp e wr)(k:Below wr.heap.size wr w'):nQ w r ap cp e w':=
 have l:=h.bb.lt
 ⟨h.kp.trans (k.mono h.kp.size),(k.block _ (by omega)).trans h.rb,h.sb.below k,h.bb.below k,zG h.pr k (λ g e=>(h.pr.lt g e).2)⟩
variable {r:PR} {w:W8}
theorem nQ.set {ap:O8}{cp:Nat}{wr:W8}(h:nQ w r ap cp e wr)(e':zY):nQ w r ap cp e' (wr.setRow (w.heap.size+1+1) (zT e').toArray):=
 ⟨zX h.kp (by omega) _,(setRow_other _ _ _ _ (by omega)).trans h.rb,(setRow_other _ _ _ _ (by omega)).trans h.sb,setRow_heap _ _ _ _ _ _ h.bb,zQ h.pr (λ g e=>setRow_other _ _ _ _ (by have:=(h.pr.lt g e).1;omega))⟩
theorem ycc {m:Nat}(h:m<fr.length):(cO fr)[m]?=some (.int .i64 (fr[m]:Nat)):=by unfold cO;rw[List.getElem?_map,List.getElem?_eq_getElem h];rfl
theorem bu.one {base:Nat}(h:bu w base r):r.hv.oneCell'=true/\r.bv.oneCell'=true:=by
 obtain⟨ah,ch,e1⟩:=zE h.hd;obtain⟨ab,cb,e2⟩:=zE h.bo.row;rw[e1,e2];exact⟨rfl,rfl⟩
theorem z4r (w:W8)(base:Nat)(r:PR)(fr:List Nat)(af:O8)(cf:Nat)(st:List yM)(sa:O8)(cs:Nat)(h:yba w base r fr (.slice af fr.length cf) st (.slice sa st.length cs)):
  Calls Tryz.prog 222 #[.agg #[.string r.R.pd,r.hv,r.bv],.slice af fr.length cf,.slice sa st.length cs] w (z60 w r (zdl (zM r.bs) fr (st.map (·.t)) [])):=by
 obtain⟨ah,ch,fs⟩:=zE h.rule.hd;obtain⟨ab,cb,fi⟩:=zE h.rule.bo.row;have H:=zC h;have eR:=h.rule.one;have mZ:=zC eR;have dQ:=vK h.steps.row;unfold maxLen at dQ;have sr:=h.l3;rw[fs,fi];have qw:=zC fs;have p6:=zC fi;have dP:(zW false r.bs).length=(zM r.bs).length:=by unfold zM;rw[List.length_map]
 have JV:(zM r.bs).length<=3:=by have:=zia r.bs;omega
 have wZ:=zC dP;clear h fs fi eR dP;go_enter Tryz.func222,Tryz.ntmps222;go_upto_region 2 with fail;generalize hw0:World.alloc (World.alloc (World.alloc w _) _) _=w0;have k0:Below w.heap.size w w0:=by
  rw[<-hw0];exact (((Below.refl w.heap.size w).alloc L9 _).alloc (by simp) _).alloc (by simp only[World.size_alloc];omega) _
 have x0:w0.heap[w.heap.size]?=some (.cells #[.string r.R.pd,r.hv,r.bv] 123 (0,0)):=by
  rw[<-hw0,Below.heap_alloc _ _ _ (by simp only[World.size_alloc];omega),Below.heap_alloc _ _ _ (by simp),zA qw,zA p6];exact heap_alloc_new w _
 have x1:gO w0 (w.heap.size+1) zej:=by
  unfold gO;rw[<-hw0,Below.heap_alloc _ _ _ (by simp)];have:=heap_alloc_new (w.alloc (.cells #[.string r.R.pd,.slice ah r.R.ts.length ch,.slice ab r.bs.length cb] 123)) (.cells (zO zej).toArray 352);rw[World.size_alloc] at this;exact this
 have x2:BV w0 (w.heap.size+1+1) []:=by
  unfold BV;rw[<-hw0];have:=heap_alloc_new ((w.alloc (.cells #[.string r.R.pd,.slice ah r.R.ts.length ch,.slice ab r.bs.length cb] 123)).alloc (.cells (zO zej).toArray 352)) (.cells (zT []).toArray 135);rw[World.size_alloc,World.size_alloc] at this;exact this
 have s0:w0.heap.size=w.heap.size+1+1+1:=by rw[<-hw0];simp
 clear hw0;have kP:=((zA H).rule.bo).below k0;rw[zA p6] at kP;have c0:=(zB x0 0).1;have c1:=(zB x0 1).1;have c2:=(zB x0 2).1;simp only[List.getElem?_toArray,List.getElem?_cons_zero,List.getElem?_cons_succ] at c0 c1 c2;rw[zA qw] at c1;rw[zA p6] at c2;have HP:=zC (za8 w0 base r.R.pd ah r.R.ts.length ch ab cb r.bs kP (by omega));have HX:=zC (And.intro x0 (And.intro x1 x2));have cq:=zC k0;have fH:=zC s0;clear x0 x1 x2 k0 s0 kP;go_upto_region 3 with (go_at_call 164;refine (zA HP).mono ?_;rintro en wP ⟨ap,cp,rfl,bE,kI,Mr⟩;have nZ:=zC bE;have oy:=zC kI;clear bE kI Mr);have h0:nQ w r ap cp [] wP:=by
  obtain⟨x0,x1,x2⟩:=zA HX;have hB:=zA oy;have s0:=zA fH;have bE:=zA nZ;have hl:(zW false r.bs).length=(r.bs.filter (xA false)).length:=by unfold zW;rw[List.length_map]
  refine⟨(zA cq).trans (hB.mono (zA cq).size),(hB.block _ (by omega)).trans x0,x1.below hB,x2.below hB,?_⟩;rw[NI,hl];exact zI bE (by omega)
 have ik:(r.bs.filter (xA false)).length=(zM r.bs).length:=by rw[<-zA wZ];unfold zW;rw[List.length_map]
 rw[ik];have iI:=zC h0;clear h0 ik HP HX cq fH nZ oy c0 c1 c2
 go_loopg [16] (zM r.bs).length (λ gg i wr=>∃ (k:Nat) (e:zY),k<=(zM r.bs).length/\gg=(zM r.bs).length-k/\i=.int .i64 k/\nQ w r ap cp e wr/\xR (zb6 r.bs) e/\zdl (zM r.bs) fr (st.map (·.t)) []=zdl ((zM r.bs).drop k) (fr.drop k) (st.map (·.t)) e)
 exact⟨0,[],Nat.zero_le _,rfl,rfl,zA iI,xR.nil _,rfl⟩
 case round=>
  clear iI;obtain⟨k,e,hk,fM,rfl,ak,uX,bj⟩:=hrel;have bt:=zC ak;have xq:=zC uX;have gL:=zC bj;have lK:w.heap.size+1+1<wr.heap.size:=ak.bb.lt
  by_cases aN:k<(zM r.bs).length
  ·have du:k<(zW false r.bs).length:=(by rw[zA wZ];exact aN);have om:k<fr.length:=(by rw[(zA H).BX];exact aN);obtain⟨gp,IK,hv,iC,dp,dG,dx,hc⟩:=vE zhn ak.pr k du;injection hv with i1 i2 i3
   subst i1 i3;have hx:(zW false r.bs)[k]∈zW false r.bs:=List.getElem_mem du;obtain⟨y,hy,km⟩:=zdb hx;obtain⟨AT,nu⟩:∃ AT,AT=(zM r.bs)[k]:=⟨_,rfl⟩;have B0:AT=(zW false r.bs)[k].1:=(by rw[nu];simp[zM]);have gl:=((zA H).rule.bo.each y hy);obtain⟨ta,tc,ji⟩:=zE gl;have kG:AT=(zhy y).1:=(by rw[B0,km]);have gE:AT.ts.length<=4:=(by rw[kG];exact (zA H).t4 y hy);have e0:wr.cell? ⟨gp,k*2,none⟩=some (.string AT.p):=(by have:=hc 0 (by omega);rw[B0];exact this);have e1:wr.cell? ⟨gp,k*2+1,none⟩=some (.slice ta AT.ts.length tc):=by
    have:=hc 1 (by omega);rw[km] at this;rw[kG];exact this.trans (by show some y.2=_;rw[ji];rfl)
   have ia:w.ownsRow base 191 1 (.slice ta AT.ts.length tc) AT.ts.length (AT.ts.map zaz):=by
    rw[kG];rw[ji] at gl;exact gl
   have Di:=zG (zA H).Lv ak.kp (λ g e=>((zA H).Lv.lt g e).2);obtain⟨gf,cf',AH,-,hnf,Cu,uh⟩:=z8w Di (by omega);injection AH with i1 i2 i3
   subst i1 i3;have CB:gf<wr.heap.size:=(Di.lt gf rfl).2;have xc:wr.cell? ⟨gf,k,none⟩=some (.int .i64 (fr[k]:Nat)):=(by rw[uh k om,ycc om]);have Jy:(k:Int)<fr.length:=(by omega);have gW:(k:Int)<(zM r.bs).length:=(by omega);have wJ:=zC nu;have mG:(zW false r.bs).length<=3:=(by rw[zA wZ];exact JV);clear ak uX bj hc km B0 kG gl ji nu;obtain⟨fx,sk⟩:∃ fx,fx=fr[k]:=⟨_,rfl⟩;rw[<-sk] at xc;go_upto_region 5 with fail;generalize hw3:World.alloc wr _=w3;have k3:Below wr.heap.size wr w3:=(by rw[<-hw3];exact B9.alloc L9 _);have y3:w3.heap[wr.heap.size]?=some (.cells #[.string AT.p,.slice ta AT.ts.length tc] 79 (0,0)):=(by rw[<-hw3];exact heap_alloc_new wr _);have s3:wr.heap.size<w3.heap.size:=(by rw[<-hw3];simp);clear hw3;have L4:=(zA bt).below k3;have GR:w3.cell? ⟨gf,k,none⟩=some (.int .i64 (fx:Nat)):=(k3.cell (p:=⟨gf,k,none⟩) CB).trans xc;have a0:=(zB y3 0).1;have a1:=(zB y3 1).1;simp only[List.getElem?_toArray,List.getElem?_cons_zero,List.getElem?_cons_succ] at a0 a1;have kx:=zC L4;have xx:=zC y3;clear xc e0 e1 L4
   by_cases uk:fx<st.length
   ·have Jh:(fx:Int)<st.length:=(by omega);have Gb:=zG (zA H).steps.row (zA kx).kp (λ g e=>((zA H).steps.row.lt g e).2);obtain⟨g5,c5,Kd,-,JC,hn5,ln,yq⟩:=zwb Gb uk;injection Kd with i1 i2 i3
    subst i1 i3;have t5:∀ W,Below w3.heap.size w3 W->(zeq (.pointer (some ⟨g5,fx*33+28,none⟩))).run Tryz.prog W=.ok (thV st[fx].t) W:=λ W hW=>zt5 (λ j hj=>(hW.cell (p:=⟨g5,fx*33+j,none⟩) JC).trans (yq j hj))
    obtain⟨R,hR⟩:∃ R,R=yC e AT st[fx].t:=⟨_,rfl⟩;have ji:∀ t∈AT.ts,t.1=true->t.2∈zb6 r.bs:=λ t ht _=>zd9 (x:=AT) (by rw[zA wJ];exact List.getElem_mem aN) ht
    have Cj:(zb6 r.bs).length<=12:=zd8 (zA H).l3 (zA H).t4;have HM:=zC (λ (W:W8) (hW:Below w3.heap.size w3 W)=>zfy W base e AT ta tc st[fx].t (zG ia ((zA kx).kp.trans (hW.mono (zA kx).kp.size)) (λ g e1=>(ia.lt g e1).2)) gE (zb6 r.bs) Cj (zA xq) ji);rw[<-hR] at HM;have HR:=zC hR;have zq:=z9a (cs:=zM r.bs) (fr:=fr) (S:=st.map (·.t)) (e:=e) aN om (by rw[<-sk,List.length_map];exact uk)
    have iX:=zC (show zdl (zM r.bs) fr (st.map (·.t)) []=match (generalizing:=false) R with | none=>none | some e'=>zdl ((zM r.bs).drop (k+1)) (fr.drop (k+1)) (st.map (·.t)) e' by
     rw[zA gL,zq,hR,zA wJ]
     simp only[List.getElem_map,<-sk])
    have BL:=zC (λ (e':zY) (h:R=some e')=>(zA xq).matched ji (by rw[<-hR];exact h));generalize hTH:st[fx].t=TH at *;clear hR zq ji Gb yq sk gL;have b3:=(zA kx).bb;have b3l:=b3.lt;have HA:=zC (λ (W:W8) (hW:Below w3.heap.size w3 W)=>(show (zgy (.pointer (some ⟨w.heap.size+1+1,0,none⟩))).run Tryz.prog W=.ok (jA e) W/\W.cell? ⟨wr.heap.size,0,none⟩=some (.string AT.p)/\W.cell? ⟨wr.heap.size,1,none⟩=some (.slice ta AT.ts.length tc)/\W.cell? ⟨gf,k,none⟩=some (.int .i64 (fx:Nat))/\(zeq (.pointer (some ⟨g5,fx*33+28,none⟩))).run Tryz.prog W=.ok (thV TH) W from ⟨(b3.below hW).load,(hW.cell (p:=⟨wr.heap.size,0,none⟩) (by show wr.heap.size<_;omega)).trans a0,(hW.cell (p:=⟨wr.heap.size,1,none⟩) (by show wr.heap.size<_;omega)).trans a1,(hW.cell (p:=⟨gf,k,none⟩) (by show gf<_;omega)).trans GR,t5 W hW⟩));have CO:=b3.load;have t53:=t5 w3 B9;clear b3 t5;go_upto_region 7 with fail
    go_cut [11,12] from 17 to 47 (λ p c wc=>∃ nb,p=.pointer (some ⟨nb,0,none⟩)/\c=.bool R.isSome/\BV wc nb (R.getD [])/\Below w3.heap.size w3 wc)
    case first=>
     go_region_held3 (λ w'=>(zgy (.pointer (some ⟨w.heap.size+1+1,0,none⟩))).run Tryz.prog w'=.ok (jA e) w'/\w'.cell? ⟨wr.heap.size,0,none⟩=some (.string AT.p)/\w'.cell? ⟨wr.heap.size,1,none⟩=some (.slice ta AT.ts.length tc)/\w'.cell? ⟨gf,k,none⟩=some (.int .i64 (fx:Nat))/\(zeq (.pointer (some ⟨g5,fx*33+28,none⟩))).run Tryz.prog w'=.ok (thV TH) w') ((refine zA HA _ ?_;first | exact bY | exact B9.drew | exact (B9.alloc L9 _).drew | exact bY.alloc bY.size _ | exact zX bY L9 _)) ((go_at_call 62;refine (zA HM _ (by first | exact B9.drew | exact (B9.alloc L9 _).drew)).mono ?_;rintro en w4 ⟨bQ,rfl⟩;have bY:Below w3.heap.size w3 w4:=(by first | exact zL bQ | exact zbr (B9.alloc L9 _) bQ);first | (have uO:=((BV.new w3 []).below (zL bQ)).store (R.getD [])) | skip))
     all_goals
      go_wp2_with fail;go_meet
      case rel=>first | exact⟨_,rfl,rfl,BV.new _ _,bY.alloc bY.size _⟩ | exact⟨_,rfl,rfl,setRow_heap _ _ _ _ _ _ ((BV.new w3 []).below (zL bQ)),zX bY L9 _⟩
    case rest=>
     generalize wc=wA at *;obtain⟨nb,rfl,rfl,kf,fu⟩:=hcut;have di:=(zA kx).below fu;have qx:=zC di;clear HA HM CO t53 a0 a1 GR xx
     cases hRR:R with
     | none=>
      rw[hRR] at iX;have zr:=di.sb.store zej ⟨rfl,rfl⟩;have fY:=setRow_heap _ _ _ (zO zej).toArray _ _ di.sb;have oD:=zC fY;clear di kf fu hRR fY;go_wp2_with fail;refine bodyPost_ret (v:=.tuple #[zgh zej,.bool false]) (zfj Tryz.results222 _ _ _ zej rfl (zA oD)) rfl ?_;rw[zA iX];exact⟨zX (zA qx).kp (by omega) _,rfl⟩
     | some e2=>
      rw[hRR] at iX kf;have pg:=kf.load;have zr:=di.bb.store e2;have Ip:=zC (zA BL e2 hRR);have Bz:=zC (di.set e2);clear di kf fu hRR;simp only[Option.getD_some] at pg;go_wp2_with fail;go_roundg ((zM r.bs).length-(k+1));exact⟨k+1,e2,by omega,rfl,by go_num,zA Bz,zA Ip,zA iX⟩;omega
   ·have Jh:¬ (fx:Int)<st.length:=(by omega);have Ji:(st.length:Int)<=fx:=by omega
    have HN:=zC (show zdl (zM r.bs) fr (st.map (·.t)) []=none by
     rw[zA gL]
     exact z9b aN om (by rw[<-sk,List.length_map];omega))
    have zr:=(zA kx).sb.store zej ⟨rfl,rfl⟩;have oD:=zC (setRow_heap _ _ _ (zO zej).toArray _ _ (zA kx).sb);go_wp2_with fail;refine bodyPost_ret (v:=.tuple #[zgh zej,.bool false]) (zfj Tryz.results222 _ _ _ zej rfl (zA oD)) rfl ?_;rw[zA HN];exact⟨zX (zA kx).kp (by omega) _,rfl⟩
  ·have hkE:k=(zM r.bs).length:=by omega
   have HN:=zC (show zdl (zM r.bs) fr (st.map (·.t)) []=some e by
    rw[bj,List.drop_of_length_le (by omega)]
    rfl)
   have nC:w.ownsRow base 191 1 (.slice ah (jB r).ts.length ch) (jB r).ts.length ((jB r).ts.map zaz):=by
    have:=(zA H).rule.hd;rw[zA qw] at this;exact this
   have uA:e.length<=12:=(by have:=uX.len;have:=zd8 (zA H).l3 (zA H).t4;omega);have h4:=(zA H).h4;have HF:=zC (λ (W:W8) (hW:Below wr.heap.size wr W)=>zdg W base e (jB r) ah ch (zG nC (ak.kp.trans (hW.mono ak.kp.size)) (λ g e1=>(nC.lt g e1).2)) h4 uA);have c0:=(zB ak.rb 0).1;have c1:=(zB ak.rb 1).1;have c2:=(zB ak.rb 2).1;simp only[List.getElem?_toArray,List.getElem?_cons_zero,List.getElem?_cons_succ] at c0 c1 c2;rw[zA qw] at c1;rw[zA p6] at c2;have oo:=ak.bb.load;have HA:=zC (λ (W:W8) (hW:Below wr.heap.size wr W)=>(show (zgy (.pointer (some ⟨w.heap.size+1+1,0,none⟩))).run Tryz.prog W=.ok (jA e) W/\W.cell? ⟨w.heap.size,0,none⟩=some (.string r.R.pd)/\W.cell? ⟨w.heap.size,1,none⟩=some (.slice ah r.R.ts.length ch)/\W.cell? ⟨w.heap.size,2,none⟩=some (.slice ab r.bs.length cb) from ⟨(ak.bb.below hW).load,(hW.cell (p:=⟨w.heap.size,0,none⟩) (by show w.heap.size<_;omega)).trans c0,(hW.cell (p:=⟨w.heap.size,1,none⟩) (by show w.heap.size<_;omega)).trans c1,(hW.cell (p:=⟨w.heap.size,2,none⟩) (by show w.heap.size<_;omega)).trans c2⟩));have n9:=zC (λ (W:W8) (hW:Below wr.heap.size wr W)=>ak.sb.below hW);have Ja:∀ W:W8,(zjm #[(0,.agg #[.string r.R.pd,.slice ah r.R.ts.length ch,.slice ab r.bs.length cb]),(1,jA e),(2,thV (zZ e (jB r)))]).run Tryz.prog W=.ok (zgh ⟨r,e,zZ e (jB r)⟩) W:=λ W=>by
    have:=zv5 W r e (zZ e (jB r));rw[zA qw,zA p6] at this;exact this
   have iB:=ak.bb;have ot:=ak.rb;have gw:=zC ak.kp;have tW:(yM.mk r e (zZ e (jB r))).r.hv.oneCell'=true/\(yM.mk r e (zZ e (jB r))).r.bv.oneCell'=true:=zA mZ;clear ak uX bj xq gL nC h4;generalize hSN:yM.mk r e (zZ e (jB r))=SN at *;have Ii:=zC hSN
   have vg:=zC (λ (W:W8) (hW:Below wr.heap.size wr W) (cs:Array Value)=>(show (zgy (.pointer (some ⟨w.heap.size+1+1,0,none⟩))).run Tryz.prog (W.setRow (w.heap.size+1) cs)=.ok (jA e) (W.setRow (w.heap.size+1) cs)/\(W.setRow (w.heap.size+1) cs).cell? ⟨w.heap.size,0,none⟩=some (.string r.R.pd)/\(W.setRow (w.heap.size+1) cs).cell? ⟨w.heap.size,1,none⟩=some (.slice ah r.R.ts.length ch)/\(W.setRow (w.heap.size+1) cs).cell? ⟨w.heap.size,2,none⟩=some (.slice ab r.bs.length cb) from by
    obtain⟨-,q0,q1,q2⟩:=zA HA W hW
    exact⟨((iB.below hW).lA (by omega)).load,zp4 q0 (by omega),zp4 q1 (by omega),zp4 q2 (by omega)⟩))
   clear iB ot;generalize hTH:zZ e (jB r)=TH at *;have xj:=zC hTH;clear hSN hTH;go_upto_region 12 with fail
   go_region_held3 (λ w'=>(zgy (.pointer (some ⟨w.heap.size+1+1,0,none⟩))).run Tryz.prog w'=.ok (jA e) w'/\w'.cell? ⟨w.heap.size,0,none⟩=some (.string r.R.pd)/\w'.cell? ⟨w.heap.size,1,none⟩=some (.slice ah r.R.ts.length ch)/\w'.cell? ⟨w.heap.size,2,none⟩=some (.slice ab r.bs.length cb)) (first | exact zA HA _ bY | exact zA HA _ B9.drew | exact zA vg _ bY _) ((go_at_call 146;refine (zA HF _ (by exact B9.drew)).mono ?_;rintro en w4 ⟨bQ,rfl⟩;have bY:Below wr.heap.size wr w4:=zL bQ;have uO:=(zA n9 w4 bY).store SN tW;have oD:=zC (setRow_heap _ _ _ (zO SN).toArray _ _ (zA n9 w4 bY))))
   all_goals
    go_wp2_with fail;refine bodyPost_ret (v:=.tuple #[zgh SN,.bool true]) (zfj Tryz.results222 _ _ _ SN rfl (zA oD)) rfl ?_;rw[zA HN];exact⟨zX ((zA gw).trans (bY.mono (zA gw).size)) (by omega) _,by unfold zkh;simp only[];rw[zA xj,zA Ii];rfl⟩
end
end Go.Proofs.YtldkpahaocjdpaaGreat
