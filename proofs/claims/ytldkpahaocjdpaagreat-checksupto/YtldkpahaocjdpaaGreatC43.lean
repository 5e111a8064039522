/-
  fromBytes: a witness is read.
-/
import Derived.Test.YtldkpahaocjdpaaGreatC41
set_option maxHeartbeats 16000000
set_option maxRecDepth 1000000
namespace Go.Proofs.YtldkpahaocjdpaaGreat
section
open Go.RowKit Go.Maps
theorem zua (pos:List Nat)(n:Nat)(rest:List Nat):rdP pos (n+1) rest=match zha pos rest with | none=>none | some x=>match rdP pos n (rest.drop (1+x.2.length)) with | none=>none | some l=>some (x::l):=by
 cases rest with
 | nil=>rfl
 | cons r q=>
  rw[rdP,zha]
  cases hp:pos[r]? with
  | none=>rfl
  | some m=>
   simp only
   by_cases h:q.length<m
   ·rw[if_pos h,if_pos h]
   ·rw[if_neg h,if_neg h];simp only[List.length_take];rw[show (r::q).drop (1+min m q.length)=q.drop m by rw[Nat.add_comm,List.drop_succ_cons,Nat.min_eq_left (by omega)]]
    cases rdP pos n (q.drop m) <;> rfl
variable {x:Nat × List Nat} {rest:List Nat}
theorem z06 {pos:List Nat}(h:zha pos rest=some x):1+x.2.length<=rest.length:=by
 cases rest with
 | nil=>cases h
 | cons r q=>
  rw[zha] at h
  split at h
  ·cases h
  ·split at h
   ·cases h
   ·obtain rfl:=Option.some.inj h;simp only[List.length_take,List.length_cons];omega
theorem z05 {rs:List PR}(h3:∀ r∈rs,r.bs.length<=3)(h:zha (zdy rs) rest=some x):x.2.length<=3:=by
 cases rest with
 | nil=>cases h
 | cons r q=>
  rw[zha] at h
  split at h
  ·cases h
  ·rename_i m hm
   split at h
   ·cases h
   ·obtain rfl:=Option.some.inj h;unfold zdy at hm;rw[List.getElem?_map] at hm
    cases hr:rs[r]? with
    | none=>rw[hr] at hm;cases hm
    | some R=>
     rw[hr] at hm;obtain rfl:=Option.some.inj hm;have h1:=zkg R.bs;have h2:=h3 R (List.mem_of_getElem? hr);simp only[List.length_take];omega
structure yy (w:W8)(k:Nat)(bZ:List ND)(nv:Value)(wr:W8):Prop where
 kp:Below w.heap.size w wr
 res:wr.heap[w.heap.size]?=some (.cells #[.int .i64 0,.slice none 0 0] 93 (0,0))
 box:wr.heap[w.heap.size+1]?=some (.cells #[.int .i64 (k:Nat),nv] 93 (0,0))
 bZ:CK wr (w.heap.size+1+1) nv bZ
variable {wr w:W8} {nv:Value}
theorem yy.lt {k:Nat}{bZ:List ND}(h:yy w k bZ nv wr):w.heap.size+1<wr.heap.size:=(Array.getElem?_eq_some_iff.1 h.box).1
theorem yy.below {w:W8}{k:Nat}{bZ:List ND}{nv:Value}{wr w':W8}(h:yy w k bZ nv wr)(b:Below wr.heap.size wr w'):yy w k bZ nv w':=
 have l:=h.lt
 ⟨h.kp.trans (b.mono h.kp.size),(b.block _ (by omega)).trans h.res,(b.block _ l).trans h.box,h.bZ.below b⟩
theorem yy.start (w:W8)(k:Nat):yy w k [] (.slice none 0 0) ((w.alloc (.cells #[.int .i64 0,.slice none 0 0] 93)).alloc (.cells #[.int .i64 (k:Nat),.slice none 0 0] 93)):=by
 refine⟨((Below.refl _ w).alloc L9 _).alloc (by simp) _,?_,?_,⟨World.ownsRow_nil _ _ _ _,by simp⟩⟩
 ·rw[Below.heap_alloc _ _ _ (by simp)];exact heap_alloc_new w _
 ·have:=heap_alloc_new (w.alloc (.cells #[.int .i64 0,.slice none 0 0] 93)) (.cells #[.int .i64 (k:Nat),.slice none 0 0] 93);rw[World.size_alloc] at this;exact this
variable {W w5:W8}
theorem yy.NY {k:Nat}{bZ:List ND}(h:yy w k bZ nv wr)(hW:Below wr.heap.size wr W)(hg:W.grownBy w5 nv.ownBlock):w5.heap[w.heap.size+1]?=some (.cells #[.int .i64 (k:Nat),nv] 93 (0,0)):=by
 have hB:=h.below hW;have l:=hB.lt;have k5:zN nv.ownBlock.toList W w5:=zN.aN hg;exact (k5.block _ l (λ hm=>by have:=(hB.bZ.row.lt _ (by simpa using hm)).1;omega)).trans hB.box
theorem yy.add {k:Nat}{bZ:List ND}{v':Value}{x:ND}(h:yy w k bZ nv wr)(hx:wr.ownsRow (w.heap.size+1+1) 3 1 x.v x.fr.length (zxj x.fr))(hW:Below wr.heap.size wr W)(hg:W.grownBy w5 nv.ownBlock)(aC:w5.ownsRow (w.heap.size+1+1) 150 2 v' (bZ.length+1) (bZ.flatMap zc1++zc1 x)):yy w k (bZ++[x]) v' (w5.setCell ⟨w.heap.size+1,1,none⟩ v'):=by
 have hB:=h.below hW;have l:=hB.lt;have k5:zN nv.ownBlock.toList W w5:=zN.aN hg;have cC:∀ x∈nv.ownBlock.toList,w.heap.size+1+1<=x:=λ x hx=>(hB.bZ.row.lt x (by simpa using hx)).1
 have nt:∀ b∈nv.ownBlock.toList,iq W 3 b:=yP hB.bZ.row (by decide);have b1:=h.NY hW hg;have b0:w5.heap[w.heap.size]?=some (.cells #[.int .i64 0,.slice none 0 0] 93 (0,0)):=(k5.block _ (by omega) (λ hm=>by have:=cC _ hm;omega)).trans hB.res;have YP:=zH hx hW (λ g e=>(hx.lt g e).2);refine⟨?_,?_,by rw[heap_setCell_same _ _ _ _ _ _ b1];rfl,⟨?_,λ y hy=>?_⟩⟩
 ·refine Below.setCell ?_ (by show w.heap.size<=w.heap.size+1;omega) _;have hs:=hB.kp.size;refine⟨hg.os.trans hB.kp.os,hg.tape.trans hB.kp.tape,hg.output.trans hB.kp.output,Nat.le_trans hB.kp.size hg.size,λ i hi=>?_⟩;rw[hg.block i (by omega) (λ e=>by have:=(hB.bZ.row.lt i e.symm).1;omega)];exact hB.kp.block i hi
 ·rw[Below.heap_setCell _ _ _ _ (by show w.heap.size≠w.heap.size+1;omega)];exact b0
 ·rw[List.length_append,List.flatMap_append];have:=ownsRow_setCell_below (a:=⟨w.heap.size+1,1,none⟩) aC (by show w.heap.size+1<_;omega) v';simpa using this
 ·refine ownsRow_setCell_below ?_ (by show w.heap.size+1<_;omega) _;rcases List.mem_append.1 hy with hy | hy
  ·exact xC (hB.bZ.each y hy) k5 (λ b hb=>.inr (nt b hb))
  ·rw[List.mem_singleton.1 hy];exact xC YP k5 (λ b hb=>.inr (nt b hb))
inductive ML (w w':W8):Option (Nat × List (Nat × List Nat))->Ending->Prop
 | no:ML w w' none (.returned (.tuple #[.agg #[.int .i64 0,.slice none 0 0],.bool false]))
 | yes {k:Nat} {bZ:List ND} {a:O8} {c:Nat}:CK w' w.heap.size (.slice a bZ.length c) bZ->ML w w' (some (k,bZ.map sA)) (.returned (.tuple #[.agg #[.int .i64 (k:Nat),.slice a bZ.length c],.bool true]))
def zg2 (pos bs:List Nat):Option (Nat × List (Nat × List Nat)):=match bs with
 | k::n::rest=>if 50<n then none else (rdP pos n rest).map λ l=>(k,l)
 | _=>none
theorem znd (w:W8)(base:Nat)(a:O8)(c:Nat)(bs:List Nat)(hb:nJ w a c bs)(ar:O8)(cr:Nat)(rs:List PR)(hr:l8 w base (.slice ar rs.length cr) rs)(h3:∀ r∈rs,r.bs.length<=3):
  Calls Tryz.prog 121 #[.slice a bs.length c,.slice ar rs.length cr] w λ e w'=>ML w w' (zg2 (zdy rs) bs) e/\Below w.heap.size w w':=by
 have k0:Below w.heap.size w (w.alloc (.cells #[.int .i64 0,.slice none 0 0] 93)):=B9.alloc L9 _;have eW:=zC k0;have HR:=zC hr
 match bs,hb with
 | [],hb=>
  clear hb hr k0;go_enter Tryz.func121,Tryz.ntmps121;go_wp2_with fail;refine bodyPost_ret (v:=.tuple #[.agg #[.int .i64 0,.slice none 0 0],.bool false]) (by simp[results,Tryz.results121,go_sem]) rfl ?_;exact⟨.no,zA eW⟩
 | [x],hb=>
  clear hb hr k0;go_enter Tryz.func121,Tryz.ntmps121;go_wp2_with fail;refine bodyPost_ret (v:=.tuple #[.agg #[.int .i64 0,.slice none 0 0],.bool false]) (by simp[results,Tryz.results121,go_sem]) rfl ?_;exact⟨.no,zA eW⟩
 | k::n::rest,hb=>
  obtain⟨g,o,rfl,hg,hc⟩:=hb.at_ (by simp);have Fk:=hb.byte k List.mem_cons_self;have LJ:=hb.byte n (List.mem_cons_of_mem _ List.mem_cons_self);have pe:=hb.cap;have re:=hb.max;have HB:=zC (hb.drop 2);have c0:=(k0.cell (p:=⟨g,o,none⟩) hg).trans (hc 0 (by simp));have c1:=(k0.cell (p:=⟨g,o+1,none⟩) hg).trans (hc 1 (by simp));simp only[List.getElem_cons_zero,List.getElem_cons_succ] at c0 c1;have hlen:(k::n::rest).length=rest.length+1+1:=rfl;rw[hlen] at pe ⊢;have sj:¬ ((rest.length:Int)+1+1<2):=by omega
  clear hb hr k0 hc hlen
  by_cases hn:50<n
  ·have AK:(50:Int)<n:=(by omega);have HN:=zC (show zg2 (zdy rs) (k::n::rest)=none by unfold zg2;simp only;rw[if_pos hn]);go_enter Tryz.func121,Tryz.ntmps121;go_wp2_with fail;refine bodyPost_ret (v:=.tuple #[.agg #[.int .i64 0,.slice none 0 0],.bool false]) (by simp[results,Tryz.results121,go_sem]) rfl ?_;rw[zA HN];exact⟨.no,zA eW⟩
  ·have AK:¬ (50:Int)<n:=(by omega);have HN:=zC (show zg2 (zdy rs) (k::n::rest)=(rdP (zdy rs) n rest).map λ l=>(k,l) by unfold zg2;simp only;rw[if_neg hn]);have Az:=yy.start w k;go_enter Tryz.func121,Tryz.ntmps121;go_upto_region 4 with fail;have k1:Below w.heap.size w ((w.alloc (.cells #[.int .i64 0,.slice none 0 0] 93)).alloc (.cells #[.int .i64 (k:Nat),.slice none 0 0] 93)):=Az.kp;have d1:((w.alloc (.cells #[.int .i64 0,.slice none 0 0] 93)).alloc (.cells #[.int .i64 (k:Nat),.slice none 0 0] 93)).cell? ⟨g,o+1,none⟩=some (.int .u8 (n:Nat)):=(by rw[World.cell?_alloc_past _ _ _ (by simp;omega)];exact c1);have lC:=zC (show nJ w (some ⟨g,o+2,none⟩) (c-2) rest from zA HB);clear c0 c1 HB;generalize ((w.alloc (.cells #[.int .i64 0,.slice none 0 0] 93)).alloc (.cells #[.int .i64 (k:Nat),.slice none 0 0] 93))=w1 at *;have Iy:=zC Az;clear Az
   go_cut [7] (λ v wc=>∃ a' c',v=.slice a' rest.length c'/\nJ w a' c' rest/\wc=w1)
   case first=>
    have s1:(2:Int)<=(rest.length:Int)+1+1:=(by omega);have HC:=zC (And.intro pe re);clear pe;go_wp2_with fail
    ·subst h;go_meet
     case rel=>
      have pt:rest=[]:=List.eq_nil_of_length_eq_zero (by have:=(zA HC).1;omega);refine⟨_,_,rfl,?_,rfl⟩;rw[pt];exact nJ.none _ _ (by unfold maxLen;omega)
    ·go_meet
     case rel=>exact⟨_,_,rfl,zA lC,rfl⟩
   case rest=>
    generalize wc=wA at *;obtain⟨a0,WB,rfl,Tf,Ja⟩:=hcut;subst Ja;have A0:=zC Tf;clear Tf;go_wp2_with fail
    go_loopg [7,30] n (λ gg v ii wr=>∃ (i:Nat) (bZ:List ND) (nv:Value) (Am:List Nat) (a':O8) (c':Nat),i<=n/\gg=n-i/\v=.slice a' Am.length c'/\ii=.int .u8 i/\yy w k bZ nv wr/\nJ w a' c' Am/\bZ.length=i/\rdP (zdy rs) n rest=(rdP (zdy rs) (n-i) Am).map (bZ.map sA++·))
    exact⟨0,[],_,rest,a0,WB,Nat.zero_le _,rfl,rfl,rfl,zA Iy,zA A0,rfl,by rw[Nat.sub_zero];cases rdP (zdy rs) n rest <;> rfl⟩
    case round=>
     clear Iy A0;obtain⟨i,bZ,nv,Am,a',c',lI,IV,rfl,rfl,ay,GC,ng,ax⟩:=hrel;obtain⟨an,cn,rfl⟩:=zD ay.bZ.row;have gJ:=zC ay;have A0:=zC GC;have cV:=zC ax;have EP:=zC ng
     by_cases hin':i<n
     ·have rF:(i:Int)<n:=(by omega);have aV:=zC (zqb wr base a' c' Am (GC.below ay.kp) ar cr rs ((zA HR).below ay.kp) h3);clear ay GC ax ng;go_wp2_with fail;refine (zA aV).mono ?_;rintro e w2 ⟨hO,aH⟩;generalize hX:zha (zdy rs) Am=X at hO
      cases hO with
      | no=>
       have dj:=(zA gJ).below aH;obtain⟨s0,f0⟩:=zB dj.res 0;obtain⟨s1,f1⟩:=zB dj.res 1;simp only[List.getElem?_toArray,List.getElem?_cons_zero,List.getElem?_cons_succ] at s0 s1;have Qn:=dj.lt;have IX:w.heap.size<w2.heap.size:=by omega
       have DE:=zC (show zg2 (zdy rs) (k::n::rest)=none by
        rw[zA HN,zA cV,show n-i=(n-i-1)+1 by omega,zua,hX]
        rfl)
       have Gb:=zC dj.kp;clear dj hX aV cV A0 gJ;go_upto_region 9 with fail;have ka:=(Below.refl w2.heap.size w2).alloc L9 (.cells #[.int .i64 0,.slice none 0 0] 150);have t0:=(ka.cell (p:=⟨w.heap.size,0,none⟩) IX).trans s0;have t1:=(ka.cell (p:=⟨w.heap.size,1,none⟩) IX).trans s1;have g0:=(ka.frozen (p:=⟨w.heap.size,0,none⟩) IX).trans f0;have g1:=(ka.frozen (p:=⟨w.heap.size,1,none⟩) IX).trans f1;have EN:=zC ((zA Gb).alloc (Nat.le_of_lt IX) (.cells #[.int .i64 0,.slice none 0 0] 150));clear ka;generalize (w2.alloc (.cells #[.int .i64 0,.slice none 0 0] 150))=w3 at *;go_wp2_with fail;obtain⟨p0,p1⟩:=zgy t0 t1 (.int .i64 0) (.slice none 0 0);refine bodyPost_ret (v:=.tuple #[.agg #[.int .i64 0,.slice none 0 0],.bool false]) (by simp[results,Tryz.results121,go_sem,p0,p1]) rfl ?_;rw[zA DE];exact⟨.no,((zA EN).setCell L9 _).setCell L9 _⟩
      | @yes r fr af cf aC=>
       have dj:=(zA gJ).below aH;obtain⟨q0,e0⟩:=zB dj.box 0;obtain⟨q1,e1⟩:=zB dj.box 1;simp only[List.getElem?_toArray,List.getElem?_cons_zero,List.getElem?_cons_succ] at q0 q1;have Qn:=dj.lt;have oQ:=z06 hX;have hf3:=z05 h3 hX;have HX:=zC hX;have iR:=zC dj;have ka:=(Below.refl w2.heap.size w2).alloc L9 (.cells #[.int .i64 (r:Nat),.slice af fr.length cf] 150);have iV:=dj.below ka;have RD:=zH aC ka (λ g e=>(aC.lt g e).2);have jc:=heap_alloc_new w2 (.cells #[.int .i64 (r:Nat),.slice af fr.length cf] 150);have zu:w.heap.size+1+1<=wr.heap.size:=(by have:=(zA gJ).lt;omega);have Su:=zC zu;have hnw:wr.heap.size<=w2.heap.size:=aH.size;have VQ:=zC (λ g e=>((zA gJ).bZ.row.lt g e).2);clear dj hX aV gJ q0 q1 e0 e1 iR aC;go_upto_region 10 with fail;generalize gI:(w2.alloc (.cells #[.int .i64 (r:Nat),.slice af fr.length cf] 150))=w3 at *;generalize w2.heap.size=nb at *;clear gI ka;obtain⟨q0,e0⟩:=zB iV.box 0;obtain⟨q1,e1⟩:=zB iV.box 1;obtain⟨m0,-⟩:=zB jc 0;obtain⟨m1,-⟩:=zB jc 1;simp only[List.getElem?_toArray,List.getElem?_cons_zero,List.getElem?_cons_succ] at q0 q1 m0 m1;have GZ:=iV.lt;have nc:=(Array.getElem?_eq_some_iff.1 jc).1;obtain⟨i0,hi,cQ,cz,cx⟩:=info_parts z3r;have bT:=iV.bZ.row.alloc (.cells #[.int .i64 (r:Nat),.slice af fr.length cf] 150);have lj:=zC iV;have DN:=zC RD;have Un:bZ.length<=50:=(by have:=zA EP;omega);have za:=zC jc;clear iV RD jc;go_upto_region 11 with (at_builtin;refine wpList_append_own _ rfl _ _ 91 rfl (w.heap.size+1+1) 150 i0 _ 2 32 Tryz.underlying91 hi cQ cz cx rfl (by decide) _ _ _ rfl bT ⟨w3.heap.size,0,none⟩ 1 1 (zc1 ⟨r,fr,.slice af fr.length cf⟩) rfl rfl (z7p w3 ⟨r,fr,.slice af fr.length cf⟩) (z9l _) (by unfold maxLen;omega) (by omega) (by simp;omega) ?_;intro v5 w5 aj aU hne5;clear hne5;obtain⟨a5,ie,rfl⟩:=zD aj;have zz:=(zA lj).NY (B9.alloc L9 _) aU;obtain⟨j1,YT⟩:=zB zz 1;have zb:=zC aj;have uO:=zC aU;clear aj aU zz)
       have zl:=(zA lj).add (x:=⟨r,fr,.slice af fr.length cf⟩) (zF (zA DN) (zA Su)) (B9.alloc L9 _) (zA uO) (zA zb)
       have yz:=zC (show rdP (zdy rs) n rest=(rdP (zdy rs) (n-(i+1)) (Am.drop (1+fr.length))).map ((bZ++[(⟨r,fr,.slice af fr.length cf⟩:ND)]).map sA++·) by
        rw[zA cV,show n-i=(n-(i+1))+1 by omega,zua,zA HX];simp only
        cases rdP (zdy rs) (n-(i+1)) (Am.drop (1+fr.length)) with
        | none=>rfl
        | some l=>simp[sA])
       obtain⟨g2,o2,rfl,nA,-⟩:=(zA A0).at_ (by omega);have TY:=(zA A0).cap;have Uk:=(zA A0).max;have oJ:=zC ((zA A0).drop (1+fr.length));have Yb:w3.heap.size<=w5.heap.size:=(by have:=(zA uO).size;simp at this;omega);have QT:(w5.setCell ⟨w.heap.size+1,1,none⟩ (.slice a5 (bZ.length+1) ie)).cell? ⟨nb,1,none⟩=some (.slice af fr.length cf):=by
        rw[World.cell?_setCell_far _ _ _ _ (by show w.heap.size+1≠nb;have:=zA Su;omega)];have eH:=(zA uO).block nb (by simp;omega) (λ e=>by have:=zA VQ nb e.symm;omega);refine (World.cell?_of_block (a:=⟨nb,1,none⟩) (eH.trans (Below.heap_alloc _ _ _ nc))).trans ?_;exact (zB (zA za) 1).1
       generalize (w5.setCell ⟨w.heap.size+1,1,none⟩ (.slice a5 (bZ.length+1) ie))=w6 at *;have xj:=zC zl;have L5:(1:Int)+fr.length<=Am.length:=(by omega);have Af:(0:Int)<=1+fr.length:=(by omega);clear zl cV A0 j1 YT q0 q1 m0 m1 e0 e1 bT;go_wp2_with fail
       ·have pt:Am.drop (1+fr.length)=[]:=List.eq_nil_of_length_eq_zero (by rw[List.length_drop];omega);go_roundg (n-(i+1));exact⟨i+1,_,_,Am.drop (1+fr.length),_,_,by omega,rfl,by rw[List.length_drop],by go_num,zA xj,by rw[pt];exact nJ.none _ _ (by unfold maxLen;omega),by simp[zA EP],zA yz⟩;omega
       ·go_roundg (n-(i+1))
        case measure=>omega
        case rel=>exact⟨i+1,_,_,Am.drop (1+fr.length),_,_,by omega,rfl,by rw[List.length_drop],by go_num,zA xj,zA oJ,by simp[zA EP],zA yz⟩
     ·have AH:i=n:=(by omega);subst AH;obtain⟨s0,f0⟩:=zB ay.res 0;obtain⟨s1,f1⟩:=zB ay.res 1;obtain⟨q0,e0⟩:=zB ay.box 0;obtain⟨q1,e1⟩:=zB ay.box 1;simp only[List.getElem?_toArray,List.getElem?_cons_zero,List.getElem?_cons_succ] at s0 s1 q0 q1;have aG:=ay.lt;have ji:w.heap.size<w.heap.size+1+1:=(by omega);rw[Nat.sub_self] at ax
      cases Am with
      | nil=>
       have DE:=zC (show zg2 (zdy rs) (k::i::rest)=some (k,bZ.map sA) by rw[zA HN,ax];simp[rdP]);clear ay GC ax ng cV A0;go_wp2_with fail;obtain⟨p0,p1⟩:=zgy s0 s1 (.int .i64 (k:Nat)) (.slice an bZ.length cn);refine bodyPost_ret (v:=.tuple #[.agg #[.int .i64 (k:Nat),.slice an bZ.length cn],.bool true]) (by simp[results,Tryz.results121,go_sem,p0,p1]) rfl ?_;rw[zA DE];refine⟨.yes ?_,((zA gJ).kp.setCell L9 _).setCell L9 _⟩;have kY:=(zA gJ).bZ;exact⟨zF (ownsRow_setCell_below (ownsRow_setCell_below kY.row ji _) ji _) (by omega),λ y hy=>zF (ownsRow_setCell_below (ownsRow_setCell_below (kY.each y hy) ji _) ji _) (by omega)⟩
      | cons x q=>
       have DE:=zC (show zg2 (zdy rs) (k::i::rest)=none by rw[zA HN,ax];rfl);have yd:(x::q).length=q.length+1:=rfl;rw[yd];have Yt:(0:Int)<(q.length:Int)+1:=(by omega);clear ay GC ax ng cV A0 yd;go_wp2_with fail;obtain⟨p0,p1⟩:=zgy s0 s1 (.int .i64 0) (.slice none 0 0);refine bodyPost_ret (v:=.tuple #[.agg #[.int .i64 0,.slice none 0 0],.bool false]) (by simp[results,Tryz.results121,go_sem,p0,p1]) rfl ?_;rw[zA DE];exact⟨.no,((zA gJ).kp.setCell L9 _).setCell L9 _⟩
end
section
open Go.RowKit
def zZ (s:xA):V8:=s.r.cells++(yF s.e++yK s.t)
def zfb (s:xA):Value:=.agg (zZ s).toArray
def z95:PR:=⟨⟨{ data:=#[] },[],[]⟩,.slice none 0 0,[],.slice none 0 0⟩
def zdv:xA:=⟨z95,[],({ data:=#[] },[])⟩
theorem zuf (s:xA):(zZ s).length=33:=rfl
theorem zne:(Tryz.prog.info? 352).map (·.size)=some 33:=by kernel_rfl
theorem zug (s:xA)(h:s.r.hv.oneCell'=true/\s.r.bv.oneCell'=true):(zZ s).toArray.all (·.oneCell')=true:=by
 have h1:=h.1;have h2:=h.2;simp[zZ,PR.cells,yF,yK,Value.oneCell'] at h1 h2 ⊢;exact⟨h1,h2⟩
noncomputable def zl4 (v:Value):Sem Value:=Instr.loadAt 352 v
noncomputable def zn7 (p v:Value):Sem Unit:=Instr.storeAt 352 p v
noncomputable def zsn (h:Bool)(v:Value):Sem Value:=Instr.alloc 352 h v
noncomputable def zib (p:Array (Nat × Value)):Sem Value:=Instr.build 352 p
noncomputable def z8b (n:Nat)(p:Array (Nat × Value)):Sem Value:=Instr.buildSlice 303 n p
theorem zhi (v:Value):Instr.loadAt 352 v=zl4 v:=rfl
theorem ze7 (p v:Value):Instr.storeAt 352 p v=zn7 p v:=rfl
theorem ze5 (h:Bool)(v:Value):Instr.alloc 352 h v=zsn h v:=rfl
theorem ze6 (p:Array (Nat × Value)):Instr.build 352 p=zib p:=rfl
theorem zjh (n:Nat)(p:Array (Nat × Value)):Instr.buildSlice 303 n p=z8b n p:=rfl
theorem zdq (s:xA):(zfb s).cells=(zZ s).toArray:=rfl
def nu (w:W8)(b:Nat)(s:xA):Prop:=w.heap[b]?=some (.cells (zZ s).toArray 352 (0,0))
variable {s:xA} {b:Nat} {w:W8}
theorem nu.load (h:nu w b s):(zl4 (.pointer (some ⟨b,0,none⟩))).run Tryz.prog w=.ok (zfb s) w:=by
 unfold zl4;refine run_loadAt_mid w b 0 352 (zZ s) _ (λ j v hv=>?_) Tryz.underlying352 rfl (by rw[zne];rfl);rw[Nat.zero_add];have:=(zB h j).1;rw[this,List.getElem?_toArray];exact hv
theorem nu.new (w:W8)(s:xA):nu (w.alloc (.cells (zZ s).toArray 352)) w.heap.size s:=heap_alloc_new w _
theorem nu.lt (h:nu w b s):b<w.heap.size:=(Array.getElem?_eq_some_iff.1 h).1
theorem nu.below {w':W8}(h:nu w b s)(k:Below w.heap.size w w'):nu w' b s:=(k.block b h.lt).trans h
theorem nu.store (h:nu w b s)(s':xA)(h1:s'.r.hv.oneCell'=true/\s'.r.bv.oneCell'=true):(zn7 (.pointer (some ⟨b,0,none⟩)) (zfb s')).run Tryz.prog w=.ok () (w.setRow b (zZ s').toArray):=by
 unfold zn7 Instr.storeAt Instr.sureAddr;simp only[Sem.run_bind,Sem.run_pure,Result.andThen_ok];exact run_storeVar_row w b _ 352 _ _ h (by rw[zne];rfl) rfl (zug s' h1)
theorem zdo (w:W8)(v:Value):(zsn true v).run Tryz.prog w=.ok (.pointer (some ⟨w.heap.size,0,none⟩)) (w.alloc (.cells (zZ zdv).toArray 352)):=by
 unfold zsn;simp[Instr.alloc,newVar,newRow,go_sem,zZ,zdv,z95,PR.cells,yK,zgm,Th.p,Th.ts,yF,eAt]
theorem zge (w:W8)(s s':xA)(h1:s'.r.hv.oneCell'=true/\s'.r.bv.oneCell'=true):(zn7 (.pointer (some ⟨w.heap.size,0,none⟩)) (zfb s')).run Tryz.prog (w.alloc (.cells (zZ s).toArray 352))=.ok () (w.alloc (.cells (zZ s').toArray 352)):=by
 rw[(nu.new w s).store s' h1,World.setRow_alloc_new]
theorem zqn (w:W8):(zib #[]).run Tryz.prog w=.ok (zfb zdv) w:=by unfold zib;kernel_rfl
theorem zsk (w:W8)(r:PR)(e:xF)(t:Th):(zib #[(0,.agg #[.string r.R.pd,r.hv,r.bv]),(1,jV e),(2,thV t)]).run Tryz.prog w=.ok (zfb ⟨r,e,t⟩) w:=by unfold zib;kernel_rfl
theorem z1b (w:W8)(s:xA):(z8b 1 #[(0,zfb s)]).run Tryz.prog w=.ok (.slice (some ⟨w.heap.size,0,none⟩) 1 1) (w.alloc (.cells (zZ s).toArray 352)):=by unfold z8b;kernel_rfl
theorem zel {fn:Func}{p u:Tmp}(h:fn.results=#[.cell p 352,.tmp u])(tmps:Array Value)(w:W8)(g:Nat)(s:xA)(hp:tmps.getD p undef=.pointer (some ⟨g,0,none⟩))(hg:nu w g s):
  (results fn tmps).run Tryz.prog w=.ok (.tuple #[zfb s,tmps.getD u undef]) w:=by
 have Eh:tmps[p]?.getD undef=.pointer (some ⟨g,0,none⟩):=by simpa using hp
 have nH:tmps.getD u undef=tmps[u]?.getD undef:=by simp
 have hl:(loadVar 352 ⟨g,0,none⟩).run Tryz.prog w=.ok (zfb s) w:=by
  have:=hg.load;unfold zl4 Instr.loadAt Instr.sureAddr at this;simpa only[Sem.run_bind,Sem.run_pure,Result.andThen_ok] using this
 rw[nH];simp[results,h,Eh,asAddr,hl]
structure zmj (w:W8)(base:Nat)(v:Value)(st:List xA):Prop where
 row:w.ownsRow base 352 33 v st.length (st.flatMap zZ)
theorem zso {base:Nat}{v:Value}{st:List xA}(h:w.ownsRow base 352 33 v st.length (st.flatMap zZ)){k:Nat}(hk:k<st.length):∃ g cap,v=.slice (some ⟨g,0,none⟩) st.length cap/\base<=g/\g<w.heap.size/\st.length<=cap/\cap<=maxLen/\∀ j,j<33->w.cell? ⟨g,k*33+j,none⟩=(zZ st[k])[j]?:=
 vU (f:=zZ) zuf h k hk
variable {g o:Nat}
theorem zl5 (h:∀ j,j<33->w.cell? ⟨g,o+j,none⟩=(zZ s)[j]?):(zl4 (.pointer (some ⟨g,o,none⟩))).run Tryz.prog w=.ok (zfb s) w:=by
 unfold zl4;refine run_loadAt_mid w g o 352 (zZ s) _ (λ j v hv=>?_) Tryz.underlying352 rfl (by rw[zne];rfl);have hj:j<33:=by
  have:=(List.getElem?_eq_some_iff.1 hv).1;rw[zuf] at this;exact this
 exact (h j hj).trans hv
theorem zqs (h:∀ j,j<33->w.cell? ⟨g,o+j,none⟩=(zZ s)[j]?):(zkq (.pointer (some ⟨g,o+28,none⟩))).run Tryz.prog w=.ok (thV s.t) w:=by
 unfold zkq;refine run_loadAt_mid w g (o+28) 88 (yK s.t) _ (λ j v hv=>?_) Tryz.underlying88 rfl (by rw[zfi];rfl);have hj:j<5:=(List.getElem?_eq_some_iff.1 hv).1;rw[Nat.add_assoc,h (28+j) (by omega)];rw[<-hv];unfold zZ;rw[List.getElem?_append_right (by show 3<=_;omega),List.getElem?_append_right (by show 25<=28+j-3;omega)]
 show (yK s.t)[28+j-3-25]?=_
 rw[show 28+j-3-25=j by omega]
theorem zw0 (h:∀ j,j<33->w.cell? ⟨g,o+j,none⟩=(zZ s)[j]?):(zfu (.pointer (some ⟨g,o+3,none⟩))).run Tryz.prog w=.ok (jV s.e) w:=by
 unfold zfu;refine run_loadAt_mid w g (o+3) 135 (yF s.e) _ (λ j v hv=>?_) Tryz.underlying135 rfl (by rw[zcp];rfl);have hj:j<25:=(List.getElem?_eq_some_iff.1 hv).1;rw[Nat.add_assoc,h (3+j) (by omega)];rw[<-hv];unfold zZ;rw[List.getElem?_append_right (by show 3<=_;omega),List.getElem?_append_left (by show 3+j-3<25;omega)]
 show (yF s.e)[3+j-3]?=_
 rw[show 3+j-3=j by omega]
theorem nu.cells (h:nu w b s):∀ j,j<33->w.cell? ⟨b,0+j,none⟩=(zZ s)[j]?:=λ j _=>by rw[Nat.zero_add,(zB h j).1,List.getElem?_toArray]
theorem nu.bound (h:nu w b s):(zfu (.pointer (some ⟨b,3,none⟩))).run Tryz.prog w=.ok (jV s.e) w:=by
 have:=zw0 h.cells
 rwa [Nat.zero_add] at this
end
section
open Go.RowKit
attribute [local go_sem ↓] zcw zbe zdd qB za9 zau zat zas zhi ze7 ze5 ze6 zjh zdq
attribute [local go_sem] za2 zdc zdo zqn
def zi2 (r:PR)(o:Option xF):xA:=match o with | none=>zdv | some e=>⟨r,e,xZ e (kz r)⟩
def z22 (w:W8)(r:PR)(o:Option xF)(en:Ending)(w':W8):Prop:=Below w.heap.size w w'/\en=.returned (.tuple #[zfb (zi2 r o),.bool o.isSome])
variable {k:Nat} {e:xF} {S:List Th} {fr:List Nat} {cs:List j6}
theorem z5c (hk:k<cs.length)(hf:k<fr.length)(hx:S.length<=fr[k]):zca (cs.drop k) (fr.drop k) S e=none:=by
 rw[List.drop_eq_getElem_cons hk,List.drop_eq_getElem_cons hf,ze1];simp only;rw[List.getElem?_eq_none hx]
theorem z5b (hk:k<cs.length)(hf:k<fr.length)(hx:fr[k]<S.length):zca (cs.drop k) (fr.drop k) S e=match jA e cs[k] S[fr[k]] with | none=>none | some e'=>zca (cs.drop (k+1)) (fr.drop (k+1)) S e':=by
 rw[List.drop_eq_getElem_cons hk,List.drop_eq_getElem_cons hf,ze1];simp only;rw[List.getElem?_eq_getElem hx];rfl
structure z6v (w:W8)(base:Nat)(r:PR)(fr:List Nat)(fv:Value)(st:List xA)(sv:Value):Prop where
 aX:sL w base r
 l3:r.bs.length<=3
 t4:∀ x∈r.bs,x.1.ts.length<=4
 h4:r.R.ts.length<=4
 Kk:w.ownsRow 0 3 1 fv fr.length (zxj fr)
 Pv:fr.length=(yZ r.bs).length
 steps:zmj w 0 sv st
structure FT (w:W8)(r:PR)(ap:O8)(cp:Nat)(e:xF)(wr:W8):Prop where
 kp:Below w.heap.size w wr
 rb:wr.heap[w.heap.size]?=some (.cells #[.string r.R.pd,r.hv,r.bv] 123 (0,0))
 sb:nu wr (w.heap.size+1) zdv
 bb:BV wr (w.heap.size+1+1) e
 pr:wr.ownsRow (w.heap.size+1+1+1) 79 2 (.slice ap (yQ false r.bs).length cp) (yQ false r.bs).length ((yQ false r.bs).flatMap zd8)
theorem FT.below {w:W8}{r:PR}{ap:O8}{cp:Nat}{e:xF}{wr w':W8}(h:FT w r ap cp e wr)(k:Below wr.heap.size wr w'):FT w r ap cp e w':=
 have l:=h.bb.lt
 ⟨h.kp.trans (k.mono h.kp.size),(k.block _ (by omega)).trans h.rb,h.sb.below k,h.bb.below k,zH h.pr k (λ g e=>(h.pr.lt g e).2)⟩
variable {r:PR} {w:W8}
theorem FT.set {ap:O8}{cp:Nat}{wr:W8}(h:FT w r ap cp e wr)(e':xF):FT w r ap cp e' (wr.setRow (w.heap.size+1+1) (yF e').toArray):=
 ⟨yI h.kp (by omega) _,(setRow_other _ _ _ _ (by omega)).trans h.rb,(setRow_other _ _ _ _ (by omega)).trans h.sb,setRow_heap _ _ _ _ _ _ h.bb,xI h.pr (λ g e=>setRow_other _ _ _ _ (by have:=(h.pr.lt g e).1;omega))⟩
theorem z7t {m:Nat}(h:m<fr.length):(zxj fr)[m]?=some (.int .i64 (fr[m]:Nat)):=by unfold zxj;rw[List.getElem?_map,List.getElem?_eq_getElem h];rfl
theorem sL.one {base:Nat}(h:sL w base r):r.hv.oneCell'=true/\r.bv.oneCell'=true:=by
 obtain⟨ah,ch,e1⟩:=zD h.hd;obtain⟨ab,cb,e2⟩:=zD h.bo.row;rw[e1,e2];exact⟨rfl,rfl⟩
theorem z01 (w:W8)(base:Nat)(r:PR)(fr:List Nat)(af:O8)(cf:Nat)(st:List xA)(sa:O8)(cs:Nat)(h:z6v w base r fr (.slice af fr.length cf) st (.slice sa st.length cs)):
  Calls Tryz.prog 222 #[.agg #[.string r.R.pd,r.hv,r.bv],.slice af fr.length cf,.slice sa st.length cs] w (z22 w r (zca (yZ r.bs) fr (st.map (·.t)) [])):=by
 obtain⟨ah,ch,sP⟩:=zD h.aX.hd;obtain⟨ab,cb,rY⟩:=zD h.aX.bo.row;have H:=zC h;have iK:=h.aX.one;have ze:=zC iK;have cE:=yN h.steps.row;unfold maxLen at cE;have nR:=h.l3;rw[sP,rY];have A5:=zC sP;have CY:=zC rY;have b8:(yQ false r.bs).length=(yZ r.bs).length:=by unfold yZ;rw[List.length_map]
 have rH:(yZ r.bs).length<=3:=by have:=zkg r.bs;omega
 have OT:=zC b8;clear h sP rY iK b8;go_enter Tryz.func222,Tryz.ntmps222;go_upto_region 2 with fail;generalize dK:World.alloc (World.alloc (World.alloc w _) _) _=w0;have k0:Below w.heap.size w w0:=by
  rw[<-dK];exact (((Below.refl w.heap.size w).alloc L9 _).alloc (by simp) _).alloc (by simp only[World.size_alloc];omega) _
 have x0:w0.heap[w.heap.size]?=some (.cells #[.string r.R.pd,r.hv,r.bv] 123 (0,0)):=by
  rw[<-dK,Below.heap_alloc _ _ _ (by simp only[World.size_alloc];omega),Below.heap_alloc _ _ _ (by simp),zA A5,zA CY];exact heap_alloc_new w _
 have x1:nu w0 (w.heap.size+1) zdv:=by
  unfold nu;rw[<-dK,Below.heap_alloc _ _ _ (by simp)];have:=heap_alloc_new (w.alloc (.cells #[.string r.R.pd,.slice ah r.R.ts.length ch,.slice ab r.bs.length cb] 123)) (.cells (zZ zdv).toArray 352);rw[World.size_alloc] at this;exact this
 have x2:BV w0 (w.heap.size+1+1) []:=by
  unfold BV;rw[<-dK];have:=heap_alloc_new ((w.alloc (.cells #[.string r.R.pd,.slice ah r.R.ts.length ch,.slice ab r.bs.length cb] 123)).alloc (.cells (zZ zdv).toArray 352)) (.cells (yF []).toArray 135);rw[World.size_alloc,World.size_alloc] at this;exact this
 have s0:w0.heap.size=w.heap.size+1+1+1:=by rw[<-dK];simp
 clear dK;have GB:=((zA H).aX.bo).below k0;rw[zA CY] at GB;have c0:=(zB x0 0).1;have c1:=(zB x0 1).1;have c2:=(zB x0 2).1;simp only[List.getElem?_toArray,List.getElem?_cons_zero,List.getElem?_cons_succ] at c0 c1 c2;rw[zA A5] at c1;rw[zA CY] at c2;have HP:=zC (zcs w0 base r.R.pd ah r.R.ts.length ch ab cb r.bs GB (by omega));have HX:=zC (And.intro x0 (And.intro x1 x2));have eW:=zC k0;have tC:=zC s0;clear x0 x1 x2 k0 s0 GB;go_upto_region 3 with (go_at_call 164;refine (zA HP).mono ?_;rintro en wP ⟨ap,cp,rfl,pw,KX,RG⟩;have C3:=zC pw;have F2:=zC KX;clear pw KX RG);have h0:FT w r ap cp [] wP:=by
  obtain⟨x0,x1,x2⟩:=zA HX;have hB:=zA F2;have s0:=zA tC;have pw:=zA C3;have hl:(yQ false r.bs).length=(r.bs.filter (vD false)).length:=by unfold yQ;rw[List.length_map]
  refine⟨(zA eW).trans (hB.mono (zA eW).size),(hB.block _ (by omega)).trans x0,x1.below hB,x2.below hB,?_⟩;rw[R5,hl];exact zF pw (by omega)
 have mg:(r.bs.filter (vD false)).length=(yZ r.bs).length:=by rw[<-zA OT];unfold yQ;rw[List.length_map]
 rw[mg];have tl:=zC h0;clear h0 mg HP HX eW tC C3 F2 c0 c1 c2
 go_loopg [16] (yZ r.bs).length (λ gg i wr=>∃ (k:Nat) (e:xF),k<=(yZ r.bs).length/\gg=(yZ r.bs).length-k/\i=.int .i64 k/\FT w r ap cp e wr/\jQ (zdn r.bs) e/\zca (yZ r.bs) fr (st.map (·.t)) []=zca ((yZ r.bs).drop k) (fr.drop k) (st.map (·.t)) e)
 exact⟨0,[],Nat.zero_le _,rfl,rfl,zA tl,jQ.nil _,rfl⟩
 case round=>
  clear tl;obtain⟨k,e,hk,iZ,rfl,ay,Ho,ax⟩:=hrel;have gJ:=zC ay;have J4:=zC Ho;have cV:=zC ax;have sY:w.heap.size+1+1<wr.heap.size:=ay.bb.lt
  by_cases aE:k<(yZ r.bs).length
  ·have eU:k<(yQ false r.bs).length:=(by rw[zA OT];exact aE);have GU:k<fr.length:=(by rw[(zA H).Pv];exact aE);obtain⟨gp,WN,hv,oN,bR,cZ,da,hc⟩:=vU zi5 ay.pr k eU;injection hv with i1 i2 i3
   subst i1 i3;have hx:(yQ false r.bs)[k]∈yQ false r.bs:=List.getElem_mem eU;obtain⟨y,hy,yo⟩:=zc6 hx;obtain⟨AT,zk⟩:∃ AT,AT=(yZ r.bs)[k]:=⟨_,rfl⟩;have oZ:AT=(yQ false r.bs)[k].1:=(by rw[zk];simp[yZ]);have mU:=((zA H).aX.bo.each y hy);obtain⟨ta,tc,sr⟩:=zD mU;have DY:AT=(zg3 y).1:=(by rw[oZ,yo]);have kU:AT.ts.length<=4:=(by rw[DY];exact (zA H).t4 y hy);have e0:wr.cell? ⟨gp,k*2,none⟩=some (.string AT.p):=(by have:=hc 0 (by omega);rw[oZ];exact this);have e1:wr.cell? ⟨gp,k*2+1,none⟩=some (.slice ta AT.ts.length tc):=by
    have:=hc 1 (by omega);rw[yo] at this;rw[DY];exact this.trans (by show some y.2=_;rw[sr];rfl)
   have nG:w.ownsRow base 191 1 (.slice ta AT.ts.length tc) AT.ts.length (AT.ts.map zcb):=by
    rw[DY];rw[sr] at mU;exact mU
   have Hf:=zH (zA H).Kk ay.kp (λ g e=>((zA H).Kk.lt g e).2);obtain⟨gf,Ps,Dh,-,LN,Xq,pf⟩:=zar Hf (by omega);injection Dh with i1 i2 i3
   subst i1 i3;have BH:gf<wr.heap.size:=(Hf.lt gf rfl).2;have xc:wr.cell? ⟨gf,k,none⟩=some (.int .i64 (fr[k]:Nat)):=(by rw[pf k GU,z7t GU]);have XT:(k:Int)<fr.length:=(by omega);have nC:(k:Int)<(yZ r.bs).length:=(by omega);have JG:=zC zk;have kX:(yQ false r.bs).length<=3:=(by rw[zA OT];exact rH);clear ay Ho ax hc yo oZ DY mU sr zk;obtain⟨fx,mZ⟩:∃ fx,fx=fr[k]:=⟨_,rfl⟩;rw[<-mZ] at xc;go_upto_region 5 with fail;generalize gI:World.alloc wr _=w3;have k3:Below wr.heap.size wr w3:=(by rw[<-gI];exact B9.alloc L9 _);have y3:w3.heap[wr.heap.size]?=some (.cells #[.string AT.p,.slice ta AT.ts.length tc] 79 (0,0)):=(by rw[<-gI];exact heap_alloc_new wr _);have s3:wr.heap.size<w3.heap.size:=(by rw[<-gI];simp);clear gI;have kV:=(zA gJ).below k3;have Vc:w3.cell? ⟨gf,k,none⟩=some (.int .i64 (fx:Nat)):=(k3.cell (p:=⟨gf,k,none⟩) BH).trans xc;have a0:=(zB y3 0).1;have a1:=(zB y3 1).1;simp only[List.getElem?_toArray,List.getElem?_cons_zero,List.getElem?_cons_succ] at a0 a1;have tw:=zC kV;have J8:=zC y3;clear xc e0 e1 kV
   by_cases Fg:fx<st.length
   ·have lQ:(fx:Int)<st.length:=(by omega);have UI:=zH (zA H).steps.row (zA tw).kp (λ g e=>((zA H).steps.row.lt g e).2);obtain⟨g5,c5,Aj,-,uA,LL,zz,K5⟩:=zso UI Fg;injection Aj with i1 i2 i3
    subst i1 i3;have t5:∀ W,Below w3.heap.size w3 W->(zkq (.pointer (some ⟨g5,fx*33+28,none⟩))).run Tryz.prog W=.ok (thV st[fx].t) W:=λ W hW=>zqs (λ j hj=>(hW.cell (p:=⟨g5,fx*33+j,none⟩) uA).trans (K5 j hj))
    obtain⟨R,hR⟩:∃ R,R=jA e AT st[fx].t:=⟨_,rfl⟩;have sr:∀ t∈AT.ts,t.1=true->t.2∈zdn r.bs:=λ t ht _=>zkh (x:=AT) (by rw[zA JG];exact List.getElem_mem aE) ht
    have PV:(zdn r.bs).length<=12:=zgb (zA H).l3 (zA H).t4;have HM:=zC (λ (W:W8) (hW:Below w3.heap.size w3 W)=>zlw W base e AT ta tc st[fx].t (zH nG ((zA tw).kp.trans (hW.mono (zA tw).kp.size)) (λ g e1=>(nG.lt g e1).2)) kU (zdn r.bs) PV (zA J4) sr);rw[<-hR] at HM;have HR:=zC hR;have Ag:=z5b (cs:=yZ r.bs) (fr:=fr) (S:=st.map (·.t)) (e:=e) aE GU (by rw[<-mZ,List.length_map];exact Fg)
    have DL:=zC (show zca (yZ r.bs) fr (st.map (·.t)) []=match (generalizing:=false) R with | none=>none | some e'=>zca ((yZ r.bs).drop (k+1)) (fr.drop (k+1)) (st.map (·.t)) e' by
     rw[zA cV,Ag,hR,zA JG]
     simp only[List.getElem_map,<-mZ])
    have Pf:=zC (λ (e':xF) (h:R=some e')=>(zA J4).matched sr (by rw[<-hR];exact h));generalize hTH:st[fx].t=TH at *;clear hR Ag sr UI K5 mZ cV;have b3:=(zA tw).bb;have b3l:=b3.lt;have HA:=zC (λ (W:W8) (hW:Below w3.heap.size w3 W)=>(show (zfu (.pointer (some ⟨w.heap.size+1+1,0,none⟩))).run Tryz.prog W=.ok (jV e) W/\W.cell? ⟨wr.heap.size,0,none⟩=some (.string AT.p)/\W.cell? ⟨wr.heap.size,1,none⟩=some (.slice ta AT.ts.length tc)/\W.cell? ⟨gf,k,none⟩=some (.int .i64 (fx:Nat))/\(zkq (.pointer (some ⟨g5,fx*33+28,none⟩))).run Tryz.prog W=.ok (thV TH) W from ⟨(b3.below hW).load,(hW.cell (p:=⟨wr.heap.size,0,none⟩) (by show wr.heap.size<_;omega)).trans a0,(hW.cell (p:=⟨wr.heap.size,1,none⟩) (by show wr.heap.size<_;omega)).trans a1,(hW.cell (p:=⟨gf,k,none⟩) (by show gf<_;omega)).trans Vc,t5 W hW⟩));have Qq:=b3.load;have t53:=t5 w3 B9;clear b3 t5;go_upto_region 7 with fail
    go_cut [11,12] from 17 to 47 (λ p c wc=>∃ nb,p=.pointer (some ⟨nb,0,none⟩)/\c=.bool R.isSome/\BV wc nb (R.getD [])/\Below w3.heap.size w3 wc)
    case first=>
     go_region_held3 (λ w'=>(zfu (.pointer (some ⟨w.heap.size+1+1,0,none⟩))).run Tryz.prog w'=.ok (jV e) w'/\w'.cell? ⟨wr.heap.size,0,none⟩=some (.string AT.p)/\w'.cell? ⟨wr.heap.size,1,none⟩=some (.slice ta AT.ts.length tc)/\w'.cell? ⟨gf,k,none⟩=some (.int .i64 (fx:Nat))/\(zkq (.pointer (some ⟨g5,fx*33+28,none⟩))).run Tryz.prog w'=.ok (thV TH) w') ((refine zA HA _ ?_;first | exact dT | exact B9.drew | exact (B9.alloc L9 _).drew | exact dT.alloc dT.size _ | exact yI dT L9 _)) ((go_at_call 62;refine (zA HM _ (by first | exact B9.drew | exact (B9.alloc L9 _).drew)).mono ?_;rintro en w4 ⟨cM,rfl⟩;have dT:Below w3.heap.size w3 w4:=(by first | exact zV cM | exact zes (B9.alloc L9 _) cM);first | (have Ah:=((BV.new w3 []).below (zV cM)).store (R.getD [])) | skip))
     all_goals
      go_wp2_with fail;go_meet
      case rel=>first | exact⟨_,rfl,rfl,BV.new _ _,dT.alloc dT.size _⟩ | exact⟨_,rfl,rfl,setRow_heap _ _ _ _ _ _ ((BV.new w3 []).below (zV cM)),yI dT L9 _⟩
    case rest=>
     generalize wc=wA at *;obtain⟨nb,rfl,rfl,kN,lE⟩:=hcut;have nB:=(zA tw).below lE;have DC:=zC nB;clear HA HM Qq t53 a0 a1 Vc J8
     cases zm:R with
     | none=>
      rw[zm] at DL;have L7:=nB.sb.store zdv ⟨rfl,rfl⟩;have lX:=setRow_heap _ _ _ (zZ zdv).toArray _ _ nB.sb;have A9:=zC lX;clear nB kN lE zm lX;go_wp2_with fail;refine bodyPost_ret (v:=.tuple #[zfb zdv,.bool false]) (zel Tryz.results222 _ _ _ zdv rfl (zA A9)) rfl ?_;rw[zA DL];exact⟨yI (zA DC).kp (by omega) _,rfl⟩
     | some e2=>
      rw[zm] at DL kN;have BR:=kN.load;have L7:=nB.bb.store e2;have Wm:=zC (zA Pf e2 zm);have Ba:=zC (nB.set e2);clear nB kN lE zm;simp only[Option.getD_some] at BR;go_wp2_with fail;go_roundg ((yZ r.bs).length-(k+1));exact⟨k+1,e2,by omega,rfl,by go_num,zA Ba,zA Wm,zA DL⟩;omega
   ·have lQ:¬ (fx:Int)<st.length:=(by omega);have Xy:(st.length:Int)<=fx:=by omega
    have HN:=zC (show zca (yZ r.bs) fr (st.map (·.t)) []=none by
     rw[zA cV]
     exact z5c aE GU (by rw[<-mZ,List.length_map];omega))
    have L7:=(zA tw).sb.store zdv ⟨rfl,rfl⟩;have A9:=zC (setRow_heap _ _ _ (zZ zdv).toArray _ _ (zA tw).sb);go_wp2_with fail;refine bodyPost_ret (v:=.tuple #[zfb zdv,.bool false]) (zel Tryz.results222 _ _ _ zdv rfl (zA A9)) rfl ?_;rw[zA HN];exact⟨yI (zA tw).kp (by omega) _,rfl⟩
  ·have hkE:k=(yZ r.bs).length:=by omega
   have HN:=zC (show zca (yZ r.bs) fr (st.map (·.t)) []=some e by
    rw[ax,List.drop_of_length_le (by omega)]
    rfl)
   have rE:w.ownsRow base 191 1 (.slice ah (kz r).ts.length ch) (kz r).ts.length ((kz r).ts.map zcb):=by
    have:=(zA H).aX.hd;rw[zA A5] at this;exact this
   have Qm:e.length<=12:=(by have:=Ho.len;have:=zgb (zA H).l3 (zA H).t4;omega);have h4:=(zA H).h4;have HF:=zC (λ (W:W8) (hW:Below wr.heap.size wr W)=>zg8 W base e (kz r) ah ch (zH rE (ay.kp.trans (hW.mono ay.kp.size)) (λ g e1=>(rE.lt g e1).2)) h4 Qm);have c0:=(zB ay.rb 0).1;have c1:=(zB ay.rb 1).1;have c2:=(zB ay.rb 2).1;simp only[List.getElem?_toArray,List.getElem?_cons_zero,List.getElem?_cons_succ] at c0 c1 c2;rw[zA A5] at c1;rw[zA CY] at c2;have ji:=ay.bb.load;have HA:=zC (λ (W:W8) (hW:Below wr.heap.size wr W)=>(show (zfu (.pointer (some ⟨w.heap.size+1+1,0,none⟩))).run Tryz.prog W=.ok (jV e) W/\W.cell? ⟨w.heap.size,0,none⟩=some (.string r.R.pd)/\W.cell? ⟨w.heap.size,1,none⟩=some (.slice ah r.R.ts.length ch)/\W.cell? ⟨w.heap.size,2,none⟩=some (.slice ab r.bs.length cb) from ⟨(ay.bb.below hW).load,(hW.cell (p:=⟨w.heap.size,0,none⟩) (by show w.heap.size<_;omega)).trans c0,(hW.cell (p:=⟨w.heap.size,1,none⟩) (by show w.heap.size<_;omega)).trans c1,(hW.cell (p:=⟨w.heap.size,2,none⟩) (by show w.heap.size<_;omega)).trans c2⟩));have DK:=zC (λ (W:W8) (hW:Below wr.heap.size wr W)=>ay.sb.below hW);have Xm:∀ W:W8,(zib #[(0,.agg #[.string r.R.pd,.slice ah r.R.ts.length ch,.slice ab r.bs.length cb]),(1,jV e),(2,thV (xZ e (kz r)))]).run Tryz.prog W=.ok (zfb ⟨r,e,xZ e (kz r)⟩) W:=λ W=>by
    have:=zsk W r e (xZ e (kz r));rw[zA A5,zA CY] at this;exact this
   have nx:=ay.bb;have AN:=ay.rb;have ly:=zC ay.kp;have Gk:(xA.mk r e (xZ e (kz r))).r.hv.oneCell'=true/\(xA.mk r e (xZ e (kz r))).r.bv.oneCell'=true:=zA ze;clear ay Ho ax J4 cV rE h4;generalize hSN:xA.mk r e (xZ e (kz r))=SN at *;have Wh:=zC hSN
   have tm:=zC (λ (W:W8) (hW:Below wr.heap.size wr W) (cs:Array Value)=>(show (zfu (.pointer (some ⟨w.heap.size+1+1,0,none⟩))).run Tryz.prog (W.setRow (w.heap.size+1) cs)=.ok (jV e) (W.setRow (w.heap.size+1) cs)/\(W.setRow (w.heap.size+1) cs).cell? ⟨w.heap.size,0,none⟩=some (.string r.R.pd)/\(W.setRow (w.heap.size+1) cs).cell? ⟨w.heap.size,1,none⟩=some (.slice ah r.R.ts.length ch)/\(W.setRow (w.heap.size+1) cs).cell? ⟨w.heap.size,2,none⟩=some (.slice ab r.bs.length cb) from by
    obtain⟨-,q0,q1,q2⟩:=zA HA W hW
    exact⟨((nx.below hW).kF (by omega)).load,cell_far q0 (by omega),cell_far q1 (by omega),cell_far q2 (by omega)⟩))
   clear nx AN;generalize hTH:xZ e (kz r)=TH at *;have O9:=zC hTH;clear hSN hTH;go_upto_region 12 with fail
   go_region_held3 (λ w'=>(zfu (.pointer (some ⟨w.heap.size+1+1,0,none⟩))).run Tryz.prog w'=.ok (jV e) w'/\w'.cell? ⟨w.heap.size,0,none⟩=some (.string r.R.pd)/\w'.cell? ⟨w.heap.size,1,none⟩=some (.slice ah r.R.ts.length ch)/\w'.cell? ⟨w.heap.size,2,none⟩=some (.slice ab r.bs.length cb)) (first | exact zA HA _ dT | exact zA HA _ B9.drew | exact zA tm _ dT _) ((go_at_call 146;refine (zA HF _ (by exact B9.drew)).mono ?_;rintro en w4 ⟨cM,rfl⟩;have dT:Below wr.heap.size wr w4:=zV cM;have Ah:=(zA DK w4 dT).store SN Gk;have A9:=zC (setRow_heap _ _ _ (zZ SN).toArray _ _ (zA DK w4 dT))))
   all_goals
    go_wp2_with fail;refine bodyPost_ret (v:=.tuple #[zfb SN,.bool true]) (zel Tryz.results222 _ _ _ SN rfl (zA A9)) rfl ?_;rw[zA HN];exact⟨yI ((zA ly).trans (dT.mono (zA ly).size)) (by omega) _,by unfold zi2;simp only[];rw[zA O9,zA Wh];rfl⟩
end
end Go.Proofs.YtldkpahaocjdpaaGreat
