/-
  take: a rule's positive literals matched with what is named for them.
-/
import Derived.Test.YtldkpahaocjdpaaGreatR33
set_option maxHeartbeats 16000000
set_option maxRecDepth 1000000
namespace Go.Proofs.YtldkpahaocjdpaaGreat
section
open Go.RowKit
attribute [local go_sem ↓] to_bLoad to_bStore to_bAlloc bindV_cells to_tLoad to_tStore to_tAlloc thV_cells to_stLoad to_stStore to_stAlloc to_stBuild to_stOne stepV_cells
attribute [local go_sem] bStore_new run_bAlloc run_stAlloc run_stBuild0
def takeS (r:PR)(o:Option ax):aK:=match o with | none=>zeroS | some e=>⟨r,e,aB e (aO r)⟩
def TakePost (w:W8)(r:PR)(o:Option ax)(en:Ending)(w':W8):Prop:=Below w.heap.size w w'/\en=.returned (.tuple #[stepV (takeS r o),.bool o.isSome])
variable {k:Nat} {e:ax} {S:List Th} {fr:List Nat} {cs:List PAtm}
theorem takeP_no (hk:k<cs.length)(hf:k<fr.length)(hx:S.length<=fr[k]):takeP (cs.drop k) (fr.drop k) S e=none:=by
 rw[List.drop_eq_getElem_cons hk,List.drop_eq_getElem_cons hf,takeP_cons];simp only;rw[List.getElem?_eq_none hx]
theorem takeP_at (hk:k<cs.length)(hf:k<fr.length)(hx:fr[k]<S.length):takeP (cs.drop k) (fr.drop k) S e=match aG e cs[k] S[fr[k]] with | none=>none | some e'=>takeP (cs.drop (k+1)) (fr.drop (k+1)) S e':=by
 rw[List.drop_eq_getElem_cons hk,List.drop_eq_getElem_cons hf,takeP_cons];simp only;rw[List.getElem?_eq_getElem hx];rfl
structure TakeArg (w:W8)(base:Nat)(r:PR)(fr:List Nat)(fv:Value)(st:List aK)(sv:Value):Prop where
 rule:ev w base r
 l3:r.bs.length<=3
 t4:∀ x∈r.bs,x.1.ts.length<=4
 h4:r.R.ts.length<=4
 xE:w.ownsRow 0 3 1 fv fr.length (cO fr)
 BX:fr.length=(posOf r.bs).length
 steps:StepsIn w 0 sv st
structure kK (w:W8)(r:PR)(ap:O8)(cp:Nat)(e:ax)(wr:W8):Prop where
 kp:Below w.heap.size w wr
 rb:wr.heap[w.heap.size]?=some (.cells #[.string r.R.pd,r.hv,r.bv] 123 (0,0))
 sb:gO wr (w.heap.size+1) zeroS
 bb:BV wr (w.heap.size+1+1) e
 pr:wr.ownsRow (w.heap.size+1+1+1) 79 2 (.slice ap (aC false r.bs).length cp) (aC false r.bs).length ((aC false r.bs).flatMap atomCells)
theorem kK.below {w:W8}{r:PR}{ap:O8}{cp:Nat}{e:ax}{wr w':W8}(h:kK w r ap cp e wr)(k:Below wr.heap.size wr w'):kK w r ap cp e w':=
 have l:=h.bb.lt
 ⟨h.kp.trans (k.mono h.kp.size),(k.block _ (by omega)).trans h.rb,h.sb.below k,h.bb.below k,own_below h.pr k (λ g e=>(h.pr.lt g e).2)⟩
variable {r:PR} {w:W8}
theorem kK.set {ap:O8}{cp:Nat}{wr:W8}(h:kK w r ap cp e wr)(e':ax):kK w r ap cp e' (wr.setRow (w.heap.size+1+1) (aD e').toArray):=
 ⟨below_setRow h.kp (by omega) _,(setRow_other _ _ _ _ (by omega)).trans h.rb,(setRow_other _ _ _ _ (by omega)).trans h.sb,setRow_heap _ _ _ _ _ _ h.bb,own_block h.pr (λ g e=>setRow_other _ _ _ _ (by have:=(h.pr.lt g e).1;omega))⟩
theorem nums_at {m:Nat}(h:m<fr.length):(cO fr)[m]?=some (.int .i64 (fr[m]:Nat)):=by unfold cO;rw[List.getElem?_map,List.getElem?_eq_getElem h];rfl
theorem ev.one {base:Nat}(h:ev w base r):r.hv.oneCell'=true/\r.bv.oneCell'=true:=by
 obtain⟨ah,ch,e1⟩:=own_slice h.hd;obtain⟨ab,cb,e2⟩:=own_slice h.bo.row;rw[e1,e2];exact⟨rfl,rfl⟩
theorem ptake_any (w:W8)(base:Nat)(r:PR)(fr:List Nat)(af:O8)(cf:Nat)(st:List aK)(sa:O8)(cs:Nat)(h:TakeArg w base r fr (.slice af fr.length cf) st (.slice sa st.length cs)):
  Calls Tryz.prog 222 #[.agg #[.string r.R.pd,r.hv,r.bv],.slice af fr.length cf,.slice sa st.length cs] w (TakePost w r (takeP (posOf r.bs) fr (st.map (·.t)) [])):=by
 obtain⟨ah,ch,fs⟩:=own_slice h.rule.hd;obtain⟨ab,cb,fi⟩:=own_slice h.rule.bo.row;have H:=hide h;have eR:=h.rule.one;have mZ:=hide eR;have dQ:=own_max h.steps.row;unfold maxLen at dQ;have sr:=h.l3;rw[fs,fi];have qw:=hide fs;have p6:=hide fi;have dP:(aC false r.bs).length=(posOf r.bs).length:=by unfold posOf;rw[List.length_map]
 have JV:(posOf r.bs).length<=3:=by have:=posOf_len r.bs;omega
 have wZ:=hide dP;clear h fs fi eR dP;go_enter Tryz.func222,Tryz.ntmps222;go_upto_region 2 with fail;generalize hw0:World.alloc (World.alloc (World.alloc w _) _) _=w0;have k0:Below w.heap.size w w0:=by
  rw[<-hw0];exact (((Below.refl w.heap.size w).alloc L9 _).alloc (by simp) _).alloc (by simp only[World.size_alloc];omega) _
 have x0:w0.heap[w.heap.size]?=some (.cells #[.string r.R.pd,r.hv,r.bv] 123 (0,0)):=by
  rw[<-hw0,Below.heap_alloc _ _ _ (by simp only[World.size_alloc];omega),Below.heap_alloc _ _ _ (by simp),ad qw,ad p6];exact heap_alloc_new w _
 have x1:gO w0 (w.heap.size+1) zeroS:=by
  unfold gO;rw[<-hw0,Below.heap_alloc _ _ _ (by simp)];have:=heap_alloc_new (w.alloc (.cells #[.string r.R.pd,.slice ah r.R.ts.length ch,.slice ab r.bs.length cb] 123)) (.cells (stepCells zeroS).toArray 352);rw[World.size_alloc] at this;exact this
 have x2:BV w0 (w.heap.size+1+1) []:=by
  unfold BV;rw[<-hw0];have:=heap_alloc_new ((w.alloc (.cells #[.string r.R.pd,.slice ah r.R.ts.length ch,.slice ab r.bs.length cb] 123)).alloc (.cells (stepCells zeroS).toArray 352)) (.cells (aD []).toArray 135);rw[World.size_alloc,World.size_alloc] at this;exact this
 have s0:w0.heap.size=w.heap.size+1+1+1:=by rw[<-hw0];simp
 clear hw0;have kP:=((ad H).rule.bo).below k0;rw[ad p6] at kP;have c0:=(block_cells x0 0).1;have c1:=(block_cells x0 1).1;have c2:=(block_cells x0 2).1;simp only[List.getElem?_toArray,List.getElem?_cons_zero,List.getElem?_cons_succ] at c0 c1 c2;rw[ad qw] at c1;rw[ad p6] at c2;have HP:=hide (positive_any w0 base r.R.pd ah r.R.ts.length ch ab cb r.bs kP (by omega));have HX:=hide (And.intro x0 (And.intro x1 x2));have cq:=hide k0;have fH:=hide s0;clear x0 x1 x2 k0 s0 kP;go_upto_region 3 with (go_at_call 164;refine (ad HP).mono ?_;rintro en wP ⟨ap,cp,rfl,jC,qT,zA⟩;have nZ:=hide jC;have oy:=hide qT;clear jC qT zA);have h0:kK w r ap cp [] wP:=by
  obtain⟨x0,x1,x2⟩:=ad HX;have hB:=ad oy;have s0:=ad fH;have jC:=ad nZ;have hl:(aC false r.bs).length=(r.bs.filter (isNeg false)).length:=by unfold aC;rw[List.length_map]
  refine⟨(ad cq).trans (hB.mono (ad cq).size),(hB.block _ (by omega)).trans x0,x1.below hB,x2.below hB,?_⟩;rw[eT,hl];exact aw jC (by omega)
 have ik:(r.bs.filter (isNeg false)).length=(posOf r.bs).length:=by rw[<-ad wZ];unfold aC;rw[List.length_map]
 rw[ik];have iI:=hide h0;clear h0 ik HP HX cq fH nZ oy c0 c1 c2
 go_loopg [16] (posOf r.bs).length (λ gg i wr=>∃ (k:Nat) (e:ax),k<=(posOf r.bs).length/\gg=(posOf r.bs).length-k/\i=.int .i64 k/\kK w r ap cp e wr/\aY (posVars r.bs) e/\takeP (posOf r.bs) fr (st.map (·.t)) []=takeP ((posOf r.bs).drop k) (fr.drop k) (st.map (·.t)) e)
 exact⟨0,[],Nat.zero_le _,rfl,rfl,ad iI,aY.nil _,rfl⟩
 case round=>
  clear iI;obtain⟨k,e,hk,fM,rfl,ak,uX,bj⟩:=hrel;have bt:=hide ak;have xq:=hide uX;have gL:=hide bj;have lK:w.heap.size+1+1<wr.heap.size:=ak.bb.lt
  by_cases aN:k<(posOf r.bs).length
  ·have du:k<(aC false r.bs).length:=(by rw[ad wZ];exact aN);have om:k<fr.length:=(by rw[(ad H).BX];exact aN);obtain⟨gp,IK,hv,iC,dp,dG,dx,hc⟩:=row_at atom_len ak.pr k du;injection hv with i1 i2 i3
   subst i1 i3;have hx:(aC false r.bs)[k]∈aC false r.bs:=List.getElem_mem du;obtain⟨y,hy,km⟩:=litsOf_mem hx;obtain⟨AT,nu⟩:∃ AT,AT=(posOf r.bs)[k]:=⟨_,rfl⟩;have B0:AT=(aC false r.bs)[k].1:=(by rw[nu];simp[posOf]);have gl:=((ad H).rule.bo.each y hy);obtain⟨ta,tc,ji⟩:=own_slice gl;have qO:AT=(litAtm y).1:=(by rw[B0,km]);have gE:AT.ts.length<=4:=(by rw[qO];exact (ad H).t4 y hy);have e0:wr.cell? ⟨gp,k*2,none⟩=some (.string AT.p):=(by have:=hc 0 (by omega);rw[B0];exact this);have e1:wr.cell? ⟨gp,k*2+1,none⟩=some (.slice ta AT.ts.length tc):=by
    have:=hc 1 (by omega);rw[km] at this;rw[qO];exact this.trans (by show some y.2=_;rw[ji];rfl)
   have ia:w.ownsRow base 191 1 (.slice ta AT.ts.length tc) AT.ts.length (AT.ts.map termV):=by
    rw[qO];rw[ji] at gl;exact gl
   have Di:=own_below (ad H).xE ak.kp (λ g e=>((ad H).xE.lt g e).2);obtain⟨gf,cf',AH,-,hnf,Cu,uh⟩:=row_cell Di (by omega);injection AH with i1 i2 i3
   subst i1 i3;have CB:gf<wr.heap.size:=(Di.lt gf rfl).2;have xc:wr.cell? ⟨gf,k,none⟩=some (.int .i64 (fr[k]:Nat)):=(by rw[uh k om,nums_at om]);have Jy:(k:Int)<fr.length:=(by omega);have gW:(k:Int)<(posOf r.bs).length:=(by omega);have wJ:=hide nu;have mG:(aC false r.bs).length<=3:=(by rw[ad wZ];exact JV);clear ak uX bj hc km B0 qO gl ji nu;obtain⟨fx,sk⟩:∃ fx,fx=fr[k]:=⟨_,rfl⟩;rw[<-sk] at xc;go_upto_region 5 with fail;generalize hw3:World.alloc wr _=w3;have k3:Below wr.heap.size wr w3:=(by rw[<-hw3];exact B9.alloc L9 _);have y3:w3.heap[wr.heap.size]?=some (.cells #[.string AT.p,.slice ta AT.ts.length tc] 79 (0,0)):=(by rw[<-hw3];exact heap_alloc_new wr _);have s3:wr.heap.size<w3.heap.size:=(by rw[<-hw3];simp);clear hw3;have yH:=(ad bt).below k3;have GR:w3.cell? ⟨gf,k,none⟩=some (.int .i64 (fx:Nat)):=(k3.cell (p:=⟨gf,k,none⟩) CB).trans xc;have a0:=(block_cells y3 0).1;have a1:=(block_cells y3 1).1;simp only[List.getElem?_toArray,List.getElem?_cons_zero,List.getElem?_cons_succ] at a0 a1;have kx:=hide yH;have xx:=hide y3;clear xc e0 e1 yH
   by_cases uk:fx<st.length
   ·have Jh:(fx:Int)<st.length:=(by omega);have Gb:=own_below (ad H).steps.row (ad kx).kp (λ g e=>((ad H).steps.row.lt g e).2);obtain⟨g5,c5,Kd,-,JC,hn5,qY,yq⟩:=step_at Gb uk;injection Kd with i1 i2 i3
    subst i1 i3;have t5:∀ W,Below w3.heap.size w3 W->(tLoad (.pointer (some ⟨g5,fx*33+28,none⟩))).run Tryz.prog W=.ok (thV st[fx].t) W:=λ W hW=>step_says (λ j hj=>(hW.cell (p:=⟨g5,fx*33+j,none⟩) JC).trans (yq j hj))
    obtain⟨R,hR⟩:∃ R,R=aG e AT st[fx].t:=⟨_,rfl⟩;have ji:∀ t∈AT.ts,t.1=true->t.2∈posVars r.bs:=λ t ht _=>posVars_mem (x:=AT) (by rw[ad wJ];exact List.getElem_mem aN) ht
    have Cj:(posVars r.bs).length<=12:=posVars_len (ad H).l3 (ad H).t4;have HM:=hide (λ (W:W8) (hW:Below w3.heap.size w3 W)=>pmatch_any W base e AT ta tc st[fx].t (own_below ia ((ad kx).kp.trans (hW.mono (ad kx).kp.size)) (λ g e1=>(ia.lt g e1).2)) gE (posVars r.bs) Cj (ad xq) ji);rw[<-hR] at HM;have HR:=hide hR;have zq:=takeP_at (cs:=posOf r.bs) (fr:=fr) (S:=st.map (·.t)) (e:=e) aN om (by rw[<-sk,List.length_map];exact uk)
    have qG:=hide (show takeP (posOf r.bs) fr (st.map (·.t)) []=match (generalizing:=false) R with | none=>none | some e'=>takeP ((posOf r.bs).drop (k+1)) (fr.drop (k+1)) (st.map (·.t)) e' by
     rw[ad gL,zq,hR,ad wJ]
     simp only[List.getElem_map,<-sk])
    have BL:=hide (λ (e':ax) (h:R=some e')=>(ad xq).matched ji (by rw[<-hR];exact h));generalize hTH:st[fx].t=TH at *;clear hR zq ji Gb yq sk gL;have b3:=(ad kx).bb;have b3l:=b3.lt;have HA:=hide (λ (W:W8) (hW:Below w3.heap.size w3 W)=>(show (bLoad (.pointer (some ⟨w.heap.size+1+1,0,none⟩))).run Tryz.prog W=.ok (bindV e) W/\W.cell? ⟨wr.heap.size,0,none⟩=some (.string AT.p)/\W.cell? ⟨wr.heap.size,1,none⟩=some (.slice ta AT.ts.length tc)/\W.cell? ⟨gf,k,none⟩=some (.int .i64 (fx:Nat))/\(tLoad (.pointer (some ⟨g5,fx*33+28,none⟩))).run Tryz.prog W=.ok (thV TH) W from ⟨(b3.below hW).load,(hW.cell (p:=⟨wr.heap.size,0,none⟩) (by show wr.heap.size<_;omega)).trans a0,(hW.cell (p:=⟨wr.heap.size,1,none⟩) (by show wr.heap.size<_;omega)).trans a1,(hW.cell (p:=⟨gf,k,none⟩) (by show gf<_;omega)).trans GR,t5 W hW⟩));have CO:=b3.load;have t53:=t5 w3 B9;clear b3 t5;go_upto_region 7 with fail
    go_cut [11,12] from 17 to 47 (λ p c wc=>∃ nb,p=.pointer (some ⟨nb,0,none⟩)/\c=.bool R.isSome/\BV wc nb (R.getD [])/\Below w3.heap.size w3 wc)
    case first=>
     go_region_held3 (λ w'=>(bLoad (.pointer (some ⟨w.heap.size+1+1,0,none⟩))).run Tryz.prog w'=.ok (bindV e) w'/\w'.cell? ⟨wr.heap.size,0,none⟩=some (.string AT.p)/\w'.cell? ⟨wr.heap.size,1,none⟩=some (.slice ta AT.ts.length tc)/\w'.cell? ⟨gf,k,none⟩=some (.int .i64 (fx:Nat))/\(tLoad (.pointer (some ⟨g5,fx*33+28,none⟩))).run Tryz.prog w'=.ok (thV TH) w') ((refine ad HA _ ?_;first | exact bY | exact B9.drew | exact (B9.alloc L9 _).drew | exact bY.alloc bY.size _ | exact below_setRow bY L9 _)) ((go_at_call 62;refine (ad HM _ (by first | exact B9.drew | exact (B9.alloc L9 _).drew)).mono ?_;rintro en w4 ⟨bQ,rfl⟩;have bY:Below w3.heap.size w3 w4:=(by first | exact below_of_drew bQ | exact below_past (B9.alloc L9 _) bQ);first | (have uO:=((BV.new w3 []).below (below_of_drew bQ)).store (R.getD [])) | skip))
     all_goals
      go_wp2_with fail;go_meet
      case rel=>first | exact⟨_,rfl,rfl,BV.new _ _,bY.alloc bY.size _⟩ | exact⟨_,rfl,rfl,setRow_heap _ _ _ _ _ _ ((BV.new w3 []).below (below_of_drew bQ)),below_setRow bY L9 _⟩
    case rest=>
     generalize wc=wA at *;obtain⟨nb,rfl,rfl,kf,fu⟩:=hcut;have di:=(ad kx).below fu;have qx:=hide di;clear HA HM CO t53 a0 a1 GR xx
     cases hRR:R with
     | none=>
      rw[hRR] at qG;have zr:=di.sb.store zeroS ⟨rfl,rfl⟩;have fY:=setRow_heap _ _ _ (stepCells zeroS).toArray _ _ di.sb;have oD:=hide fY;clear di kf fu hRR fY;go_wp2_with fail;refine bodyPost_ret (v:=.tuple #[stepV zeroS,.bool false]) (results_step Tryz.results222 _ _ _ zeroS rfl (ad oD)) rfl ?_;rw[ad qG];exact⟨below_setRow (ad qx).kp (by omega) _,rfl⟩
     | some e2=>
      rw[hRR] at qG kf;have pg:=kf.load;have zr:=di.bb.store e2;have Ip:=hide (ad BL e2 hRR);have Bz:=hide (di.set e2);clear di kf fu hRR;simp only[Option.getD_some] at pg;go_wp2_with fail;go_roundg ((posOf r.bs).length-(k+1));exact⟨k+1,e2,by omega,rfl,by go_num,ad Bz,ad Ip,ad qG⟩;omega
   ·have Jh:¬ (fx:Int)<st.length:=(by omega);have Ji:(st.length:Int)<=fx:=by omega
    have HN:=hide (show takeP (posOf r.bs) fr (st.map (·.t)) []=none by
     rw[ad gL]
     exact takeP_no aN om (by rw[<-sk,List.length_map];omega))
    have zr:=(ad kx).sb.store zeroS ⟨rfl,rfl⟩;have oD:=hide (setRow_heap _ _ _ (stepCells zeroS).toArray _ _ (ad kx).sb);go_wp2_with fail;refine bodyPost_ret (v:=.tuple #[stepV zeroS,.bool false]) (results_step Tryz.results222 _ _ _ zeroS rfl (ad oD)) rfl ?_;rw[ad HN];exact⟨below_setRow (ad kx).kp (by omega) _,rfl⟩
  ·have hkE:k=(posOf r.bs).length:=by omega
   have HN:=hide (show takeP (posOf r.bs) fr (st.map (·.t)) []=some e by
    rw[bj,List.drop_of_length_le (by omega)]
    rfl)
   have nC:w.ownsRow base 191 1 (.slice ah (aO r).ts.length ch) (aO r).ts.length ((aO r).ts.map termV):=by
    have:=(ad H).rule.hd;rw[ad qw] at this;exact this
   have uA:e.length<=12:=(by have:=uX.len;have:=posVars_len (ad H).l3 (ad H).t4;omega);have h4:=(ad H).h4;have HF:=hide (λ (W:W8) (hW:Below wr.heap.size wr W)=>pfill_any W base e (aO r) ah ch (own_below nC (ak.kp.trans (hW.mono ak.kp.size)) (λ g e1=>(nC.lt g e1).2)) h4 uA);have c0:=(block_cells ak.rb 0).1;have c1:=(block_cells ak.rb 1).1;have c2:=(block_cells ak.rb 2).1;simp only[List.getElem?_toArray,List.getElem?_cons_zero,List.getElem?_cons_succ] at c0 c1 c2;rw[ad qw] at c1;rw[ad p6] at c2;have oo:=ak.bb.load;have HA:=hide (λ (W:W8) (hW:Below wr.heap.size wr W)=>(show (bLoad (.pointer (some ⟨w.heap.size+1+1,0,none⟩))).run Tryz.prog W=.ok (bindV e) W/\W.cell? ⟨w.heap.size,0,none⟩=some (.string r.R.pd)/\W.cell? ⟨w.heap.size,1,none⟩=some (.slice ah r.R.ts.length ch)/\W.cell? ⟨w.heap.size,2,none⟩=some (.slice ab r.bs.length cb) from ⟨(ak.bb.below hW).load,(hW.cell (p:=⟨w.heap.size,0,none⟩) (by show w.heap.size<_;omega)).trans c0,(hW.cell (p:=⟨w.heap.size,1,none⟩) (by show w.heap.size<_;omega)).trans c1,(hW.cell (p:=⟨w.heap.size,2,none⟩) (by show w.heap.size<_;omega)).trans c2⟩));have n9:=hide (λ (W:W8) (hW:Below wr.heap.size wr W)=>ak.sb.below hW);have Ja:∀ W:W8,(stBuild #[(0,.agg #[.string r.R.pd,.slice ah r.R.ts.length ch,.slice ab r.bs.length cb]),(1,bindV e),(2,thV (aB e (aO r)))]).run Tryz.prog W=.ok (stepV ⟨r,e,aB e (aO r)⟩) W:=λ W=>by
    have:=run_stBuild W r e (aB e (aO r));rw[ad qw,ad p6] at this;exact this
   have iB:=ak.bb;have ot:=ak.rb;have gw:=hide ak.kp;have tW:(aK.mk r e (aB e (aO r))).r.hv.oneCell'=true/\(aK.mk r e (aB e (aO r))).r.bv.oneCell'=true:=ad mZ;clear ak uX bj xq gL nC h4;generalize hSN:aK.mk r e (aB e (aO r))=SN at *;have Ii:=hide hSN
   have vg:=hide (λ (W:W8) (hW:Below wr.heap.size wr W) (cs:Array Value)=>(show (bLoad (.pointer (some ⟨w.heap.size+1+1,0,none⟩))).run Tryz.prog (W.setRow (w.heap.size+1) cs)=.ok (bindV e) (W.setRow (w.heap.size+1) cs)/\(W.setRow (w.heap.size+1) cs).cell? ⟨w.heap.size,0,none⟩=some (.string r.R.pd)/\(W.setRow (w.heap.size+1) cs).cell? ⟨w.heap.size,1,none⟩=some (.slice ah r.R.ts.length ch)/\(W.setRow (w.heap.size+1) cs).cell? ⟨w.heap.size,2,none⟩=some (.slice ab r.bs.length cb) from by
    obtain⟨-,q0,q1,q2⟩:=ad HA W hW
    exact⟨((iB.below hW).lA (by omega)).load,cell_far q0 (by omega),cell_far q1 (by omega),cell_far q2 (by omega)⟩))
   clear iB ot;generalize hTH:aB e (aO r)=TH at *;have xj:=hide hTH;clear hSN hTH;go_upto_region 12 with fail
   go_region_held3 (λ w'=>(bLoad (.pointer (some ⟨w.heap.size+1+1,0,none⟩))).run Tryz.prog w'=.ok (bindV e) w'/\w'.cell? ⟨w.heap.size,0,none⟩=some (.string r.R.pd)/\w'.cell? ⟨w.heap.size,1,none⟩=some (.slice ah r.R.ts.length ch)/\w'.cell? ⟨w.heap.size,2,none⟩=some (.slice ab r.bs.length cb)) (first | exact ad HA _ bY | exact ad HA _ B9.drew | exact ad vg _ bY _) ((go_at_call 146;refine (ad HF _ (by exact B9.drew)).mono ?_;rintro en w4 ⟨bQ,rfl⟩;have bY:Below wr.heap.size wr w4:=below_of_drew bQ;have uO:=(ad n9 w4 bY).store SN tW;have oD:=hide (setRow_heap _ _ _ (stepCells SN).toArray _ _ (ad n9 w4 bY))))
   all_goals
    go_wp2_with fail;refine bodyPost_ret (v:=.tuple #[stepV SN,.bool true]) (results_step Tryz.results222 _ _ _ SN rfl (ad oD)) rfl ?_;rw[ad HN];exact⟨below_setRow ((ad gw).trans (bY.mono (ad gw).size)) (by omega) _,by unfold takeS;simp only[];rw[ad xj,ad Ii];rfl⟩
end
end Go.Proofs.YtldkpahaocjdpaaGreat
