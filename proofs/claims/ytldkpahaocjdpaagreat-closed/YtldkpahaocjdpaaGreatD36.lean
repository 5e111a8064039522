/-
  take: a rule's positive literals matched with what is named for them.
-/
import Derived.Test.YtldkpahaocjdpaaGreatD33
set_option maxHeartbeats 16000000
set_option maxRecDepth 1000000
namespace Go.Proofs.YtldkpahaocjdpaaGreat
section
open Go.RowKit
attribute [local go_sem ↓] qR jO qP xQ vU xY xX xW zh5 zf3 zfy zfz zkf zd7
attribute [local go_sem] jC qB zd5 zso
def zj2 (r:PR)(o:Option zX):yL:=match o with | none=>zec | some e=>⟨r,e,zT e (vJ r)⟩
def z5i (w:W8)(r:PR)(o:Option zX)(en:Ending)(w':W8):Prop:=Below w.heap.size w w'/\en=.returned (.tuple #[zf7 (zj2 r o),.bool o.isSome])
variable {k:Nat} {e:zX} {S:List Th} {fr:List Nat} {cs:List yY}
theorem z71 (hk:k<cs.length)(hf:k<fr.length)(hx:S.length<=fr[k]):zdd (cs.drop k) (fr.drop k) S e=none:=by
 rw[List.drop_eq_getElem_cons hk,List.drop_eq_getElem_cons hf,zde];simp only;rw[List.getElem?_eq_none hx]
theorem z7z (hk:k<cs.length)(hf:k<fr.length)(hx:fr[k]<S.length):zdd (cs.drop k) (fr.drop k) S e=match zV e cs[k] S[fr[k]] with | none=>none | some e'=>zdd (cs.drop (k+1)) (fr.drop (k+1)) S e':=by
 rw[List.drop_eq_getElem_cons hk,List.drop_eq_getElem_cons hf,zde];simp only;rw[List.getElem?_eq_getElem hx];rfl
structure z9y (w:W8)(base:Nat)(r:PR)(fr:List Nat)(fv:Value)(st:List yL)(sv:Value):Prop where
 rule:bL w base r
 l3:r.bs.length<=3
 t4:∀ x∈r.bs,x.1.ts.length<=4
 h4:r.R.ts.length<=4
 K8:w.ownsRow 0 3 1 fv fr.length (cO fr)
 BX:fr.length=(zK r.bs).length
 steps:zoc w 0 sv st
structure nP (w:W8)(r:PR)(ap:O8)(cp:Nat)(e:zX)(wr:W8):Prop where
 kp:Below w.heap.size w wr
 rb:wr.heap[w.heap.size]?=some (.cells #[.string r.R.pd,r.hv,r.bv] 123 (0,0))
 sb:gO wr (w.heap.size+1) zec
 bb:BV wr (w.heap.size+1+1) e
 pr:wr.ownsRow (w.heap.size+1+1+1) 79 2 (.slice ap (zY false r.bs).length cp) (zY false r.bs).length ((zY false r.bs).flatMap zen)
theorem nP.below {w:W8}{r:PR}{ap:O8}{cp:Nat}{e:zX}{wr w':W8}(h:nP w r ap cp e wr)(k:Below wr.heap.size wr w'):nP w r ap cp e w':=
 have l:=h.bb.lt
 ⟨h.kp.trans (k.mono h.kp.size),(k.block _ (by omega)).trans h.rb,h.sb.below k,h.bb.below k,zG h.pr k (λ g e=>(h.pr.lt g e).2)⟩
variable {r:PR} {w:W8}
theorem nP.set {ap:O8}{cp:Nat}{wr:W8}(h:nP w r ap cp e wr)(e':zX):nP w r ap cp e' (wr.setRow (w.heap.size+1+1) (zW e').toArray):=
 ⟨z6 h.kp (by omega) _,(setRow_other _ _ _ _ (by omega)).trans h.rb,(setRow_other _ _ _ _ (by omega)).trans h.sb,setRow_heap _ _ _ _ _ _ h.bb,zP h.pr (λ g e=>setRow_other _ _ _ _ (by have:=(h.pr.lt g e).1;omega))⟩
theorem yaz {m:Nat}(h:m<fr.length):(cO fr)[m]?=some (.int .i64 (fr[m]:Nat)):=by unfold cO;rw[List.getElem?_map,List.getElem?_eq_getElem h];rfl
theorem bL.one {base:Nat}(h:bL w base r):r.hv.oneCell'=true/\r.bv.oneCell'=true:=by
 obtain⟨ah,ch,e1⟩:=zE h.hd;obtain⟨ab,cb,e2⟩:=zE h.bo.row;rw[e1,e2];exact⟨rfl,rfl⟩
theorem z21 (w:W8)(base:Nat)(r:PR)(fr:List Nat)(af:O8)(cf:Nat)(st:List yL)(sa:O8)(cs:Nat)(h:z9y w base r fr (.slice af fr.length cf) st (.slice sa st.length cs)):
  Calls Tryz.prog 222 #[.agg #[.string r.R.pd,r.hv,r.bv],.slice af fr.length cf,.slice sa st.length cs] w (z5i w r (zdd (zK r.bs) fr (st.map (·.t)) [])):=by
 obtain⟨ah,ch,fs⟩:=zE h.rule.hd;obtain⟨ab,cb,fi⟩:=zE h.rule.bo.row;have H:=zC h;have eR:=h.rule.one;have mZ:=zC eR;have dQ:=vV h.steps.row;unfold maxLen at dQ;have sr:=h.l3;rw[fs,fi];have qw:=zC fs;have p6:=zC fi;have dP:(zY false r.bs).length=(zK r.bs).length:=by unfold zK;rw[List.length_map]
 have JV:(zK r.bs).length<=3:=by have:=zhy r.bs;omega
 have wZ:=zC dP;clear h fs fi eR dP;go_enter Tryz.func222,Tryz.ntmps222;go_upto_region 2 with fail;generalize hw0:World.alloc (World.alloc (World.alloc w _) _) _=w0;have k0:Below w.heap.size w w0:=by
  rw[<-hw0];exact (((Below.refl w.heap.size w).alloc L9 _).alloc (by simp) _).alloc (by simp only[World.size_alloc];omega) _
 have x0:w0.heap[w.heap.size]?=some (.cells #[.string r.R.pd,r.hv,r.bv] 123 (0,0)):=by
  rw[<-hw0,Below.heap_alloc _ _ _ (by simp only[World.size_alloc];omega),Below.heap_alloc _ _ _ (by simp),zA qw,zA p6];exact heap_alloc_new w _
 have x1:gO w0 (w.heap.size+1) zec:=by
  unfold gO;rw[<-hw0,Below.heap_alloc _ _ _ (by simp)];have:=heap_alloc_new (w.alloc (.cells #[.string r.R.pd,.slice ah r.R.ts.length ch,.slice ab r.bs.length cb] 123)) (.cells (zM zec).toArray 352);rw[World.size_alloc] at this;exact this
 have x2:BV w0 (w.heap.size+1+1) []:=by
  unfold BV;rw[<-hw0];have:=heap_alloc_new ((w.alloc (.cells #[.string r.R.pd,.slice ah r.R.ts.length ch,.slice ab r.bs.length cb] 123)).alloc (.cells (zM zec).toArray 352)) (.cells (zW []).toArray 135);rw[World.size_alloc,World.size_alloc] at this;exact this
 have s0:w0.heap.size=w.heap.size+1+1+1:=by rw[<-hw0];simp
 clear hw0;have kP:=((zA H).rule.bo).below k0;rw[zA p6] at kP;have c0:=(zB x0 0).1;have c1:=(zB x0 1).1;have c2:=(zB x0 2).1;simp only[List.getElem?_toArray,List.getElem?_cons_zero,List.getElem?_cons_succ] at c0 c1 c2;rw[zA qw] at c1;rw[zA p6] at c2;have HP:=zC (za7 w0 base r.R.pd ah r.R.ts.length ch ab cb r.bs kP (by omega));have HX:=zC (And.intro x0 (And.intro x1 x2));have cq:=zC k0;have fH:=zC s0;clear x0 x1 x2 k0 s0 kP;go_upto_region 3 with (go_at_call 164;refine (zA HP).mono ?_;rintro en wP ⟨ap,cp,rfl,aO,kq,LZ⟩;have nZ:=zC aO;have oy:=zC kq;clear aO kq LZ);have h0:nP w r ap cp [] wP:=by
  obtain⟨x0,x1,x2⟩:=zA HX;have hB:=zA oy;have s0:=zA fH;have aO:=zA nZ;have hl:(zY false r.bs).length=(r.bs.filter (yW false)).length:=by unfold zY;rw[List.length_map]
  refine⟨(zA cq).trans (hB.mono (zA cq).size),(hB.block _ (by omega)).trans x0,x1.below hB,x2.below hB,?_⟩;rw[M6,hl];exact zI aO (by omega)
 have ik:(r.bs.filter (yW false)).length=(zK r.bs).length:=by rw[<-zA wZ];unfold zY;rw[List.length_map]
 rw[ik];have iI:=zC h0;clear h0 ik HP HX cq fH nZ oy c0 c1 c2
 go_loopg [16] (zK r.bs).length (λ gg i wr=>∃ (k:Nat) (e:zX),k<=(zK r.bs).length/\gg=(zK r.bs).length-k/\i=.int .i64 k/\nP w r ap cp e wr/\xN (zb5 r.bs) e/\zdd (zK r.bs) fr (st.map (·.t)) []=zdd ((zK r.bs).drop k) (fr.drop k) (st.map (·.t)) e)
 exact⟨0,[],Nat.zero_le _,rfl,rfl,zA iI,xN.nil _,rfl⟩
 case round=>
  clear iI;obtain⟨k,e,hk,fM,rfl,ak,uX,bj⟩:=hrel;have bt:=zC ak;have xq:=zC uX;have gL:=zC bj;have lK:w.heap.size+1+1<wr.heap.size:=ak.bb.lt
  by_cases aN:k<(zK r.bs).length
  ·have du:k<(zY false r.bs).length:=(by rw[zA wZ];exact aN);have om:k<fr.length:=(by rw[(zA H).BX];exact aN);obtain⟨gp,IK,hv,iC,dp,dG,dx,hc⟩:=vL zhf ak.pr k du;injection hv with i1 i2 i3
   subst i1 i3;have hx:(zY false r.bs)[k]∈zY false r.bs:=List.getElem_mem du;obtain⟨y,hy,km⟩:=zc1 hx;obtain⟨AT,nu⟩:∃ AT,AT=(zK r.bs)[k]:=⟨_,rfl⟩;have B0:AT=(zY false r.bs)[k].1:=(by rw[nu];simp[zK]);have gl:=((zA H).rule.bo.each y hy);obtain⟨ta,tc,ji⟩:=zE gl;have jk:AT=(zhp y).1:=(by rw[B0,km]);have gE:AT.ts.length<=4:=(by rw[jk];exact (zA H).t4 y hy);have e0:wr.cell? ⟨gp,k*2,none⟩=some (.string AT.p):=(by have:=hc 0 (by omega);rw[B0];exact this);have e1:wr.cell? ⟨gp,k*2+1,none⟩=some (.slice ta AT.ts.length tc):=by
    have:=hc 1 (by omega);rw[km] at this;rw[jk];exact this.trans (by show some y.2=_;rw[ji];rfl)
   have ia:w.ownsRow base 191 1 (.slice ta AT.ts.length tc) AT.ts.length (AT.ts.map zaz):=by
    rw[jk];rw[ji] at gl;exact gl
   have Di:=zG (zA H).K8 ak.kp (λ g e=>((zA H).K8.lt g e).2);obtain⟨gf,cf',AH,-,hnf,Cu,uh⟩:=z7l Di (by omega);injection AH with i1 i2 i3
   subst i1 i3;have CB:gf<wr.heap.size:=(Di.lt gf rfl).2;have xc:wr.cell? ⟨gf,k,none⟩=some (.int .i64 (fr[k]:Nat)):=(by rw[uh k om,yaz om]);have Jy:(k:Int)<fr.length:=(by omega);have gW:(k:Int)<(zK r.bs).length:=(by omega);have wJ:=zC nu;have mG:(zY false r.bs).length<=3:=(by rw[zA wZ];exact JV);clear ak uX bj hc km B0 jk gl ji nu;obtain⟨fx,sk⟩:∃ fx,fx=fr[k]:=⟨_,rfl⟩;rw[<-sk] at xc;go_upto_region 5 with fail;generalize hw3:World.alloc wr _=w3;have k3:Below wr.heap.size wr w3:=(by rw[<-hw3];exact B9.alloc L9 _);have y3:w3.heap[wr.heap.size]?=some (.cells #[.string AT.p,.slice ta AT.ts.length tc] 79 (0,0)):=(by rw[<-hw3];exact heap_alloc_new wr _);have s3:wr.heap.size<w3.heap.size:=(by rw[<-hw3];simp);clear hw3;have LF:=(zA bt).below k3;have GR:w3.cell? ⟨gf,k,none⟩=some (.int .i64 (fx:Nat)):=(k3.cell (p:=⟨gf,k,none⟩) CB).trans xc;have a0:=(zB y3 0).1;have a1:=(zB y3 1).1;simp only[List.getElem?_toArray,List.getElem?_cons_zero,List.getElem?_cons_succ] at a0 a1;have kx:=zC LF;have KZ:=zC y3;clear xc e0 e1 LF
   by_cases uk:fx<st.length
   ·have Jh:(fx:Int)<st.length:=(by omega);have Gb:=zG (zA H).steps.row (zA kx).kp (λ g e=>((zA H).steps.row.lt g e).2);obtain⟨g5,c5,Kd,-,JC,hn5,kJ,yq⟩:=zut Gb uk;injection Kd with i1 i2 i3
    subst i1 i3;have t5:∀ W,Below w3.heap.size w3 W->(zej (.pointer (some ⟨g5,fx*33+28,none⟩))).run Tryz.prog W=.ok (thV st[fx].t) W:=λ W hW=>zsq (λ j hj=>(hW.cell (p:=⟨g5,fx*33+j,none⟩) JC).trans (yq j hj))
    obtain⟨R,hR⟩:∃ R,R=zV e AT st[fx].t:=⟨_,rfl⟩;have ji:∀ t∈AT.ts,t.1=true->t.2∈zb5 r.bs:=λ t ht _=>zd2 (x:=AT) (by rw[zA wJ];exact List.getElem_mem aN) ht
    have Cj:(zb5 r.bs).length<=12:=zd1 (zA H).l3 (zA H).t4;have HM:=zC (λ (W:W8) (hW:Below w3.heap.size w3 W)=>zfs W base e AT ta tc st[fx].t (zG ia ((zA kx).kp.trans (hW.mono (zA kx).kp.size)) (λ g e1=>(ia.lt g e1).2)) gE (zb5 r.bs) Cj (zA xq) ji);rw[<-hR] at HM;have HR:=zC hR;have zq:=z7z (cs:=zK r.bs) (fr:=fr) (S:=st.map (·.t)) (e:=e) aN om (by rw[<-sk,List.length_map];exact uk)
    have iw:=zC (show zdd (zK r.bs) fr (st.map (·.t)) []=match (generalizing:=false) R with | none=>none | some e'=>zdd ((zK r.bs).drop (k+1)) (fr.drop (k+1)) (st.map (·.t)) e' by
     rw[zA gL,zq,hR,zA wJ]
     simp only[List.getElem_map,<-sk])
    have BL:=zC (λ (e':zX) (h:R=some e')=>(zA xq).matched ji (by rw[<-hR];exact h));generalize hTH:st[fx].t=TH at *;clear hR zq ji Gb yq sk gL;have b3:=(zA kx).bb;have b3l:=b3.lt;have HA:=zC (λ (W:W8) (hW:Below w3.heap.size w3 W)=>(show (zgp (.pointer (some ⟨w.heap.size+1+1,0,none⟩))).run Tryz.prog W=.ok (jD e) W/\W.cell? ⟨wr.heap.size,0,none⟩=some (.string AT.p)/\W.cell? ⟨wr.heap.size,1,none⟩=some (.slice ta AT.ts.length tc)/\W.cell? ⟨gf,k,none⟩=some (.int .i64 (fx:Nat))/\(zej (.pointer (some ⟨g5,fx*33+28,none⟩))).run Tryz.prog W=.ok (thV TH) W from ⟨(b3.below hW).load,(hW.cell (p:=⟨wr.heap.size,0,none⟩) (by show wr.heap.size<_;omega)).trans a0,(hW.cell (p:=⟨wr.heap.size,1,none⟩) (by show wr.heap.size<_;omega)).trans a1,(hW.cell (p:=⟨gf,k,none⟩) (by show gf<_;omega)).trans GR,t5 W hW⟩));have CO:=b3.load;have t53:=t5 w3 B9;clear b3 t5;go_upto_region 7 with fail
    go_cut [11,12] from 17 to 47 (λ p c wc=>∃ nb,p=.pointer (some ⟨nb,0,none⟩)/\c=.bool R.isSome/\BV wc nb (R.getD [])/\Below w3.heap.size w3 wc)
    case first=>
     go_region_held3 (λ w'=>(zgp (.pointer (some ⟨w.heap.size+1+1,0,none⟩))).run Tryz.prog w'=.ok (jD e) w'/\w'.cell? ⟨wr.heap.size,0,none⟩=some (.string AT.p)/\w'.cell? ⟨wr.heap.size,1,none⟩=some (.slice ta AT.ts.length tc)/\w'.cell? ⟨gf,k,none⟩=some (.int .i64 (fx:Nat))/\(zej (.pointer (some ⟨g5,fx*33+28,none⟩))).run Tryz.prog w'=.ok (thV TH) w') ((refine zA HA _ ?_;first | exact bY | exact B9.drew | exact (B9.alloc L9 _).drew | exact bY.alloc bY.size _ | exact z6 bY L9 _)) ((go_at_call 62;refine (zA HM _ (by first | exact B9.drew | exact (B9.alloc L9 _).drew)).mono ?_;rintro en w4 ⟨bQ,rfl⟩;have bY:Below w3.heap.size w3 w4:=(by first | exact zL bQ | exact zbp (B9.alloc L9 _) bQ);first | (have uO:=((BV.new w3 []).below (zL bQ)).store (R.getD [])) | skip))
     all_goals
      go_wp2_with fail;go_meet
      case rel=>first | exact⟨_,rfl,rfl,BV.new _ _,bY.alloc bY.size _⟩ | exact⟨_,rfl,rfl,setRow_heap _ _ _ _ _ _ ((BV.new w3 []).below (zL bQ)),z6 bY L9 _⟩
    case rest=>
     generalize wc=wA at *;obtain⟨nb,rfl,rfl,kf,fu⟩:=hcut;have di:=(zA kx).below fu;have qx:=zC di;clear HA HM CO t53 a0 a1 GR KZ
     cases hRR:R with
     | none=>
      rw[hRR] at iw;have zr:=di.sb.store zec ⟨rfl,rfl⟩;have fY:=setRow_heap _ _ _ (zM zec).toArray _ _ di.sb;have oD:=zC fY;clear di kf fu hRR fY;go_wp2_with fail;refine bodyPost_ret (v:=.tuple #[zf7 zec,.bool false]) (zfd Tryz.results222 _ _ _ zec rfl (zA oD)) rfl ?_;rw[zA iw];exact⟨z6 (zA qx).kp (by omega) _,rfl⟩
     | some e2=>
      rw[hRR] at iw kf;have pg:=kf.load;have zr:=di.bb.store e2;have Ip:=zC (zA BL e2 hRR);have Bz:=zC (di.set e2);clear di kf fu hRR;simp only[Option.getD_some] at pg;go_wp2_with fail;go_roundg ((zK r.bs).length-(k+1));exact⟨k+1,e2,by omega,rfl,by go_num,zA Bz,zA Ip,zA iw⟩;omega
   ·have Jh:¬ (fx:Int)<st.length:=(by omega);have Ji:(st.length:Int)<=fx:=by omega
    have HN:=zC (show zdd (zK r.bs) fr (st.map (·.t)) []=none by
     rw[zA gL]
     exact z71 aN om (by rw[<-sk,List.length_map];omega))
    have zr:=(zA kx).sb.store zec ⟨rfl,rfl⟩;have oD:=zC (setRow_heap _ _ _ (zM zec).toArray _ _ (zA kx).sb);go_wp2_with fail;refine bodyPost_ret (v:=.tuple #[zf7 zec,.bool false]) (zfd Tryz.results222 _ _ _ zec rfl (zA oD)) rfl ?_;rw[zA HN];exact⟨z6 (zA kx).kp (by omega) _,rfl⟩
  ·have hkE:k=(zK r.bs).length:=by omega
   have HN:=zC (show zdd (zK r.bs) fr (st.map (·.t)) []=some e by
    rw[bj,List.drop_of_length_le (by omega)]
    rfl)
   have nC:w.ownsRow base 191 1 (.slice ah (vJ r).ts.length ch) (vJ r).ts.length ((vJ r).ts.map zaz):=by
    have:=(zA H).rule.hd;rw[zA qw] at this;exact this
   have uA:e.length<=12:=(by have:=uX.len;have:=zd1 (zA H).l3 (zA H).t4;omega);have h4:=(zA H).h4;have HF:=zC (λ (W:W8) (hW:Below wr.heap.size wr W)=>zc8 W base e (vJ r) ah ch (zG nC (ak.kp.trans (hW.mono ak.kp.size)) (λ g e1=>(nC.lt g e1).2)) h4 uA);have c0:=(zB ak.rb 0).1;have c1:=(zB ak.rb 1).1;have c2:=(zB ak.rb 2).1;simp only[List.getElem?_toArray,List.getElem?_cons_zero,List.getElem?_cons_succ] at c0 c1 c2;rw[zA qw] at c1;rw[zA p6] at c2;have oo:=ak.bb.load;have HA:=zC (λ (W:W8) (hW:Below wr.heap.size wr W)=>(show (zgp (.pointer (some ⟨w.heap.size+1+1,0,none⟩))).run Tryz.prog W=.ok (jD e) W/\W.cell? ⟨w.heap.size,0,none⟩=some (.string r.R.pd)/\W.cell? ⟨w.heap.size,1,none⟩=some (.slice ah r.R.ts.length ch)/\W.cell? ⟨w.heap.size,2,none⟩=some (.slice ab r.bs.length cb) from ⟨(ak.bb.below hW).load,(hW.cell (p:=⟨w.heap.size,0,none⟩) (by show w.heap.size<_;omega)).trans c0,(hW.cell (p:=⟨w.heap.size,1,none⟩) (by show w.heap.size<_;omega)).trans c1,(hW.cell (p:=⟨w.heap.size,2,none⟩) (by show w.heap.size<_;omega)).trans c2⟩));have n9:=zC (λ (W:W8) (hW:Below wr.heap.size wr W)=>ak.sb.below hW);have Ja:∀ W:W8,(zi7 #[(0,.agg #[.string r.R.pd,.slice ah r.R.ts.length ch,.slice ab r.bs.length cb]),(1,jD e),(2,thV (zT e (vJ r)))]).run Tryz.prog W=.ok (zf7 ⟨r,e,zT e (vJ r)⟩) W:=λ W=>by
    have:=zun W r e (zT e (vJ r));rw[zA qw,zA p6] at this;exact this
   have iB:=ak.bb;have ot:=ak.rb;have gw:=zC ak.kp;have tW:(yL.mk r e (zT e (vJ r))).r.hv.oneCell'=true/\(yL.mk r e (zT e (vJ r))).r.bv.oneCell'=true:=zA mZ;clear ak uX bj xq gL nC h4;generalize hSN:yL.mk r e (zT e (vJ r))=SN at *;have Ii:=zC hSN
   have vg:=zC (λ (W:W8) (hW:Below wr.heap.size wr W) (cs:Array Value)=>(show (zgp (.pointer (some ⟨w.heap.size+1+1,0,none⟩))).run Tryz.prog (W.setRow (w.heap.size+1) cs)=.ok (jD e) (W.setRow (w.heap.size+1) cs)/\(W.setRow (w.heap.size+1) cs).cell? ⟨w.heap.size,0,none⟩=some (.string r.R.pd)/\(W.setRow (w.heap.size+1) cs).cell? ⟨w.heap.size,1,none⟩=some (.slice ah r.R.ts.length ch)/\(W.setRow (w.heap.size+1) cs).cell? ⟨w.heap.size,2,none⟩=some (.slice ab r.bs.length cb) from by
    obtain⟨-,q0,q1,q2⟩:=zA HA W hW
    exact⟨((iB.below hW).lA (by omega)).load,zoi q0 (by omega),zoi q1 (by omega),zoi q2 (by omega)⟩))
   clear iB ot;generalize hTH:zT e (vJ r)=TH at *;have xj:=zC hTH;clear hSN hTH;go_upto_region 12 with fail
   go_region_held3 (λ w'=>(zgp (.pointer (some ⟨w.heap.size+1+1,0,none⟩))).run Tryz.prog w'=.ok (jD e) w'/\w'.cell? ⟨w.heap.size,0,none⟩=some (.string r.R.pd)/\w'.cell? ⟨w.heap.size,1,none⟩=some (.slice ah r.R.ts.length ch)/\w'.cell? ⟨w.heap.size,2,none⟩=some (.slice ab r.bs.length cb)) (first | exact zA HA _ bY | exact zA HA _ B9.drew | exact zA vg _ bY _) ((go_at_call 146;refine (zA HF _ (by exact B9.drew)).mono ?_;rintro en w4 ⟨bQ,rfl⟩;have bY:Below wr.heap.size wr w4:=zL bQ;have uO:=(zA n9 w4 bY).store SN tW;have oD:=zC (setRow_heap _ _ _ (zM SN).toArray _ _ (zA n9 w4 bY))))
   all_goals
    go_wp2_with fail;refine bodyPost_ret (v:=.tuple #[zf7 SN,.bool true]) (zfd Tryz.results222 _ _ _ SN rfl (zA oD)) rfl ?_;rw[zA HN];exact⟨z6 ((zA gw).trans (bY.mono (zA gw).size)) (by omega) _,by unfold zj2;simp only[];rw[zA xj,zA Ii];rfl⟩
end
end Go.Proofs.YtldkpahaocjdpaaGreat
