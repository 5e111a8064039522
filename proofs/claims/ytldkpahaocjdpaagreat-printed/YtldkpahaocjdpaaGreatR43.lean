/-
  denies: the negative literals of the steps.
-/
import Derived.Test.YtldkpahaocjdpaaGreatR36
set_option maxHeartbeats 16000000
set_option maxRecDepth 1000000
namespace Go.Proofs.YtldkpahaocjdpaaGreat
section
open Go.RowKit Go.Maps Go.ChangeMaps Go.WideMaps
attribute [local go_sem ↓] qP jN qN xU vS vA xZ xY zik zgc zga zgb zkt zee
attribute [local go_sem] zec
theorem qQ.lr {w:W8}{b n:Nat}{V:B8->Option Value}(h:qQ Tryz.prog 9 w b n V){key:B8}(du:key.size<=maxLen):(Instr.lookup 73 (.map (some b)) (.string key) false).run Tryz.prog w=.ok ((V key).getD (.agg #[.string { data:=#[] },.int .i64 0,.int .i64 0])) w:=by
 obtain⟨D,hD,h3⟩:=h;obtain⟨v,ps,fC,hv⟩:=hD.lookup (string_keyed Tryz.underlying9) Tryz.underlying73 (Tryz.zeroValue185 _) (zd:=.held (.agg #[.string { data:=#[] },.int .i64 0,.int .i64 0])) (zp:=[]) rfl (keyOf_string_mk Tryz.underlying9 du);have h1:=((h3 key).2 _).symm.trans (zdx hv);have h2:(V key).getD (.agg #[.string { data:=#[] },.int .i64 0,.int .i64 0])=v:=DataW.held.inj h1;rw[h2];exact fC
structure yay (w:W8)(base mb tb n:Nat)(ps:P9)(Sp:B8->Nat)(st:List yM)(sv:Value):Prop where
 steps:zpz w 0 sv st
 ft:st.length<=50
 rule:∀ s∈st,bu w base s.r
 l3:∀ s∈st,s.r.bs.length<=3
 t4:∀ s∈st,∀ x∈s.r.bs,x.1.ts.length<=4
 len:∀ s∈st,s.e.length<=12
 neg:∀ s∈st,∀ a∈vV s.r.bs,zbk (zZ s.e a)/\a.p.size<=800/\(zV ps a.p).isSome=true
 m:vW w mb (j9 st)
 t:qQ Tryz.prog 9 w tb n (stV ps Sp)
def zwq (w:W8)(P:Prop)(e:Ending)(w':W8):Prop:=Below w.heap.size w w'/\∃ c:Bool,e=.returned (.bool c)/\(c=true↔P)
def ya4 (Sp:B8->Nat)(K:Nat)(st:List yM)(s:yM)(a:xG):Prop:=zZ s.e a∉st.map (·.t)/\Sp a.p<K
theorem zy9 (w:W8)(base mb tb n K:Nat)(nv:Value)(ps:P9)(Sp:B8->Nat)(st:List yM)(a:O8)(c:Nat)(h:yay w base mb tb n ps Sp st (.slice a st.length c))(an:O8)(nn cn:Nat)(env:nv=.slice an nn cn):
  Calls Tryz.prog 180 #[.agg #[.int .i64 (K:Nat),nv],.slice a st.length c,.map (some mb),.map (some tb)] w (zwq w (zyr Sp K st)):=by
 subst env;have hm:=vK h.steps.row;unfold maxLen at hm;have H:=zC h;have fZ:=h.t.lt;have ed:=h.m.lt;clear h;have uk:=zht;go_enter Tryz.func180,Tryz.ntmps180;go_upto_region 1 with fail;have bS:Below w.heap.size w (w.alloc (.cells #[.int .i64 (K:Nat),.slice an nn cn] 93)):=B9.alloc L9 _;have mA:=heap_alloc_new w (.cells #[.int .i64 (K:Nat),.slice an nn cn] 93);generalize (w.alloc (.cells #[.int .i64 (K:Nat),.slice an nn cn] 93))=w0 at *;have iI:=zC (And.intro bS mA);clear bS mA;go_wp2_with fail
 go_loopg [17] st.length (λ gg ii wr=>∃ k:Nat,k<=st.length/\gg=st.length-k/\ii=.int .i64 k/\Below w.heap.size w wr/\wr.heap[w.heap.size]?=some (.cells #[.int .i64 (K:Nat),.slice an nn cn] 93 (0,0))/\∀ s∈st.take k,∀ x∈vV s.r.bs,ya4 Sp K st s x)
 exact⟨0,Nat.zero_le _,rfl,rfl,(zA iI).1,(zA iI).2,by simp⟩
 case round=>
  clear iI;obtain⟨k,hk,fM,rfl,cV,da,bh⟩:=hrel;have gw:=zC cV;have tj:=zC da;have dv:=zC bh;have lK:=(Array.getElem?_eq_some_iff.1 da).1
  by_cases aN:k<st.length
  ·have gW:(k:Int)<st.length:=(by omega);have aE:=zG (zA H).steps.row cV (λ g e=>((zA H).steps.row.lt g e).2);obtain⟨g,cap,hv,-,dp,dG,dx,hc⟩:=zwb aE aN;injection hv with h1 h2 h3
   subst h1 h3;have bC:=List.getElem_mem aN;have gC:=(zA H).rule _ bC;have tW:=gC.one;have qi:=zpi hc;have fU:=zC (show st.take (k+1)=st.take k++[st[k]] from List.take_succ_eq_append_getElem aN);have sM:=λ (W:W8) (s:yM)=>zhb W s st[k] tW
   have sr:=(zA H).l3 _ bC;have zt:=(zA H).t4 _ bC;have hlen:=(zA H).len _ bC;have eH:=(zA H).neg _ bC;obtain⟨ah,ch,fs⟩:=zE gC.hd;obtain⟨ab,cb,fi⟩:=zE gC.bo.row;have eL:=gC.bo;rw[fi] at eL;have rG:=zC eL;have lk:=gO.new wr st[k];have iR:=zC bC;have BF:=zC zt;have Bi:=zC eH;have kA:=(Below.refl wr.heap.size wr).alloc L9 (.cells (zO st[k]).toArray 352);generalize hS:st[k]=s at *;clear hc aE bC gC zt eH eL bh da cV;go_upto_region 4 with fail;generalize bq:World.alloc wr _=w1 at *;have c0:=(zB lk 0).1;have c1:=(zB lk 1).1;have c2:=(zB lk 2).1;simp only[zO,PR.cells,List.getElem?_toArray,List.cons_append,List.nil_append,List.getElem?_cons_zero,List.getElem?_cons_succ] at c0 c1 c2;rw[fs] at c1;rw[fi] at c2;have Gv:Below w.heap.size w w1:=(zA gw).trans (kA.mono (zA gw).size);have Ei:=zC (zj3 w1 base s.r.R.pd ah s.r.R.ts.length ch ab cb s.r.bs ((zA rG).below Gv) (by omega));have Ev:=zC lk;have eS:=zC kA;have s1:wr.heap.size<w1.heap.size:=lk.lt;clear bq lk kA Gv qi sM;go_upto_region 5 with (go_at_call 223;refine (zA Ei).mono ?_;rintro en wP ⟨ap,cp,rfl,bE,kI,Mr⟩;have nZ:=zC bE;have oy:=zC kI;clear bE kI Mr);clear c0 c1 c2 Ei;have ik:(s.r.bs.filter (xA true)).length=(zW true s.r.bs).length:=(by unfold zW;rw[List.length_map]);have lI:(zW true s.r.bs).length<=3:=by
    rw[<-ik];exact Nat.le_trans (List.length_filter_le _ _) sr
   have N6:wP.ownsRow 0 79 2 (.slice ap (zW true s.r.bs).length cp) (zW true s.r.bs).length ((zW true s.r.bs).flatMap zew):=by
    have:=zA nZ;rw[ik,<-NI] at this;exact zI this (Nat.zero_le _)
   have Gx:Below w.heap.size w wP:=(zA gw).trans (((zA eS).trans ((zA oy).mono (zA eS).size)).mono (zA gw).size);have Fl:wP.heap[w.heap.size]?=some (.cells #[.int .i64 (K:Nat),.slice an nn cn] 93 (0,0)):=(((zA eS).trans ((zA oy).mono (zA eS).size)).block _ lK).trans (zA tj);have F6:gO wP wr.heap.size s:=(zA Ev).below (zA oy);have Ac:=zC N6;have wR:=zC Gx;have wo:=zC Fl;have BC:=zC F6;rw[ik];generalize wr.heap.size=iy at *;clear ik nZ oy Ev eS gw tj N6 Gx Fl F6 s1
   go_loopg [25] (zW true s.r.bs).length (λ gg ii wq=>∃ j:Nat,j<=(zW true s.r.bs).length/\gg=(zW true s.r.bs).length-j/\ii=.int .i64 j/\Below wP.heap.size wP wq/\∀ x∈(zW true s.r.bs).take j,ya4 Sp K st s x.1)
   exact⟨0,Nat.zero_le _,rfl,rfl,Below.refl _ _,by simp⟩
   case round=>
    obtain⟨j,hj,uo,rfl,uy,mz⟩:=hrel;have vs:=zC uy;have GY:=zC mz;have CM:Below w.heap.size w wr:=(zA wR).trans (uy.mono (zA wR).size);have MS:=zC CM;have oV:=(uy.block _ (Array.getElem?_eq_some_iff.1 (zA wo)).1).trans (zA wo)
    by_cases hlj:j<(zW true s.r.bs).length
    ·have KP:(j:Int)<(zW true s.r.bs).length:=(by omega);have aE:=zG (zA Ac) uy (λ g e=>((zA Ac).lt g e).2);obtain⟨gp,IK,hv,-,Jo,JQ,yr,hc⟩:=vE zhn aE j hlj;injection hv with h1 h2 h3
     subst h1 h3;have hx:=List.getElem_mem hlj;obtain⟨y,hy,km⟩:=zdb hx;obtain⟨AT,nu⟩:∃ AT,AT=(zW true s.r.bs)[j].1:=⟨_,rfl⟩;have B2:AT∈vV s.r.bs:=(by rw[nu];exact List.mem_map_of_mem hx);have gl:=(zA rG).each y hy;obtain⟨ta,tc,ji⟩:=zE gl;have kG:AT=(zhy y).1:=(by rw[nu,km]);have gE:AT.ts.length<=4:=(by rw[kG];exact zA BF y hy);have e0:wr.cell? ⟨gp,j*2,none⟩=some (.string AT.p):=(by have:=hc 0 (by omega);rw[nu];exact this);have e1:wr.cell? ⟨gp,j*2+1,none⟩=some (.slice ta AT.ts.length tc):=by
      have:=hc 1 (by omega);rw[km] at this;rw[kG];exact this.trans (by show some y.2=_;rw[ji];rfl)
     have ia:w.ownsRow base 191 1 (.slice ta AT.ts.length tc) AT.ts.length (AT.ts.map zaz):=by
      rw[kG];rw[ji] at gl;exact gl
     obtain⟨bX,mJ,gj⟩:=zA Bi AT B2;have du:AT.p.size<=maxLen:=(by unfold maxLen;omega);obtain⟨m,eG⟩:=Option.isSome_iff_exists.1 gj;have hu:(stV ps Sp AT.p).getD (.agg #[.string { data:=#[] },.int .i64 0,.int .i64 0])=.agg #[.string AT.p,.int .i64 (Sp AT.p),.int .i64 m]:=(by unfold stV;rw[eG];rfl);have BH:=zC (show (zW true s.r.bs).take (j+1)=(zW true s.r.bs).take j++[(zW true s.r.bs)[j]] from List.take_succ_eq_append_getElem hlj);have Ll:=zC nu;have D1:=zC B2;have kA:=(Below.refl wr.heap.size wr).alloc L9 (.cells #[.string AT.p,.slice ta AT.ts.length tc] 79);have dJ:=heap_alloc_new wr (.cells #[.string AT.p,.slice ta AT.ts.length tc] 79);have uN:=(zA BC).below uy;clear hc hx km nu B2 gl ji kG gj eG aE mz CM h2;go_upto_region 7 with fail;generalize kj:World.alloc wr _=w2 at *;have F7:=(uN.below kA).bound;have a0:=(zB dJ 0).1;have a1:=(zB dJ 1).1;simp only[List.getElem?_toArray,List.getElem?_cons_zero,List.getElem?_cons_succ] at a0 a1;have cH:Below w.heap.size w w2:=(zA MS).trans (kA.mono (zA MS).size);have wI:=zC (zdg w2 base s.e AT ta tc (zG ia cH (λ g e1=>(ia.lt g e1).2)) gE hlen);have eW:=(kA.block _ (Array.getElem?_eq_some_iff.1 oV).1).trans oV;have Ey:=zC (And.intro cH (And.intro dJ eW));have Db:wr.heap.size<w2.heap.size:=(Array.getElem?_eq_some_iff.1 dJ).1
     have iT:=zC (λ (W:W8) (hW:Below w2.heap.size w2 W)=>(show vW W mb (j9 st)/\qQ Tryz.prog 9 W tb n (stV ps Sp)/\W.cell? ⟨wr.heap.size,0,none⟩=some (.string AT.p)/\W.cell? ⟨w.heap.size,0,none⟩=some (.int .i64 (K:Nat))/\Below w.heap.size w W/\Below wP.heap.size wP W from by
      have kW:=cH.trans (hW.mono cH.size);refine⟨(zA H).m.block (kW.block mb ed),(zA H).t.block (kW.block tb fZ),(hW.cell (p:=⟨wr.heap.size,0,none⟩) Db).trans a0,?_,kW,(zA vs).trans ((kA.trans (hW.mono kA.size)).mono (zA vs).size)⟩;have:=(zB eW 0).1
      exact (hW.cell (p:=⟨w.heap.size,0,none⟩) (Array.getElem?_eq_some_iff.1 eW).1).trans this))
     generalize hPF:zZ s.e AT=TH at *;have El:=zC hPF;clear kj dJ uN cH kA e0 e1 ia eW oV uy
     cases fN:zU (j9 st) TH with
     | some m1=>
      have mX:=zC (show ¬ zyr Sp K st from λ hd=>by
       have h5:=(hd s (zA iR) AT (zA D1)).1;rw[zA El] at h5;refine h5 ?_;rw[<-jC]
       exact yO.1 (by rw[fN];rfl))
      have iJ:=zC fN;clear fN;go_wp2_with (first | (go_at_call 146;refine (zA wI).mono ?_;rintro en w4 ⟨bQ,rfl⟩;obtain⟨m4,t4,x4,y4,k4,q4⟩:=zA iT w4 bQ;have sW:=t4.lr du;rw[hu] at sW;have oz:=zC k4;clear bQ k4 q4) | (at_lookup;refine zbo _ rfl _ _ 82 rfl Tryz.underlying82 mb (j9 st) rfl m4 TH rfl bX _ rfl true (by rw[zA iJ];rfl) ?_));go_ret;exact⟨zA oz,false,rfl,⟨λ h=>by (cases h),λ h=>absurd h (zA mX)⟩⟩
     | none=>
      have iJ:=zC fN
      have Hv:=zC (show TH∉st.map (·.t) from λ h5=>by
       rw[<-jC] at h5;have:=yO.2 h5;rw[fN] at this
       cases this)
      clear fN
      by_cases hSK:Sp AT.p<K
      ·have I3:¬ ((K:Int)<=Sp AT.p):=(by omega);have cM:decide ((K:Int)<=Sp AT.p)=false:=(by simp;omega);go_wp2_with (first | (go_at_call 146;refine (zA wI).mono ?_;rintro en w4 ⟨bQ,rfl⟩;obtain⟨m4,t4,x4,y4,k4,q4⟩:=zA iT w4 bQ;have sW:=t4.lr du;rw[hu] at sW;have oz:=zC q4;clear bQ k4 q4) | (at_lookup;refine zbo _ rfl _ _ 82 rfl Tryz.underlying82 mb (j9 st) rfl m4 TH rfl bX _ rfl false (by rw[zA iJ];rfl) ?_));go_roundg ((zW true s.r.bs).length-(j+1))
       case measure=>omega
       case rel=>
        refine⟨j+1,by omega,rfl,by go_num,zA oz,λ x hx=>?_⟩;rw[zA BH] at hx;rcases List.mem_append.1 hx with hx | hx
        ·exact zA GY x hx
        ·rw[List.mem_singleton.1 hx];refine⟨?_,?_⟩
         ·rw[<-zA Ll,zA El];exact zA Hv
         ·rw[<-zA Ll];exact hSK
      ·have I3:(K:Int)<=Sp AT.p:=(by omega);have cM:decide ((K:Int)<=Sp AT.p)=true:=(by simp;omega);have mX:=zC (show ¬ zyr Sp K st from λ hd=>hSK (hd s (zA iR) AT (zA D1)).2);go_wp2_with (first | (go_at_call 146;refine (zA wI).mono ?_;rintro en w4 ⟨bQ,rfl⟩;obtain⟨m4,t4,x4,y4,k4,q4⟩:=zA iT w4 bQ;have sW:=t4.lr du;rw[hu] at sW;have oz:=zC k4;clear bQ k4 q4) | (at_lookup;refine zbo _ rfl _ _ 82 rfl Tryz.underlying82 mb (j9 st) rfl m4 TH rfl bX _ rfl false (by rw[zA iJ];rfl) ?_));go_ret;exact⟨zA oz,false,rfl,⟨λ h=>by (cases h),λ h=>absurd h (zA mX)⟩⟩
    ·have KP:¬ (j:Int)<(zW true s.r.bs).length:=by omega
     have HD:=zC (show ∀ x∈vV s.r.bs,ya4 Sp K st s x from λ x hx=>by
      obtain⟨y,hy,rfl⟩:=List.mem_map.1 hx
      exact mz y (by rw[List.take_of_length_le (by omega)];exact hy))
     have MQ:=zC oV;clear mz CM uy oV;go_wp2_with fail;go_roundg (st.length-(k+1))
     case measure=>omega
     case rel=>
      refine⟨k+1,by omega,rfl,by go_num,zA MS,zA MQ,λ x hx=>?_⟩;rw[zA fU] at hx;rcases List.mem_append.1 hx with hx | hx
      ·exact zA dv x hx
      ·rw[List.mem_singleton.1 hx];exact zA HD
  ·have gW:¬ (k:Int)<st.length:=(by omega);have lX:st.take k=st:=List.take_of_length_le (by omega);rw[lX] at dv;clear bh da cV lX;go_wp2_with fail;go_ret;exact⟨zA gw,true,rfl,⟨λ _=>zA dv,λ _=>rfl⟩⟩
end
section
open Go.RowKit Go.Maps
def yax (Sp:B8->Nat)(k:Nat)(rs:List PR)(K:List (Th × Nat)):Prop:=∀ r∈rs,Sp r.R.pd<k->zit K r
theorem zy2 (w:W8)(base mb tb n k:Nat)(an:O8)(nn cn:Nat)(ps:P9)(Sp:B8->Nat)(ar:O8)(cr:Nat)(rs:List PR)(K:List (Th × Nat))(hr:aD w base (.slice ar rs.length cr) rs)(hm:vW w mb K)(ht:qQ Tryz.prog 9 w tb n (stV ps Sp))(bX:∀ r∈rs,zwv K r)(eN:∀ r∈rs,r.R.pd.size<=800/\(zV ps r.R.pd).isSome=true):
  Calls Tryz.prog 181 #[.agg #[.int .i64 (k:Nat),.slice an nn cn],.slice ar rs.length cr,.map (some mb),.map (some tb)] w (zwq w (yax Sp k rs K)):=by
 have mG:=vK hr.row;unfold maxLen at mG;have HR:=zC hr;have HM:=zC hm;have HT:=zC ht;have iS:=zC bX;have fR:=zC eN;have ed:=hm.lt;have fZ:=ht.lt;clear hr hm ht bX eN;have uk:=zht;go_enter Tryz.func181,Tryz.ntmps181;go_upto_region 1 with fail;have bS:Below w.heap.size w (w.alloc (.cells #[.int .i64 (k:Nat),.slice an nn cn] 93)):=B9.alloc L9 _;have mA:=heap_alloc_new w (.cells #[.int .i64 (k:Nat),.slice an nn cn] 93);generalize (w.alloc (.cells #[.int .i64 (k:Nat),.slice an nn cn] 93))=w0 at *;have iI:=zC (And.intro bS mA);clear bS mA;go_wp2_with fail
 go_loopg [13] rs.length (λ gg ii wr=>∃ i:Nat,i<=rs.length/\gg=rs.length-i/\ii=.int .i64 i/\Below w.heap.size w wr/\wr.heap[w.heap.size]?=some (.cells #[.int .i64 (k:Nat),.slice an nn cn] 93 (0,0))/\∀ r∈rs.take i,Sp r.R.pd<k->zit K r)
 exact⟨0,Nat.zero_le _,rfl,rfl,(zA iI).1,(zA iI).2,by simp⟩
 case round=>
  clear iI;obtain⟨i,hi,Fy,rfl,cV,da,bh⟩:=hrel;have gw:=zC cV;have tj:=zC da;have dv:=zC bh;have lK:=(Array.getElem?_eq_some_iff.1 da).1
  by_cases qj:i<rs.length
  ·have Kt:(i:Int)<rs.length:=(by omega);obtain⟨r,eI⟩:∃ r,r=rs[i]:=⟨_,rfl⟩;have bC:r∈rs:=(by rw[eI];exact List.getElem_mem qj);have ak:=(zA HR).each r bC;obtain⟨ah,ch,fs⟩:=zE ak.hd;obtain⟨ab,cb,fi⟩:=zE ak.bo.row;obtain⟨g,cap,hv,iC,dp,dG,dx,hc⟩:=vE zq4 (zA HR).row i qj;injection hv with h1 h2 h3
   subst h1 h3;have e0:wr.cell? ⟨g,i*3,none⟩=some (.string r.R.pd):=(by rw[eI];exact (cV.cell (p:=⟨g,i*3,none⟩) dp).trans (hc 0 (by omega)));have e1:wr.cell? ⟨g,i*3+1,none⟩=some (.slice ah r.R.ts.length ch):=(by rw[<-fs,eI];exact (cV.cell (p:=⟨g,i*3+1,none⟩) dp).trans (hc 1 (by omega)));have e2:wr.cell? ⟨g,i*3+2,none⟩=some (.slice ab r.bs.length cb):=(by rw[<-fi,eI];exact (cV.cell (p:=⟨g,i*3+2,none⟩) dp).trans (hc 2 (by omega)));have fU:=zC (show rs.take (i+1)=rs.take i++[r] by rw[eI];exact List.take_succ_eq_append_getElem qj);have mM:=zA iS r bC;obtain⟨mJ,gj⟩:=zA fR r bC;have du:r.R.pd.size<=maxLen:=(by unfold maxLen;omega);obtain⟨m,eG⟩:=Option.isSome_iff_exists.1 gj;have hu:(stV ps Sp r.R.pd).getD (.agg #[.string { data:=#[] },.int .i64 0,.int .i64 0])=.agg #[.string r.R.pd,.int .i64 (Sp r.R.pd),.int .i64 m]:=(by unfold stV;rw[eG];rfl);have kA:=(Below.refl wr.heap.size wr).alloc L9 (.cells #[.string r.R.pd,.slice ah r.R.ts.length ch,.slice ab r.bs.length cb] 123);have dJ:=heap_alloc_new wr (.cells #[.string r.R.pd,.slice ah r.R.ts.length ch,.slice ab r.bs.length cb] 123);have iR:=zC bC;have bt:=zC ak;have ly:=zC mM;have A5:=zC (And.intro fs fi);clear hc ak eI bC gj eG mM bh fs fi h2;go_upto_region 4 with fail;generalize kj:World.alloc wr _=w2 at *;have cH:Below w.heap.size w w2:=cV.trans (kA.mono cV.size);have eW:=(kA.block _ lK).trans da;have t2:qQ Tryz.prog 9 w2 tb n (stV ps Sp):=(zA HT).block (cH.block tb fZ);have m2:vW w2 mb K:=(zA HM).block (cH.block mb ed);have a0:=(zB dJ 0).1;have a1:=(zB dJ 1).1;have a2:=(zB dJ 2).1;have q0:=(zB eW 0).1;simp only[List.getElem?_toArray,List.getElem?_cons_zero,List.getElem?_cons_succ] at a0 a1 a2 q0;have jt:=zC cH;have tk:=zC eW
   by_cases hSK:Sp r.R.pd<k
   ·have cM:decide ((Sp r.R.pd:Int)<k)=true:=(by simp;omega);have ak:=zA bt;have KY:=z8z w2 base mb r K ⟨zG ak.hd cH (λ g e=>(ak.hd.lt g e).2),ak.bo.below cH,ak.eq⟩ m2 (zA ly);rw[(zA A5).1,(zA A5).2] at KY;have Ij:=zC KY;clear ak KY kj kA dJ e0 e1 e2 da cV m2 cH eW;go_wp2_with (first | (at_lookup;refine zcv _ rfl _ _ 73 rfl 9 185 Tryz.underlying9 Tryz.underlying73 (Tryz.zeroValue185 _) tb n (stV ps Sp) rfl t2 r.R.pd rfl du _ hu ?_) | (go_at_call 224;refine (zA Ij).mono ?_;rintro en w4 ⟨bQ,c,rfl,Fo⟩;have eC:=zC bQ;have pY:=zC Fo;clear bQ Fo;cases qg:c))
    ·rw[qg] at pY;go_ret;have kw:=(zA jt).trans ((zA eC).mono (zA jt).size);refine⟨kw,false,rfl,λ h=>(by cases h),λ h=>?_⟩;exact ((zA pY).2 (h r (zA iR) hSK))
    ·rw[qg] at pY;go_roundg (rs.length-(i+1))
     case measure=>omega
     case rel=>
      have kw:=(zA jt).trans ((zA eC).mono (zA jt).size);refine⟨i+1,by omega,rfl,by go_num,kw,((zA eC).block _ (Array.getElem?_eq_some_iff.1 (zA tk)).1).trans (zA tk),λ x hx=>?_⟩;rw[zA fU] at hx;rcases List.mem_append.1 hx with hx | hx
      ·exact zA dv x hx
      ·rw[List.mem_singleton.1 hx];exact λ _=>(zA pY).1 rfl
   ·have cM:decide ((Sp r.R.pd:Int)<k)=false:=(by simp;omega);clear kj kA dJ e0 e1 e2 da cV m2 cH eW bt ly;go_wp2_with (at_lookup;refine zcv _ rfl _ _ 73 rfl 9 185 Tryz.underlying9 Tryz.underlying73 (Tryz.zeroValue185 _) tb n (stV ps Sp) rfl t2 r.R.pd rfl du _ hu ?_);go_roundg (rs.length-(i+1))
    case measure=>omega
    case rel=>
     refine⟨i+1,by omega,rfl,by go_num,zA jt,zA tk,λ x hx=>?_⟩;rw[zA fU] at hx;rcases List.mem_append.1 hx with hx | hx
     ·exact zA dv x hx
     ·rw[List.mem_singleton.1 hx];exact λ h=>absurd h hSK
  ·have Kt:¬ (i:Int)<rs.length:=(by omega);have lX:rs.take i=rs:=List.take_of_length_le (by omega);rw[lX] at dv;clear bh da cV lX;go_wp2_with fail;go_ret;exact⟨zA gw,true,rfl,λ _=>zA dv,λ _=>rfl⟩
end
section
open Go.RowKit Go.Maps
def ydu (rs:List PR)(Sp:B8->Nat)(m k:Nat)(ns:List (Nat × List Nat))(st:List yM):Prop:=k<=m/\zak rs ns []=some st/\(st.map (·.t)).Nodup/\zyr Sp k st/\z1h Sp k rs st
def ya7 (w:W8)(ps:P9)(Sp:B8->Nat)(P:Nat->List yM->Prop)(e:Ending)(w':W8):Prop:=
 Below w.heap.size w w'/\∃ m,vY ps Sp m/\((∃ st mb,P m st/\e=.returned (.tuple #[.map (some mb),.bool true])/\vW w' mb (j9 st))\/((∀ st,¬ P m st)/\e=.returned (.tuple #[.map none,.bool false])))
theorem z97 {Sp:B8->Nat}{k:Nat}{rs:List PR}{st:List yM}:yax Sp k rs (j9 st)↔z1h Sp k rs st:=by
 unfold yax zit z1h;rw[jC]
structure ydt (w:W8)(base tb n:Nat)(ps:P9)(Sp:B8->Nat)(rs:List PR)(rv:Value)(aJ:List ND)(nv:Value):Prop where
 rules:aD w base rv rs
 dh:∀ r∈rs,j0 ps r
 nodes:jS w 0 nv aJ
 ft:aJ.length<=50
 ix:∀ x∈aJ,∃ h:x.r<rs.length,x.fr.length=(zM rs[x.r].bs).length
 t:qQ Tryz.prog 9 w tb n (stV ps Sp)
 str:∀ k,(zV ps k).isSome=true->Sp k<=1000000
theorem zpj (rp:List PR):∀ (ns:List (Nat × List Nat)) (st fF:List yM),zak rp ns st=some fF->fF.length=st.length+ns.length
 | [],st,fF,h=>by obtain rfl:=Option.some.inj h;simp
 | x::q,st,fF,h=>by
  rw[zak] at h
  split at h
  ·cases h
  ·split at h
   ·cases h
   ·have:=zpj rp q _ _ h;rw[this];simp;omega
theorem z40 (w:W8)(base tb n k:Nat)(ps:P9)(Sp:B8->Nat)(rs:List PR)(ar:O8)(cr:Nat)(aJ:List ND)(an:O8)(cn:Nat)(h:ydt w base tb n ps Sp rs (.slice ar rs.length cr) aJ (.slice an aJ.length cn)):
  Calls Tryz.prog 122 #[.agg #[.int .i64 (k:Nat),.slice an aJ.length cn],.slice ar rs.length cr,.map (some tb)] w (ya7 w ps Sp (λ m st=>ydu rs Sp m k (aJ.map dX) st)):=by
 have H:=zC h;have fZ:=h.t.lt;clear h;go_enter Tryz.func122,Tryz.ntmps122;go_upto_region 1 with fail;have bS:Below w.heap.size w (w.alloc (.cells #[.int .i64 (k:Nat),.slice an aJ.length cn] 93)):=B9.alloc L9 _;have mA:=heap_alloc_new w (.cells #[.int .i64 (k:Nat),.slice an aJ.length cn] 93);generalize (w.alloc (.cells #[.int .i64 (k:Nat),.slice an aJ.length cn] 93))=w0 at *;have lK:w.heap.size<w0.heap.size:=(Array.getElem?_eq_some_iff.1 mA).1;have c0:=(zB mA 0).1;simp only[List.getElem?_toArray,List.getElem?_cons_zero] at c0;have HC:=zC (λ (W:W8) (hW:Below w0.heap.size w0 W)=>zse W tb n ps Sp ((zA H).t.block ((bS.trans (hW.mono bS.size)).block tb fZ)) (zA H).str);have rH:=zC (λ (W:W8) (hW:Below w0.heap.size w0 W)=>(hW.cell (p:=⟨w.heap.size,0,none⟩) lK).trans c0);have cq:=zC bS;have gd:=zC mA;clear bS mA
 go_cut [15] from 11 to 47 (λ c wc=>∃ m:Nat,c=.bool (decide ((m:Int)<(k:Int)))/\vY ps Sp m/\Below w0.heap.size w0 wc)
 case first=>
  go_region_held3 (λ w'=>w'.cell? ⟨w.heap.size,0,none⟩=some (.int .i64 (k:Nat))) (first | exact zA rH _ bY | exact zA rH _ B9.drew) ((go_at_call 59;refine (zA HC _ (by first | exact B9.drew)).mono ?_;rintro en w4 ⟨m,rfl,eM,bQ⟩;have bY:Below w0.heap.size w0 w4:=zL bQ;have x4:=zA rH w4 bY))
  all_goals
   go_wp2_with fail;go_meet
   case rel=>exact⟨_,by first | rfl | simp,eM,bY⟩
 case rest=>
  generalize wc=wA at *;obtain⟨m,rfl,eM,tX⟩:=hcut;have o8:Below w.heap.size w wA:=(zA cq).trans (tX.mono (zA cq).size);have fu:=(tX.block _ lK).trans (zA gd);have fw:=zC eM;have eS:=zC o8;have G1:=zC fu
  by_cases Aw:k<=m
  ·have hd:decide ((m:Int)<(k:Int))=false:=(by simp;omega);rw[hd];have q0:=(zB fu 0).1;have q1:=(zB fu 1).1;simp only[List.getElem?_toArray,List.getElem?_cons_zero,List.getElem?_cons_succ] at q0 q1
   have zk:aD wA base (.slice ar rs.length cr) rs:=⟨zG (zA H).rules.row o8 (λ g e=>((zA H).rules.row.lt g e).2),λ r hr=>by
    have:=(zA H).rules.each r hr
    exact⟨zG this.hd o8 (λ g e=>(this.hd.lt g e).2),this.bo.below o8,this.eq⟩⟩
   have fT:=zC (z5n wA base k rs ar cr aJ an cn ⟨zk,λ r hr=>((zA H).dh r hr).l3,λ r hr x hx=>(((zA H).dh r hr).ls x hx).w.ft,λ r hr=>((zA H).dh r hr).hd.w.ft,(zA H).nodes.below o8,(zA H).ft,(zA H).ix⟩);clear eM tX o8 zk HC rH cq gd c0;have tw:=zC (And.intro q0 q1)
   cases hO:zak rs (aJ.map dX) [] with
   | none=>
    rw[hO] at fT;have HO:=zC hO;clear hO fu;go_wp2_with (go_at_call 178;refine (zA fT).mono ?_;rintro en wS ⟨ye,v,rfl,ak⟩;have dq:=zC ye;clear ye ak)
    go_ret2
    exact⟨(zA eS).trans ((zA dq).mono (zA eS).size),m,zA fw,.inr ⟨λ st h=>(by have h2:=h.2.1;rw[zA HO] at h2;cases h2),rfl⟩⟩
   | some st=>
    rw[hO] at fT;have HO:=zC hO;have F9:=zjn (zA H).dh (aJ.map dX) [] st (by simp) hO;have lJ:st.length<=50:=by
     have:=zpj rs _ _ _ hO;have h2:=(zA H).ft;simp at this;omega
    have qa:=zC F9;clear hO F9;go_upto_region 4 with (go_at_call 178;refine (zA fT).mono ?_;rintro en wS ⟨ye,v,rfl,ak⟩;have AF:=ak.row;simp only[Option.getD_some] at AF;obtain⟨sa,cs,rfl⟩:=zE AF;have p9:=zC AF;have dq:=zC ye;clear ye ak AF);have FG:Below w.heap.size w wS:=(zA eS).trans ((zA dq).mono (zA eS).size);have ug:=((zA dq).block _ (Array.getElem?_eq_some_iff.1 fu).1).trans fu;have Hc:=zC (zzi wS 0 st sa cs ⟨zI (zA p9) (Nat.zero_le _)⟩ (λ s hs=>(zA qa s hs).ti.ok) lJ (λ s hs=>((zA H).rules.each _ (zA qa s hs).rule).one));have mV:=zC FG;have AZ:=zC ug;have J6:w.heap.size<wS.heap.size:=(Array.getElem?_eq_some_iff.1 ug).1;clear q0 q1 fu FG ug fT;go_upto_region 7 with (go_at_call 179;refine (zA Hc).mono ?_;rintro en wG ⟨IY,hg⟩;have G0:=zC IY;rcases hg with⟨dB,rfl⟩ | ⟨dB,rfl,KS⟩)
    ·have ju:=zC dB;clear dB IY;go_wp2_with fail
     go_ret2
     exact⟨(zA mV).trans ((zA G0).mono (zA mV).size),m,zA fw,.inr ⟨λ fF h=>(by have h2:=h.2.1;rw[zA HO] at h2;obtain rfl:=Option.some.inj h2;exact zA ju h.2.2.1),rfl⟩⟩
    ·have ju:=zC dB;have sq:Below w.heap.size w wG:=(zA mV).trans (IY.mono (zA mV).size);have oU:=(IY.block _ J6).trans (zA AZ);have q0:=(zB oU 0).1;have q1:=(zB oU 1).1;simp only[List.getElem?_toArray,List.getElem?_cons_zero,List.getElem?_cons_succ] at q0 q1;have Dq:=(zA H).t.block (sq.block tb fZ);have uM:∀ r∈rs,bu wG base r:=λ r hr=>by
      have:=(zA H).rules.each r hr;exact⟨zG this.hd sq (λ g e=>(this.hd.lt g e).2),this.bo.below sq,this.eq⟩
     have qv:=zC (zy9 wG base wS.heap.size tb n k (.slice an aJ.length cn) ps Sp st sa cs ⟨⟨zG (zI (zA p9) (Nat.zero_le _)) IY (λ g e=>((zA p9).lt g e).2)⟩,lJ,λ s hs=>uM _ (zA qa s hs).rule,λ s hs=>((zA H).dh _ (zA qa s hs).rule).l3,λ s hs x hx=>(((zA H).dh _ (zA qa s hs).rule).ls x hx).w.ft,λ s hs=>(zA qa s hs).rE.len,λ s hs a ha=>⟨((zA qa s hs).rE.neg a ha).ok,by have:=(((zA H).dh _ (zA qa s hs).rule).neg a ha).w.pd.le;omega,by rw[(((zA H).dh _ (zA qa s hs).rule).neg a ha).num];rfl⟩,KS,Dq⟩ an aJ.length cn rfl);have Hp:=zC KS;have vr:=zC sq;have G2:=zC oU;have EU:∀ p∈j9 st,eE ps p.1:=λ p hp=>by
      have:p.1∈(j9 st).map (·.1):=List.mem_map_of_mem hp;rw[jC] at this;obtain⟨s,hs,e⟩:=List.mem_map.1 this;rw[<-e];exact (zA qa s hs).ti
     have pZ:=zC (λ (W:W8) (hW:Below wG.heap.size wG W)=>zy2 W base wS.heap.size tb n k an aJ.length cn ps Sp ar cr rs (j9 st) ⟨zG (zA H).rules.row (sq.trans (hW.mono sq.size)) (λ g e=>((zA H).rules.row.lt g e).2),λ r hr=>by
       have:=uM r hr
       exact⟨zG this.hd hW (λ g e=>(this.hd.lt g e).2),this.bo.below hW,this.eq⟩⟩ (KS.block (hW.block _ KS.lt)) (Dq.block (hW.block tb (by have:=sq.size;omega))) (λ r hr=>(zez (zA H).dh (j9 st) EU r hr).1) (λ r hr=>⟨by have:=((zA H).dh r hr).hd.w.pd.le;show r.R.pd.size<=800;have e:(jB r).p=r.R.pd:=rfl;rw[e] at this;omega,by have:=((zA H).dh r hr).hd.num;have e:(jB r).p=r.R.pd:=rfl;rw[e] at this;rw[this];rfl⟩))
     have Gh:w.heap.size<wG.heap.size:=(Array.getElem?_eq_some_iff.1 oU).1;have H9:=zC (λ (W:W8) (hW:Below wG.heap.size wG W)=>(show W.cell? ⟨w.heap.size,0,none⟩=some (.int .i64 (k:Nat))/\W.cell? ⟨w.heap.size,1,none⟩=some (.slice an aJ.length cn) from ⟨(hW.cell (p:=⟨w.heap.size,0,none⟩) Gh).trans q0,(hW.cell (p:=⟨w.heap.size,1,none⟩) Gh).trans q1⟩));have CX:=KS.lt;clear dB sq oU Dq uM KS EU IY;go_wp2_with (first | (go_at_call 180;refine (zA qv).mono ?_;rintro en wD ⟨Ar,c1,rfl,mC⟩;obtain⟨d0,d1⟩:=zA H9 wD Ar;have ow:=zC Ar;have vl:=zC mC;have G3:=zC (zA pZ wD Ar);clear Ar mC;cases qg:c1 <;> rw[qg] at vl) | (go_at_call 181;refine (zA G3).mono ?_;rintro en wE ⟨Fk,c2,rfl,nA⟩;have vi:=zC Fk;have ks:=zC nA;clear Fk nA;cases hce:c2 <;> rw[hce] at ks))
     ·go_ret2
      exact⟨(zA vr).trans ((zA ow).mono (zA vr).size),m,zA fw,.inr ⟨λ fF h=>(by have h2:=h.2.1;rw[zA HO] at h2;obtain rfl:=Option.some.inj h2;exact absurd ((zA vl).2 h.2.2.2.1) (by simp)),rfl⟩⟩
     ·go_ret2
      exact⟨(zA vr).trans (((zA ow).trans ((zA vi).mono (zA ow).size)).mono (zA vr).size),m,zA fw,.inr ⟨λ fF h=>(by have h2:=h.2.1;rw[zA HO] at h2;obtain rfl:=Option.some.inj h2;exact absurd ((zA ks).2 (z97.2 h.2.2.2.2)) (by simp)),rfl⟩⟩
     ·go_ret2
      have kE:=(zA ow).trans ((zA vi).mono (zA ow).size);exact⟨(zA vr).trans (kE.mono (zA vr).size),m,zA fw,.inl ⟨st,_,⟨Aw,zA HO,zA ju,(zA vl).1 (by trivial),z97.1 ((zA ks).1 (by trivial))⟩,rfl,(zA Hp).block (kE.block _ CX)⟩⟩
  ·have hd:decide ((m:Int)<(k:Int))=true:=(by simp;omega);rw[hd];clear eM tX o8 HC rH;go_wp2_with fail
   go_ret2
   exact⟨zA eS,m,zA fw,.inr ⟨λ st h=>Aw h.1,rfl⟩⟩
end
end Go.Proofs.YtldkpahaocjdpaaGreat
