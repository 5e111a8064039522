/-
  denies: the negative literals of the steps.
-/
import Derived.Test.YtldkpahaocjdpaaGreatD38
set_option maxHeartbeats 16000000
set_option maxRecDepth 1000000
namespace Go.Proofs.YtldkpahaocjdpaaGreat
section
open Go.RowKit Go.Maps Go.ChangeMaps Go.WideMaps
attribute [local go_sem ↓] qR jO qP xQ vU xY xX xW zh5 zf3 zfy zfz zkf zd7
attribute [local go_sem] zd5
theorem qS.lr {w:W8}{b n:Nat}{V:B8->Option Value}(h:qS Tryz.prog 9 w b n V){key:B8}(du:key.size<=maxLen):(Instr.lookup 73 (.map (some b)) (.string key) false).run Tryz.prog w=.ok ((V key).getD (.agg #[.string { data:=#[] },.int .i64 0,.int .i64 0])) w:=by
 obtain⟨D,hD,h3⟩:=h;obtain⟨v,ps,fC,hv⟩:=hD.lookup (string_keyed Tryz.underlying9) Tryz.underlying73 (Tryz.zeroValue185 _) (zd:=.held (.agg #[.string { data:=#[] },.int .i64 0,.int .i64 0])) (zp:=[]) rfl (keyOf_string_mk Tryz.underlying9 du);have h1:=((h3 key).2 _).symm.trans (zdq hv);have h2:(V key).getD (.agg #[.string { data:=#[] },.int .i64 0,.int .i64 0])=v:=DataW.held.inj h1;rw[h2];exact fC
structure z9n (w:W8)(base mb tb n:Nat)(ps:P9)(Sp:B8->Nat)(st:List yL)(sv:Value):Prop where
 steps:zoc w 0 sv st
 ft:st.length<=50
 rule:∀ s∈st,bL w base s.r
 l3:∀ s∈st,s.r.bs.length<=3
 t4:∀ s∈st,∀ x∈s.r.bs,x.1.ts.length<=4
 len:∀ s∈st,s.e.length<=12
 neg:∀ s∈st,∀ a∈xU s.r.bs,zbj (zT s.e a)/\a.p.size<=800/\(zZ ps a.p).isSome=true
 m:jA w mb (j6 st)
 t:qS Tryz.prog 9 w tb n (stV ps Sp)
def zu4 (w:W8)(P:Prop)(e:Ending)(w':W8):Prop:=Below w.heap.size w w'/\∃ c:Bool,e=.returned (.bool c)/\(c=true↔P)
def z9t (Sp:B8->Nat)(K:Nat)(st:List yL)(s:yL)(a:yY):Prop:=zT s.e a∉st.map (·.t)/\Sp a.p<K
theorem zxl (w:W8)(base mb tb n K:Nat)(nv:Value)(ps:P9)(Sp:B8->Nat)(st:List yL)(a:O8)(c:Nat)(h:z9n w base mb tb n ps Sp st (.slice a st.length c))(an:O8)(nn cn:Nat)(env:nv=.slice an nn cn):
  Calls Tryz.prog 180 #[.agg #[.int .i64 (K:Nat),nv],.slice a st.length c,.map (some mb),.map (some tb)] w (zu4 w (zw4 Sp K st)):=by
 subst env;have hm:=vV h.steps.row;unfold maxLen at hm;have H:=zC h;have fZ:=h.t.lt;have ed:=h.m.lt;clear h;have uk:=zhk;go_enter Tryz.func180,Tryz.ntmps180;go_upto_region 1 with fail;have cM:Below w.heap.size w (w.alloc (.cells #[.int .i64 (K:Nat),.slice an nn cn] 93)):=B9.alloc L9 _;have mA:=heap_alloc_new w (.cells #[.int .i64 (K:Nat),.slice an nn cn] 93);generalize (w.alloc (.cells #[.int .i64 (K:Nat),.slice an nn cn] 93))=w0 at *;have iI:=zC (And.intro cM mA);clear cM mA;go_wp2_with fail
 go_loopg [17] st.length (λ gg ii wr=>∃ k:Nat,k<=st.length/\gg=st.length-k/\ii=.int .i64 k/\Below w.heap.size w wr/\wr.heap[w.heap.size]?=some (.cells #[.int .i64 (K:Nat),.slice an nn cn] 93 (0,0))/\∀ s∈st.take k,∀ x∈xU s.r.bs,z9t Sp K st s x)
 exact⟨0,Nat.zero_le _,rfl,rfl,(zA iI).1,(zA iI).2,by simp⟩
 case round=>
  clear iI;obtain⟨k,hk,fM,rfl,cV,da,ad⟩:=hrel;have gw:=zC cV;have tj:=zC da;have dv:=zC ad;have lK:=(Array.getElem?_eq_some_iff.1 da).1
  by_cases aN:k<st.length
  ·have gW:(k:Int)<st.length:=(by omega);have aE:=zG (zA H).steps.row cV (λ g e=>((zA H).steps.row.lt g e).2);obtain⟨g,cap,hv,-,dp,dG,dx,hc⟩:=zut aE aN;injection hv with h1 h2 h3
   subst h1 h3;have bC:=List.getElem_mem aN;have gC:=(zA H).rule _ bC;have tW:=gC.one;have qi:=znx hc;have fU:=zC (show st.take (k+1)=st.take k++[st[k]] from List.take_succ_eq_append_getElem aN);have sM:=λ (W:W8) (s:yL)=>zg3 W s st[k] tW
   have sr:=(zA H).l3 _ bC;have zt:=(zA H).t4 _ bC;have hlen:=(zA H).len _ bC;have eH:=(zA H).neg _ bC;obtain⟨ah,ch,fs⟩:=zE gC.hd;obtain⟨ab,cb,fi⟩:=zE gC.bo.row;have eL:=gC.bo;rw[fi] at eL;have rG:=zC eL;have lk:=gO.new wr st[k];have iR:=zC bC;have BF:=zC zt;have Bi:=zC eH;have kA:=(Below.refl wr.heap.size wr).alloc L9 (.cells (zM st[k]).toArray 352);generalize hS:st[k]=s at *;clear hc aE bC gC zt eH eL ad da cV;go_upto_region 4 with fail;generalize bq:World.alloc wr _=w1 at *;have c0:=(zB lk 0).1;have c1:=(zB lk 1).1;have c2:=(zB lk 2).1;simp only[zM,PR.cells,List.getElem?_toArray,List.cons_append,List.nil_append,List.getElem?_cons_zero,List.getElem?_cons_succ] at c0 c1 c2;rw[fs] at c1;rw[fi] at c2;have Gv:Below w.heap.size w w1:=(zA gw).trans (kA.mono (zA gw).size);have Ei:=zC (zjq w1 base s.r.R.pd ah s.r.R.ts.length ch ab cb s.r.bs ((zA rG).below Gv) (by omega));have Ev:=zC lk;have mm:=zC kA;have s1:wr.heap.size<w1.heap.size:=lk.lt;clear bq lk kA Gv qi sM;go_upto_region 5 with (go_at_call 223;refine (zA Ei).mono ?_;rintro en wP ⟨ap,cp,rfl,aO,kq,LZ⟩;have nZ:=zC aO;have oy:=zC kq;clear aO kq LZ);clear c0 c1 c2 Ei;have ik:(s.r.bs.filter (yW true)).length=(zY true s.r.bs).length:=(by unfold zY;rw[List.length_map]);have lI:(zY true s.r.bs).length<=3:=by
    rw[<-ik];exact Nat.le_trans (List.length_filter_le _ _) sr
   have F2:wP.ownsRow 0 79 2 (.slice ap (zY true s.r.bs).length cp) (zY true s.r.bs).length ((zY true s.r.bs).flatMap zen):=by
    have:=zA nZ;rw[ik,<-M6] at this;exact zI this (Nat.zero_le _)
   have Gx:Below w.heap.size w wP:=(zA gw).trans (((zA mm).trans ((zA oy).mono (zA mm).size)).mono (zA gw).size);have Fl:wP.heap[w.heap.size]?=some (.cells #[.int .i64 (K:Nat),.slice an nn cn] 93 (0,0)):=(((zA mm).trans ((zA oy).mono (zA mm).size)).block _ lK).trans (zA tj);have F6:gO wP wr.heap.size s:=(zA Ev).below (zA oy);have Ac:=zC F2;have wR:=zC Gx;have wo:=zC Fl;have BC:=zC F6;rw[ik];generalize wr.heap.size=iy at *;clear ik nZ oy Ev mm gw tj F2 Gx Fl F6 s1
   go_loopg [25] (zY true s.r.bs).length (λ gg ii wq=>∃ j:Nat,j<=(zY true s.r.bs).length/\gg=(zY true s.r.bs).length-j/\ii=.int .i64 j/\Below wP.heap.size wP wq/\∀ x∈(zY true s.r.bs).take j,z9t Sp K st s x.1)
   exact⟨0,Nat.zero_le _,rfl,rfl,Below.refl _ _,by simp⟩
   case round=>
    obtain⟨j,hj,uo,rfl,uy,mz⟩:=hrel;have vs:=zC uy;have GY:=zC mz;have CM:Below w.heap.size w wr:=(zA wR).trans (uy.mono (zA wR).size);have Mw:=zC CM;have oV:=(uy.block _ (Array.getElem?_eq_some_iff.1 (zA wo)).1).trans (zA wo)
    by_cases hlj:j<(zY true s.r.bs).length
    ·have ER:(j:Int)<(zY true s.r.bs).length:=(by omega);have aE:=zG (zA Ac) uy (λ g e=>((zA Ac).lt g e).2);obtain⟨gp,IK,hv,-,Jo,JQ,yr,hc⟩:=vL zhf aE j hlj;injection hv with h1 h2 h3
     subst h1 h3;have hx:=List.getElem_mem hlj;obtain⟨y,hy,km⟩:=zc1 hx;obtain⟨AT,nu⟩:∃ AT,AT=(zY true s.r.bs)[j].1:=⟨_,rfl⟩;have B2:AT∈xU s.r.bs:=(by rw[nu];exact List.mem_map_of_mem hx);have gl:=(zA rG).each y hy;obtain⟨ta,tc,ji⟩:=zE gl;have jk:AT=(zhp y).1:=(by rw[nu,km]);have gE:AT.ts.length<=4:=(by rw[jk];exact zA BF y hy);have e0:wr.cell? ⟨gp,j*2,none⟩=some (.string AT.p):=(by have:=hc 0 (by omega);rw[nu];exact this);have e1:wr.cell? ⟨gp,j*2+1,none⟩=some (.slice ta AT.ts.length tc):=by
      have:=hc 1 (by omega);rw[km] at this;rw[jk];exact this.trans (by show some y.2=_;rw[ji];rfl)
     have ia:w.ownsRow base 191 1 (.slice ta AT.ts.length tc) AT.ts.length (AT.ts.map zaz):=by
      rw[jk];rw[ji] at gl;exact gl
     obtain⟨bX,mJ,gj⟩:=zA Bi AT B2;have du:AT.p.size<=maxLen:=(by unfold maxLen;omega);obtain⟨m,eG⟩:=Option.isSome_iff_exists.1 gj;have hu:(stV ps Sp AT.p).getD (.agg #[.string { data:=#[] },.int .i64 0,.int .i64 0])=.agg #[.string AT.p,.int .i64 (Sp AT.p),.int .i64 m]:=(by unfold stV;rw[eG];rfl);have BH:=zC (show (zY true s.r.bs).take (j+1)=(zY true s.r.bs).take j++[(zY true s.r.bs)[j]] from List.take_succ_eq_append_getElem hlj);have KV:=zC nu;have D1:=zC B2;have kA:=(Below.refl wr.heap.size wr).alloc L9 (.cells #[.string AT.p,.slice ta AT.ts.length tc] 79);have dJ:=heap_alloc_new wr (.cells #[.string AT.p,.slice ta AT.ts.length tc] 79);have uN:=(zA BC).below uy;clear hc hx km nu B2 gl ji jk gj eG aE mz CM h2;go_upto_region 7 with fail;generalize kj:World.alloc wr _=w2 at *;have F7:=(uN.below kA).bound;have a0:=(zB dJ 0).1;have a1:=(zB dJ 1).1;simp only[List.getElem?_toArray,List.getElem?_cons_zero,List.getElem?_cons_succ] at a0 a1;have cD:Below w.heap.size w w2:=(zA Mw).trans (kA.mono (zA Mw).size);have wI:=zC (zc8 w2 base s.e AT ta tc (zG ia cD (λ g e1=>(ia.lt g e1).2)) gE hlen);have eW:=(kA.block _ (Array.getElem?_eq_some_iff.1 oV).1).trans oV;have Ey:=zC (And.intro cD (And.intro dJ eW));have Db:wr.heap.size<w2.heap.size:=(Array.getElem?_eq_some_iff.1 dJ).1
     have iT:=zC (λ (W:W8) (hW:Below w2.heap.size w2 W)=>(show jA W mb (j6 st)/\qS Tryz.prog 9 W tb n (stV ps Sp)/\W.cell? ⟨wr.heap.size,0,none⟩=some (.string AT.p)/\W.cell? ⟨w.heap.size,0,none⟩=some (.int .i64 (K:Nat))/\Below w.heap.size w W/\Below wP.heap.size wP W from by
      have kW:=cD.trans (hW.mono cD.size);refine⟨(zA H).m.block (kW.block mb ed),(zA H).t.block (kW.block tb fZ),(hW.cell (p:=⟨wr.heap.size,0,none⟩) Db).trans a0,?_,kW,(zA vs).trans ((kA.trans (hW.mono kA.size)).mono (zA vs).size)⟩;have:=(zB eW 0).1
      exact (hW.cell (p:=⟨w.heap.size,0,none⟩) (Array.getElem?_eq_some_iff.1 eW).1).trans this))
     generalize hPF:zT s.e AT=TH at *;have El:=zC hPF;clear kj dJ uN cD kA e0 e1 ia eW oV uy
     cases fN:z7 (j6 st) TH with
     | some m1=>
      have mX:=zC (show ¬ zw4 Sp K st from λ hd=>by
       have h5:=(hd s (zA iR) AT (zA D1)).1;rw[zA El] at h5;refine h5 ?_;rw[<-jE]
       exact xB.1 (by rw[fN];rfl))
      have iJ:=zC fN;clear fN;go_wp2_with (first | (go_at_call 146;refine (zA wI).mono ?_;rintro en w4 ⟨bQ,rfl⟩;obtain⟨m4,t4,x4,y4,k4,q4⟩:=zA iT w4 bQ;have sW:=t4.lr du;rw[hu] at sW;have oz:=zC k4;clear bQ k4 q4) | (at_lookup;refine zbn _ rfl _ _ 82 rfl Tryz.underlying82 mb (j6 st) rfl m4 TH rfl bX _ rfl true (by rw[zA iJ];rfl) ?_));go_ret;exact⟨zA oz,false,rfl,⟨λ h=>by (cases h),λ h=>absurd h (zA mX)⟩⟩
     | none=>
      have iJ:=zC fN
      have Hv:=zC (show TH∉st.map (·.t) from λ h5=>by
       rw[<-jE] at h5;have:=xB.2 h5;rw[fN] at this
       cases this)
      clear fN
      by_cases hSK:Sp AT.p<K
      ·have I3:¬ ((K:Int)<=Sp AT.p):=(by omega);have cK:decide ((K:Int)<=Sp AT.p)=false:=(by simp;omega);go_wp2_with (first | (go_at_call 146;refine (zA wI).mono ?_;rintro en w4 ⟨bQ,rfl⟩;obtain⟨m4,t4,x4,y4,k4,q4⟩:=zA iT w4 bQ;have sW:=t4.lr du;rw[hu] at sW;have oz:=zC q4;clear bQ k4 q4) | (at_lookup;refine zbn _ rfl _ _ 82 rfl Tryz.underlying82 mb (j6 st) rfl m4 TH rfl bX _ rfl false (by rw[zA iJ];rfl) ?_));go_roundg ((zY true s.r.bs).length-(j+1))
       case measure=>omega
       case rel=>
        refine⟨j+1,by omega,rfl,by go_num,zA oz,λ x hx=>?_⟩;rw[zA BH] at hx;rcases List.mem_append.1 hx with hx | hx
        ·exact zA GY x hx
        ·rw[List.mem_singleton.1 hx];refine⟨?_,?_⟩
         ·rw[<-zA KV,zA El];exact zA Hv
         ·rw[<-zA KV];exact hSK
      ·have I3:(K:Int)<=Sp AT.p:=(by omega);have cK:decide ((K:Int)<=Sp AT.p)=true:=(by simp;omega);have mX:=zC (show ¬ zw4 Sp K st from λ hd=>hSK (hd s (zA iR) AT (zA D1)).2);go_wp2_with (first | (go_at_call 146;refine (zA wI).mono ?_;rintro en w4 ⟨bQ,rfl⟩;obtain⟨m4,t4,x4,y4,k4,q4⟩:=zA iT w4 bQ;have sW:=t4.lr du;rw[hu] at sW;have oz:=zC k4;clear bQ k4 q4) | (at_lookup;refine zbn _ rfl _ _ 82 rfl Tryz.underlying82 mb (j6 st) rfl m4 TH rfl bX _ rfl false (by rw[zA iJ];rfl) ?_));go_ret;exact⟨zA oz,false,rfl,⟨λ h=>by (cases h),λ h=>absurd h (zA mX)⟩⟩
    ·have ER:¬ (j:Int)<(zY true s.r.bs).length:=by omega
     have HD:=zC (show ∀ x∈xU s.r.bs,z9t Sp K st s x from λ x hx=>by
      obtain⟨y,hy,rfl⟩:=List.mem_map.1 hx
      exact mz y (by rw[List.take_of_length_le (by omega)];exact hy))
     have Mu:=zC oV;clear mz CM uy oV;go_wp2_with fail;go_roundg (st.length-(k+1))
     case measure=>omega
     case rel=>
      refine⟨k+1,by omega,rfl,by go_num,zA Mw,zA Mu,λ x hx=>?_⟩;rw[zA fU] at hx;rcases List.mem_append.1 hx with hx | hx
      ·exact zA dv x hx
      ·rw[List.mem_singleton.1 hx];exact zA HD
  ·have gW:¬ (k:Int)<st.length:=(by omega);have lX:st.take k=st:=List.take_of_length_le (by omega);rw[lX] at dv;clear ad da cV lX;go_wp2_with fail;go_ret;exact⟨zA gw,true,rfl,⟨λ _=>zA dv,λ _=>rfl⟩⟩
end
section
open Go.RowKit Go.Maps
def z9m (Sp:B8->Nat)(k:Nat)(rs:List PR)(K:List (Th × Nat)):Prop:=∀ r∈rs,Sp r.R.pd<k->zib K r
theorem zxf (w:W8)(base mb tb n k:Nat)(an:O8)(nn cn:Nat)(ps:P9)(Sp:B8->Nat)(ar:O8)(cr:Nat)(rs:List PR)(K:List (Th × Nat))(hr:aD w base (.slice ar rs.length cr) rs)(hm:jA w mb K)(ht:qS Tryz.prog 9 w tb n (stV ps Sp))(bX:∀ r∈rs,zu9 K r)(eN:∀ r∈rs,r.R.pd.size<=800/\(zZ ps r.R.pd).isSome=true):
  Calls Tryz.prog 181 #[.agg #[.int .i64 (k:Nat),.slice an nn cn],.slice ar rs.length cr,.map (some mb),.map (some tb)] w (zu4 w (z9m Sp k rs K)):=by
 have mG:=vV hr.row;unfold maxLen at mG;have HR:=zC hr;have HM:=zC hm;have HT:=zC ht;have iS:=zC bX;have ie:=zC eN;have ed:=hm.lt;have fZ:=ht.lt;clear hr hm ht bX eN;have uk:=zhk;go_enter Tryz.func181,Tryz.ntmps181;go_upto_region 1 with fail;have cM:Below w.heap.size w (w.alloc (.cells #[.int .i64 (k:Nat),.slice an nn cn] 93)):=B9.alloc L9 _;have mA:=heap_alloc_new w (.cells #[.int .i64 (k:Nat),.slice an nn cn] 93);generalize (w.alloc (.cells #[.int .i64 (k:Nat),.slice an nn cn] 93))=w0 at *;have iI:=zC (And.intro cM mA);clear cM mA;go_wp2_with fail
 go_loopg [13] rs.length (λ gg ii wr=>∃ i:Nat,i<=rs.length/\gg=rs.length-i/\ii=.int .i64 i/\Below w.heap.size w wr/\wr.heap[w.heap.size]?=some (.cells #[.int .i64 (k:Nat),.slice an nn cn] 93 (0,0))/\∀ r∈rs.take i,Sp r.R.pd<k->zib K r)
 exact⟨0,Nat.zero_le _,rfl,rfl,(zA iI).1,(zA iI).2,by simp⟩
 case round=>
  clear iI;obtain⟨i,hi,Fy,rfl,cV,da,ad⟩:=hrel;have gw:=zC cV;have tj:=zC da;have dv:=zC ad;have lK:=(Array.getElem?_eq_some_iff.1 da).1
  by_cases qj:i<rs.length
  ·have LD:(i:Int)<rs.length:=(by omega);obtain⟨r,eI⟩:∃ r,r=rs[i]:=⟨_,rfl⟩;have bC:r∈rs:=(by rw[eI];exact List.getElem_mem qj);have ak:=(zA HR).each r bC;obtain⟨ah,ch,fs⟩:=zE ak.hd;obtain⟨ab,cb,fi⟩:=zE ak.bo.row;obtain⟨g,cap,hv,iC,dp,dG,dx,hc⟩:=vL zpy (zA HR).row i qj;injection hv with h1 h2 h3
   subst h1 h3;have e0:wr.cell? ⟨g,i*3,none⟩=some (.string r.R.pd):=(by rw[eI];exact (cV.cell (p:=⟨g,i*3,none⟩) dp).trans (hc 0 (by omega)));have e1:wr.cell? ⟨g,i*3+1,none⟩=some (.slice ah r.R.ts.length ch):=(by rw[<-fs,eI];exact (cV.cell (p:=⟨g,i*3+1,none⟩) dp).trans (hc 1 (by omega)));have e2:wr.cell? ⟨g,i*3+2,none⟩=some (.slice ab r.bs.length cb):=(by rw[<-fi,eI];exact (cV.cell (p:=⟨g,i*3+2,none⟩) dp).trans (hc 2 (by omega)));have fU:=zC (show rs.take (i+1)=rs.take i++[r] by rw[eI];exact List.take_succ_eq_append_getElem qj);have mM:=zA iS r bC;obtain⟨mJ,gj⟩:=zA ie r bC;have du:r.R.pd.size<=maxLen:=(by unfold maxLen;omega);obtain⟨m,eG⟩:=Option.isSome_iff_exists.1 gj;have hu:(stV ps Sp r.R.pd).getD (.agg #[.string { data:=#[] },.int .i64 0,.int .i64 0])=.agg #[.string r.R.pd,.int .i64 (Sp r.R.pd),.int .i64 m]:=(by unfold stV;rw[eG];rfl);have kA:=(Below.refl wr.heap.size wr).alloc L9 (.cells #[.string r.R.pd,.slice ah r.R.ts.length ch,.slice ab r.bs.length cb] 123);have dJ:=heap_alloc_new wr (.cells #[.string r.R.pd,.slice ah r.R.ts.length ch,.slice ab r.bs.length cb] 123);have iR:=zC bC;have bt:=zC ak;have ly:=zC mM;have A5:=zC (And.intro fs fi);clear hc ak eI bC gj eG mM ad fs fi h2;go_upto_region 4 with fail;generalize kj:World.alloc wr _=w2 at *;have cD:Below w.heap.size w w2:=cV.trans (kA.mono cV.size);have eW:=(kA.block _ lK).trans da;have t2:qS Tryz.prog 9 w2 tb n (stV ps Sp):=(zA HT).block (cD.block tb fZ);have m2:jA w2 mb K:=(zA HM).block (cD.block mb ed);have a0:=(zB dJ 0).1;have a1:=(zB dJ 1).1;have a2:=(zB dJ 2).1;have q0:=(zB eW 0).1;simp only[List.getElem?_toArray,List.getElem?_cons_zero,List.getElem?_cons_succ] at a0 a1 a2 q0;have jt:=zC cD;have tk:=zC eW
   by_cases hSK:Sp r.R.pd<k
   ·have cK:decide ((Sp r.R.pd:Int)<k)=true:=(by simp;omega);have ak:=zA bt;have IQ:=z7n w2 base mb r K ⟨zG ak.hd cD (λ g e=>(ak.hd.lt g e).2),ak.bo.below cD,ak.eq⟩ m2 (zA ly);rw[(zA A5).1,(zA A5).2] at IQ;have Ij:=zC IQ;clear ak IQ kj kA dJ e0 e1 e2 da cV m2 cD eW;go_wp2_with (first | (at_lookup;refine zcr _ rfl _ _ 73 rfl 9 185 Tryz.underlying9 Tryz.underlying73 (Tryz.zeroValue185 _) tb n (stV ps Sp) rfl t2 r.R.pd rfl du _ hu ?_) | (go_at_call 224;refine (zA Ij).mono ?_;rintro en w4 ⟨bQ,c,rfl,Fo⟩;have eC:=zC bQ;have pY:=zC Fo;clear bQ Fo;cases qg:c))
    ·rw[qg] at pY;go_ret;have kw:=(zA jt).trans ((zA eC).mono (zA jt).size);refine⟨kw,false,rfl,λ h=>(by cases h),λ h=>?_⟩;exact ((zA pY).2 (h r (zA iR) hSK))
    ·rw[qg] at pY;go_roundg (rs.length-(i+1))
     case measure=>omega
     case rel=>
      have kw:=(zA jt).trans ((zA eC).mono (zA jt).size);refine⟨i+1,by omega,rfl,by go_num,kw,((zA eC).block _ (Array.getElem?_eq_some_iff.1 (zA tk)).1).trans (zA tk),λ x hx=>?_⟩;rw[zA fU] at hx;rcases List.mem_append.1 hx with hx | hx
      ·exact zA dv x hx
      ·rw[List.mem_singleton.1 hx];exact λ _=>(zA pY).1 rfl
   ·have cK:decide ((Sp r.R.pd:Int)<k)=false:=(by simp;omega);clear kj kA dJ e0 e1 e2 da cV m2 cD eW bt ly;go_wp2_with (at_lookup;refine zcr _ rfl _ _ 73 rfl 9 185 Tryz.underlying9 Tryz.underlying73 (Tryz.zeroValue185 _) tb n (stV ps Sp) rfl t2 r.R.pd rfl du _ hu ?_);go_roundg (rs.length-(i+1))
    case measure=>omega
    case rel=>
     refine⟨i+1,by omega,rfl,by go_num,zA jt,zA tk,λ x hx=>?_⟩;rw[zA fU] at hx;rcases List.mem_append.1 hx with hx | hx
     ·exact zA dv x hx
     ·rw[List.mem_singleton.1 hx];exact λ h=>absurd h hSK
  ·have LD:¬ (i:Int)<rs.length:=(by omega);have lX:rs.take i=rs:=List.take_of_length_le (by omega);rw[lX] at dv;clear ad da cV lX;go_wp2_with fail;go_ret;exact⟨zA gw,true,rfl,λ _=>zA dv,λ _=>rfl⟩
end
section
open Go.RowKit Go.Maps
def yci (rs:List PR)(Sp:B8->Nat)(m k:Nat)(ns:List (Nat × List Nat))(st:List yL):Prop:=k<=m/\zaj rs ns []=some st/\(st.map (·.t)).Nodup/\zw4 Sp k st/\zzn Sp k rs st
def z9w (w:W8)(ps:P9)(Sp:B8->Nat)(P:Nat->List yL->Prop)(e:Ending)(w':W8):Prop:=
 Below w.heap.size w w'/\∃ m,jS ps Sp m/\((∃ st mb,P m st/\e=.returned (.tuple #[.map (some mb),.bool true])/\jA w' mb (j6 st))\/((∀ st,¬ P m st)/\e=.returned (.tuple #[.map none,.bool false])))
theorem z8z {Sp:B8->Nat}{k:Nat}{rs:List PR}{st:List yL}:z9m Sp k rs (j6 st)↔zzn Sp k rs st:=by
 unfold z9m zib zzn;rw[jE]
structure ych (w:W8)(base tb n:Nat)(ps:P9)(Sp:B8->Nat)(rs:List PR)(rv:Value)(aJ:List ND)(nv:Value):Prop where
 rules:aD w base rv rs
 dh:∀ r∈rs,jZ ps r
 nodes:jT w 0 nv aJ
 ft:aJ.length<=50
 ix:∀ x∈aJ,∃ h:x.r<rs.length,x.fr.length=(zK rs[x.r].bs).length
 t:qS Tryz.prog 9 w tb n (stV ps Sp)
 str:∀ k,(zZ ps k).isSome=true->Sp k<=1000000
theorem zny (rp:List PR):∀ (ns:List (Nat × List Nat)) (st fF:List yL),zaj rp ns st=some fF->fF.length=st.length+ns.length
 | [],st,fF,h=>by obtain rfl:=Option.some.inj h;simp
 | x::q,st,fF,h=>by
  rw[zaj] at h
  split at h
  ·cases h
  ·split at h
   ·cases h
   ·have:=zny rp q _ _ h;rw[this];simp;omega
theorem z3d (w:W8)(base tb n k:Nat)(ps:P9)(Sp:B8->Nat)(rs:List PR)(ar:O8)(cr:Nat)(aJ:List ND)(an:O8)(cn:Nat)(h:ych w base tb n ps Sp rs (.slice ar rs.length cr) aJ (.slice an aJ.length cn)):
  Calls Tryz.prog 122 #[.agg #[.int .i64 (k:Nat),.slice an aJ.length cn],.slice ar rs.length cr,.map (some tb)] w (z9w w ps Sp (λ m st=>yci rs Sp m k (aJ.map dX) st)):=by
 have H:=zC h;have fZ:=h.t.lt;clear h;go_enter Tryz.func122,Tryz.ntmps122;go_upto_region 1 with fail;have cM:Below w.heap.size w (w.alloc (.cells #[.int .i64 (k:Nat),.slice an aJ.length cn] 93)):=B9.alloc L9 _;have mA:=heap_alloc_new w (.cells #[.int .i64 (k:Nat),.slice an aJ.length cn] 93);generalize (w.alloc (.cells #[.int .i64 (k:Nat),.slice an aJ.length cn] 93))=w0 at *;have lK:w.heap.size<w0.heap.size:=(Array.getElem?_eq_some_iff.1 mA).1;have c0:=(zB mA 0).1;simp only[List.getElem?_toArray,List.getElem?_cons_zero] at c0;have HC:=zC (λ (W:W8) (hW:Below w0.heap.size w0 W)=>zq6 W tb n ps Sp ((zA H).t.block ((cM.trans (hW.mono cM.size)).block tb fZ)) (zA H).str);have rH:=zC (λ (W:W8) (hW:Below w0.heap.size w0 W)=>(hW.cell (p:=⟨w.heap.size,0,none⟩) lK).trans c0);have cq:=zC cM;have gd:=zC mA;clear cM mA
 go_cut [15] from 11 to 47 (λ c wc=>∃ m:Nat,c=.bool (decide ((m:Int)<(k:Int)))/\jS ps Sp m/\Below w0.heap.size w0 wc)
 case first=>
  go_region_held3 (λ w'=>w'.cell? ⟨w.heap.size,0,none⟩=some (.int .i64 (k:Nat))) (first | exact zA rH _ bY | exact zA rH _ B9.drew) ((go_at_call 59;refine (zA HC _ (by first | exact B9.drew)).mono ?_;rintro en w4 ⟨m,rfl,eM,bQ⟩;have bY:Below w0.heap.size w0 w4:=zL bQ;have x4:=zA rH w4 bY))
  all_goals
   go_wp2_with fail;go_meet
   case rel=>exact⟨_,by first | rfl | simp,eM,bY⟩
 case rest=>
  generalize wc=wA at *;obtain⟨m,rfl,eM,tX⟩:=hcut;have o8:Below w.heap.size w wA:=(zA cq).trans (tX.mono (zA cq).size);have fu:=(tX.block _ lK).trans (zA gd);have fw:=zC eM;have mm:=zC o8;have G1:=zC fu
  by_cases Aw:k<=m
  ·have hd:decide ((m:Int)<(k:Int))=false:=(by simp;omega);rw[hd];have q0:=(zB fu 0).1;have q1:=(zB fu 1).1;simp only[List.getElem?_toArray,List.getElem?_cons_zero,List.getElem?_cons_succ] at q0 q1
   have zk:aD wA base (.slice ar rs.length cr) rs:=⟨zG (zA H).rules.row o8 (λ g e=>((zA H).rules.row.lt g e).2),λ r hr=>by
    have:=(zA H).rules.each r hr
    exact⟨zG this.hd o8 (λ g e=>(this.hd.lt g e).2),this.bo.below o8,this.eq⟩⟩
   have fT:=zC (z3w wA base k rs ar cr aJ an cn ⟨zk,λ r hr=>((zA H).dh r hr).l3,λ r hr x hx=>(((zA H).dh r hr).ls x hx).w.ft,λ r hr=>((zA H).dh r hr).hd.w.ft,(zA H).nodes.below o8,(zA H).ft,(zA H).ix⟩);clear eM tX o8 zk HC rH cq gd c0;have MC:=zC (And.intro q0 q1)
   cases hO:zaj rs (aJ.map dX) [] with
   | none=>
    rw[hO] at fT;have HO:=zC hO;clear hO fu;go_wp2_with (go_at_call 178;refine (zA fT).mono ?_;rintro en wS ⟨ye,v,rfl,ak⟩;have dm:=zC ye;clear ye ak)
    go_ret2
    exact⟨(zA mm).trans ((zA dm).mono (zA mm).size),m,zA fw,.inr ⟨λ st h=>(by have h2:=h.2.1;rw[zA HO] at h2;cases h2),rfl⟩⟩
   | some st=>
    rw[hO] at fT;have HO:=zC hO;have F9:=zi8 (zA H).dh (aJ.map dX) [] st (by simp) hO;have lJ:st.length<=50:=by
     have:=zny rs _ _ _ hO;have h2:=(zA H).ft;simp at this;omega
    have qa:=zC F9;clear hO F9;go_upto_region 4 with (go_at_call 178;refine (zA fT).mono ?_;rintro en wS ⟨ye,v,rfl,ak⟩;have AF:=ak.row;simp only[Option.getD_some] at AF;obtain⟨sa,cs,rfl⟩:=zE AF;have p9:=zC AF;have dm:=zC ye;clear ye ak AF);have FG:Below w.heap.size w wS:=(zA mm).trans ((zA dm).mono (zA mm).size);have ug:=((zA dm).block _ (Array.getElem?_eq_some_iff.1 fu).1).trans fu;have Hc:=zC (zxy wS 0 st sa cs ⟨zI (zA p9) (Nat.zero_le _)⟩ (λ s hs=>(zA qa s hs).ti.ok) lJ (λ s hs=>((zA H).rules.each _ (zA qa s hs).rule).one));have mV:=zC FG;have AZ:=zC ug;have J6:w.heap.size<wS.heap.size:=(Array.getElem?_eq_some_iff.1 ug).1;clear q0 q1 fu FG ug fT;go_upto_region 7 with (go_at_call 179;refine (zA Hc).mono ?_;rintro en wG ⟨DZ,hg⟩;have G0:=zC DZ;rcases hg with⟨dB,rfl⟩ | ⟨dB,rfl,GM⟩)
    ·have ju:=zC dB;clear dB DZ;go_wp2_with fail
     go_ret2
     exact⟨(zA mV).trans ((zA G0).mono (zA mV).size),m,zA fw,.inr ⟨λ fF h=>(by have h2:=h.2.1;rw[zA HO] at h2;obtain rfl:=Option.some.inj h2;exact zA ju h.2.2.1),rfl⟩⟩
    ·have ju:=zC dB;have sq:Below w.heap.size w wG:=(zA mV).trans (DZ.mono (zA mV).size);have oU:=(DZ.block _ J6).trans (zA AZ);have q0:=(zB oU 0).1;have q1:=(zB oU 1).1;simp only[List.getElem?_toArray,List.getElem?_cons_zero,List.getElem?_cons_succ] at q0 q1;have Dq:=(zA H).t.block (sq.block tb fZ);have uM:∀ r∈rs,bL wG base r:=λ r hr=>by
      have:=(zA H).rules.each r hr;exact⟨zG this.hd sq (λ g e=>(this.hd.lt g e).2),this.bo.below sq,this.eq⟩
     have qv:=zC (zxl wG base wS.heap.size tb n k (.slice an aJ.length cn) ps Sp st sa cs ⟨⟨zG (zI (zA p9) (Nat.zero_le _)) DZ (λ g e=>((zA p9).lt g e).2)⟩,lJ,λ s hs=>uM _ (zA qa s hs).rule,λ s hs=>((zA H).dh _ (zA qa s hs).rule).l3,λ s hs x hx=>(((zA H).dh _ (zA qa s hs).rule).ls x hx).w.ft,λ s hs=>(zA qa s hs).rE.len,λ s hs a ha=>⟨((zA qa s hs).rE.neg a ha).ok,by have:=(((zA H).dh _ (zA qa s hs).rule).neg a ha).w.pd.le;omega,by rw[(((zA H).dh _ (zA qa s hs).rule).neg a ha).num];rfl⟩,GM,Dq⟩ an aJ.length cn rfl);have Hp:=zC GM;have vr:=zC sq;have G2:=zC oU;have EU:∀ p∈j6 st,eE ps p.1:=λ p hp=>by
      have:p.1∈(j6 st).map (·.1):=List.mem_map_of_mem hp;rw[jE] at this;obtain⟨s,hs,e⟩:=List.mem_map.1 this;rw[<-e];exact (zA qa s hs).ti
     have pZ:=zC (λ (W:W8) (hW:Below wG.heap.size wG W)=>zxf W base wS.heap.size tb n k an aJ.length cn ps Sp ar cr rs (j6 st) ⟨zG (zA H).rules.row (sq.trans (hW.mono sq.size)) (λ g e=>((zA H).rules.row.lt g e).2),λ r hr=>by
       have:=uM r hr
       exact⟨zG this.hd hW (λ g e=>(this.hd.lt g e).2),this.bo.below hW,this.eq⟩⟩ (GM.block (hW.block _ GM.lt)) (Dq.block (hW.block tb (by have:=sq.size;omega))) (λ r hr=>(zeq (zA H).dh (j6 st) EU r hr).1) (λ r hr=>⟨by have:=((zA H).dh r hr).hd.w.pd.le;show r.R.pd.size<=800;have e:(vJ r).p=r.R.pd:=rfl;rw[e] at this;omega,by have:=((zA H).dh r hr).hd.num;have e:(vJ r).p=r.R.pd:=rfl;rw[e] at this;rw[this];rfl⟩))
     have Gh:w.heap.size<wG.heap.size:=(Array.getElem?_eq_some_iff.1 oU).1;have H9:=zC (λ (W:W8) (hW:Below wG.heap.size wG W)=>(show W.cell? ⟨w.heap.size,0,none⟩=some (.int .i64 (k:Nat))/\W.cell? ⟨w.heap.size,1,none⟩=some (.slice an aJ.length cn) from ⟨(hW.cell (p:=⟨w.heap.size,0,none⟩) Gh).trans q0,(hW.cell (p:=⟨w.heap.size,1,none⟩) Gh).trans q1⟩));have CX:=GM.lt;clear dB sq oU Dq uM GM EU DZ;go_wp2_with (first | (go_at_call 180;refine (zA qv).mono ?_;rintro en wD ⟨Ar,c1,rfl,mC⟩;obtain⟨d0,d1⟩:=zA H9 wD Ar;have ow:=zC Ar;have vl:=zC mC;have G3:=zC (zA pZ wD Ar);clear Ar mC;cases qg:c1 <;> rw[qg] at vl) | (go_at_call 181;refine (zA G3).mono ?_;rintro en wE ⟨Fk,c2,rfl,nA⟩;have vi:=zC Fk;have ks:=zC nA;clear Fk nA;cases hce:c2 <;> rw[hce] at ks))
     ·go_ret2
      exact⟨(zA vr).trans ((zA ow).mono (zA vr).size),m,zA fw,.inr ⟨λ fF h=>(by have h2:=h.2.1;rw[zA HO] at h2;obtain rfl:=Option.some.inj h2;exact absurd ((zA vl).2 h.2.2.2.1) (by simp)),rfl⟩⟩
     ·go_ret2
      exact⟨(zA vr).trans (((zA ow).trans ((zA vi).mono (zA ow).size)).mono (zA vr).size),m,zA fw,.inr ⟨λ fF h=>(by have h2:=h.2.1;rw[zA HO] at h2;obtain rfl:=Option.some.inj h2;exact absurd ((zA ks).2 (z8z.2 h.2.2.2.2)) (by simp)),rfl⟩⟩
     ·go_ret2
      have kE:=(zA ow).trans ((zA vi).mono (zA ow).size);exact⟨(zA vr).trans (kE.mono (zA vr).size),m,zA fw,.inl ⟨st,_,⟨Aw,zA HO,zA ju,(zA vl).1 (by trivial),z8z.1 ((zA ks).1 (by trivial))⟩,rfl,(zA Hp).block (kE.block _ CX)⟩⟩
  ·have hd:decide ((m:Int)<(k:Int))=true:=(by simp;omega);rw[hd];clear eM tX o8 HC rH;go_wp2_with fail
   go_ret2
   exact⟨zA mm,m,zA fw,.inr ⟨λ st h=>Aw h.1,rfl⟩⟩
end
end Go.Proofs.YtldkpahaocjdpaaGreat
