/-
  denies: the negative literals of the steps.
-/
import Derived.Test.YtldkpahaocjdpaaGreatR39
set_option maxHeartbeats 16000000
set_option maxRecDepth 1000000
namespace Go.Proofs.YtldkpahaocjdpaaGreat
section
open Go.RowKit Go.Maps Go.ChangeMaps Go.WideMaps
attribute [local go_sem ↓] to_bLoad to_bStore to_bAlloc bindV_cells to_tLoad to_tStore to_tAlloc thV_cells to_stLoad to_stStore to_stAlloc to_stBuild to_stOne stepV_cells
attribute [local go_sem] run_stAlloc
theorem SMap.lr {w:W8}{b n:Nat}{V:B8->Option Value}(h:SMap Tryz.prog 9 w b n V){key:B8}(du:key.size<=maxLen):(Instr.lookup 73 (.map (some b)) (.string key) false).run Tryz.prog w=.ok ((V key).getD (.agg #[.string { data:=#[] },.int .i64 0,.int .i64 0])) w:=by
 obtain⟨D,hD,h3⟩:=h;obtain⟨v,ps,fC,hv⟩:=hD.lookup (string_keyed Tryz.underlying9) Tryz.underlying73 (Tryz.zeroValue185 _) (zd:=.held (.agg #[.string { data:=#[] },.int .i64 0,.int .i64 0])) (zp:=[]) rfl (keyOf_string_mk Tryz.underlying9 du);have h1:=((h3 key).2 _).symm.trans (held_inj hv);have h2:(V key).getD (.agg #[.string { data:=#[] },.int .i64 0,.int .i64 0])=v:=DataW.held.inj h1;rw[h2];exact fC
structure DenyArg (w:W8)(base mb tb n:Nat)(ps:P9)(Sp:B8->Nat)(st:List aK)(sv:Value):Prop where
 steps:StepsIn w 0 sv st
 ft:st.length<=50
 rule:∀ s∈st,ev w base s.r
 l3:∀ s∈st,s.r.bs.length<=3
 t4:∀ s∈st,∀ x∈s.r.bs,x.1.ts.length<=4
 len:∀ s∈st,s.e.length<=12
 neg:∀ s∈st,∀ a∈negOf s.r.bs,ThOk (aB s.e a)/\a.p.size<=800/\(numOf ps a.p).isSome=true
 m:aM w mb (saidK st)
 t:SMap Tryz.prog 9 w tb n (stV ps Sp)
def DenyPost (w:W8)(P:Prop)(e:Ending)(w':W8):Prop:=Below w.heap.size w w'/\∃ c:Bool,e=.returned (.bool c)/\(c=true↔P)
def NegOk (Sp:B8->Nat)(K:Nat)(st:List aK)(s:aK)(a:PAtm):Prop:=aB s.e a∉st.map (·.t)/\Sp a.p<K
theorem denies_any (w:W8)(base mb tb n K:Nat)(nv:Value)(ps:P9)(Sp:B8->Nat)(st:List aK)(a:O8)(c:Nat)(h:DenyArg w base mb tb n ps Sp st (.slice a st.length c))(an:O8)(nn cn:Nat)(env:nv=.slice an nn cn):
  Calls Tryz.prog 180 #[.agg #[.int .i64 (K:Nat),nv],.slice a st.length c,.map (some mb),.map (some tb)] w (DenyPost w (DenyP Sp K st)):=by
 subst env;have hm:=own_max h.steps.row;unfold maxLen at hm;have H:=hide h;have fZ:=h.t.lt;have ed:=h.m.lt;clear h;have uk:=fieldStr;go_enter Tryz.func180,Tryz.ntmps180;go_upto_region 1 with fail;have j3:Below w.heap.size w (w.alloc (.cells #[.int .i64 (K:Nat),.slice an nn cn] 93)):=B9.alloc L9 _;have mA:=heap_alloc_new w (.cells #[.int .i64 (K:Nat),.slice an nn cn] 93);generalize (w.alloc (.cells #[.int .i64 (K:Nat),.slice an nn cn] 93))=w0 at *;have iI:=hide (And.intro j3 mA);clear j3 mA;go_wp2_with fail
 go_loopg [17] st.length (λ gg ii wr=>∃ k:Nat,k<=st.length/\gg=st.length-k/\ii=.int .i64 k/\Below w.heap.size w wr/\wr.heap[w.heap.size]?=some (.cells #[.int .i64 (K:Nat),.slice an nn cn] 93 (0,0))/\∀ s∈st.take k,∀ x∈negOf s.r.bs,NegOk Sp K st s x)
 exact⟨0,Nat.zero_le _,rfl,rfl,(ad iI).1,(ad iI).2,by simp⟩
 case round=>
  clear iI;obtain⟨k,hk,fM,rfl,cV,da,bh⟩:=hrel;have gw:=hide cV;have tj:=hide da;have dv:=hide bh;have lK:=(Array.getElem?_eq_some_iff.1 da).1
  by_cases aN:k<st.length
  ·have gW:(k:Int)<st.length:=(by omega);have aE:=own_below (ad H).steps.row cV (λ g e=>((ad H).steps.row.lt g e).2);obtain⟨g,cap,hv,-,dp,dG,dx,hc⟩:=step_at aE aN;injection hv with h1 h2 h3
   subst h1 h3;have bC:=List.getElem_mem aN;have gC:=(ad H).rule _ bC;have tW:=gC.one;have qi:=stepP_load hc;have fU:=hide (show st.take (k+1)=st.take k++[st[k]] from List.take_succ_eq_append_getElem aN);have sM:=λ (W:W8) (s:aK)=>stStore_new W s st[k] tW
   have sr:=(ad H).l3 _ bC;have zt:=(ad H).t4 _ bC;have hlen:=(ad H).len _ bC;have eH:=(ad H).neg _ bC;obtain⟨ah,ch,fs⟩:=own_slice gC.hd;obtain⟨ab,cb,fi⟩:=own_slice gC.bo.row;have eL:=gC.bo;rw[fi] at eL;have rG:=hide eL;have lk:=gO.new wr st[k];have iR:=hide bC;have BF:=hide zt;have Bi:=hide eH;have kA:=(Below.refl wr.heap.size wr).alloc L9 (.cells (stepCells st[k]).toArray 352);generalize hS:st[k]=s at *;clear hc aE bC gC zt eH eL bh da cV;go_upto_region 4 with fail;generalize bq:World.alloc wr _=w1 at *;have c0:=(block_cells lk 0).1;have c1:=(block_cells lk 1).1;have c2:=(block_cells lk 2).1;simp only[stepCells,PR.cells,List.getElem?_toArray,List.cons_append,List.nil_append,List.getElem?_cons_zero,List.getElem?_cons_succ] at c0 c1 c2;rw[fs] at c1;rw[fi] at c2;have Gv:Below w.heap.size w w1:=(ad gw).trans (kA.mono (ad gw).size);have Ei:=hide (negative_any w1 base s.r.R.pd ah s.r.R.ts.length ch ab cb s.r.bs ((ad rG).below Gv) (by omega));have Ev:=hide lk;have mm:=hide kA;have s1:wr.heap.size<w1.heap.size:=lk.lt;clear bq lk kA Gv qi sM;go_upto_region 5 with (go_at_call 223;refine (ad Ei).mono ?_;rintro en wP ⟨ap,cp,rfl,jC,qT,zA⟩;have nZ:=hide jC;have oy:=hide qT;clear jC qT zA);clear c0 c1 c2 Ei;have ik:(s.r.bs.filter (isNeg true)).length=(aC true s.r.bs).length:=(by unfold aC;rw[List.length_map]);have lI:(aC true s.r.bs).length<=3:=by
    rw[<-ik];exact Nat.le_trans (List.length_filter_le _ _) sr
   have F2:wP.ownsRow 0 79 2 (.slice ap (aC true s.r.bs).length cp) (aC true s.r.bs).length ((aC true s.r.bs).flatMap atomCells):=by
    have:=ad nZ;rw[ik,<-eT] at this;exact aw this (Nat.zero_le _)
   have Gx:Below w.heap.size w wP:=(ad gw).trans (((ad mm).trans ((ad oy).mono (ad mm).size)).mono (ad gw).size);have Fl:wP.heap[w.heap.size]?=some (.cells #[.int .i64 (K:Nat),.slice an nn cn] 93 (0,0)):=(((ad mm).trans ((ad oy).mono (ad mm).size)).block _ lK).trans (ad tj);have F6:gO wP wr.heap.size s:=(ad Ev).below (ad oy);have Ac:=hide F2;have wR:=hide Gx;have wo:=hide Fl;have BC:=hide F6;rw[ik];generalize wr.heap.size=iy at *;clear ik nZ oy Ev mm gw tj F2 Gx Fl F6 s1
   go_loopg [25] (aC true s.r.bs).length (λ gg ii wq=>∃ j:Nat,j<=(aC true s.r.bs).length/\gg=(aC true s.r.bs).length-j/\ii=.int .i64 j/\Below wP.heap.size wP wq/\∀ x∈(aC true s.r.bs).take j,NegOk Sp K st s x.1)
   exact⟨0,Nat.zero_le _,rfl,rfl,Below.refl _ _,by simp⟩
   case round=>
    obtain⟨j,hj,uo,rfl,uy,mz⟩:=hrel;have vs:=hide uy;have GY:=hide mz;have CM:Below w.heap.size w wr:=(ad wR).trans (uy.mono (ad wR).size);have zV:=hide CM;have oV:=(uy.block _ (Array.getElem?_eq_some_iff.1 (ad wo)).1).trans (ad wo)
    by_cases hlj:j<(aC true s.r.bs).length
    ·have vJ:(j:Int)<(aC true s.r.bs).length:=(by omega);have aE:=own_below (ad Ac) uy (λ g e=>((ad Ac).lt g e).2);obtain⟨gp,IK,hv,-,Jo,JQ,yr,hc⟩:=row_at atom_len aE j hlj;injection hv with h1 h2 h3
     subst h1 h3;have hx:=List.getElem_mem hlj;obtain⟨y,hy,km⟩:=litsOf_mem hx;obtain⟨AT,nu⟩:∃ AT,AT=(aC true s.r.bs)[j].1:=⟨_,rfl⟩;have B2:AT∈negOf s.r.bs:=(by rw[nu];exact List.mem_map_of_mem hx);have gl:=(ad rG).each y hy;obtain⟨ta,tc,ji⟩:=own_slice gl;have qO:AT=(litAtm y).1:=(by rw[nu,km]);have gE:AT.ts.length<=4:=(by rw[qO];exact ad BF y hy);have e0:wr.cell? ⟨gp,j*2,none⟩=some (.string AT.p):=(by have:=hc 0 (by omega);rw[nu];exact this);have e1:wr.cell? ⟨gp,j*2+1,none⟩=some (.slice ta AT.ts.length tc):=by
      have:=hc 1 (by omega);rw[km] at this;rw[qO];exact this.trans (by show some y.2=_;rw[ji];rfl)
     have ia:w.ownsRow base 191 1 (.slice ta AT.ts.length tc) AT.ts.length (AT.ts.map termV):=by
      rw[qO];rw[ji] at gl;exact gl
     obtain⟨bX,mJ,gj⟩:=ad Bi AT B2;have du:AT.p.size<=maxLen:=(by unfold maxLen;omega);obtain⟨m,eG⟩:=Option.isSome_iff_exists.1 gj;have hu:(stV ps Sp AT.p).getD (.agg #[.string { data:=#[] },.int .i64 0,.int .i64 0])=.agg #[.string AT.p,.int .i64 (Sp AT.p),.int .i64 m]:=(by unfold stV;rw[eG];rfl);have BH:=hide (show (aC true s.r.bs).take (j+1)=(aC true s.r.bs).take j++[(aC true s.r.bs)[j]] from List.take_succ_eq_append_getElem hlj);have vZ:=hide nu;have D1:=hide B2;have kA:=(Below.refl wr.heap.size wr).alloc L9 (.cells #[.string AT.p,.slice ta AT.ts.length tc] 79);have dJ:=heap_alloc_new wr (.cells #[.string AT.p,.slice ta AT.ts.length tc] 79);have uN:=(ad BC).below uy;clear hc hx km nu B2 gl ji qO gj eG aE mz CM h2;go_upto_region 7 with fail;generalize kj:World.alloc wr _=w2 at *;have F7:=(uN.below kA).bound;have a0:=(block_cells dJ 0).1;have a1:=(block_cells dJ 1).1;simp only[List.getElem?_toArray,List.getElem?_cons_zero,List.getElem?_cons_succ] at a0 a1;have jU:Below w.heap.size w w2:=(ad zV).trans (kA.mono (ad zV).size);have wI:=hide (pfill_any w2 base s.e AT ta tc (own_below ia jU (λ g e1=>(ia.lt g e1).2)) gE hlen);have eW:=(kA.block _ (Array.getElem?_eq_some_iff.1 oV).1).trans oV;have Ey:=hide (And.intro jU (And.intro dJ eW));have Db:wr.heap.size<w2.heap.size:=(Array.getElem?_eq_some_iff.1 dJ).1
     have iT:=hide (λ (W:W8) (hW:Below w2.heap.size w2 W)=>(show aM W mb (saidK st)/\SMap Tryz.prog 9 W tb n (stV ps Sp)/\W.cell? ⟨wr.heap.size,0,none⟩=some (.string AT.p)/\W.cell? ⟨w.heap.size,0,none⟩=some (.int .i64 (K:Nat))/\Below w.heap.size w W/\Below wP.heap.size wP W from by
      have kW:=jU.trans (hW.mono jU.size);refine⟨(ad H).m.block (kW.block mb ed),(ad H).t.block (kW.block tb fZ),(hW.cell (p:=⟨wr.heap.size,0,none⟩) Db).trans a0,?_,kW,(ad vs).trans ((kA.trans (hW.mono kA.size)).mono (ad vs).size)⟩;have:=(block_cells eW 0).1
      exact (hW.cell (p:=⟨w.heap.size,0,none⟩) (Array.getElem?_eq_some_iff.1 eW).1).trans this))
     generalize hPF:aB s.e AT=TH at *;have El:=hide hPF;clear kj dJ uN jU kA e0 e1 ia eW oV uy
     cases fN:ay (saidK st) TH with
     | some m1=>
      have mX:=hide (show ¬ DenyP Sp K st from λ hd=>by
       have h5:=(hd s (ad iR) AT (ad D1)).1;rw[ad El] at h5;refine h5 ?_;rw[<-saidK_keys]
       exact look_keys.1 (by rw[fN];rfl))
      have iJ:=hide fN;clear fN;go_wp2_with (first | (go_at_call 146;refine (ad wI).mono ?_;rintro en w4 ⟨bQ,rfl⟩;obtain⟨m4,t4,x4,y4,k4,q4⟩:=ad iT w4 bQ;have sW:=t4.lr du;rw[hu] at sW;have oz:=hide k4;clear bQ k4 q4) | (at_lookup;refine wp_hlook _ rfl _ _ 82 rfl Tryz.underlying82 mb (saidK st) rfl m4 TH rfl bX _ rfl true (by rw[ad iJ];rfl) ?_));go_ret;exact⟨ad oz,false,rfl,⟨λ h=>by (cases h),λ h=>absurd h (ad mX)⟩⟩
     | none=>
      have iJ:=hide fN
      have Hv:=hide (show TH∉st.map (·.t) from λ h5=>by
       rw[<-saidK_keys] at h5;have:=look_keys.2 h5;rw[fN] at this
       cases this)
      clear fN
      by_cases hSK:Sp AT.p<K
      ·have I3:¬ ((K:Int)<=Sp AT.p):=(by omega);have j2:decide ((K:Int)<=Sp AT.p)=false:=(by simp;omega);go_wp2_with (first | (go_at_call 146;refine (ad wI).mono ?_;rintro en w4 ⟨bQ,rfl⟩;obtain⟨m4,t4,x4,y4,k4,q4⟩:=ad iT w4 bQ;have sW:=t4.lr du;rw[hu] at sW;have oz:=hide q4;clear bQ k4 q4) | (at_lookup;refine wp_hlook _ rfl _ _ 82 rfl Tryz.underlying82 mb (saidK st) rfl m4 TH rfl bX _ rfl false (by rw[ad iJ];rfl) ?_));go_roundg ((aC true s.r.bs).length-(j+1))
       case measure=>omega
       case rel=>
        refine⟨j+1,by omega,rfl,by go_num,ad oz,λ x hx=>?_⟩;rw[ad BH] at hx;rcases List.mem_append.1 hx with hx | hx
        ·exact ad GY x hx
        ·rw[List.mem_singleton.1 hx];refine⟨?_,?_⟩
         ·rw[<-ad vZ,ad El];exact ad Hv
         ·rw[<-ad vZ];exact hSK
      ·have I3:(K:Int)<=Sp AT.p:=(by omega);have j2:decide ((K:Int)<=Sp AT.p)=true:=(by simp;omega);have mX:=hide (show ¬ DenyP Sp K st from λ hd=>hSK (hd s (ad iR) AT (ad D1)).2);go_wp2_with (first | (go_at_call 146;refine (ad wI).mono ?_;rintro en w4 ⟨bQ,rfl⟩;obtain⟨m4,t4,x4,y4,k4,q4⟩:=ad iT w4 bQ;have sW:=t4.lr du;rw[hu] at sW;have oz:=hide k4;clear bQ k4 q4) | (at_lookup;refine wp_hlook _ rfl _ _ 82 rfl Tryz.underlying82 mb (saidK st) rfl m4 TH rfl bX _ rfl false (by rw[ad iJ];rfl) ?_));go_ret;exact⟨ad oz,false,rfl,⟨λ h=>by (cases h),λ h=>absurd h (ad mX)⟩⟩
    ·have vJ:¬ (j:Int)<(aC true s.r.bs).length:=by omega
     have HD:=hide (show ∀ x∈negOf s.r.bs,NegOk Sp K st s x from λ x hx=>by
      obtain⟨y,hy,rfl⟩:=List.mem_map.1 hx
      exact mz y (by rw[List.take_of_length_le (by omega)];exact hy))
     have zS:=hide oV;clear mz CM uy oV;go_wp2_with fail;go_roundg (st.length-(k+1))
     case measure=>omega
     case rel=>
      refine⟨k+1,by omega,rfl,by go_num,ad zV,ad zS,λ x hx=>?_⟩;rw[ad fU] at hx;rcases List.mem_append.1 hx with hx | hx
      ·exact ad dv x hx
      ·rw[List.mem_singleton.1 hx];exact ad HD
  ·have gW:¬ (k:Int)<st.length:=(by omega);have lX:st.take k=st:=List.take_of_length_le (by omega);rw[lX] at dv;clear bh da cV lX;go_wp2_with fail;go_ret;exact⟨ad gw,true,rfl,⟨λ _=>ad dv,λ _=>rfl⟩⟩
end
section
open Go.RowKit Go.Maps
def ClosB (Sp:B8->Nat)(k:Nat)(rs:List PR)(K:List (Th × Nat)):Prop:=∀ r∈rs,Sp r.R.pd<k->AllSaid K r
theorem closed_any (w:W8)(base mb tb n k:Nat)(an:O8)(nn cn:Nat)(ps:P9)(Sp:B8->Nat)(ar:O8)(cr:Nat)(rs:List PR)(K:List (Th × Nat))(hr:bR w base (.slice ar rs.length cr) rs)(hm:aM w mb K)(ht:SMap Tryz.prog 9 w tb n (stV ps Sp))(bX:∀ r∈rs,RuleOk K r)(eN:∀ r∈rs,r.R.pd.size<=800/\(numOf ps r.R.pd).isSome=true):
  Calls Tryz.prog 181 #[.agg #[.int .i64 (k:Nat),.slice an nn cn],.slice ar rs.length cr,.map (some mb),.map (some tb)] w (DenyPost w (ClosB Sp k rs K)):=by
 have mG:=own_max hr.row;unfold maxLen at mG;have HR:=hide hr;have HM:=hide hm;have HT:=hide ht;have iS:=hide bX;have qC:=hide eN;have ed:=hm.lt;have fZ:=ht.lt;clear hr hm ht bX eN;have uk:=fieldStr;go_enter Tryz.func181,Tryz.ntmps181;go_upto_region 1 with fail;have j3:Below w.heap.size w (w.alloc (.cells #[.int .i64 (k:Nat),.slice an nn cn] 93)):=B9.alloc L9 _;have mA:=heap_alloc_new w (.cells #[.int .i64 (k:Nat),.slice an nn cn] 93);generalize (w.alloc (.cells #[.int .i64 (k:Nat),.slice an nn cn] 93))=w0 at *;have iI:=hide (And.intro j3 mA);clear j3 mA;go_wp2_with fail
 go_loopg [13] rs.length (λ gg ii wr=>∃ i:Nat,i<=rs.length/\gg=rs.length-i/\ii=.int .i64 i/\Below w.heap.size w wr/\wr.heap[w.heap.size]?=some (.cells #[.int .i64 (k:Nat),.slice an nn cn] 93 (0,0))/\∀ r∈rs.take i,Sp r.R.pd<k->AllSaid K r)
 exact⟨0,Nat.zero_le _,rfl,rfl,(ad iI).1,(ad iI).2,by simp⟩
 case round=>
  clear iI;obtain⟨i,hi,Fy,rfl,cV,da,bh⟩:=hrel;have gw:=hide cV;have tj:=hide da;have dv:=hide bh;have lK:=(Array.getElem?_eq_some_iff.1 da).1
  by_cases qj:i<rs.length
  ·have yG:(i:Int)<rs.length:=(by omega);obtain⟨r,eI⟩:∃ r,r=rs[i]:=⟨_,rfl⟩;have bC:r∈rs:=(by rw[eI];exact List.getElem_mem qj);have ak:=(ad HR).each r bC;obtain⟨ah,ch,fs⟩:=own_slice ak.hd;obtain⟨ab,cb,fi⟩:=own_slice ak.bo.row;obtain⟨g,cap,hv,iC,dp,dG,dx,hc⟩:=row_at pr_len3 (ad HR).row i qj;injection hv with h1 h2 h3
   subst h1 h3;have e0:wr.cell? ⟨g,i*3,none⟩=some (.string r.R.pd):=(by rw[eI];exact (cV.cell (p:=⟨g,i*3,none⟩) dp).trans (hc 0 (by omega)));have e1:wr.cell? ⟨g,i*3+1,none⟩=some (.slice ah r.R.ts.length ch):=(by rw[<-fs,eI];exact (cV.cell (p:=⟨g,i*3+1,none⟩) dp).trans (hc 1 (by omega)));have e2:wr.cell? ⟨g,i*3+2,none⟩=some (.slice ab r.bs.length cb):=(by rw[<-fi,eI];exact (cV.cell (p:=⟨g,i*3+2,none⟩) dp).trans (hc 2 (by omega)));have fU:=hide (show rs.take (i+1)=rs.take i++[r] by rw[eI];exact List.take_succ_eq_append_getElem qj);have mM:=ad iS r bC;obtain⟨mJ,gj⟩:=ad qC r bC;have du:r.R.pd.size<=maxLen:=(by unfold maxLen;omega);obtain⟨m,eG⟩:=Option.isSome_iff_exists.1 gj;have hu:(stV ps Sp r.R.pd).getD (.agg #[.string { data:=#[] },.int .i64 0,.int .i64 0])=.agg #[.string r.R.pd,.int .i64 (Sp r.R.pd),.int .i64 m]:=(by unfold stV;rw[eG];rfl);have kA:=(Below.refl wr.heap.size wr).alloc L9 (.cells #[.string r.R.pd,.slice ah r.R.ts.length ch,.slice ab r.bs.length cb] 123);have dJ:=heap_alloc_new wr (.cells #[.string r.R.pd,.slice ah r.R.ts.length ch,.slice ab r.bs.length cb] 123);have iR:=hide bC;have bt:=hide ak;have ly:=hide mM;have A5:=hide (And.intro fs fi);clear hc ak eI bC gj eG mM bh fs fi h2;go_upto_region 4 with fail;generalize kj:World.alloc wr _=w2 at *;have jU:Below w.heap.size w w2:=cV.trans (kA.mono cV.size);have eW:=(kA.block _ lK).trans da;have t2:SMap Tryz.prog 9 w2 tb n (stV ps Sp):=(ad HT).block (jU.block tb fZ);have m2:aM w2 mb K:=(ad HM).block (jU.block mb ed);have a0:=(block_cells dJ 0).1;have a1:=(block_cells dJ 1).1;have a2:=(block_cells dJ 2).1;have q0:=(block_cells eW 0).1;simp only[List.getElem?_toArray,List.getElem?_cons_zero,List.getElem?_cons_succ] at a0 a1 a2 q0;have jt:=hide jU;have tk:=hide eW
   by_cases hSK:Sp r.R.pd<k
   ·have j2:decide ((Sp r.R.pd:Int)<k)=true:=(by simp;omega);have ak:=ad bt;have vS:=says_any w2 base mb r K ⟨own_below ak.hd jU (λ g e=>(ak.hd.lt g e).2),ak.bo.below jU,ak.eq⟩ m2 (ad ly);rw[(ad A5).1,(ad A5).2] at vS;have Ij:=hide vS;clear ak vS kj kA dJ e0 e1 e2 da cV m2 jU eW;go_wp2_with (first | (at_lookup;refine wp_look _ rfl _ _ 73 rfl 9 185 Tryz.underlying9 Tryz.underlying73 (Tryz.zeroValue185 _) tb n (stV ps Sp) rfl t2 r.R.pd rfl du _ hu ?_) | (go_at_call 224;refine (ad Ij).mono ?_;rintro en w4 ⟨bQ,c,rfl,Fo⟩;have eC:=hide bQ;have pY:=hide Fo;clear bQ Fo;cases qg:c))
    ·rw[qg] at pY;go_ret;have kw:=(ad jt).trans ((ad eC).mono (ad jt).size);refine⟨kw,false,rfl,λ h=>(by cases h),λ h=>?_⟩;exact ((ad pY).2 (h r (ad iR) hSK))
    ·rw[qg] at pY;go_roundg (rs.length-(i+1))
     case measure=>omega
     case rel=>
      have kw:=(ad jt).trans ((ad eC).mono (ad jt).size);refine⟨i+1,by omega,rfl,by go_num,kw,((ad eC).block _ (Array.getElem?_eq_some_iff.1 (ad tk)).1).trans (ad tk),λ x hx=>?_⟩;rw[ad fU] at hx;rcases List.mem_append.1 hx with hx | hx
      ·exact ad dv x hx
      ·rw[List.mem_singleton.1 hx];exact λ _=>(ad pY).1 rfl
   ·have j2:decide ((Sp r.R.pd:Int)<k)=false:=(by simp;omega);clear kj kA dJ e0 e1 e2 da cV m2 jU eW bt ly;go_wp2_with (at_lookup;refine wp_look _ rfl _ _ 73 rfl 9 185 Tryz.underlying9 Tryz.underlying73 (Tryz.zeroValue185 _) tb n (stV ps Sp) rfl t2 r.R.pd rfl du _ hu ?_);go_roundg (rs.length-(i+1))
    case measure=>omega
    case rel=>
     refine⟨i+1,by omega,rfl,by go_num,ad jt,ad tk,λ x hx=>?_⟩;rw[ad fU] at hx;rcases List.mem_append.1 hx with hx | hx
     ·exact ad dv x hx
     ·rw[List.mem_singleton.1 hx];exact λ h=>absurd h hSK
  ·have yG:¬ (i:Int)<rs.length:=(by omega);have lX:rs.take i=rs:=List.take_of_length_le (by omega);rw[lX] at dv;clear bh da cV lX;go_wp2_with fail;go_ret;exact⟨ad gw,true,rfl,λ _=>ad dv,λ _=>rfl⟩
end
section
open Go.RowKit Go.Maps
def RightQ (rs:List PR)(Sp:B8->Nat)(m k:Nat)(ns:List (Nat × List Nat))(st:List aK):Prop:=k<=m/\stepsP rs ns []=some st/\(st.map (·.t)).Nodup/\DenyP Sp k st/\ClosP Sp k rs st
def RgtPost (w:W8)(ps:P9)(Sp:B8->Nat)(P:Nat->List aK->Prop)(e:Ending)(w':W8):Prop:=
 Below w.heap.size w w'/\∃ m,IsCount ps Sp m/\((∃ st mb,P m st/\e=.returned (.tuple #[.map (some mb),.bool true])/\aM w' mb (saidK st))\/((∀ st,¬ P m st)/\e=.returned (.tuple #[.map none,.bool false])))
theorem clos_b {Sp:B8->Nat}{k:Nat}{rs:List PR}{st:List aK}:ClosB Sp k rs (saidK st)↔ClosP Sp k rs st:=by
 unfold ClosB AllSaid ClosP;rw[saidK_keys]
structure RgtArg (w:W8)(base tb n:Nat)(ps:P9)(Sp:B8->Nat)(rs:List PR)(rv:Value)(aJ:List ND)(nv:Value):Prop where
 rules:bR w base rv rs
 dh:∀ r∈rs,bF ps r
 nodes:bN w 0 nv aJ
 ft:aJ.length<=50
 ix:∀ x∈aJ,∃ h:x.r<rs.length,x.fr.length=(posOf rs[x.r].bs).length
 t:SMap Tryz.prog 9 w tb n (stV ps Sp)
 str:∀ k,(numOf ps k).isSome=true->Sp k<=1000000
theorem stepsP_len (rp:List PR):∀ (ns:List (Nat × List Nat)) (st fF:List aK),stepsP rp ns st=some fF->fF.length=st.length+ns.length
 | [],st,fF,h=>by obtain rfl:=Option.some.inj h;simp
 | x::q,st,fF,h=>by
  rw[stepsP] at h
  split at h
  ·cases h
  ·split at h
   ·cases h
   ·have:=stepsP_len rp q _ _ h;rw[this];simp;omega
theorem right_any (w:W8)(base tb n k:Nat)(ps:P9)(Sp:B8->Nat)(rs:List PR)(ar:O8)(cr:Nat)(aJ:List ND)(an:O8)(cn:Nat)(h:RgtArg w base tb n ps Sp rs (.slice ar rs.length cr) aJ (.slice an aJ.length cn)):
  Calls Tryz.prog 122 #[.agg #[.int .i64 (k:Nat),.slice an aJ.length cn],.slice ar rs.length cr,.map (some tb)] w (RgtPost w ps Sp (λ m st=>RightQ rs Sp m k (aJ.map dX) st)):=by
 have H:=hide h;have fZ:=h.t.lt;clear h;go_enter Tryz.func122,Tryz.ntmps122;go_upto_region 1 with fail;have j3:Below w.heap.size w (w.alloc (.cells #[.int .i64 (k:Nat),.slice an aJ.length cn] 93)):=B9.alloc L9 _;have mA:=heap_alloc_new w (.cells #[.int .i64 (k:Nat),.slice an aJ.length cn] 93);generalize (w.alloc (.cells #[.int .i64 (k:Nat),.slice an aJ.length cn] 93))=w0 at *;have lK:w.heap.size<w0.heap.size:=(Array.getElem?_eq_some_iff.1 mA).1;have c0:=(block_cells mA 0).1;simp only[List.getElem?_toArray,List.getElem?_cons_zero] at c0;have HC:=hide (λ (W:W8) (hW:Below w0.heap.size w0 W)=>count_any W tb n ps Sp ((ad H).t.block ((j3.trans (hW.mono j3.size)).block tb fZ)) (ad H).str);have rH:=hide (λ (W:W8) (hW:Below w0.heap.size w0 W)=>(hW.cell (p:=⟨w.heap.size,0,none⟩) lK).trans c0);have cq:=hide j3;have gd:=hide mA;clear j3 mA
 go_cut [15] from 11 to 47 (λ c wc=>∃ m:Nat,c=.bool (decide ((m:Int)<(k:Int)))/\IsCount ps Sp m/\Below w0.heap.size w0 wc)
 case first=>
  go_region_held3 (λ w'=>w'.cell? ⟨w.heap.size,0,none⟩=some (.int .i64 (k:Nat))) (first | exact ad rH _ bY | exact ad rH _ B9.drew) ((go_at_call 59;refine (ad HC _ (by first | exact B9.drew)).mono ?_;rintro en w4 ⟨m,rfl,eM,bQ⟩;have bY:Below w0.heap.size w0 w4:=below_of_drew bQ;have x4:=ad rH w4 bY))
  all_goals
   go_wp2_with fail;go_meet
   case rel=>exact⟨_,by first | rfl | simp,eM,bY⟩
 case rest=>
  generalize wc=wA at *;obtain⟨m,rfl,eM,tX⟩:=hcut;have o8:Below w.heap.size w wA:=(ad cq).trans (tX.mono (ad cq).size);have fu:=(tX.block _ lK).trans (ad gd);have fw:=hide eM;have mm:=hide o8;have G1:=hide fu
  by_cases Aw:k<=m
  ·have hd:decide ((m:Int)<(k:Int))=false:=(by simp;omega);rw[hd];have q0:=(block_cells fu 0).1;have q1:=(block_cells fu 1).1;simp only[List.getElem?_toArray,List.getElem?_cons_zero,List.getElem?_cons_succ] at q0 q1
   have zk:bR wA base (.slice ar rs.length cr) rs:=⟨own_below (ad H).rules.row o8 (λ g e=>((ad H).rules.row.lt g e).2),λ r hr=>by
    have:=(ad H).rules.each r hr
    exact⟨own_below this.hd o8 (λ g e=>(this.hd.lt g e).2),this.bo.below o8,this.eq⟩⟩
   have fT:=hide (steps_any wA base k rs ar cr aJ an cn ⟨zk,λ r hr=>((ad H).dh r hr).l3,λ r hr x hx=>(((ad H).dh r hr).ls x hx).w.ft,λ r hr=>((ad H).dh r hr).hd.w.ft,(ad H).nodes.below o8,(ad H).ft,(ad H).ix⟩);clear eM tX o8 zk HC rH cq gd c0;have HQ1:=hide (And.intro q0 q1)
   cases hO:stepsP rs (aJ.map dX) [] with
   | none=>
    rw[hO] at fT;have HO:=hide hO;clear hO fu;go_wp2_with (go_at_call 178;refine (ad fT).mono ?_;rintro en wS ⟨ye,v,rfl,ak⟩;have j9:=hide ye;clear ye ak)
    go_ret2
    exact⟨(ad mm).trans ((ad j9).mono (ad mm).size),m,ad fw,.inr ⟨λ st h=>(by have h2:=h.2.1;rw[ad HO] at h2;cases h2),rfl⟩⟩
   | some st=>
    rw[hO] at fT;have HO:=hide hO;have F9:=steps_good (ad H).dh (aJ.map dX) [] st (by simp) hO;have lJ:st.length<=50:=by
     have:=stepsP_len rs _ _ _ hO;have h2:=(ad H).ft;simp at this;omega
    have qa:=hide F9;clear hO F9;go_upto_region 4 with (go_at_call 178;refine (ad fT).mono ?_;rintro en wS ⟨ye,v,rfl,ak⟩;have AF:=ak.row;simp only[Option.getD_some] at AF;obtain⟨sa,cs,rfl⟩:=own_slice AF;have p9:=hide AF;have j9:=hide ye;clear ye ak AF);have FG:Below w.heap.size w wS:=(ad mm).trans ((ad j9).mono (ad mm).size);have ug:=((ad j9).block _ (Array.getElem?_eq_some_iff.1 fu).1).trans fu;have Hc:=hide (gather_any wS 0 st sa cs ⟨aw (ad p9) (Nat.zero_le _)⟩ (λ s hs=>(ad qa s hs).ti.ok) lJ (λ s hs=>((ad H).rules.each _ (ad qa s hs).rule).one));have mV:=hide FG;have AZ:=hide ug;have J6:w.heap.size<wS.heap.size:=(Array.getElem?_eq_some_iff.1 ug).1;clear q0 q1 fu FG ug fT;go_upto_region 7 with (go_at_call 179;refine (ad Hc).mono ?_;rintro en wG ⟨vF,hg⟩;have G0:=hide vF;rcases hg with⟨dB,rfl⟩ | ⟨dB,rfl,vM⟩)
    ·have ju:=hide dB;clear dB vF;go_wp2_with fail
     go_ret2
     exact⟨(ad mV).trans ((ad G0).mono (ad mV).size),m,ad fw,.inr ⟨λ fF h=>(by have h2:=h.2.1;rw[ad HO] at h2;obtain rfl:=Option.some.inj h2;exact ad ju h.2.2.1),rfl⟩⟩
    ·have ju:=hide dB;have sq:Below w.heap.size w wG:=(ad mV).trans (vF.mono (ad mV).size);have oU:=(vF.block _ J6).trans (ad AZ);have q0:=(block_cells oU 0).1;have q1:=(block_cells oU 1).1;simp only[List.getElem?_toArray,List.getElem?_cons_zero,List.getElem?_cons_succ] at q0 q1;have Dq:=(ad H).t.block (sq.block tb fZ);have uM:∀ r∈rs,ev wG base r:=λ r hr=>by
      have:=(ad H).rules.each r hr;exact⟨own_below this.hd sq (λ g e=>(this.hd.lt g e).2),this.bo.below sq,this.eq⟩
     have qv:=hide (denies_any wG base wS.heap.size tb n k (.slice an aJ.length cn) ps Sp st sa cs ⟨⟨own_below (aw (ad p9) (Nat.zero_le _)) vF (λ g e=>((ad p9).lt g e).2)⟩,lJ,λ s hs=>uM _ (ad qa s hs).rule,λ s hs=>((ad H).dh _ (ad qa s hs).rule).l3,λ s hs x hx=>(((ad H).dh _ (ad qa s hs).rule).ls x hx).w.ft,λ s hs=>(ad qa s hs).rE.len,λ s hs a ha=>⟨((ad qa s hs).rE.neg a ha).ok,by have:=(((ad H).dh _ (ad qa s hs).rule).neg a ha).w.pd.le;omega,by rw[(((ad H).dh _ (ad qa s hs).rule).neg a ha).num];rfl⟩,vM,Dq⟩ an aJ.length cn rfl);have Hp:=hide vM;have vr:=hide sq;have G2:=hide oU;have EU:∀ p∈saidK st,eE ps p.1:=λ p hp=>by
      have:p.1∈(saidK st).map (·.1):=List.mem_map_of_mem hp;rw[saidK_keys] at this;obtain⟨s,hs,e⟩:=List.mem_map.1 this;rw[<-e];exact (ad qa s hs).ti
     have pZ:=hide (λ (W:W8) (hW:Below wG.heap.size wG W)=>closed_any W base wS.heap.size tb n k an aJ.length cn ps Sp ar cr rs (saidK st) ⟨own_below (ad H).rules.row (sq.trans (hW.mono sq.size)) (λ g e=>((ad H).rules.row.lt g e).2),λ r hr=>by
       have:=uM r hr
       exact⟨own_below this.hd hW (λ g e=>(this.hd.lt g e).2),this.bo.below hW,this.eq⟩⟩ (vM.block (hW.block _ vM.lt)) (Dq.block (hW.block tb (by have:=sq.size;omega))) (λ r hr=>(closed_of (ad H).dh (saidK st) EU r hr).1) (λ r hr=>⟨by have:=((ad H).dh r hr).hd.w.pd.le;show r.R.pd.size<=800;have e:(aO r).p=r.R.pd:=rfl;rw[e] at this;omega,by have:=((ad H).dh r hr).hd.num;have e:(aO r).p=r.R.pd:=rfl;rw[e] at this;rw[this];rfl⟩))
     have Gh:w.heap.size<wG.heap.size:=(Array.getElem?_eq_some_iff.1 oU).1;have H9:=hide (λ (W:W8) (hW:Below wG.heap.size wG W)=>(show W.cell? ⟨w.heap.size,0,none⟩=some (.int .i64 (k:Nat))/\W.cell? ⟨w.heap.size,1,none⟩=some (.slice an aJ.length cn) from ⟨(hW.cell (p:=⟨w.heap.size,0,none⟩) Gh).trans q0,(hW.cell (p:=⟨w.heap.size,1,none⟩) Gh).trans q1⟩));have CX:=vM.lt;clear dB sq oU Dq uM vM EU vF;go_wp2_with (first | (go_at_call 180;refine (ad qv).mono ?_;rintro en wD ⟨Ar,c1,rfl,mC⟩;obtain⟨d0,d1⟩:=ad H9 wD Ar;have ow:=hide Ar;have vl:=hide mC;have G3:=hide (ad pZ wD Ar);clear Ar mC;cases qg:c1 <;> rw[qg] at vl) | (go_at_call 181;refine (ad G3).mono ?_;rintro en wE ⟨Fk,c2,rfl,nA⟩;have vi:=hide Fk;have ks:=hide nA;clear Fk nA;cases hce:c2 <;> rw[hce] at ks))
     ·go_ret2
      exact⟨(ad vr).trans ((ad ow).mono (ad vr).size),m,ad fw,.inr ⟨λ fF h=>(by have h2:=h.2.1;rw[ad HO] at h2;obtain rfl:=Option.some.inj h2;exact absurd ((ad vl).2 h.2.2.2.1) (by simp)),rfl⟩⟩
     ·go_ret2
      exact⟨(ad vr).trans (((ad ow).trans ((ad vi).mono (ad ow).size)).mono (ad vr).size),m,ad fw,.inr ⟨λ fF h=>(by have h2:=h.2.1;rw[ad HO] at h2;obtain rfl:=Option.some.inj h2;exact absurd ((ad ks).2 (clos_b.2 h.2.2.2.2)) (by simp)),rfl⟩⟩
     ·go_ret2
      have kE:=(ad ow).trans ((ad vi).mono (ad ow).size);exact⟨(ad vr).trans (kE.mono (ad vr).size),m,ad fw,.inl ⟨st,_,⟨Aw,ad HO,ad ju,(ad vl).1 (by trivial),clos_b.1 ((ad ks).1 (by trivial))⟩,rfl,(ad Hp).block (kE.block _ CX)⟩⟩
  ·have hd:decide ((m:Int)<(k:Int))=true:=(by simp;omega);rw[hd];clear eM tX o8 HC rH;go_wp2_with fail
   go_ret2
   exact⟨ad mm,m,ad fw,.inr ⟨λ st h=>Aw h.1,rfl⟩⟩
end
end Go.Proofs.YtldkpahaocjdpaaGreat
