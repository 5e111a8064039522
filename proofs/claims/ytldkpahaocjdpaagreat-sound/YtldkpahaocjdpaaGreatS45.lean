/-
  denies: the negative literals of the steps.
-/
import Derived.Test.YtldkpahaocjdpaaGreatS40
set_option maxHeartbeats 16000000
set_option maxRecDepth 1000000
namespace Go.Proofs.YtldkpahaocjdpaaGreat
section
open Go.RowKit Go.Maps Go.ChangeMaps Go.WideMaps
attribute [local go_sem ↓] to_bLoad to_bStore to_bAlloc bindV_cells to_tLoad to_tStore to_tAlloc thV_cells to_stLoad to_stStore to_stAlloc to_stBuild to_stOne stepV_cells
attribute [local go_sem] run_stAlloc
theorem SMap.lA {w:W8}{b n:Nat}{V:B8->Option Value}(h:SMap Tryz.prog 9 w b n V){key:B8}(du:key.size<=maxLen):(Instr.lookup 73 (.map (some b)) (.string key) false).run Tryz.prog w=.ok ((V key).getD (.agg #[.string { data:=#[] },.int .i64 0,.int .i64 0])) w:=by
 obtain⟨D,hD,h3⟩:=h;obtain⟨v,ps,fM,hv⟩:=hD.lookup (string_keyed Tryz.underlying9) Tryz.underlying73 (Tryz.zeroValue185 _) (zd:=.held (.agg #[.string { data:=#[] },.int .i64 0,.int .i64 0])) (zp:=[]) rfl (keyOf_string_mk Tryz.underlying9 du);have h1:=((h3 key).2 _).symm.trans (held_inj hv);have h2:(V key).getD (.agg #[.string { data:=#[] },.int .i64 0,.int .i64 0])=v:=DataW.held.inj h1;rw[h2];exact fM
structure DenyArg (w:W8)(base mb tb n:Nat)(ps:P9)(Sp:B8->Nat)(st:List aM)(sv:Value):Prop where
 steps:StepsIn w 0 sv st
 fG:st.length<=50
 rule:∀ s∈st,ep w base s.r
 l3:∀ s∈st,s.r.bs.length<=3
 t4:∀ s∈st,∀ x∈s.r.bs,x.1.ts.length<=4
 len:∀ s∈st,s.e.length<=12
 neg:∀ s∈st,∀ a∈negOf s.r.bs,ThOk (aC s.e a)/\a.p.size<=800/\(numOf ps a.p).isSome=true
 m:aP w mb (saidK st)
 t:SMap Tryz.prog 9 w tb n (stV ps Sp)
def DenyPost (w:W8)(P:Prop)(e:Ending)(w':W8):Prop:=Below w.heap.size w w'/\∃ c:Bool,e=.returned (.bool c)/\(c=true↔P)
def NegOk (Sp:B8->Nat)(K:Nat)(st:List aM)(s:aM)(a:PAtm):Prop:=aC s.e a∉st.map (·.t)/\Sp a.p<K
theorem denies_any (w:W8)(base mb tb n K:Nat)(nv:Value)(ps:P9)(Sp:B8->Nat)(st:List aM)(a:O8)(c:Nat)(h:DenyArg w base mb tb n ps Sp st (.slice a st.length c))(an:O8)(nn cn:Nat)(env:nv=.slice an nn cn):
  Calls Tryz.prog 180 #[.agg #[.int .i64 (K:Nat),nv],.slice a st.length c,.map (some mb),.map (some tb)] w (DenyPost w (DenyP Sp K st)):=by
 subst env;have hm:=own_max h.steps.row;unfold maxLen at hm;have H:=hide h;have gq:=h.t.lt;have ed:=h.m.lt;clear h;have uj:=fieldStr;go_enter Tryz.func180,Tryz.ntmps180;go_upto_region 1 with fail;have j7:Below w.heap.size w (w.alloc (.cells #[.int .i64 (K:Nat),.slice an nn cn] 93)):=B9.alloc L9 _;have mE:=heap_alloc_new w (.cells #[.int .i64 (K:Nat),.slice an nn cn] 93);generalize (w.alloc (.cells #[.int .i64 (K:Nat),.slice an nn cn] 93))=w0 at *;have jH:=hide (And.intro j7 mE);clear j7 mE;go_wp2_with fail
 go_loopg [17] st.length (λ gg ii wr=>∃ k:Nat,k<=st.length/\gg=st.length-k/\ii=.int .i64 k/\Below w.heap.size w wr/\wr.heap[w.heap.size]?=some (.cells #[.int .i64 (K:Nat),.slice an nn cn] 93 (0,0))/\∀ s∈st.take k,∀ x∈negOf s.r.bs,NegOk Sp K st s x)
 exact⟨0,Nat.zero_le _,rfl,rfl,(ad jH).1,(ad jH).2,by simp⟩
 case round=>
  clear jH;obtain⟨k,hk,fK,rfl,cV,dc,bn⟩:=hrel;have gC:=hide cV;have tk:=hide dc;have dv:=hide bn;have lP:=(Array.getElem?_eq_some_iff.1 dc).1
  by_cases aR:k<st.length
  ·have gM:(k:Int)<st.length:=(by omega);have aF:=own_below (ad H).steps.row cV (λ g e=>((ad H).steps.row.lt g e).2);obtain⟨g,cap,hv,-,dn,dB,dx,hc⟩:=step_at aF aR;injection hv with h1 h2 h3
   subst h1 h3;have bE:=List.getElem_mem aR;have gI:=(ad H).rule _ bE;have tW:=gI.one;have qn:=stepP_load hc;have gh:=hide (show st.take (k+1)=st.take k++[st[k]] from List.take_succ_eq_append_getElem aR);have sP:=λ (W:W8) (s:aM)=>stStore_new W s st[k] tW
   have sx:=(ad H).l3 _ bE;have zl:=(ad H).t4 _ bE;have hlen:=(ad H).len _ bE;have eH:=(ad H).neg _ bE;obtain⟨ah,ch,fF⟩:=own_slice gI.hd;obtain⟨ab,cb,fq⟩:=own_slice gI.bo.row;have eP:=gI.bo;rw[fq] at eP;have rK:=hide eP;have lx:=gT.new wr st[k];have iR:=hide bE;have Bv:=hide zl;have Bc:=hide eH;have kA:=(Below.refl wr.heap.size wr).alloc L9 (.cells (stepCells st[k]).toArray 352);generalize hS:st[k]=s at *;clear hc aF bE gI zl eH eP bn dc cV;go_upto_region 4 with fail;generalize br:World.alloc wr _=w1 at *;have c0:=(block_cells lx 0).1;have c1:=(block_cells lx 1).1;have c2:=(block_cells lx 2).1;simp only[stepCells,PR.cells,List.getElem?_toArray,List.cons_append,List.nil_append,List.getElem?_cons_zero,List.getElem?_cons_succ] at c0 c1 c2;rw[fF] at c1;rw[fq] at c2;have Gh:Below w.heap.size w w1:=(ad gC).trans (kA.mono (ad gC).size);have Ed:=hide (negative_any w1 base s.r.R.pd ah s.r.R.ts.length ch ab cb s.r.bs ((ad rK).below Gh) (by omega));have Em:=hide lx;have mu:=hide kA;have s1:wr.heap.size<w1.heap.size:=lx.lt;clear br lx kA Gh qn sP;go_upto_region 5 with (go_at_call 223;refine (ad Ed).mono ?_;rintro en wP ⟨ap,cp,rfl,jD,qU,zt⟩;have og:=hide jD;have oG:=hide qU;clear jD qU zt);clear c0 c1 c2 Ed;have ir:(s.r.bs.filter (isNeg true)).length=(aD true s.r.bs).length:=(by unfold aD;rw[List.length_map]);have lN:(aD true s.r.bs).length<=3:=by
    rw[<-ir];exact Nat.le_trans (List.length_filter_le _ _) sx
   have FN:wP.ownsRow 0 79 2 (.slice ap (aD true s.r.bs).length cp) (aD true s.r.bs).length ((aD true s.r.bs).flatMap atomCells):=by
    have:=ad og;rw[ir,<-eV] at this;exact ax this (Nat.zero_le _)
   have Gj:Below w.heap.size w wP:=(ad gC).trans (((ad mu).trans ((ad oG).mono (ad mu).size)).mono (ad gC).size);have E8:wP.heap[w.heap.size]?=some (.cells #[.int .i64 (K:Nat),.slice an nn cn] 93 (0,0)):=(((ad mu).trans ((ad oG).mono (ad mu).size)).block _ lP).trans (ad tk);have FT:gT wP wr.heap.size s:=(ad Em).below (ad oG);have zT:=hide FN;have wO:=hide Gj;have wm:=hide E8;have Bs:=hide FT;rw[ir];generalize wr.heap.size=iB at *;clear ir og oG Em mu gC tk FN Gj E8 FT s1
   go_loopg [25] (aD true s.r.bs).length (λ gg ii wq=>∃ j:Nat,j<=(aD true s.r.bs).length/\gg=(aD true s.r.bs).length-j/\ii=.int .i64 j/\Below wP.heap.size wP wq/\∀ x∈(aD true s.r.bs).take j,NegOk Sp K st s x.1)
   exact⟨0,Nat.zero_le _,rfl,rfl,Below.refl _ _,by simp⟩
   case round=>
    obtain⟨j,hj,vD,rfl,ux,mD⟩:=hrel;have vq:=hide ux;have GF:=hide mD;have CF:Below w.heap.size w wr:=(ad wO).trans (ux.mono (ad wO).size);have zL:=hide CF;have o5:=(ux.block _ (Array.getElem?_eq_some_iff.1 (ad wm)).1).trans (ad wm)
    by_cases hlj:j<(aD true s.r.bs).length
    ·have vH:(j:Int)<(aD true s.r.bs).length:=(by omega);have aF:=own_below (ad zT) ux (λ g e=>((ad zT).lt g e).2);obtain⟨gp,Iw,hv,-,Ja,JG,yj,hc⟩:=row_at atom_len aF j hlj;injection hv with h1 h2 h3
     subst h1 h3;have hx:=List.getElem_mem hlj;obtain⟨y,hy,ku⟩:=litsOf_mem hx;obtain⟨AT,ny⟩:∃ AT,AT=(aD true s.r.bs)[j].1:=⟨_,rfl⟩;have BQ:AT∈negOf s.r.bs:=(by rw[ny];exact List.mem_map_of_mem hx);have gy:=(ad rK).each y hy;obtain⟨ta,tc,ji⟩:=own_slice gy;have qQ:AT=(litAtm y).1:=(by rw[ny,ku]);have gL:AT.ts.length<=4:=(by rw[qQ];exact ad Bv y hy);have e0:wr.cell? ⟨gp,j*2,none⟩=some (.string AT.p):=(by have:=hc 0 (by omega);rw[ny];exact this);have e1:wr.cell? ⟨gp,j*2+1,none⟩=some (.slice ta AT.ts.length tc):=by
      have:=hc 1 (by omega);rw[ku] at this;rw[qQ];exact this.trans (by show some y.2=_;rw[ji];rfl)
     have ij:w.ownsRow base 191 1 (.slice ta AT.ts.length tc) AT.ts.length (AT.ts.map termV):=by
      rw[qQ];rw[ji] at gy;exact gy
     obtain⟨bZ,mN,gQ⟩:=ad Bc AT BQ;have du:AT.p.size<=maxLen:=(by unfold maxLen;omega);obtain⟨m,eG⟩:=Option.isSome_iff_exists.1 gQ;have hu:(stV ps Sp AT.p).getD (.agg #[.string { data:=#[] },.int .i64 0,.int .i64 0])=.agg #[.string AT.p,.int .i64 (Sp AT.p),.int .i64 m]:=(by unfold stV;rw[eG];rfl);have Bw:=hide (show (aD true s.r.bs).take (j+1)=(aD true s.r.bs).take j++[(aD true s.r.bs)[j]] from List.take_succ_eq_append_getElem hlj);have vY:=hide ny;have DV:=hide BQ;have kA:=(Below.refl wr.heap.size wr).alloc L9 (.cells #[.string AT.p,.slice ta AT.ts.length tc] 79);have dI:=heap_alloc_new wr (.cells #[.string AT.p,.slice ta AT.ts.length tc] 79);have uL:=(ad Bs).below ux;clear hc hx ku ny BQ gy ji qQ gQ eG aF mD CF h2;go_upto_region 7 with fail;generalize kt:World.alloc wr _=w2 at *;have FU:=(uL.below kA).bound;have a0:=(block_cells dI 0).1;have a1:=(block_cells dI 1).1;simp only[List.getElem?_toArray,List.getElem?_cons_zero,List.getElem?_cons_succ] at a0 a1;have jX:Below w.heap.size w w2:=(ad zL).trans (kA.mono (ad zL).size);have wH:=hide (pfill_any w2 base s.e AT ta tc (own_below ij jX (λ g e1=>(ij.lt g e1).2)) gL hlen);have fc:=(kA.block _ (Array.getElem?_eq_some_iff.1 o5).1).trans o5;have Ep:=hide (And.intro jX (And.intro dI fc));have C8:wr.heap.size<w2.heap.size:=(Array.getElem?_eq_some_iff.1 dI).1
     have iT:=hide (λ (W:W8) (hW:Below w2.heap.size w2 W)=>(show aP W mb (saidK st)/\SMap Tryz.prog 9 W tb n (stV ps Sp)/\W.cell? ⟨wr.heap.size,0,none⟩=some (.string AT.p)/\W.cell? ⟨w.heap.size,0,none⟩=some (.int .i64 (K:Nat))/\Below w.heap.size w W/\Below wP.heap.size wP W from by
      have kW:=jX.trans (hW.mono jX.size);refine⟨(ad H).m.block (kW.block mb ed),(ad H).t.block (kW.block tb gq),(hW.cell (p:=⟨wr.heap.size,0,none⟩) C8).trans a0,?_,kW,(ad vq).trans ((kA.trans (hW.mono kA.size)).mono (ad vq).size)⟩;have:=(block_cells fc 0).1
      exact (hW.cell (p:=⟨w.heap.size,0,none⟩) (Array.getElem?_eq_some_iff.1 fc).1).trans this))
     generalize hPF:aC s.e AT=TH at *;have Eh:=hide hPF;clear kt dI uL jX kA e0 e1 ij fc o5 ux
     cases fW:ay (saidK st) TH with
     | some m1=>
      have mZ:=hide (show ¬ DenyP Sp K st from λ hd=>by
       have h5:=(hd s (ad iR) AT (ad DV)).1;rw[ad Eh] at h5;refine h5 ?_;rw[<-saidK_keys]
       exact look_keys.1 (by rw[fW];rfl))
      have iK:=hide fW;clear fW;go_wp2_with (first | (go_at_call 146;refine (ad wH).mono ?_;rintro en w4 ⟨bP,rfl⟩;obtain⟨m4,t4,x4,y4,k4,q4⟩:=ad iT w4 bP;have sY:=t4.lA du;rw[hu] at sY;have oH:=hide k4;clear bP k4 q4) | (at_lookup;refine wp_hlook _ rfl _ _ 82 rfl Tryz.underlying82 mb (saidK st) rfl m4 TH rfl bZ _ rfl true (by rw[ad iK];rfl) ?_));go_ret;exact⟨ad oH,false,rfl,⟨λ h=>by (cases h),λ h=>absurd h (ad mZ)⟩⟩
     | none=>
      have iK:=hide fW
      have Hg:=hide (show TH∉st.map (·.t) from λ h5=>by
       rw[<-saidK_keys] at h5;have:=look_keys.2 h5;rw[fW] at this
       cases this)
      clear fW
      by_cases hSK:Sp AT.p<K
      ·have IP:¬ ((K:Int)<=Sp AT.p):=(by omega);have j6:decide ((K:Int)<=Sp AT.p)=false:=(by simp;omega);go_wp2_with (first | (go_at_call 146;refine (ad wH).mono ?_;rintro en w4 ⟨bP,rfl⟩;obtain⟨m4,t4,x4,y4,k4,q4⟩:=ad iT w4 bP;have sY:=t4.lA du;rw[hu] at sY;have oH:=hide q4;clear bP k4 q4) | (at_lookup;refine wp_hlook _ rfl _ _ 82 rfl Tryz.underlying82 mb (saidK st) rfl m4 TH rfl bZ _ rfl false (by rw[ad iK];rfl) ?_));go_roundg ((aD true s.r.bs).length-(j+1))
       case measure=>omega
       case rel=>
        refine⟨j+1,by omega,rfl,by go_num,ad oH,λ x hx=>?_⟩;rw[ad Bw] at hx;rcases List.mem_append.1 hx with hx | hx
        ·exact ad GF x hx
        ·rw[List.mem_singleton.1 hx];refine⟨?_,?_⟩
         ·rw[<-ad vY,ad Eh];exact ad Hg
         ·rw[<-ad vY];exact hSK
      ·have IP:(K:Int)<=Sp AT.p:=(by omega);have j6:decide ((K:Int)<=Sp AT.p)=true:=(by simp;omega);have mZ:=hide (show ¬ DenyP Sp K st from λ hd=>hSK (hd s (ad iR) AT (ad DV)).2);go_wp2_with (first | (go_at_call 146;refine (ad wH).mono ?_;rintro en w4 ⟨bP,rfl⟩;obtain⟨m4,t4,x4,y4,k4,q4⟩:=ad iT w4 bP;have sY:=t4.lA du;rw[hu] at sY;have oH:=hide k4;clear bP k4 q4) | (at_lookup;refine wp_hlook _ rfl _ _ 82 rfl Tryz.underlying82 mb (saidK st) rfl m4 TH rfl bZ _ rfl false (by rw[ad iK];rfl) ?_));go_ret;exact⟨ad oH,false,rfl,⟨λ h=>by (cases h),λ h=>absurd h (ad mZ)⟩⟩
    ·have vH:¬ (j:Int)<(aD true s.r.bs).length:=by omega
     have HD:=hide (show ∀ x∈negOf s.r.bs,NegOk Sp K st s x from λ x hx=>by
      obtain⟨y,hy,rfl⟩:=List.mem_map.1 hx
      exact mD y (by rw[List.take_of_length_le (by omega)];exact hy))
     have zH:=hide o5;clear mD CF ux o5;go_wp2_with fail;go_roundg (st.length-(k+1))
     case measure=>omega
     case rel=>
      refine⟨k+1,by omega,rfl,by go_num,ad zL,ad zH,λ x hx=>?_⟩;rw[ad gh] at hx;rcases List.mem_append.1 hx with hx | hx
      ·exact ad dv x hx
      ·rw[List.mem_singleton.1 hx];exact ad HD
  ·have gM:¬ (k:Int)<st.length:=(by omega);have ma:st.take k=st:=List.take_of_length_le (by omega);rw[ma] at dv;clear bn dc cV ma;go_wp2_with fail;go_ret;exact⟨ad gC,true,rfl,⟨λ _=>ad dv,λ _=>rfl⟩⟩
end
section
open Go.RowKit Go.Maps
def ClosB (Sp:B8->Nat)(k:Nat)(rs:List PR)(K:List (Th × Nat)):Prop:=∀ r∈rs,Sp r.R.pd<k->AllSaid K r
theorem closed_any (w:W8)(base mb tb n k:Nat)(an:O8)(nn cn:Nat)(ps:P9)(Sp:B8->Nat)(ar:O8)(cr:Nat)(rs:List PR)(K:List (Th × Nat))(hr:bQ w base (.slice ar rs.length cr) rs)(hm:aP w mb K)(ht:SMap Tryz.prog 9 w tb n (stV ps Sp))(bZ:∀ r∈rs,RuleOk K r)(eR:∀ r∈rs,r.R.pd.size<=800/\(numOf ps r.R.pd).isSome=true):
  Calls Tryz.prog 181 #[.agg #[.int .i64 (k:Nat),.slice an nn cn],.slice ar rs.length cr,.map (some mb),.map (some tb)] w (DenyPost w (ClosB Sp k rs K)):=by
 have ox:=own_max hr.row;unfold maxLen at ox;have HR:=hide hr;have HM:=hide hm;have HT:=hide ht;have iS:=hide bZ;have qD:=hide eR;have ed:=hm.lt;have gq:=ht.lt;clear hr hm ht bZ eR;have uj:=fieldStr;go_enter Tryz.func181,Tryz.ntmps181;go_upto_region 1 with fail;have j7:Below w.heap.size w (w.alloc (.cells #[.int .i64 (k:Nat),.slice an nn cn] 93)):=B9.alloc L9 _;have mE:=heap_alloc_new w (.cells #[.int .i64 (k:Nat),.slice an nn cn] 93);generalize (w.alloc (.cells #[.int .i64 (k:Nat),.slice an nn cn] 93))=w0 at *;have jH:=hide (And.intro j7 mE);clear j7 mE;go_wp2_with fail
 go_loopg [13] rs.length (λ gg ii wr=>∃ i:Nat,i<=rs.length/\gg=rs.length-i/\ii=.int .i64 i/\Below w.heap.size w wr/\wr.heap[w.heap.size]?=some (.cells #[.int .i64 (k:Nat),.slice an nn cn] 93 (0,0))/\∀ r∈rs.take i,Sp r.R.pd<k->AllSaid K r)
 exact⟨0,Nat.zero_le _,rfl,rfl,(ad jH).1,(ad jH).2,by simp⟩
 case round=>
  clear jH;obtain⟨i,hi,Cv,rfl,cV,dc,bn⟩:=hrel;have gC:=hide cV;have tk:=hide dc;have dv:=hide bn;have lP:=(Array.getElem?_eq_some_iff.1 dc).1
  by_cases pz:i<rs.length
  ·have vG:(i:Int)<rs.length:=(by omega);obtain⟨r,eI⟩:∃ r,r=rs[i]:=⟨_,rfl⟩;have bE:r∈rs:=(by rw[eI];exact List.getElem_mem pz);have ak:=(ad HR).each r bE;obtain⟨ah,ch,fF⟩:=own_slice ak.hd;obtain⟨ab,cb,fq⟩:=own_slice ak.bo.row;obtain⟨g,cap,hv,iE,dn,dB,dx,hc⟩:=row_at pr_len3 (ad HR).row i pz;injection hv with h1 h2 h3
   subst h1 h3;have e0:wr.cell? ⟨g,i*3,none⟩=some (.string r.R.pd):=(by rw[eI];exact (cV.cell (p:=⟨g,i*3,none⟩) dn).trans (hc 0 (by omega)));have e1:wr.cell? ⟨g,i*3+1,none⟩=some (.slice ah r.R.ts.length ch):=(by rw[<-fF,eI];exact (cV.cell (p:=⟨g,i*3+1,none⟩) dn).trans (hc 1 (by omega)));have e2:wr.cell? ⟨g,i*3+2,none⟩=some (.slice ab r.bs.length cb):=(by rw[<-fq,eI];exact (cV.cell (p:=⟨g,i*3+2,none⟩) dn).trans (hc 2 (by omega)));have gh:=hide (show rs.take (i+1)=rs.take i++[r] by rw[eI];exact List.take_succ_eq_append_getElem pz);have mP:=ad iS r bE;obtain⟨mN,gQ⟩:=ad qD r bE;have du:r.R.pd.size<=maxLen:=(by unfold maxLen;omega);obtain⟨m,eG⟩:=Option.isSome_iff_exists.1 gQ;have hu:(stV ps Sp r.R.pd).getD (.agg #[.string { data:=#[] },.int .i64 0,.int .i64 0])=.agg #[.string r.R.pd,.int .i64 (Sp r.R.pd),.int .i64 m]:=(by unfold stV;rw[eG];rfl);have kA:=(Below.refl wr.heap.size wr).alloc L9 (.cells #[.string r.R.pd,.slice ah r.R.ts.length ch,.slice ab r.bs.length cb] 123);have dI:=heap_alloc_new wr (.cells #[.string r.R.pd,.slice ah r.R.ts.length ch,.slice ab r.bs.length cb] 123);have iR:=hide bE;have bp:=hide ak;have lF:=hide mP;have AY:=hide (And.intro fF fq);clear hc ak eI bE gQ eG mP bn fF fq h2;go_upto_region 4 with fail;generalize kt:World.alloc wr _=w2 at *;have jX:Below w.heap.size w w2:=cV.trans (kA.mono cV.size);have fc:=(kA.block _ lP).trans dc;have t2:SMap Tryz.prog 9 w2 tb n (stV ps Sp):=(ad HT).block (jX.block tb gq);have m2:aP w2 mb K:=(ad HM).block (jX.block mb ed);have a0:=(block_cells dI 0).1;have a1:=(block_cells dI 1).1;have a2:=(block_cells dI 2).1;have q0:=(block_cells fc 0).1;simp only[List.getElem?_toArray,List.getElem?_cons_zero,List.getElem?_cons_succ] at a0 a1 a2 q0;have jv:=hide jX;have tm:=hide fc
   by_cases hSK:Sp r.R.pd<k
   ·have j6:decide ((Sp r.R.pd:Int)<k)=true:=(by simp;omega);have ak:=ad bp;have vR:=says_any w2 base mb r K ⟨own_below ak.hd jX (λ g e=>(ak.hd.lt g e).2),ak.bo.below jX,ak.eq⟩ m2 (ad lF);rw[(ad AY).1,(ad AY).2] at vR;have Hz:=hide vR;clear ak vR kt kA dI e0 e1 e2 dc cV m2 jX fc;go_wp2_with (first | (at_lookup;refine wp_look _ rfl _ _ 73 rfl 9 185 Tryz.underlying9 Tryz.underlying73 (Tryz.zeroValue185 _) tb n (stV ps Sp) rfl t2 r.R.pd rfl du _ hu ?_) | (go_at_call 224;refine (ad Hz).mono ?_;rintro en w4 ⟨bP,c,rfl,E9⟩;have eC:=hide bP;have qb:=hide E9;clear bP E9;cases qm:c))
    ·rw[qm] at qb;go_ret;have kw:=(ad jv).trans ((ad eC).mono (ad jv).size);refine⟨kw,false,rfl,λ h=>(by cases h),λ h=>?_⟩;exact ((ad qb).2 (h r (ad iR) hSK))
    ·rw[qm] at qb;go_roundg (rs.length-(i+1))
     case measure=>omega
     case rel=>
      have kw:=(ad jv).trans ((ad eC).mono (ad jv).size);refine⟨i+1,by omega,rfl,by go_num,kw,((ad eC).block _ (Array.getElem?_eq_some_iff.1 (ad tm)).1).trans (ad tm),λ x hx=>?_⟩;rw[ad gh] at hx;rcases List.mem_append.1 hx with hx | hx
      ·exact ad dv x hx
      ·rw[List.mem_singleton.1 hx];exact λ _=>(ad qb).1 rfl
   ·have j6:decide ((Sp r.R.pd:Int)<k)=false:=(by simp;omega);clear kt kA dI e0 e1 e2 dc cV m2 jX fc bp lF;go_wp2_with (at_lookup;refine wp_look _ rfl _ _ 73 rfl 9 185 Tryz.underlying9 Tryz.underlying73 (Tryz.zeroValue185 _) tb n (stV ps Sp) rfl t2 r.R.pd rfl du _ hu ?_);go_roundg (rs.length-(i+1))
    case measure=>omega
    case rel=>
     refine⟨i+1,by omega,rfl,by go_num,ad jv,ad tm,λ x hx=>?_⟩;rw[ad gh] at hx;rcases List.mem_append.1 hx with hx | hx
     ·exact ad dv x hx
     ·rw[List.mem_singleton.1 hx];exact λ h=>absurd h hSK
  ·have vG:¬ (i:Int)<rs.length:=(by omega);have ma:rs.take i=rs:=List.take_of_length_le (by omega);rw[ma] at dv;clear bn dc cV ma;go_wp2_with fail;go_ret;exact⟨ad gC,true,rfl,λ _=>ad dv,λ _=>rfl⟩
end
section
open Go.RowKit Go.Maps
def RightQ (rs:List PR)(Sp:B8->Nat)(m k:Nat)(ns:List (Nat × List Nat))(st:List aM):Prop:=k<=m/\stepsP rs ns []=some st/\(st.map (·.t)).Nodup/\DenyP Sp k st/\ClosP Sp k rs st
def RgtPost (w:W8)(ps:P9)(Sp:B8->Nat)(P:Nat->List aM->Prop)(e:Ending)(w':W8):Prop:=
 Below w.heap.size w w'/\∃ m,IsCount ps Sp m/\((∃ st mb,P m st/\e=.returned (.tuple #[.map (some mb),.bool true])/\aP w' mb (saidK st))\/((∀ st,¬ P m st)/\e=.returned (.tuple #[.map none,.bool false])))
theorem clos_b {Sp:B8->Nat}{k:Nat}{rs:List PR}{st:List aM}:ClosB Sp k rs (saidK st)↔ClosP Sp k rs st:=by
 unfold ClosB AllSaid ClosP;rw[saidK_keys]
structure RgtArg (w:W8)(base tb n:Nat)(ps:P9)(Sp:B8->Nat)(rs:List PR)(rv:Value)(aK:List ND)(nv:Value):Prop where
 rules:bQ w base rv rs
 dg:∀ r∈rs,bu ps r
 nodes:bN w 0 nv aK
 fG:aK.length<=50
 ix:∀ x∈aK,∃ h:x.r<rs.length,x.fr.length=(posOf rs[x.r].bs).length
 t:SMap Tryz.prog 9 w tb n (stV ps Sp)
 str:∀ k,(numOf ps k).isSome=true->Sp k<=1000000
theorem stepsP_len (rp:List PR):∀ (ns:List (Nat × List Nat)) (st fQ:List aM),stepsP rp ns st=some fQ->fQ.length=st.length+ns.length
 | [],st,fQ,h=>by obtain rfl:=Option.some.inj h;simp
 | x::q,st,fQ,h=>by
  rw[stepsP] at h
  split at h
  ·cases h
  ·split at h
   ·cases h
   ·have:=stepsP_len rp q _ _ h;rw[this];simp;omega
theorem right_any (w:W8)(base tb n k:Nat)(ps:P9)(Sp:B8->Nat)(rs:List PR)(ar:O8)(cr:Nat)(aK:List ND)(an:O8)(cn:Nat)(h:RgtArg w base tb n ps Sp rs (.slice ar rs.length cr) aK (.slice an aK.length cn)):
  Calls Tryz.prog 122 #[.agg #[.int .i64 (k:Nat),.slice an aK.length cn],.slice ar rs.length cr,.map (some tb)] w (RgtPost w ps Sp (λ m st=>RightQ rs Sp m k (aK.map dW) st)):=by
 have H:=hide h;have gq:=h.t.lt;clear h;go_enter Tryz.func122,Tryz.ntmps122;go_upto_region 1 with fail;have j7:Below w.heap.size w (w.alloc (.cells #[.int .i64 (k:Nat),.slice an aK.length cn] 93)):=B9.alloc L9 _;have mE:=heap_alloc_new w (.cells #[.int .i64 (k:Nat),.slice an aK.length cn] 93);generalize (w.alloc (.cells #[.int .i64 (k:Nat),.slice an aK.length cn] 93))=w0 at *;have lP:w.heap.size<w0.heap.size:=(Array.getElem?_eq_some_iff.1 mE).1;have c0:=(block_cells mE 0).1;simp only[List.getElem?_toArray,List.getElem?_cons_zero] at c0;have HC:=hide (λ (W:W8) (hW:Below w0.heap.size w0 W)=>count_any W tb n ps Sp ((ad H).t.block ((j7.trans (hW.mono j7.size)).block tb gq)) (ad H).str);have rL:=hide (λ (W:W8) (hW:Below w0.heap.size w0 W)=>(hW.cell (p:=⟨w.heap.size,0,none⟩) lP).trans c0);have cg:=hide j7;have gw:=hide mE;clear j7 mE
 go_cut [15] from 11 to 47 (λ c wc=>∃ m:Nat,c=.bool (decide ((m:Int)<(k:Int)))/\IsCount ps Sp m/\Below w0.heap.size w0 wc)
 case first=>
  go_region_held3 (λ w'=>w'.cell? ⟨w.heap.size,0,none⟩=some (.int .i64 (k:Nat))) (first | exact ad rL _ bY | exact ad rL _ B9.drew) ((go_at_call 59;refine (ad HC _ (by first | exact B9.drew)).mono ?_;rintro en w4 ⟨m,rfl,eQ,bP⟩;have bY:Below w0.heap.size w0 w4:=below_of_drew bP;have x4:=ad rL w4 bY))
  all_goals
   go_wp2_with fail;go_meet
   case rel=>exact⟨_,by first | rfl | simp,eQ,bY⟩
 case rest=>
  generalize wc=wA at *;obtain⟨m,rfl,eQ,mC⟩:=hcut;have pn:Below w.heap.size w wA:=(ad cg).trans (mC.mono (ad cg).size);have gJ:=(mC.block _ lP).trans (ad gw);have fH:=hide eQ;have mu:=hide pn;have GK:=hide gJ
  by_cases Am:k<=m
  ·have hd:decide ((m:Int)<(k:Int))=false:=(by simp;omega);rw[hd];have q0:=(block_cells gJ 0).1;have q1:=(block_cells gJ 1).1;simp only[List.getElem?_toArray,List.getElem?_cons_zero,List.getElem?_cons_succ] at q0 q1
   have zc:bQ wA base (.slice ar rs.length cr) rs:=⟨own_below (ad H).rules.row pn (λ g e=>((ad H).rules.row.lt g e).2),λ r hr=>by
    have:=(ad H).rules.each r hr
    exact⟨own_below this.hd pn (λ g e=>(this.hd.lt g e).2),this.bo.below pn,this.eq⟩⟩
   have gP:=hide (steps_any wA base k rs ar cr aK an cn ⟨zc,λ r hr=>((ad H).dg r hr).l3,λ r hr x hx=>(((ad H).dg r hr).ls x hx).w.fG,λ r hr=>((ad H).dg r hr).hd.w.fG,(ad H).nodes.below pn,(ad H).fG,(ad H).ix⟩);clear eQ mC pn zc HC rL cg gw c0;have HQ1:=hide (And.intro q0 q1)
   cases hO:stepsP rs (aK.map dW) [] with
   | none=>
    rw[hO] at gP;have HO:=hide hO;clear hO gJ;go_wp2_with (go_at_call 178;refine (ad gP).mono ?_;rintro en wS ⟨xX,v,rfl,ak⟩;have kj:=hide xX;clear xX ak)
    go_ret2
    exact⟨(ad mu).trans ((ad kj).mono (ad mu).size),m,ad fH,.inr ⟨λ st h=>(by have h2:=h.2.1;rw[ad HO] at h2;cases h2),rfl⟩⟩
   | some st=>
    rw[hO] at gP;have HO:=hide hO;have FW:=steps_good (ad H).dg (aK.map dW) [] st (by simp) hO;have lO:st.length<=50:=by
     have:=stepsP_len rs _ _ _ hO;have h2:=(ad H).fG;simp at this;omega
    have qh:=hide FW;clear hO FW;go_upto_region 4 with (go_at_call 178;refine (ad gP).mono ?_;rintro en wS ⟨xX,v,rfl,ak⟩;have Aw:=ak.row;simp only[Option.getD_some] at Aw;obtain⟨sa,cs,rfl⟩:=own_slice Aw;have qg:=hide Aw;have kj:=hide xX;clear xX ak Aw);have Fs:Below w.heap.size w wS:=(ad mu).trans ((ad kj).mono (ad mu).size);have uf:=((ad kj).block _ (Array.getElem?_eq_some_iff.1 gJ).1).trans gJ;have GZ:=hide (gather_any wS 0 st sa cs ⟨ax (ad qg) (Nat.zero_le _)⟩ (λ s hs=>(ad qh s hs).ti.ok) lO (λ s hs=>((ad H).rules.each _ (ad qh s hs).rule).one));have zK:=hide Fs;have AR:=hide uf;have JS:w.heap.size<wS.heap.size:=(Array.getElem?_eq_some_iff.1 uf).1;clear q0 q1 gJ Fs uf gP;go_upto_region 7 with (go_at_call 179;refine (ad GZ).mono ?_;rintro en wG ⟨vB,hg⟩;have GJ:=hide vB;rcases hg with⟨dC,rfl⟩ | ⟨dC,rfl,vL⟩)
    ·have jw:=hide dC;clear dC vB;go_wp2_with fail
     go_ret2
     exact⟨(ad zK).trans ((ad GJ).mono (ad zK).size),m,ad fH,.inr ⟨λ fQ h=>(by have h2:=h.2.1;rw[ad HO] at h2;obtain rfl:=Option.some.inj h2;exact ad jw h.2.2.1),rfl⟩⟩
    ·have jw:=hide dC;have sw:Below w.heap.size w wG:=(ad zK).trans (vB.mono (ad zK).size);have o0:=(vB.block _ JS).trans (ad AR);have q0:=(block_cells o0 0).1;have q1:=(block_cells o0 1).1;simp only[List.getElem?_toArray,List.getElem?_cons_zero,List.getElem?_cons_succ] at q0 q1;have Dl:=(ad H).t.block (sw.block tb gq);have uK:∀ r∈rs,ep wG base r:=λ r hr=>by
      have:=(ad H).rules.each r hr;exact⟨own_below this.hd sw (λ g e=>(this.hd.lt g e).2),this.bo.below sw,this.eq⟩
     have qv:=hide (denies_any wG base wS.heap.size tb n k (.slice an aK.length cn) ps Sp st sa cs ⟨⟨own_below (ax (ad qg) (Nat.zero_le _)) vB (λ g e=>((ad qg).lt g e).2)⟩,lO,λ s hs=>uK _ (ad qh s hs).rule,λ s hs=>((ad H).dg _ (ad qh s hs).rule).l3,λ s hs x hx=>(((ad H).dg _ (ad qh s hs).rule).ls x hx).w.fG,λ s hs=>(ad qh s hs).rI.len,λ s hs a ha=>⟨((ad qh s hs).rI.neg a ha).ok,by have:=(((ad H).dg _ (ad qh s hs).rule).neg a ha).w.pd.le;omega,by rw[(((ad H).dg _ (ad qh s hs).rule).neg a ha).num];rfl⟩,vL,Dl⟩ an aK.length cn rfl);have Hc:=hide vL;have vp:=hide sw;have GL:=hide o0;have EJ:∀ p∈saidK st,eX ps p.1:=λ p hp=>by
      have:p.1∈(saidK st).map (·.1):=List.mem_map_of_mem hp;rw[saidK_keys] at this;obtain⟨s,hs,e⟩:=List.mem_map.1 this;rw[<-e];exact (ad qh s hs).ti
     have qc:=hide (λ (W:W8) (hW:Below wG.heap.size wG W)=>closed_any W base wS.heap.size tb n k an aK.length cn ps Sp ar cr rs (saidK st) ⟨own_below (ad H).rules.row (sw.trans (hW.mono sw.size)) (λ g e=>((ad H).rules.row.lt g e).2),λ r hr=>by
       have:=uK r hr
       exact⟨own_below this.hd hW (λ g e=>(this.hd.lt g e).2),this.bo.below hW,this.eq⟩⟩ (vL.block (hW.block _ vL.lt)) (Dl.block (hW.block tb (by have:=sw.size;omega))) (λ r hr=>(closed_of (ad H).dg (saidK st) EJ r hr).1) (λ r hr=>⟨by have:=((ad H).dg r hr).hd.w.pd.le;show r.R.pd.size<=800;have e:(aS r).p=r.R.pd:=rfl;rw[e] at this;omega,by have:=((ad H).dg r hr).hd.num;have e:(aS r).p=r.R.pd:=rfl;rw[e] at this;rw[this];rfl⟩))
     have F4:w.heap.size<wG.heap.size:=(Array.getElem?_eq_some_iff.1 o0).1;have Hr:=hide (λ (W:W8) (hW:Below wG.heap.size wG W)=>(show W.cell? ⟨w.heap.size,0,none⟩=some (.int .i64 (k:Nat))/\W.cell? ⟨w.heap.size,1,none⟩=some (.slice an aK.length cn) from ⟨(hW.cell (p:=⟨w.heap.size,0,none⟩) F4).trans q0,(hW.cell (p:=⟨w.heap.size,1,none⟩) F4).trans q1⟩));have CT:=vL.lt;clear dC sw o0 Dl uK vL EJ vB;go_wp2_with (first | (go_at_call 180;refine (ad qv).mono ?_;rintro en wD ⟨Ai,c1,rfl,mH⟩;obtain⟨d0,d1⟩:=ad Hr wD Ai;have oE:=hide Ai;have vi:=hide mH;have GM:=hide (ad qc wD Ai);clear Ai mH;cases qm:c1 <;> rw[qm] at vi) | (go_at_call 181;refine (ad GM).mono ?_;rintro en wE ⟨E7,c2,rfl,nD⟩;have vf:=hide E7;have mX:=hide nD;clear E7 nD;cases hce:c2 <;> rw[hce] at mX))
     ·go_ret2
      exact⟨(ad vp).trans ((ad oE).mono (ad vp).size),m,ad fH,.inr ⟨λ fQ h=>(by have h2:=h.2.1;rw[ad HO] at h2;obtain rfl:=Option.some.inj h2;exact absurd ((ad vi).2 h.2.2.2.1) (by simp)),rfl⟩⟩
     ·go_ret2
      exact⟨(ad vp).trans (((ad oE).trans ((ad vf).mono (ad oE).size)).mono (ad vp).size),m,ad fH,.inr ⟨λ fQ h=>(by have h2:=h.2.1;rw[ad HO] at h2;obtain rfl:=Option.some.inj h2;exact absurd ((ad mX).2 (clos_b.2 h.2.2.2.2)) (by simp)),rfl⟩⟩
     ·go_ret2
      have kE:=(ad oE).trans ((ad vf).mono (ad oE).size);exact⟨(ad vp).trans (kE.mono (ad vp).size),m,ad fH,.inl ⟨st,_,⟨Am,ad HO,ad jw,(ad vi).1 (by trivial),clos_b.1 ((ad mX).1 (by trivial))⟩,rfl,(ad Hc).block (kE.block _ CT)⟩⟩
  ·have hd:decide ((m:Int)<(k:Int))=true:=(by simp;omega);rw[hd];clear eQ mC pn HC rL;go_wp2_with fail
   go_ret2
   exact⟨ad mu,m,ad fH,.inr ⟨λ st h=>Am h.1,rfl⟩⟩
end
end Go.Proofs.YtldkpahaocjdpaaGreat
