/-
  The law's asked, at an Explain.
-/
import Derived.Test.YtldkpahaocjdpaaGreatE48
import Derived.Test.YtldkpahaocjdpaaGreatRows
import Derived.ProofKit
import Derived.SizedLaws
import Derived.ChangeSlices
import Derived.Deep.Slices
import Derived.Deep.Strs
import Derived.Deep.CondSized
import Derived.JoinedCond
set_option maxHeartbeats 16000000
set_option maxRecDepth 1000000
namespace Go.Proofs.YtldkpahaocjdpaaGreat
section
open Go.RowKit Go.Maps
variable {w:W8}
theorem zkj {base:Nat}{a:O8}{m c:Nat}{bs:List Nat}(h:w.ownsRow base 5 1 (.slice a m c) m (bs.map u8c))(hm:m=bs.length):(convert 47 9 (.slice a m c)).run Tryz.prog w=.ok (.string (strOfNums (bs.map λ (x:Nat)=>(x:Int)%256))) w:=by
 cases bs with
 | nil=>
  subst hm
  cases a with
  | none=>exact run_convert_bytes_nil _ 47 5 Tryz.underlying47 Tryz.underlying5 _ _ _ Tryz.underlying9
  | some p=>
   obtain⟨g,o,t⟩:=p;rcases h.2 with⟨h0,_⟩ | ⟨g',cap,cur,h0,_⟩
   ·cases h0
   ·injection h0 with e1 e2 e3
    injection e1 with e1
    injection e1 with e1 e4 e5
    subst e1 e4 e5;exact run_convert_bytes_arg _ 47 5 Tryz.underlying47 Tryz.underlying5 _ 0 _ _ [] rfl (λ i hi=>by simp at hi) _ Tryz.underlying9
 | cons x r=>
  obtain⟨g,cap,hv,_,_⟩:=h.form (by rw[hm];simp);injection hv with e1 e2 e3
  subst e1 e3;refine run_convert_bytes_arg _ 47 5 Tryz.underlying47 Tryz.underlying5 _ 0 _ _ _ (by rw[List.length_map];exact hm.symm) (λ i hi=>?_) _ Tryz.underlying9;have wD:i<(x::r).length:=by omega
  have:=World.ownsRow.cellAt h i (by omega);rw[Nat.zero_add,this,List.getD_eq_getElem?_getD,List.getElem?_map,List.getElem?_map,List.getElem?_eq_getElem wD];rfl
def YB (w:W8)(b:Nat)(v d:Int)(s:Value):Prop:=w.heap[b]?=some (.cells #[.int .i64 v,.int .i64 d,s] 49 (0,0))
variable {s:Value} {v d:Int} {b:Nat}
theorem YB.cells (h:YB w b v d s):w.cell? ⟨b,0,none⟩=some (.int .i64 v)/\w.cell? ⟨b,1,none⟩=some (.int .i64 d)/\w.cell? ⟨b,2,none⟩=some s:=⟨(zB h 0).1,(zB h 1).1,(zB h 2).1⟩
variable {w':W8}
theorem YB.below (h:YB w b v d s)(k:Below w.heap.size w w'):YB w' b v d s:=(k.block b (Array.getElem?_eq_some_iff.1 h).1).trans h
theorem YB.kept (h:YB w b v d s){B:List Nat}(k:zK B w w')(hb:b∉B):YB w' b v d s:=(k.block b (Array.getElem?_eq_some_iff.1 h).1 hb).trans h
theorem YB.new (w:W8)(v d:Int)(s:Value):YB (w.alloc (.cells #[.int .i64 v,.int .i64 d,s] 49)) w.heap.size v d s:=heap_alloc_new w _
theorem zpl (w:W8)(b:Nat)(bz bv tv sv:Value)(es:List PE)(mb mt ms:List MB)(h:LW w b bz bv tv sv es mb mt ms)(x y:Nat)(ps:B8)(lo:Nat)(hp:pt ps x y w lo)(hlen:mb.length+2<=100000000)(a bb:Int)(s t u:B8)(at_:O8)(nt ct:Nat)(hs:s.size<=2000000):
  Calls Tryz.prog 50 #[.pointer (some ⟨b,0,none⟩),.agg #[.int .i64 5,.int .i64 a,.int .i64 bb,.string s,.string t,.string u,.slice at_ nt ct],.agg #[.pointer (some ⟨x,0,none⟩),.pointer (some ⟨y,0,none⟩),.string ps]] w (z1a w b bz bv tv sv es mb mt ms):=by
 have b0:=((Below.refl w.heap.size w).alloc L9 (.cells #[.int .i64 5,.int .i64 a,.int .i64 bb,.string s,.string t,.string u,.slice at_ nt ct] 26)).alloc (by simp) (.cells #[.pointer (some ⟨x,0,none⟩),.pointer (some ⟨y,0,none⟩),.string ps] 112);have h0:=hp.below b0;have UM:((w.alloc (.cells #[.int .i64 5,.int .i64 a,.int .i64 bb,.string s,.string t,.string u,.slice at_ nt ct] 26)).alloc (.cells #[.pointer (some ⟨x,0,none⟩),.pointer (some ⟨y,0,none⟩),.string ps] 112)).heap[w.heap.size+1]?=some (.cells #[.pointer (some ⟨x,0,none⟩),.pointer (some ⟨y,0,none⟩),.string ps] 112 (0,0)):=by
  have:=heap_alloc_new (w.alloc (.cells #[.int .i64 5,.int .i64 a,.int .i64 bb,.string s,.string t,.string u,.slice at_ nt ct] 26)) (.cells #[.pointer (some ⟨x,0,none⟩),.pointer (some ⟨y,0,none⟩),.string ps] 112);rw[World.size_alloc] at this;exact this
 have Tz:((w.alloc (.cells #[.int .i64 5,.int .i64 a,.int .i64 bb,.string s,.string t,.string u,.slice at_ nt ct] 26)).alloc (.cells #[.pointer (some ⟨x,0,none⟩),.pointer (some ⟨y,0,none⟩),.string ps] 112)).heap[w.heap.size]?=some (.cells #[.int .i64 5,.int .i64 a,.int .i64 bb,.string s,.string t,.string u,.slice at_ nt ct] 26 (0,0)):=by
  rw[Below.heap_alloc _ _ _ (by simp)];exact heap_alloc_new w _
 have hC:=zln h0 s hs bb;have bC:w.heap.size+2=((w.alloc (.cells #[.int .i64 5,.int .i64 a,.int .i64 bb,.string s,.string t,.string u,.slice at_ nt ct] 26)).alloc (.cells #[.pointer (some ⟨x,0,none⟩),.pointer (some ⟨y,0,none⟩),.string ps] 112)).heap.size:=by simp
 have Rb:=zC bC;have iX:=zC hp.ok;clear hp bC;go_enter Tryz.func50,Tryz.ntmps50;go_wp2_with fail;refine hC.mono ?_;rintro e Ec ⟨rp1,Ai,AB,oi,C2⟩;obtain⟨v1,d1,a1,m1,c1,k1,rfl⟩:=oi.shape;have bC:=zA Rb;have aL:=C2.alloc C2.size (.cells #[.int .i64 v1,.int .i64 d1,.slice a1 m1 c1] 49);have y1:=YB.new Ec v1 d1 (.slice a1 m1 c1);have z1:(Ec.alloc (.cells #[.int .i64 v1,.int .i64 d1,.slice a1 m1 c1] 49)).heap.size=Ec.heap.size+1:=by simp
 have J9:=(aL.block (w.heap.size+1) (by omega)).trans UM;have JZ:=(aL.block w.heap.size (by omega)).trans Tz;have h1:=h0.below aL;have gA:=b0.trans (aL.mono (by omega));have tr:=zC (And.intro Ai (And.intro AB oi));have M6:=zC (And.intro z1 C2.size);have Qn:=zC y1;have Dq:=zC ((Below.refl Ec.heap.size Ec).alloc L9 (.cells #[.int .i64 v1,.int .i64 d1,.slice a1 m1 c1] 49));have gh:=zC gA;have H1:=zC h1;have CO:=zC J9;have Dt:=zC JZ;clear hC UM Tz b0 h0 aL C2 J9 JZ gA h1 Ai AB oi y1 z1 bC;go_upto_region 25 with fail;generalize (Ec.alloc (.cells #[.int .i64 v1,.int .i64 d1,.slice a1 m1 c1] 49))=w1 at *;obtain⟨p0,B7⟩:=zB (zA CO) 0;obtain⟨o2,Rz⟩:=zB (zA Dt) 2;obtain⟨o3,Rp⟩:=zB (zA Dt) 3;have Sd:=zln (zA H1) s hs bb;have dX:w.heap.size+1<w1.heap.size:=(Array.getElem?_eq_some_iff.1 (zA CO)).1;generalize oK:Ec.heap.size=A1 at Qn ⊢;have Jw:=zC oK;clear oK;go_wp2_with fail;refine Sd.mono ?_;rintro e G8 ⟨rp2,A4,ru,nQ,CV⟩;obtain⟨v2,d2,a2,m2,c2,k2,rfl⟩:=nQ.shape;have aK:=CV.alloc CV.size (.cells #[.int .i64 v2,.int .i64 d2,.slice a2 m2 c2] 49);have y2:=YB.new G8 v2 d2 (.slice a2 m2 c2);have z2:(G8.alloc (.cells #[.int .i64 v2,.int .i64 d2,.slice a2 m2 c2] 49)).heap.size=G8.heap.size+1:=by simp
 have mC:=zC (And.intro A4 (And.intro ru nQ));have NS:=zC (And.intro z2 CV.size);have Bh:=zC y2;have GM:=zC ((Below.refl G8.heap.size G8).alloc L9 (.cells #[.int .i64 v2,.int .i64 d2,.slice a2 m2 c2] 49));have Ua:=zC ((zA Qn).below aK);have H2:=zC ((zA H1).below aK);have KQ:=zC ((aK.block (w.heap.size+1) dX).trans (zA CO));have Gg:=zC ((aK.block w.heap.size (by omega)).trans (zA Dt));have ir:=zC ((zA gh).trans (aK.mono (zA gh).size));have Fb:=zC aK;clear Sd aK CV A4 ru nQ y2 z2 p0 B7 o2 Rz o3 Rp H1 CO Dt Qn;go_upto_region 26 with fail;generalize (G8.alloc (.cells #[.int .i64 v2,.int .i64 d2,.slice a2 m2 c2] 49))=w2 at *;obtain⟨q1,yp⟩:=zB (zA KQ) 1;obtain⟨r2,R7⟩:=zB (zA Gg) 2;obtain⟨r3,SB⟩:=zB (zA Gg) 3;have Me:=zre (zA H2) s hs bb;generalize B0:G8.heap.size=A2 at Bh ⊢;have Eb:=zC B0;clear B0;go_wp2_with fail;refine Me.mono ?_;rintro e wW ⟨S,v,n,rfl,dz,bc,uJ,CD⟩;obtain⟨v3,d3,a3,m3,c3,rfl⟩:=uJ.shape;obtain⟨Ai,AB,oi⟩:=zA tr;obtain⟨A4,ru,nQ⟩:=zA mC;obtain⟨e1,e2,e3,bs,sg,dJ,fm,Da,Fv⟩:=(z4c (zA iX) Ai AB dz bc oi uJ).both;obtain⟨e4,e5,e6,bs',lg,dC,Af,Bl,Bd⟩:=(z4c (zA iX) A4 ru dz bc nQ uJ).both;have e1:=e1.symm;have e2:=e2.symm;have e3:=e3.symm;have e4:=e4.symm;have e5:=e5.symm;have e6:=e6.symm;subst e1 e2 e3 e4 e5 e6;unfold zir;have cI:=CD.alloc CD.size (.cells #[.int .i64 v3,.int .i64 d3,.slice a3 m3 c3] 49);have y3:=YB.new wW v3 d3 (.slice a3 m3 c3);have z3:(wW.alloc (.cells #[.int .i64 v3,.int .i64 d3,.slice a3 m3 c3] 49)).heap.size=wW.heap.size+1:=by simp
 have Qt:=CD.size;have aY:=zA M6;have bf:=zA NS;have bC:=zA Rb;have oK:=zA Jw;have B0:=zA Eb;have mg:=(zA Dq).trans (((zA Fb).mono (zA Dq).size).trans (cI.mono (Nat.le_trans (zA Dq).size (zA Fb).size)));have LK:=(zA GM).trans (cI.mono (zA GM).size);have r1:=zJ (zG (base':=w.heap.size) Da (by omega)) mg (λ g e=>(Da.lt g e).2);have Po:=zJ (zG (base':=w.heap.size) Bl (by omega)) LK (λ g e=>(Bl.lt g e).2);have RZ:=zJ Fv ((Below.refl wW.heap.size wW).alloc L9 (.cells #[.int .i64 v3,.int .i64 d3,.slice a3 m3 c3] 49)) (λ g e=>(Fv.lt g e).2);have TA:=zJ Bd ((Below.refl wW.heap.size wW).alloc L9 (.cells #[.int .i64 v3,.int .i64 d3,.slice a3 m3 c3] 49)) (λ g e=>(Bd.lt g e).2);have d1:∀ g∈(Value.slice a1 m1 c1).ownBlock.toList,w.heap.size<=g/\g<A1:=λ g hg=>⟨(r1.lt g (by simpa using hg)).1,by have:=(Da.lt g (by simpa using hg)).2;omega⟩
 have d2:∀ g∈(Value.slice a2 m2 c2).ownBlock.toList,A1+1<=g/\g<A2:=λ g hg=>⟨by have:=(Bl.lt g (by simpa using hg)).1;omega,by have:=(Bl.lt g (by simpa using hg)).2;omega⟩
 have C4:=zkj r1 dJ;have BH:=zkj Po dC;have Aj:=zkj RZ fm;have L0:=zkj TA Af;have hX:strOfNums (bs'.map λ (x:Nat)=>(x:Int)%256)=strOfNums (bs.map λ (x:Nat)=>(x:Int)%256):=by
  have:=L0.symm.trans Aj;injection this with this
  injection this
 rw[hX] at BH;have U0:=(zA Ua).below cI;have Ur:=(zA Bh).below cI;have BL:=zC ((zA ir).trans (cI.mono (zA ir).size));have WT:=zC (h.below ((zA ir).trans (cI.mono (zA ir).size)));have tG:=zC h;have Qa:=zC r1;have MA:=zC Po;have MU:=zC d1;have Nz:=zC d2;have XY:m1<=1000:=by omega
 have W8:m2<=1000:=by omega
 have Ku:=zC (show w.heap.size+2<=A1/\A1+1<=A2/\A2+1<=wW.heap.size/\(wW.alloc (.cells #[.int .i64 v3,.int .i64 d3,.slice a3 m3 c3] 49)).heap.size=wW.heap.size+1/\b<w.heap.size from ⟨by omega,by omega,by omega,z3,h.lt⟩);have Fy:=zC U0;have Gu:=zC Ur;have GR:=zC y3;have U7:=zC (And.intro C4 (And.intro BH Aj));clear C4 BH Aj L0 hX U0 Ur y3 r1 Po RZ TA Da Bl Fv Bd d1 d2 Ai AB oi A4 ru nQ tr mC uJ dz bc Me gh ir Fb Dq GM q1 yp r2 R7 r3 SB h cI CD mg LK bC Rb dJ dC fm Af aY bf Qt z3 oK B0 Jw Eb M6 NS Ua Bh H2 KQ Gg dX sg lg;go_upto_region 27 with fail;generalize (wW.alloc (.cells #[.int .i64 v3,.int .i64 d3,.slice a3 m3 c3] 49))=w3 at *;generalize strOfNums (bs.map λ (x:Nat)=>(x:Int)%256)=X at *;generalize wW.heap.size=A3 at *;obtain⟨C4,BH,Aj⟩:=zA U7;obtain⟨S7,Sh,RV⟩:=(zA Fy).cells;obtain⟨TL,U8,Nq⟩:=(zA Gu).cells;obtain⟨Ux,UN,Yz⟩:=(zA GR).cells;go_upto_region 28 with fail;clear C4 BH Aj U7 S7 Sh TL U8 Nq Ux UN Yz;have DH:=zA WT;have JU:=zC (DH.below B9.drew);have jg:=zC ((zA BL).drew);have rF:∀ m∈mb,∀ g∈(Value.slice a1 m1 c1).ownBlock.toList,g∉m.blocks:=λ m hm g hg BB=>by
  have:=((zA tG).bs.each m hm).lt g BB;have:=(zA MU g hg).1;omega
 have CJ:=zC (zwl w3.drew b bz bv tv sv mb a1 m1 c1 _ (zA JU).bq (zA JU).bs (zG (zA Qa) (Nat.zero_le _)) XY rF (by omega));clear DH rF;refine wp_region_held_drew (S:=λ V=>V.cell? ⟨A1,2,none⟩=some (.slice a1 m1 c1)) (by kernel_rfl) RV (λ hHeld=>?_);clear RV;refine K9 0 (.pointer (some ⟨b,0,none⟩)) rfl (Or.inl ⟨by rfl,λ V _=>by go_simp⟩) hHeld ?_;refine K9 1 (.pointer (some ⟨b,0,none⟩)) rfl (Or.inl ⟨by rfl,λ V _=>by go_simp⟩) hHeld ?_;refine K9 2 (.pointer (some ⟨b,1,none⟩)) rfl (Or.inl ⟨by rfl,λ V _=>by go_simp⟩) hHeld ?_;refine K9 3 (.pointer (some ⟨A1,2,none⟩)) rfl (Or.inl ⟨by rfl,λ V _=>by go_simp⟩) hHeld ?_;refine K9 4 (.slice a1 m1 c1) rfl (Or.inl ⟨by rfl,λ V hV=>by go_simp⟩) hHeld ?_;refine wpAnyH_ready (rs:=[5]) (by kernel_rfl) (by simp) ?_;refine AllReadyH.cons rfl (λ K hK=>?_) AllReadyH.nil
 go_simp
 refine (zA CJ).mono ?_;rintro e w5 ⟨rfl,QM,m5,BS⟩;have bj:=zA Ku;have uM:=(zA tG).sG;have mn:=BS.kept.size;have za:∀ A,A1<=A->A∉b::(bv.ownBlock.toList++(Value.slice a1 m1 c1).ownBlock.toList):=λ A hA hm=>by
  rcases List.mem_cons.1 hm with rfl | hm
  ·omega
  ·rcases List.mem_append.1 hm with hm | hm
   ·have:=((zA tG).bs.row.lt A (by simpa using hm)).2;omega
   ·have:=(zA MU A hm).2;omega
 have GD:=((zA Fy).below B9.drew).kept BS.kept (za A1 L9);have GO:=((zA Gu).below B9.drew).kept BS.kept (za A2 (by omega));have Kn:=((zA GR).below B9.drew).kept BS.kept (za A3 (by omega));have rK:w5.ownsRow 0 5 1 (.slice a2 m2 c2) m2 (bs'.map u8c):=by
  refine zZ (zG (zA MA) (Nat.zero_le _)) (λ g hg=>BS.kept.block g ((zA MA).lt g hg).2 (za g ?_));have:=(zA Nz g (by simpa using hg)).1;omega
 have yq:∀ m∈mb++[m5],∀ g∈(Value.slice a2 m2 c2).ownBlock.toList,g∉m.blocks:=λ m hm g hg BB=>by
  have hd:=zA Nz g hg;rcases List.mem_append.1 hm with hm | hm
  ·have:=((zA tG).bs.each m hm).lt g BB;omega
  ·rw[List.mem_singleton.1 hm] at BB;rcases BS.eG g BB with h | h
   ·have:=(zA MU g h).2;omega
   ·have h:w3.heap.size<=g:=h;omega
 have R9:=zwl w5.drew b bz QM tv sv (mb++[m5]) a2 m2 c2 _ BS.bq (BS.book.below B9.drew) rK W8 yq (by rw[List.length_append,List.length_singleton];omega);have SL:=zC R9;have UL:=zC BS;have J8:=zC GD;have LY:=zC GO;have Ls:=zC Kn;have Li:=GO.cells.2.2;have Iv:=zC BS.row;refine hK.out _ _ GD.cells.2.2 (λ _=>?_);clear hK K BS GD GO Kn rK yq R9 CJ Fy Gu GR hHeld bj uM mn za;refine wpAnyH_done (by kernel_rfl) ?_ _;go_upto_region 29 with fail;refine wp_region_held_drew (S:=λ V=>V.cell? ⟨A2,2,none⟩=some (.slice a2 m2 c2)) (by kernel_rfl) Li (λ hHeld=>?_);clear Li;refine K9 0 (.pointer (some ⟨b,0,none⟩)) rfl (Or.inl ⟨by rfl,λ V _=>by go_simp⟩) hHeld ?_;refine K9 1 (.pointer (some ⟨b,0,none⟩)) rfl (Or.inl ⟨by rfl,λ V _=>by go_simp⟩) hHeld ?_;refine K9 2 (.pointer (some ⟨b,1,none⟩)) rfl (Or.inl ⟨by rfl,λ V _=>by go_simp⟩) hHeld ?_;refine K9 3 (.pointer (some ⟨A2,2,none⟩)) rfl (Or.inl ⟨by rfl,λ V _=>by go_simp⟩) hHeld ?_;refine K9 4 (.slice a2 m2 c2) rfl (Or.inl ⟨by rfl,λ V hV=>by go_simp⟩) hHeld ?_;refine wpAnyH_ready (rs:=[5]) (by kernel_rfl) (by simp) ?_;refine AllReadyH.cons rfl (λ K hK=>?_) AllReadyH.nil
 go_simp
 refine (zA SL).mono ?_;rintro e w6 ⟨rfl,Tp,m6,uK⟩;have FU:Mp w5 b (λ v'=>#[bz,v',tv,sv]) 115 5 iF QM (mb++[m5]) (.slice a2 m2 c2) Tp m6 w6:=⟨uK.bq,uK.book,((zK.refl _ w5).drew).trans uK.kept,uK.eG,uK.row⟩;have bj:=zA Ku;have uM:=(zA tG).lt;have CX:∀ A,A=A1\/A=A2\/A=A3->A∉b::(QM.ownBlock.toList++(Value.slice a2 m2 c2).ownBlock.toList):=λ A hA hm=>by
  rcases List.mem_cons.1 hm with rfl | hm
  ·omega
  ·rcases List.mem_append.1 hm with hm | hm
   ·rcases zA Iv A hm with hm | hm
    ·have:=((zA tG).bs.row.lt A (by simpa using hm)).2;omega
    ·have hm:w3.heap.size<=A:=hm;omega
   ·have:=zA Nz A hm;omega
 have Kt:=(zA J8).kept FU.kept (CX A1 (.inl rfl));have KA:=(zA LY).kept FU.kept (CX A2 (.inr (.inl rfl)));have JR:=(zA Ls).kept FU.kept (CX A3 (.inr (.inr rfl)));obtain⟨S7,Sh,-⟩:=Kt.cells;obtain⟨TL,U8,Nq⟩:=KA.cells;obtain⟨Ux,UN,-⟩:=JR.cells;have aE:=z8u (zA jg) (zA UL) FU (zA MU) (λ g hg=>by have:=(zA Nz g hg).1;omega);have HE:=zC ((zA tG).Oc aE.1 FU.bq FU.book aE.2);refine hK.out _ _ Nq (λ _=>?_);clear hK K aE FU uK UL J8 LY Ls Kt KA JR hHeld bj uM CX SL Iv Nq;refine wpAnyH_done (by kernel_rfl) ?_ _;go_wp2_with fail;go_ret;exact⟨by simp,Tp,tv,sv,_,mt,ms,(zA HE).1,by simp,by omega,by omega,(zA HE).2⟩
end
section
open Go.ChangeShapes Go.WideShapes Go.ChangeAt Go.RowKit Go.Deep
theorem yer:ownKnob Tryz.prog.godebug=none:=by kernel_rfl
theorem yei:laidOutB Tryz.prog=true:=by kernel_rfl
theorem zw5:Tryz.prog.cellsOf 26=7:=by kernel_rfl
theorem z0w:Tryz.prog.cellsOf 3=1:=by kernel_rfl
theorem z5l:Tryz.prog.cellsOf 9=1:=by kernel_rfl
theorem zxw:Tryz.prog.cellsOf 24=1:=by kernel_rfl
variable {H:Type}
theorem z76 (d:DataW H):1<=Rows.uptoBulk d:=by
 cases d with
 | lit l=>cases l <;> simp[Rows.uptoBulk]
 | nil=>simp[Rows.uptoBulk]
 | ptr d=>simp[Rows.uptoBulk]
 | slice elems spare=>simp[Rows.uptoBulk]
 | agg parts=>simp[Rows.uptoBulk]
 | iface t d=>simp[Rows.uptoBulk]
 | map entries=>simp[Rows.uptoBulk]
 | held h=>simp[Rows.uptoBulk]
theorem z7g (l:List (DataW H)):l.length<=Rows.uptoBulkAll l:=by
 induction l with
 | nil=>simp[Rows.uptoBulkAll]
 | cons x r ih=>have:=z76 x;simp only[Rows.uptoBulkAll,List.length_cons];omega
theorem UF {n:Int}(h:(Lit.int .i64 n).wf=true):-9223372036854775808<=n/\n<=9223372036854775807:=by
 simpa[Lit.wf,IntKind.min,IntKind.max,IntKind.signed,IntKind.bits] using h
end
section
open Go.ChangeShapes Go.WideShapes Go.ChangeAt Go.RowKit Go.Deep
variable {H:Type}
theorem z64 {l:List (DataW H)}{d:DataW H}(h:d∈l):Rows.uptoBulk d<=Rows.uptoBulkAll l:=by
 induction l with
 | nil=>cases h
 | cons x r ih=>
  simp only[Rows.uptoBulkAll];rcases List.mem_cons.1 h with rfl | h
  ·omega
  ·have:=ih h;omega
variable {W:W8}
theorem z7z {enc:TypeId × Value->H}{base n g off:Nat}{cs:V8}{x:DataW H × List MemPlace}{spare:Nat->Bool}{held:Bool}(hc:W.cells? base ⟨g,off,none⟩ 7=some cs)(ht:DataW.trod enc Tryz.prog W base spare held n 26 cs=some x):
  ∃ o:OpV,W.cell? ⟨g,off,none⟩=some (.int .i64 o.kd)/\W.cell? ⟨g,off+1,none⟩=some (.int .i64 o.a)/\W.cell? ⟨g,off+2,none⟩=some (.int .i64 o.b)/\W.cell? ⟨g,off+3,none⟩=some (.string o.s)/\W.cell? ⟨g,off+4,none⟩=some (.string o.t)/\W.cell? ⟨g,off+5,none⟩=some (.string o.u)/\W.cell? ⟨g,off+6,none⟩=some (.slice o.at_ o.nt o.ct)/\z9l o/\o.s.size+o.t.size+o.u.size<=Rows.uptoBulk x.1:=by
 obtain⟨_,Pt,cd⟩:=World.cells?_some hc;obtain⟨xs,m,_,Pw,hlen,EC,hf⟩:=DataW.trod_struct Tryz.underlying26 ht;obtain⟨c0,c1,c2,c3,c4,c5,c6,rfl⟩:∃ c0 c1 c2 c3 c4 c5 c6,cs=[c0,c1,c2,c3,c4,c5,c6]:=by
  match cs,Pt with
  | [c0,c1,c2,c3,c4,c5,c6],_=>exact⟨c0,c1,c2,c3,c4,c5,c6,rfl⟩
 obtain⟨y0,y1,y2,y3,y4,y5,y6,rfl⟩:∃ y0 y1 y2 y3 y4 y5 y6,xs=[y0,y1,y2,y3,y4,y5,y6]:=by
  match xs,EC with
  | [y0,y1,y2,y3,y4,y5,y6],_=>exact⟨y0,y1,y2,y3,y4,y5,y6,rfl⟩
 have f0 := hf 0 { name := "Kind", type := 3, offset := 0, embedded := false, tag := "", pkgPath := "", byteOffset := 0 } rfl;have f1 := hf 1 { name := "A", type := 3, offset := 1, embedded := false, tag := "", pkgPath := "", byteOffset := 8 } rfl;have f2 := hf 2 { name := "B", type := 3, offset := 2, embedded := false, tag := "", pkgPath := "", byteOffset := 16 } rfl;have f3 := hf 3 { name := "S", type := 9, offset := 3, embedded := false, tag := "", pkgPath := "", byteOffset := 24 } rfl;have f4 := hf 4 { name := "T", type := 9, offset := 4, embedded := false, tag := "", pkgPath := "", byteOffset := 40 } rfl;have f5 := hf 5 { name := "U", type := 9, offset := 5, embedded := false, tag := "", pkgPath := "", byteOffset := 56 } rfl;have f6 := hf 6 { name := "Turns", type := 24, offset := 6, embedded := false, tag := "", pkgPath := "", byteOffset := 72 } rfl;simp only[z0w,z5l,zxw,List.drop_zero,List.drop_succ_cons,List.take_succ_cons,List.take_zero,List.getElem?_cons_zero,List.getElem?_cons_succ] at f0 f1 f2 f3 f4 f5 f6;obtain⟨k0,e0,_,_⟩:=DataW.trod_int Tryz.underlying3 f0;obtain⟨k1,e1,_,r1⟩:=DataW.trod_int Tryz.underlying3 f1;obtain⟨k2,e2,_,r2⟩:=DataW.trod_int Tryz.underlying3 f2;obtain⟨s3,e3,d3,hs3⟩:=DataW.trod_string Tryz.underlying9 f3;obtain⟨s4,e4,d4,hs4⟩:=DataW.trod_string Tryz.underlying9 f4;obtain⟨s5,e5,d5,hs5⟩:=DataW.trod_string Tryz.underlying9 f5;have hbk:s3.size+s4.size+s5.size<=Rows.uptoBulk x.1:=by
  rw[Pw];subst d3 d4 d5;have g3:=jH s3;have g4:=jH s4;have g5:=jH s5;simp only[List.map_cons,List.map_nil,Rows.uptoBulk,Rows.uptoBulkAll];omega
 have e6:∃ a n c,c6=.slice a n c:=by
  rcases DataW.trod_slice Tryz.underlying24 f6 with⟨h,_⟩ | ⟨a,len,cap,_,_,_,_,h,_⟩
  ·injection h with h;exact⟨_,_,_,h⟩
  ·injection h with h;exact⟨_,_,_,h⟩
 obtain⟨a6,n6,VR,rfl⟩:=e6;injection e0 with e0
 injection e1 with e1
 injection e2 with e2
 injection e3 with e3
 injection e4 with e4
 injection e5 with e5
 subst e0 e1 e2 e3 e4 e5;have d0:=cd 0 (by omega);have d1:=cd 1 (by omega);have d2:=cd 2 (by omega);have d3:=cd 3 (by omega);have d4:=cd 4 (by omega);have d5:=cd 5 (by omega);have d6:=cd 6 (by omega);simp only[Addr.add,List.getElem?_cons_zero,List.getElem?_cons_succ] at d0 d1 d2 d3 d4 d5 d6;exact⟨⟨k0,k1,k2,s3,s4,s5,a6,n6,VR⟩,by simpa using d0,by simpa using d1,by simpa using d2,by simpa using d3,by simpa using d4,by simpa using d5,by simpa using d6,⟨UF r1,UF r2,Qt,Yc,G7⟩,ny⟩
theorem zrv {enc:TypeId × Value->H}{a0:O8}{len cap:Nat}{d0:DataW H}{p:List MemPlace}(h0:DataW.Trod enc Tryz.prog W 0 (λ _=>true) true 22 (.slice a0 len cap) d0 p)(hk:Rows.uptoBulk d0<=1048576):
  ∃ O:Nat->OpV,Ik W a0 len O/\(∀ i,i<len->z9l (O i)/\(O i).s.size+(O i).t.size+(O i).u.size<=1048576)/\len<=1048576:=by
 obtain⟨fuel,hf⟩:=h0;rcases open_slice Tryz.underlying22 hf with⟨iq,hx⟩ | ⟨a,YN,dp,m,n,D,Pl,iq,_,hl,hm,np,hx,qv⟩
 ·simp[Value.cells] at iq;obtain⟨rfl,rfl,rfl⟩:=iq;exact⟨λ _=>⟨0,0,0,{ data:=#[] },{ data:=#[] },{ data:=#[] },none,0,0⟩,⟨λ i hi=>by omega⟩,λ i hi=>by omega,by omega⟩
 ·simp[Value.cells] at iq;obtain⟨rfl,rfl,rfl⟩:=iq;simp only[Prod.mk.injEq] at hx;obtain⟨rfl,rfl⟩:=hx;simp only[if_true] at np;subst np;have hlen:len<=1048576:=by
   simp only[Rows.uptoBulk] at hk;have:=z7g ((List.range len).map D);simp only[List.length_map,List.length_range] at this;omega
  obtain⟨g,off,sp⟩:=a;have TN:0<len->sp=none:=λ h=>by
   obtain⟨P4,hc,_⟩:=qv 0 (by omega);rw[zw5] at hc;obtain⟨_,Pt,cd⟩:=World.cells?_some hc;obtain⟨c0,r,rfl⟩:∃ c0 r,P4=c0::r:=by
    match P4,Pt with
    | c0::r,_=>exact⟨c0,r,rfl⟩
   have LF:=cd 0 (by omega);simpa[Addr.add] using World.cell?_spot LF
  have each:∀ i,i<len->∃ o:OpV,W.cell? ⟨g,off+i*7,none⟩=some (.int .i64 o.kd)/\W.cell? ⟨g,off+i*7+1,none⟩=some (.int .i64 o.a)/\W.cell? ⟨g,off+i*7+2,none⟩=some (.int .i64 o.b)/\W.cell? ⟨g,off+i*7+3,none⟩=some (.string o.s)/\W.cell? ⟨g,off+i*7+4,none⟩=some (.string o.t)/\W.cell? ⟨g,off+i*7+5,none⟩=some (.string o.u)/\W.cell? ⟨g,off+i*7+6,none⟩=some (.slice o.at_ o.nt o.ct)/\z9l o/\o.s.size+o.t.size+o.u.size<=1048576:=by
   intro i hi;obtain⟨P4,hc,ht⟩:=qv i (by omega);rw[zw5] at hc;have hs:=TN (by omega);subst hs;have e:(⟨g,off,none⟩:Addr).add (i*7)=⟨g,off+i*7,none⟩:=(by unfold Addr.add;split <;> simp_all);rw[e] at hc;obtain⟨o,q0,q1,q2,q3,q4,q5,q6,q7,q8⟩:=z7z hc ht;refine⟨o,q0,q1,q2,q3,q4,q5,q6,q7,Nat.le_trans q8 ?_⟩;have cg:=z64 (l:=(List.range len).map D) (d:=D i) (List.mem_map.2 ⟨i,List.mem_range.2 hi,rfl⟩);simp only[Rows.uptoBulk] at hk;simp only;omega
  refine⟨λ i=>if h:i<len then Classical.choose (each i h) else ⟨0,0,0,{ data:=#[] },{ data:=#[] },{ data:=#[] },none,0,0⟩,⟨λ i hi=>?_⟩,λ i hi=>?_,hlen⟩
  ·obtain⟨q0,q1,q2,q3,q4,q5,q6,q7⟩:=Classical.choose_spec (each i hi);have hs:=TN (by omega);subst hs;simp only[dif_pos hi];exact⟨g,off,rfl,World.block_lt_of_cell? W _ q0,q0,q1,q2,q3,q4,q5,q6,q7.1.s⟩
  ·obtain⟨q0,q1,q2,q3,q4,q5,q6,q7⟩:=Classical.choose_spec (each i hi);simp only[dif_pos hi];exact q7
end
end Go.Proofs.YtldkpahaocjdpaaGreat
