/-
  The law's asked, at an Explain.
-/
import Derived.Test.YtldkpahaocjdpaaGreatE48
import Derived.Test.YtldkpahaocjdpaaGreatRows
import Derived.ProofKit
import Derived.SizedLaws
import Derived.ChangeSlices
import Derived.Deep.Slices
import Derived.Deep.Strs
import Derived.Deep.CondSized
import Derived.JoinedCond
set_option maxHeartbeats 16000000
set_option maxRecDepth 1000000
namespace Go.Proofs.YtldkpahaocjdpaaGreat
section
open Go.RowKit Go.Maps
variable {w:W8}
theorem zkd {base:Nat}{a:O8}{m c:Nat}{bs:List Nat}(h:w.ownsRow base 5 1 (.slice a m c) m (bs.map u8c))(hm:m=bs.length):(convert 47 9 (.slice a m c)).run Tryz.prog w=.ok (.string (strOfNums (bs.map λ (x:Nat)=>(x:Int)%256))) w:=by
 cases bs with
 | nil=>
  subst hm
  cases a with
  | none=>exact run_convert_bytes_nil _ 47 5 Tryz.underlying47 Tryz.underlying5 _ _ _ Tryz.underlying9
  | some p=>
   obtain⟨g,o,t⟩:=p;rcases h.2 with⟨h0,_⟩ | ⟨g',cap,cur,h0,_⟩
   ·cases h0
   ·injection h0 with e1 e2 e3
    injection e1 with e1
    injection e1 with e1 e4 e5
    subst e1 e4 e5;exact run_convert_bytes_arg _ 47 5 Tryz.underlying47 Tryz.underlying5 _ 0 _ _ [] rfl (λ i hi=>by simp at hi) _ Tryz.underlying9
 | cons x r=>
  obtain⟨g,cap,hv,_,_⟩:=h.form (by rw[hm];simp);injection hv with e1 e2 e3
  subst e1 e3;refine run_convert_bytes_arg _ 47 5 Tryz.underlying47 Tryz.underlying5 _ 0 _ _ _ (by rw[List.length_map];exact hm.symm) (λ i hi=>?_) _ Tryz.underlying9;have ve:i<(x::r).length:=by omega
  have:=World.ownsRow.cellAt h i (by omega);rw[Nat.zero_add,this,List.getD_eq_getElem?_getD,List.getElem?_map,List.getElem?_map,List.getElem?_eq_getElem ve];rfl
def YB (w:W8)(b:Nat)(v d:Int)(s:Value):Prop:=w.heap[b]?=some (.cells #[.int .i64 v,.int .i64 d,s] 49 (0,0))
variable {s:Value} {v d:Int} {b:Nat}
theorem YB.cells (h:YB w b v d s):w.cell? ⟨b,0,none⟩=some (.int .i64 v)/\w.cell? ⟨b,1,none⟩=some (.int .i64 d)/\w.cell? ⟨b,2,none⟩=some s:=⟨(zB h 0).1,(zB h 1).1,(zB h 2).1⟩
variable {w':W8}
theorem YB.below (h:YB w b v d s)(k:Below w.heap.size w w'):YB w' b v d s:=(k.block b (Array.getElem?_eq_some_iff.1 h).1).trans h
theorem YB.kept (h:YB w b v d s){B:List Nat}(k:zK B w w')(hb:b∉B):YB w' b v d s:=(k.block b (Array.getElem?_eq_some_iff.1 h).1 hb).trans h
theorem YB.new (w:W8)(v d:Int)(s:Value):YB (w.alloc (.cells #[.int .i64 v,.int .i64 d,s] 49)) w.heap.size v d s:=heap_alloc_new w _
theorem zo2 (w:W8)(b:Nat)(bz bv tv sv:Value)(es:List PE)(mb mt ms:List MB)(h:LW w b bz bv tv sv es mb mt ms)(x y:Nat)(ps:B8)(lo:Nat)(hp:pt ps x y w lo)(hlen:mb.length+2<=100000000)(a bb:Int)(s t u:B8)(at_:O8)(nt ct:Nat)(hs:s.size<=2000000):
  Calls Tryz.prog 50 #[.pointer (some ⟨b,0,none⟩),.agg #[.int .i64 5,.int .i64 a,.int .i64 bb,.string s,.string t,.string u,.slice at_ nt ct],.agg #[.pointer (some ⟨x,0,none⟩),.pointer (some ⟨y,0,none⟩),.string ps]] w (z0c w b bz bv tv sv es mb mt ms):=by
 have b0:=((Below.refl w.heap.size w).alloc L9 (.cells #[.int .i64 5,.int .i64 a,.int .i64 bb,.string s,.string t,.string u,.slice at_ nt ct] 26)).alloc (by simp) (.cells #[.pointer (some ⟨x,0,none⟩),.pointer (some ⟨y,0,none⟩),.string ps] 112);have h0:=hp.below b0;have Uf:((w.alloc (.cells #[.int .i64 5,.int .i64 a,.int .i64 bb,.string s,.string t,.string u,.slice at_ nt ct] 26)).alloc (.cells #[.pointer (some ⟨x,0,none⟩),.pointer (some ⟨y,0,none⟩),.string ps] 112)).heap[w.heap.size+1]?=some (.cells #[.pointer (some ⟨x,0,none⟩),.pointer (some ⟨y,0,none⟩),.string ps] 112 (0,0)):=by
  have:=heap_alloc_new (w.alloc (.cells #[.int .i64 5,.int .i64 a,.int .i64 bb,.string s,.string t,.string u,.slice at_ nt ct] 26)) (.cells #[.pointer (some ⟨x,0,none⟩),.pointer (some ⟨y,0,none⟩),.string ps] 112);rw[World.size_alloc] at this;exact this
 have Ud:((w.alloc (.cells #[.int .i64 5,.int .i64 a,.int .i64 bb,.string s,.string t,.string u,.slice at_ nt ct] 26)).alloc (.cells #[.pointer (some ⟨x,0,none⟩),.pointer (some ⟨y,0,none⟩),.string ps] 112)).heap[w.heap.size]?=some (.cells #[.int .i64 5,.int .i64 a,.int .i64 bb,.string s,.string t,.string u,.slice at_ nt ct] 26 (0,0)):=by
  rw[Below.heap_alloc _ _ _ (by simp)];exact heap_alloc_new w _
 have hC:=zk9 h0 s hs bb;have bC:w.heap.size+2=((w.alloc (.cells #[.int .i64 5,.int .i64 a,.int .i64 bb,.string s,.string t,.string u,.slice at_ nt ct] 26)).alloc (.cells #[.pointer (some ⟨x,0,none⟩),.pointer (some ⟨y,0,none⟩),.string ps] 112)).heap.size:=by simp
 have OY:=zC bC;have iN:=zC hp.ok;clear hp bC;go_enter Tryz.func50,Tryz.ntmps50;go_wp2_with fail;refine hC.mono ?_;rintro e EP ⟨rp1,AJ,zq,nX,CQ⟩;obtain⟨v1,d1,a1,m1,c1,k1,rfl⟩:=nX.shape;have bC:=zA OY;have aL:=CQ.alloc CQ.size (.cells #[.int .i64 v1,.int .i64 d1,.slice a1 m1 c1] 49);have y1:=YB.new EP v1 d1 (.slice a1 m1 c1);have z1:(EP.alloc (.cells #[.int .i64 v1,.int .i64 d1,.slice a1 m1 c1] 49)).heap.size=EP.heap.size+1:=by simp
 have Ll:=(aL.block (w.heap.size+1) (by omega)).trans Uf;have Lg:=(aL.block w.heap.size (by omega)).trans Ud;have h1:=h0.below aL;have gz:=b0.trans (aL.mono (by omega));have sC:=zC (And.intro AJ (And.intro zq nX));have MO:=zC (And.intro z1 CQ.size);have O2:=zC y1;have Cr:=zC ((Below.refl EP.heap.size EP).alloc L9 (.cells #[.int .i64 v1,.int .i64 d1,.slice a1 m1 c1] 49));have fN:=zC gz;have H1:=zC h1;have CH:=zC Ll;have CE:=zC Lg;clear hC Uf Ud b0 h0 aL CQ Ll Lg gz h1 AJ zq nX y1 z1 bC;go_upto_region 25 with fail;generalize (EP.alloc (.cells #[.int .i64 v1,.int .i64 d1,.slice a1 m1 c1] 49))=w1 at *;obtain⟨p0,Cj⟩:=zB (zA CH) 0;obtain⟨o2,Rm⟩:=zB (zA CE) 2;obtain⟨o3,Rn⟩:=zB (zA CE) 3;have S9:=zk9 (zA H1) s hs bb;have dY:w.heap.size+1<w1.heap.size:=(Array.getElem?_eq_some_iff.1 (zA CH)).1;generalize oB:EP.heap.size=A1 at O2 ⊢;have IS:=zC oB;clear oB;go_wp2_with fail;refine S9.mono ?_;rintro e He ⟨rp2,AK,qm,nY,CR⟩;obtain⟨v2,d2,a2,m2,c2,k2,rfl⟩:=nY.shape;have aK:=CR.alloc CR.size (.cells #[.int .i64 v2,.int .i64 d2,.slice a2 m2 c2] 49);have y2:=YB.new He v2 d2 (.slice a2 m2 c2);have z2:(He.alloc (.cells #[.int .i64 v2,.int .i64 d2,.slice a2 m2 c2] 49)).heap.size=He.heap.size+1:=by simp
 have mE:=zC (And.intro AK (And.intro qm nY));have MP:=zC (And.intro z2 CR.size);have yq:=zC y2;have E7:=zC ((Below.refl He.heap.size He).alloc L9 (.cells #[.int .i64 v2,.int .i64 d2,.slice a2 m2 c2] 49));have SE:=zC ((zA O2).below aK);have H2:=zC ((zA H1).below aK);have Jk:=zC ((aK.block (w.heap.size+1) dY).trans (zA CH));have Fu:=zC ((aK.block w.heap.size (by omega)).trans (zA CE));have ir:=zC ((zA fN).trans (aK.mono (zA fN).size));have E8:=zC aK;clear S9 aK CR AK qm nY y2 z2 p0 Cj o2 Rm o3 Rn H1 CH CE O2;go_upto_region 26 with fail;generalize (He.alloc (.cells #[.int .i64 v2,.int .i64 d2,.slice a2 m2 c2] 49))=w2 at *;obtain⟨q1,Bc⟩:=zB (zA Jk) 1;obtain⟨r2,U6⟩:=zB (zA Fu) 2;obtain⟨r3,U7⟩:=zB (zA Fu) 3;have J2:=zre (zA H2) s hs bb;generalize B6:He.heap.size=A2 at yq ⊢;have DQ:=zC B6;clear B6;go_wp2_with fail;refine J2.mono ?_;rintro e xy ⟨S,v,n,rfl,dA,bc,uy,CU⟩;obtain⟨v3,d3,a3,m3,c3,rfl⟩:=uy.shape;obtain⟨AJ,zq,nX⟩:=zA sC;obtain⟨AK,qm,nY⟩:=zA mE;obtain⟨e1,e2,e3,bs,rW,dH,fq,DG,GN⟩:=(z15 (zA iN) AJ zq dA bc nX uy).both;obtain⟨e4,e5,e6,bs',lh,dD,Au,Bd,Be⟩:=(z15 (zA iN) AK qm dA bc nY uy).both;have e1:=e1.symm;have e2:=e2.symm;have e3:=e3.symm;have e4:=e4.symm;have e5:=e5.symm;have e6:=e6.symm;subst e1 e2 e3 e4 e5 e6;unfold zir;have cI:=CU.alloc CU.size (.cells #[.int .i64 v3,.int .i64 d3,.slice a3 m3 c3] 49);have y3:=YB.new xy v3 d3 (.slice a3 m3 c3);have z3:(xy.alloc (.cells #[.int .i64 v3,.int .i64 d3,.slice a3 m3 c3] 49)).heap.size=xy.heap.size+1:=by simp
 have QT:=CU.size;have aY:=zA MO;have bg:=zA MP;have bC:=zA OY;have oB:=zA IS;have B6:=zA DQ;have lZ:=(zA Cr).trans (((zA E8).mono (zA Cr).size).trans (cI.mono (Nat.le_trans (zA Cr).size (zA E8).size)));have Ko:=(zA E7).trans (cI.mono (zA E7).size);have r1:=zJ (zG (base':=w.heap.size) DG (by omega)) lZ (λ g e=>(DG.lt g e).2);have Rp:=zJ (zG (base':=w.heap.size) Bd (by omega)) Ko (λ g e=>(Bd.lt g e).2);have U2:=zJ GN ((Below.refl xy.heap.size xy).alloc L9 (.cells #[.int .i64 v3,.int .i64 d3,.slice a3 m3 c3] 49)) (λ g e=>(GN.lt g e).2);have U3:=zJ Be ((Below.refl xy.heap.size xy).alloc L9 (.cells #[.int .i64 v3,.int .i64 d3,.slice a3 m3 c3] 49)) (λ g e=>(Be.lt g e).2);have d1:∀ g∈(Value.slice a1 m1 c1).ownBlock.toList,w.heap.size<=g/\g<A1:=λ g hg=>⟨(r1.lt g (by simpa using hg)).1,by have:=(DG.lt g (by simpa using hg)).2;omega⟩
 have d2:∀ g∈(Value.slice a2 m2 c2).ownBlock.toList,A1+1<=g/\g<A2:=λ g hg=>⟨by have:=(Bd.lt g (by simpa using hg)).1;omega,by have:=(Bd.lt g (by simpa using hg)).2;omega⟩
 have C4:=zkd r1 dH;have zw:=zkd Rp dD;have zx:=zkd U2 fq;have Kz:=zkd U3 Au;have hX:strOfNums (bs'.map λ (x:Nat)=>(x:Int)%256)=strOfNums (bs.map λ (x:Nat)=>(x:Int)%256):=by
  have:=Kz.symm.trans zx;injection this with this
  injection this
 rw[hX] at zw;have UH:=(zA SE).below cI;have UI:=(zA yq).below cI;have yg:=zC ((zA ir).trans (cI.mono (zA ir).size));have V6:=zC (h.below ((zA ir).trans (cI.mono (zA ir).size)));have sy:=zC h;have OK:=zC r1;have MH:=zC Rp;have Ms:=zC d1;have Mt:=zC d2;have Zd:m1<=1000:=by omega
 have Ze:m2<=1000:=by omega
 have Js:=zC (show w.heap.size+2<=A1/\A1+1<=A2/\A2+1<=xy.heap.size/\(xy.alloc (.cells #[.int .i64 v3,.int .i64 d3,.slice a3 m3 c3] 49)).heap.size=xy.heap.size+1/\b<w.heap.size from ⟨by omega,by omega,by omega,z3,h.lt⟩);have FB:=zC UH;have FC:=zC UI;have FD:=zC y3;have RZ:=zC (And.intro C4 (And.intro zw zx));clear C4 zw zx Kz hX UH UI y3 r1 Rp U2 U3 DG Bd GN Be d1 d2 AJ zq nX AK qm nY sC mE uy dA bc J2 fN ir E8 Cr E7 q1 Bc r2 U6 r3 U7 h cI CU lZ Ko bC OY dH dD fq Au aY bg QT z3 oB B6 IS DQ MO MP SE yq H2 Jk Fu dY rW lh;go_upto_region 27 with fail;generalize (xy.alloc (.cells #[.int .i64 v3,.int .i64 d3,.slice a3 m3 c3] 49))=w3 at *;generalize strOfNums (bs.map λ (x:Nat)=>(x:Int)%256)=X at *;generalize xy.heap.size=A3 at *;obtain⟨C4,zw,zx⟩:=zA RZ;obtain⟨Vh,Vi,Vj⟩:=(zA FB).cells;obtain⟨Vk,Vl,NM⟩:=(zA FC).cells;obtain⟨Vm,Vn,Zr⟩:=(zA FD).cells;go_upto_region 28 with fail;clear C4 zw zx RZ Vh Vi Vk Vl NM Vm Vn Zr;have Dc:=zA V6;have Ji:=zC (Dc.below B9.drew);have iM:=zC ((zA yg).drew);have qp:∀ m∈mb,∀ g∈(Value.slice a1 m1 c1).ownBlock.toList,g∉m.blocks:=λ m hm g hg Ad=>by
  have:=((zA sy).bs.each m hm).lt g Ad;have:=(zA Ms g hg).1;omega
 have Cs:=zC (zvv w3.drew b bz bv tv sv mb a1 m1 c1 _ (zA Ji).bp (zA Ji).bs (zG (zA OK) (Nat.zero_le _)) Zd qp (by omega));clear Dc qp;refine wp_region_held_drew (S:=λ V=>V.cell? ⟨A1,2,none⟩=some (.slice a1 m1 c1)) (by kernel_rfl) Vj (λ hHeld=>?_);clear Vj;refine K9 0 (.pointer (some ⟨b,0,none⟩)) rfl (Or.inl ⟨by rfl,λ V _=>by go_simp⟩) hHeld ?_;refine K9 1 (.pointer (some ⟨b,0,none⟩)) rfl (Or.inl ⟨by rfl,λ V _=>by go_simp⟩) hHeld ?_;refine K9 2 (.pointer (some ⟨b,1,none⟩)) rfl (Or.inl ⟨by rfl,λ V _=>by go_simp⟩) hHeld ?_;refine K9 3 (.pointer (some ⟨A1,2,none⟩)) rfl (Or.inl ⟨by rfl,λ V _=>by go_simp⟩) hHeld ?_;refine K9 4 (.slice a1 m1 c1) rfl (Or.inl ⟨by rfl,λ V hV=>by go_simp⟩) hHeld ?_;refine wpAnyH_ready (rs:=[5]) (by kernel_rfl) (by simp) ?_;refine AllReadyH.cons rfl (λ K hK=>?_) AllReadyH.nil
 go_simp
 refine (zA Cs).mono ?_;rintro e w5 ⟨rfl,O9,m5,Bi⟩;have bj:=zA Js;have vk:=(zA sy).sH;have my:=Bi.kept.size;have A8:∀ A,A1<=A->A∉b::(bv.ownBlock.toList++(Value.slice a1 m1 c1).ownBlock.toList):=λ A hA hm=>by
  rcases List.mem_cons.1 hm with rfl | hm
  ·omega
  ·rcases List.mem_append.1 hm with hm | hm
   ·have:=((zA sy).bs.row.lt A (by simpa using hm)).2;omega
   ·have:=(zA Ms A hm).2;omega
 have GI:=((zA FB).below B9.drew).kept Bi.kept (A8 A1 L9);have GJ:=((zA FC).below B9.drew).kept Bi.kept (A8 A2 (by omega));have LN:=((zA FD).below B9.drew).kept Bi.kept (A8 A3 (by omega));have rh:w5.ownsRow 0 5 1 (.slice a2 m2 c2) m2 (bs'.map u8c):=by
  refine zZ (zG (zA MH) (Nat.zero_le _)) (λ g hg=>Bi.kept.block g ((zA MH).lt g hg).2 (A8 g ?_));have:=(zA Mt g (by simpa using hg)).1;omega
 have Ac:∀ m∈mb++[m5],∀ g∈(Value.slice a2 m2 c2).ownBlock.toList,g∉m.blocks:=λ m hm g hg Ad=>by
  have hd:=zA Mt g hg;rcases List.mem_append.1 hm with hm | hm
  ·have:=((zA sy).bs.each m hm).lt g Ad;omega
  ·rw[List.mem_singleton.1 hm] at Ad;rcases Bi.eI g Ad with h | h
   ·have:=(zA Ms g h).2;omega
   ·have h:w3.heap.size<=g:=h;omega
 have Tb:=zvv w5.drew b bz O9 tv sv (mb++[m5]) a2 m2 c2 _ Bi.bp (Bi.book.below B9.drew) rh Ze Ac (by rw[List.length_append,List.length_singleton];omega);have RY:=zC Tb;have SI:=zC Bi;have JF:=zC GI;have JG:=zC GJ;have JH:=zC LN;have LL:=GJ.cells.2.2;have Hu:=zC Bi.row;refine hK.out _ _ GI.cells.2.2 (λ _=>?_);clear hK K Bi GI GJ LN rh Ac Tb Cs FB FC FD hHeld bj vk my A8;refine wpAnyH_done (by kernel_rfl) ?_ _;go_upto_region 29 with fail;refine wp_region_held_drew (S:=λ V=>V.cell? ⟨A2,2,none⟩=some (.slice a2 m2 c2)) (by kernel_rfl) LL (λ hHeld=>?_);clear LL;refine K9 0 (.pointer (some ⟨b,0,none⟩)) rfl (Or.inl ⟨by rfl,λ V _=>by go_simp⟩) hHeld ?_;refine K9 1 (.pointer (some ⟨b,0,none⟩)) rfl (Or.inl ⟨by rfl,λ V _=>by go_simp⟩) hHeld ?_;refine K9 2 (.pointer (some ⟨b,1,none⟩)) rfl (Or.inl ⟨by rfl,λ V _=>by go_simp⟩) hHeld ?_;refine K9 3 (.pointer (some ⟨A2,2,none⟩)) rfl (Or.inl ⟨by rfl,λ V _=>by go_simp⟩) hHeld ?_;refine K9 4 (.slice a2 m2 c2) rfl (Or.inl ⟨by rfl,λ V hV=>by go_simp⟩) hHeld ?_;refine wpAnyH_ready (rs:=[5]) (by kernel_rfl) (by simp) ?_;refine AllReadyH.cons rfl (λ K hK=>?_) AllReadyH.nil
 go_simp
 refine (zA RY).mono ?_;rintro e w6 ⟨rfl,SO,m6,vu⟩;have GO:NN w5 b (λ v'=>#[bz,v',tv,sv]) 115 5 iI O9 (mb++[m5]) (.slice a2 m2 c2) SO m6 w6:=⟨vu.bp,vu.book,((zK.refl _ w5).drew).trans vu.kept,vu.eI,vu.row⟩;have bj:=zA Js;have vk:=(zA sy).lt;have DB:∀ A,A=A1\/A=A2\/A=A3->A∉b::(O9.ownBlock.toList++(Value.slice a2 m2 c2).ownBlock.toList):=λ A hA hm=>by
  rcases List.mem_cons.1 hm with rfl | hm
  ·omega
  ·rcases List.mem_append.1 hm with hm | hm
   ·rcases zA Hu A hm with hm | hm
    ·have:=((zA sy).bs.row.lt A (by simpa using hm)).2;omega
    ·have hm:w3.heap.size<=A:=hm;omega
   ·have:=zA Mt A hm;omega
 have LK:=(zA JF).kept GO.kept (DB A1 (.inl rfl));have LM:=(zA JG).kept GO.kept (DB A2 (.inr (.inl rfl)));have LO:=(zA JH).kept GO.kept (DB A3 (.inr (.inr rfl)));obtain⟨Vh,Vi,-⟩:=LK.cells;obtain⟨Vk,Vl,NM⟩:=LM.cells;obtain⟨Vm,Vn,-⟩:=LO.cells;have aE:=z84 (zA iM) (zA SI) GO (zA Ms) (λ g hg=>by have:=(zA Mt g hg).1;omega);have HE:=zC ((zA sy).O5 aE.1 GO.bp GO.book aE.2);refine hK.out _ _ NM (λ _=>?_);clear hK K aE GO vu SI JF JG JH LK LM LO hHeld bj vk DB RY Hu NM;refine wpAnyH_done (by kernel_rfl) ?_ _;go_wp2_with fail;go_ret;exact⟨by simp,SO,tv,sv,_,mt,ms,(zA HE).1,by simp,by omega,by omega,(zA HE).2⟩
end
section
open Go.ChangeShapes Go.WideShapes Go.ChangeAt Go.RowKit Go.Deep
theorem yet:ownKnob Tryz.prog.godebug=none:=by kernel_rfl
theorem yeh:laidOutB Tryz.prog=true:=by kernel_rfl
theorem zvy:Tryz.prog.cellsOf 26=7:=by kernel_rfl
theorem z1m:Tryz.prog.cellsOf 3=1:=by kernel_rfl
theorem z1n:Tryz.prog.cellsOf 9=1:=by kernel_rfl
theorem zxy:Tryz.prog.cellsOf 24=1:=by kernel_rfl
variable {H:Type}
theorem z7r (d:DataW H):1<=Rows.uptoBulk d:=by
 cases d with
 | lit l=>cases l <;> simp[Rows.uptoBulk]
 | nil=>simp[Rows.uptoBulk]
 | ptr d=>simp[Rows.uptoBulk]
 | slice elems spare=>simp[Rows.uptoBulk]
 | agg parts=>simp[Rows.uptoBulk]
 | iface t d=>simp[Rows.uptoBulk]
 | map entries=>simp[Rows.uptoBulk]
 | held h=>simp[Rows.uptoBulk]
theorem z7e (l:List (DataW H)):l.length<=Rows.uptoBulkAll l:=by
 induction l with
 | nil=>simp[Rows.uptoBulkAll]
 | cons x r ih=>have:=z7r x;simp only[Rows.uptoBulkAll,List.length_cons];omega
theorem Vv {n:Int}(h:(Lit.int .i64 n).wf=true):-9223372036854775808<=n/\n<=9223372036854775807:=by
 simpa[Lit.wf,IntKind.min,IntKind.max,IntKind.signed,IntKind.bits] using h
end
section
open Go.ChangeShapes Go.WideShapes Go.ChangeAt Go.RowKit Go.Deep
variable {H:Type}
theorem z7m {l:List (DataW H)}{d:DataW H}(h:d∈l):Rows.uptoBulk d<=Rows.uptoBulkAll l:=by
 induction l with
 | nil=>cases h
 | cons x r ih=>
  simp only[Rows.uptoBulkAll];rcases List.mem_cons.1 h with rfl | h
  ·omega
  ·have:=ih h;omega
variable {W:W8}
theorem z7t {enc:TypeId × Value->H}{base n g off:Nat}{cs:V8}{x:DataW H × List MemPlace}{spare:Nat->Bool}{held:Bool}(hc:W.cells? base ⟨g,off,none⟩ 7=some cs)(ht:DataW.trod enc Tryz.prog W base spare held n 26 cs=some x):
  ∃ o:OpV,W.cell? ⟨g,off,none⟩=some (.int .i64 o.kd)/\W.cell? ⟨g,off+1,none⟩=some (.int .i64 o.a)/\W.cell? ⟨g,off+2,none⟩=some (.int .i64 o.b)/\W.cell? ⟨g,off+3,none⟩=some (.string o.s)/\W.cell? ⟨g,off+4,none⟩=some (.string o.t)/\W.cell? ⟨g,off+5,none⟩=some (.string o.u)/\W.cell? ⟨g,off+6,none⟩=some (.slice o.at_ o.nt o.ct)/\z9h o/\o.s.size+o.t.size+o.u.size<=Rows.uptoBulk x.1:=by
 obtain⟨_,Qd,cd⟩:=World.cells?_some hc;obtain⟨xs,m,_,Rb,hlen,EK,hf⟩:=DataW.trod_struct Tryz.underlying26 ht;obtain⟨c0,c1,c2,c3,c4,c5,c6,rfl⟩:∃ c0 c1 c2 c3 c4 c5 c6,cs=[c0,c1,c2,c3,c4,c5,c6]:=by
  match cs,Qd with
  | [c0,c1,c2,c3,c4,c5,c6],_=>exact⟨c0,c1,c2,c3,c4,c5,c6,rfl⟩
 obtain⟨y0,y1,y2,y3,y4,y5,y6,rfl⟩:∃ y0 y1 y2 y3 y4 y5 y6,xs=[y0,y1,y2,y3,y4,y5,y6]:=by
  match xs,EK with
  | [y0,y1,y2,y3,y4,y5,y6],_=>exact⟨y0,y1,y2,y3,y4,y5,y6,rfl⟩
 have f0 := hf 0 { name := "Kind", type := 3, offset := 0, embedded := false, tag := "", pkgPath := "", byteOffset := 0 } rfl;have f1 := hf 1 { name := "A", type := 3, offset := 1, embedded := false, tag := "", pkgPath := "", byteOffset := 8 } rfl;have f2 := hf 2 { name := "B", type := 3, offset := 2, embedded := false, tag := "", pkgPath := "", byteOffset := 16 } rfl;have f3 := hf 3 { name := "S", type := 9, offset := 3, embedded := false, tag := "", pkgPath := "", byteOffset := 24 } rfl;have f4 := hf 4 { name := "T", type := 9, offset := 4, embedded := false, tag := "", pkgPath := "", byteOffset := 40 } rfl;have f5 := hf 5 { name := "U", type := 9, offset := 5, embedded := false, tag := "", pkgPath := "", byteOffset := 56 } rfl;have f6 := hf 6 { name := "Turns", type := 24, offset := 6, embedded := false, tag := "", pkgPath := "", byteOffset := 72 } rfl;simp only[z1m,z1n,zxy,List.drop_zero,List.drop_succ_cons,List.take_succ_cons,List.take_zero,List.getElem?_cons_zero,List.getElem?_cons_succ] at f0 f1 f2 f3 f4 f5 f6;obtain⟨k0,e0,_,_⟩:=DataW.trod_int Tryz.underlying3 f0;obtain⟨k1,e1,_,r1⟩:=DataW.trod_int Tryz.underlying3 f1;obtain⟨k2,e2,_,r2⟩:=DataW.trod_int Tryz.underlying3 f2;obtain⟨s3,e3,d3,hs3⟩:=DataW.trod_string Tryz.underlying9 f3;obtain⟨s4,e4,d4,hs4⟩:=DataW.trod_string Tryz.underlying9 f4;obtain⟨s5,e5,d5,hs5⟩:=DataW.trod_string Tryz.underlying9 f5;have hbk:s3.size+s4.size+s5.size<=Rows.uptoBulk x.1:=by
  rw[Rb];subst d3 d4 d5;have g3:=jI s3;have g4:=jI s4;have g5:=jI s5;simp only[List.map_cons,List.map_nil,Rows.uptoBulk,Rows.uptoBulkAll];omega
 have e6:∃ a n c,c6=.slice a n c:=by
  rcases DataW.trod_slice Tryz.underlying24 f6 with⟨h,_⟩ | ⟨a,len,cap,_,_,_,_,h,_⟩
  ·injection h with h;exact⟨_,_,_,h⟩
  ·injection h with h;exact⟨_,_,_,h⟩
 obtain⟨a6,n6,Xa,rfl⟩:=e6;injection e0 with e0
 injection e1 with e1
 injection e2 with e2
 injection e3 with e3
 injection e4 with e4
 injection e5 with e5
 subst e0 e1 e2 e3 e4 e5;have d0:=cd 0 (by omega);have d1:=cd 1 (by omega);have d2:=cd 2 (by omega);have d3:=cd 3 (by omega);have d4:=cd 4 (by omega);have d5:=cd 5 (by omega);have d6:=cd 6 (by omega);simp only[Addr.add,List.getElem?_cons_zero,List.getElem?_cons_succ] at d0 d1 d2 d3 d4 d5 d6;exact⟨⟨k0,k1,k2,s3,s4,s5,a6,n6,Xa⟩,by simpa using d0,by simpa using d1,by simpa using d2,by simpa using d3,by simpa using d4,by simpa using d5,by simpa using d6,⟨Vv r1,Vv r2,QT,YF,Gu⟩,nj⟩
theorem zsa {enc:TypeId × Value->H}{a0:O8}{len cap:Nat}{d0:DataW H}{p:List MemPlace}(h0:DataW.Trod enc Tryz.prog W 0 (λ _=>true) true 22 (.slice a0 len cap) d0 p)(hk:Rows.uptoBulk d0<=1048576):
  ∃ O:Nat->OpV,H7 W a0 len O/\(∀ i,i<len->z9h (O i)/\(O i).s.size+(O i).t.size+(O i).u.size<=1048576)/\len<=1048576:=by
 obtain⟨fuel,hf⟩:=h0;rcases open_slice Tryz.underlying22 hf with⟨ij,hx⟩ | ⟨a,Y0,dn,m,n,D,Pl,ij,_,hl,hm,nx,hx,qo⟩
 ·simp[Value.cells] at ij;obtain⟨rfl,rfl,rfl⟩:=ij;exact⟨λ _=>⟨0,0,0,{ data:=#[] },{ data:=#[] },{ data:=#[] },none,0,0⟩,⟨λ i hi=>by omega⟩,λ i hi=>by omega,by omega⟩
 ·simp[Value.cells] at ij;obtain⟨rfl,rfl,rfl⟩:=ij;simp only[Prod.mk.injEq] at hx;obtain⟨rfl,rfl⟩:=hx;simp only[if_true] at nx;subst nx;have hlen:len<=1048576:=by
   simp only[Rows.uptoBulk] at hk;have:=z7e ((List.range len).map D);simp only[List.length_map,List.length_range] at this;omega
  obtain⟨g,off,sp⟩:=a;have Us:0<len->sp=none:=λ h=>by
   obtain⟨Pd,hc,_⟩:=qo 0 (by omega);rw[zvy] at hc;obtain⟨_,Qd,cd⟩:=World.cells?_some hc;obtain⟨c0,r,rfl⟩:∃ c0 r,Pd=c0::r:=by
    match Pd,Qd with
    | c0::r,_=>exact⟨c0,r,rfl⟩
   have JP:=cd 0 (by omega);simpa[Addr.add] using World.cell?_spot JP
  have each:∀ i,i<len->∃ o:OpV,W.cell? ⟨g,off+i*7,none⟩=some (.int .i64 o.kd)/\W.cell? ⟨g,off+i*7+1,none⟩=some (.int .i64 o.a)/\W.cell? ⟨g,off+i*7+2,none⟩=some (.int .i64 o.b)/\W.cell? ⟨g,off+i*7+3,none⟩=some (.string o.s)/\W.cell? ⟨g,off+i*7+4,none⟩=some (.string o.t)/\W.cell? ⟨g,off+i*7+5,none⟩=some (.string o.u)/\W.cell? ⟨g,off+i*7+6,none⟩=some (.slice o.at_ o.nt o.ct)/\z9h o/\o.s.size+o.t.size+o.u.size<=1048576:=by
   intro i hi;obtain⟨Pd,hc,ht⟩:=qo i (by omega);rw[zvy] at hc;have hs:=Us (by omega);subst hs;have e:(⟨g,off,none⟩:Addr).add (i*7)=⟨g,off+i*7,none⟩:=(by unfold Addr.add;split <;> simp_all);rw[e] at hc;obtain⟨o,q0,q1,q2,q3,q4,q5,q6,q7,q8⟩:=z7t hc ht;refine⟨o,q0,q1,q2,q3,q4,q5,q6,q7,Nat.le_trans q8 ?_⟩;have cg:=z7m (l:=(List.range len).map D) (d:=D i) (List.mem_map.2 ⟨i,List.mem_range.2 hi,rfl⟩);simp only[Rows.uptoBulk] at hk;simp only;omega
  refine⟨λ i=>if h:i<len then Classical.choose (each i h) else ⟨0,0,0,{ data:=#[] },{ data:=#[] },{ data:=#[] },none,0,0⟩,⟨λ i hi=>?_⟩,λ i hi=>?_,hlen⟩
  ·obtain⟨q0,q1,q2,q3,q4,q5,q6,q7⟩:=Classical.choose_spec (each i hi);have hs:=Us (by omega);subst hs;simp only[dif_pos hi];exact⟨g,off,rfl,World.block_lt_of_cell? W _ q0,q0,q1,q2,q3,q4,q5,q6,q7.1.s⟩
  ·obtain⟨q0,q1,q2,q3,q4,q5,q6,q7⟩:=Classical.choose_spec (each i hi);simp only[dif_pos hi];exact q7
end
end Go.Proofs.YtldkpahaocjdpaaGreat
