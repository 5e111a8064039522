/-
  Plain: height by height, stratum by stratum: the reference and the program come to the same.
-/
import Derived.Test.YtldkpahaocjdpaaGreatC34
import Derived.Test.YtldkpahaocjdpaaGreatC36
set_option maxHeartbeats 16000000
set_option maxRecDepth 1000000
namespace Go.Proofs.YtldkpahaocjdpaaGreat
section
structure zgs (ps:P9)(rs:List zP)(rp:List PR):Prop where
 fwd:∀ R∈rs,∃ r∈rp,qA R r
 bwd:∀ r∈rp,∃ R∈rs,qA R r
 de:∀ r∈rp,xh ps r
theorem zqw {l:List zQ}:∀ (cs out:List zQ),(vR l cs out).2=true->50<l.length+(vR l cs out).1.length
 | [],_,h=>by cases h
 | f::r,out,h=>by
  rw[vR] at h ⊢
  split at h
  ·rename_i c;rw[if_pos c];exact c
  ·rename_i c;rw[if_neg c];exact zqw r _ h
variable {l out:List zQ}
theorem zx4 {f g:zQ}(h:g∈out):g∈lT l out f:=by
 unfold lT
 split
 ·exact List.mem_append.2 (.inl h)
 ·exact h
theorem z24 {f:zQ}(h:yL l f.text<0):∃ g∈lT l out f,g.text=f.text:=by
 unfold lT
 split
 ·exact⟨f,List.mem_append.2 (.inr (List.mem_singleton.2 rfl)),rfl⟩
 ·rename_i c;have:¬ yL out f.text<0:=λ h2=>c ⟨h,h2⟩
  rw[zhx] at this;simpa using this
end
section
open Go.RowKit
def zJ (s:B8):zL:=⟨(tok s 0).text,(zI s 0 (-1)).1,false,(tok s 0).at_,0⟩
def zgt (s:B8):Bool:=decide ((zI s 0 (-1)).2.2<0)&&(tok s (zI s 0 (-1)).2.1).kind==46
def zae (ps:P9)(s:B8):Bool:=zgt s&&qP ps (tok s 0).text (zI s 0 (-1)).1.length
structure z8s (w:W8)(s:B8)(v:Value)(w':W8):Prop where
 below:Below w.heap.size w w'
 row:w'.ownsRow w.heap.size 317 3 v (zJ s).ae.length (cellsOf (zJ s).ae)
def z2v (w:W8)(ps:P9)(s:B8)(e:Ending)(w':W8):Prop:=
 ∃ v,e=.returned (.tuple #[(zJ s).val v,.bool (zae ps s)])/\z8s w s v w'
variable {w:W8} {s:B8}
theorem zyb {w1:W8}(aM:Below (w.alloc (Obj.cells #[.string s,.int .u8 0,.string { data:=#[] },.int .i64 0,.int .i64 0,.int .i64 (-1)] 235)).heap.size (w.alloc (Obj.cells #[.string s,.int .u8 0,.string { data:=#[] },.int .i64 0,.int .i64 0,.int .i64 (-1)] 235)) w1):
  ib ((((w1.setCell ⟨w.heap.size,1,none⟩ (.int .u8 (tok s 0).kind)).setCell ⟨w.heap.size,2,none⟩ (.string (tok s 0).text)).setCell ⟨w.heap.size,3,none⟩ (.int .i64 (tok s 0).at_)).setCell ⟨w.heap.size,4,none⟩ (.int .i64 (tok s 0).to)) w.heap.size s 0 (-1)/\Below w.heap.size w ((((w1.setCell ⟨w.heap.size,1,none⟩ (.int .u8 (tok s 0).kind)).setCell ⟨w.heap.size,2,none⟩ (.string (tok s 0).text)).setCell ⟨w.heap.size,3,none⟩ (.int .i64 (tok s 0).at_)).setCell ⟨w.heap.size,4,none⟩ (.int .i64 (tok s 0).to)):=by
 have hz:=aM.size;simp at hz;have x:∀ j,w1.cell? ⟨w.heap.size,j,none⟩=#[.string s,.int .u8 0,.string { data:=#[] },.int .i64 0,.int .i64 0,.int .i64 (-1)][j]?:=λ j=>(aM.cell (p:=⟨w.heap.size,j,none⟩) (by simp)).trans (by rw[World.cell?_alloc_at _ _ _ _ rfl])
 have xf:∀ j,w1.frozen? ⟨w.heap.size,j,none⟩=false:=λ j=>(aM.frozen (p:=⟨w.heap.size,j,none⟩) (by simp)).trans (by rw[World.frozen?_alloc_at _ _ _ _ rfl])
 have x0:w1.cell? ⟨w.heap.size,0,none⟩=some (.string s):=x 0;have x1:w1.cell? ⟨w.heap.size,1,none⟩=some (.int .u8 0):=x 1;have x2:w1.cell? ⟨w.heap.size,2,none⟩=some (.string { data:=#[] }):=x 2;have x3:w1.cell? ⟨w.heap.size,3,none⟩=some (.int .i64 0):=x 3;have x4:w1.cell? ⟨w.heap.size,4,none⟩=some (.int .i64 0):=x 4;have x5:w1.cell? ⟨w.heap.size,5,none⟩=some (.int .i64 (-1)):=x 5;clear x;have kk:=zj5 w1 w.heap.size (.int .u8 (tok s 0).kind) (.string (tok s 0).text) (.int .i64 (tok s 0).at_) (.int .i64 (tok s 0).to);have nx:Below w.heap.size w w1:=(B9.alloc L9 _).trans (aM.mono (by simp));refine⟨?_,zY nx kk nx.size (λ b hm=>by simp at hm;omega)⟩;refine⟨by simp;omega,?_,?_,?_,?_,?_,?_,?_⟩
 all_goals go_simp
theorem z6y {w2 w':W8}{v:Value}{n:Nat}(hn:w.heap.size<n)(aC:w2.ownsRow n 317 3 v (zJ s).ae.length (cellsOf (zJ s).ae))(hb:Below w.heap.size w w2)(k:zN [w.heap.size] w2 w'):z8s w s v w':=by
 refine⟨zY hb k hb.size (λ b hm=>by simp at hm;omega),?_⟩;refine⟨aC.1,?_⟩;rcases aC.2 with hn | ⟨g,cap,cur,rfl,kH,dI,rest⟩
 ·exact .inl hn
 ·refine .inr ⟨g,cap,cur,rfl,by omega,?_,rest⟩;rw[k.block g (Array.getElem?_eq_some_iff.1 dI).1 (by simp;omega)];exact dI
theorem zya (w:W8)(o:Nat)(rs:List RR)(ps:P9)(rv pv tv sv:Value)(h:ziv w o rs ps rv pv tv sv)(s:B8)(cE:s.size<=maxLen):
  Calls Tryz.prog 130 #[.pointer (some ⟨o,0,none⟩),.string s] w (z2v w ps s):=by
 have QV:=h.lt;have GK:∀ {ix g cap:Nat},ix<ps.length->tv=.slice (some ⟨g,0,none⟩) ps.length cap->g<w.heap.size:=λ hi he=>by subst he;exact (h.ae.lt _ rfl).2
 have H:=zC h;clear h;go_enter Tryz.func130,Tryz.ntmps130;go_wp2_with fail;refine (zm6 s 0 (Nat.zero_le _) cE _).mono ?_;rintro e w1 ⟨rfl,aM⟩;obtain⟨r1,r2⟩:=zkd aM;have hz:w.heap.size<w1.heap.size:=by have:=aM.size;simp at this;omega
 have aP:=zyb aM;rw[show (w.alloc (Obj.cells #[.string { data:=#[] },.slice none 0 0,.bool false,.int .i64 0,.int .i64 0] 243)).heap.size=w.heap.size+1 by simp] at aP;have eN:=zC aP.1;have DK:=zC (((Below.refl w.heap.size w).alloc L9 _).trans (aP.2.mono (Nat.le_succ _)));have JZ:=zC aP.2;clear aP;go_wp2_with fail;clear r1 r2 aM;generalize hW:(((w1.setCell ⟨w.heap.size+1,1,none⟩ (.int .u8 (tok s 0).kind)).setCell ⟨w.heap.size+1,2,none⟩ (.string (tok s 0).text)).setCell ⟨w.heap.size+1,3,none⟩ (.int .i64 (tok s 0).at_)).setCell ⟨w.heap.size+1,4,none⟩ (.int .i64 (tok s 0).to)=W at *;clear hW;refine (MH s 0 (-1) (w.heap.size+1) W (zA eN) (Nat.zero_le _) cE).mono ?_;rintro e w2 ⟨v,rfl,cy,iX,sj,kQ⟩;have AO:=(zA DK).size;have eK:Below w.heap.size w w2:=zY (zA DK) cy AO (λ b hm=>by simp at hm;omega);have aC:=zF kQ AO;obtain⟨av,cv,rfl⟩:=zD aC;have aO:=(zA H).kept ((zN.refl [] _).ai eK) (by simp);obtain⟨Ly,c0,c1,c2,c3,c4,c5,fz⟩:=iX;have hA:∀ j,w2.cell? ⟨w.heap.size,j,none⟩=#[.string { data:=#[] },.slice none 0 0,.bool false,.int .i64 0,.int .i64 0][j]?:=λ j=>((cy.cell (p:=⟨w.heap.size,j,none⟩) (by show w.heap.size<_;have:=(zA eN).lt;omega) (by simp)).trans ((zA JZ).cell (p:=⟨w.heap.size,j,none⟩) (by simp))).trans (by rw[World.cell?_alloc_at _ _ _ _ rfl])
 have fA:∀ j,w2.frozen? ⟨w.heap.size,j,none⟩=false:=λ j=>((cy.frozen (p:=⟨w.heap.size,j,none⟩) (by show w.heap.size<_;have:=(zA eN).lt;omega) (by simp)).trans ((zA JZ).frozen (p:=⟨w.heap.size,j,none⟩) (by simp))).trans (by rw[World.frozen?_alloc_at _ _ _ _ rfl])
 have a0:=hA 0;have a1:=hA 1;have a2:=hA 2;have a3:=hA 3;have a4:=hA 4;have ax:=λ (w':W8) (k:zN [w.heap.size] w2 w')=>z6y (s:=s) (show w.heap.size<W.heap.size by have:=(zA eN).lt;omega) kQ eK k
 have cV:=zC ax;have HP:=zC aO;have aG:w.heap.size<w2.heap.size:=by omega
 have ir:=zC (λ (nm:B8) (wr:W8) (hb:Below w2.heap.size w2 wr)=>qJ wr o rs ps _ _ _ _ nm (aO.kept ((zN.refl [] _).ai hb) (by simp)));clear hA aC kQ aO eK cy JZ DK eN c0 c2 c3 c4 fz AO ax H;simp only[List.getElem?_toArray,List.getElem?_cons_zero,List.getElem?_cons_succ] at a0 a1 a2 a3 a4
 by_cases hbad:0<=(zI s 0 (-1)).2.2
 ·have gK:=zC (show zae ps s=false by unfold zae zgt;simp;omega);go_wp2_with fail;obtain⟨q0,q1,q2,q3,q4⟩:=z41 a0 a1 a2 a3 a4 (.string (tok s 0).text) (.slice av (zI s 0 (-1)).fst.length cv) (.bool false) (.int .i64 (tok s 0).at_) (.int .i64 0);have k5:=znh w2 w.heap.size (.string (tok s 0).text) (.slice av (zI s 0 (-1)).fst.length cv) (.bool false) (.int .i64 (tok s 0).at_) (.int .i64 0);have q0:=qI q0;have q1:=qI q1;have q2:=qI q2;have q3:=qI q3;have q4:=qI q4;refine bodyPost_ret (v:=.tuple #[(zJ s).val (.slice av (zI s 0 (-1)).fst.length cv),.bool false]) (by simp[results,Tryz.results130,go_sem,zJ,zL.val,q0,q1,q2,q3,q4]) rfl ⟨_,by rw[zA gK],zA cV _ (k5.alloc _)⟩
 ·cases hk:(tok s (zI s 0 (-1)).2.1).kind==46 with
  | false=>
   have gK:=zC (show zae ps s=false by unfold zae zgt;simp[hk]);have cy:((tok s (zI s 0 (-1)).2.1).kind != 46)=true:=(by simp[bne,hk]);go_wp2_with fail;obtain⟨q0,q1,q2,q3,q4⟩:=z41 a0 a1 a2 a3 a4 (.string (tok s 0).text) (.slice av (zI s 0 (-1)).fst.length cv) (.bool false) (.int .i64 (tok s 0).at_) (.int .i64 0);have k5:=znh w2 w.heap.size (.string (tok s 0).text) (.slice av (zI s 0 (-1)).fst.length cv) (.bool false) (.int .i64 (tok s 0).at_) (.int .i64 0);have q0:=qI q0;have q1:=qI q1;have q2:=qI q2;have q3:=qI q3;have q4:=qI q4;refine bodyPost_ret (v:=.tuple #[(zJ s).val (.slice av (zI s 0 (-1)).fst.length cv),.bool false]) (by simp[results,Tryz.results130,go_sem,zJ,zL.val,q0,q1,q2,q3,q4]) rfl ⟨_,by rw[zA gK],zA cV _ (k5.alloc _)⟩
  | true=>
   have cy:((tok s (zI s 0 (-1)).2.1).kind != 46)=false:=(by simp[bne,hk]);have gK:=zC (show zae ps s=qP ps (tok s 0).text (zI s 0 (-1)).1.length by unfold zae zgt;simp[hk];omega);go_wp2_with fail;refine (zA ir (tok s 0).text _ (B9.alloc L9 _)).mono ?_;rintro e w3 ⟨rfl,gI⟩;subst gI;have k3:=(zN.refl [] w2).alloc (.cells #[.string (tok s 0).text,.slice av (zI s 0 (-1)).fst.length cv,.bool false,.int .i64 (tok s 0).at_,.int .i64 0] 243);have sN:=zC ((zA HP).kept k3 (by simp));have EM:=zC (λ (w':W8) (k:zN [w.heap.size] (w2.alloc (.cells #[.string (tok s 0).text,.slice av (zI s 0 (-1)).fst.length cv,.bool false,.int .i64 (tok s 0).at_,.int .i64 0] 243)) w')=>zA cV w' ((k3.mono (by simp)).trans k));have b0:=λ j=>vK w2 (.string (tok s 0).text) (.slice av (zI s 0 (-1)).fst.length cv) (.bool false) (.int .i64 (tok s 0).at_) (.int .i64 0) 243 j
   have a0:=(k3.cell (p:=⟨w.heap.size,0,none⟩) aG (by simp)).trans a0;have a1:=(k3.cell (p:=⟨w.heap.size,1,none⟩) aG (by simp)).trans a1;have a2:=(k3.cell (p:=⟨w.heap.size,2,none⟩) aG (by simp)).trans a2;have a3:=(k3.cell (p:=⟨w.heap.size,3,none⟩) aG (by simp)).trans a3;have a4:=(k3.cell (p:=⟨w.heap.size,4,none⟩) aG (by simp)).trans a4;have fA:=λ j=>(k3.frozen (p:=⟨w.heap.size,j,none⟩) aG (by simp)).trans (fA j)
   have aT:w2.heap.size<(w2.alloc (.cells #[.string (tok s 0).text,.slice av (zI s 0 (-1)).fst.length cv,.bool false,.int .i64 (tok s 0).at_,.int .i64 0] 243)).heap.size:=(by simp);generalize w2.alloc (.cells #[.string (tok s 0).text,.slice av (zI s 0 (-1)).fst.length cv,.bool false,.int .i64 (tok s 0).at_,.int .i64 0] 243)=wr at *;have b00:wr.cell? ⟨w2.heap.size,0,none⟩=some (.string (tok s 0).text):=b0 0;have b01:wr.cell? ⟨w2.heap.size,1,none⟩=some (.slice av (zI s 0 (-1)).fst.length cv):=b0 1;have b02:wr.cell? ⟨w2.heap.size,2,none⟩=some (.bool false):=b0 2;have Kc:wr.cell? ⟨w2.heap.size,3,none⟩=some (.int .i64 (tok s 0).at_):=b0 3;have b04:wr.cell? ⟨w2.heap.size,4,none⟩=some (.int .i64 0):=b0 4;have hoW:o<w.heap.size:=QV;clear b0 k3 HP cV c1 c5
   by_cases hZ:zM ps (tok s 0).text<0
   ·have HM:=zC (show qP ps (tok s 0).text (zI s 0 (-1)).1.length=true by simp[qP,hZ]);clear ir sN GK;go_wp2_with fail
    go_region
    go_wp2_with fail;obtain⟨q0,q1,q2,q3,q4⟩:=z41 a0 a1 a2 a3 a4 (.string (tok s 0).text) (.slice av (zI s 0 (-1)).fst.length cv) (.bool false) (.int .i64 (tok s 0).at_) (.int .i64 0);have k5:=znh wr w.heap.size (.string (tok s 0).text) (.slice av (zI s 0 (-1)).fst.length cv) (.bool false) (.int .i64 (tok s 0).at_) (.int .i64 0);refine bodyPost_ret (v:=.tuple #[(zJ s).val (.slice av (zI s 0 (-1)).fst.length cv),.bool true]) (by simp[results,Tryz.results130,go_sem,zJ,zL.val,q0,q1,q2,q3,q4]) rfl ⟨_,by rw[zA gK,zA HM],zA EM _ k5.drew⟩
   ·obtain⟨ix,GN⟩:∃ ix:Nat,zM ps (tok s 0).text=(ix:Int):=⟨_,(Int.toNat_of_nonneg (by omega)).symm⟩;have lW:ix<ps.length:=(by have:=xN (show 0<=zM ps (tok s 0).text by omega);rw[GN] at this;simpa using this);have HM:=zC (show qP ps (tok s 0).text (zI s 0 (-1)).1.length=((ps[ix].2:Int)==(zI s 0 (-1)).1.length) by unfold qP;rw[if_neg hZ,GN];simp[List.getD_eq_getElem?_getD,lW]);rw[GN];have nN:=(zA sN).c2;obtain⟨g,cap,hv,Nt,cZ,da,hc⟩:=zar (zA sN).ae (by omega);have Dc:=hc ix lW;rw[List.getElem?_map,List.getElem?_eq_getElem lW] at Dc;simp only[Option.map_some] at Dc;have bR:=World.block_lt_of_cell? wr _ Dc;simp only at bR;have Fi:g<w.heap.size:=GK lW hv;clear GK;subst hv;have XP:(ix:Int)<ps.length:=(by omega);unfold maxLen at da;clear ir sN hc;go_wp2_with fail;have n1:w.heap.size≠o:=(by omega);have n2:w.heap.size≠g:=(by omega);have n3:w.heap.size≠w2.heap.size:=by omega
    go_region_held3 (λ w'=>w'.cell? ⟨o,2,none⟩=some (.slice (some ⟨g,0,none⟩) ps.length cap)/\w'.cell? ⟨g,ix,none⟩=some (.int .i64 (ps[ix].2:Nat))/\w'.cell? ⟨w2.heap.size,0,none⟩=some (.string (tok s 0).text)/\w'.cell? ⟨w2.heap.size,1,none⟩=some (.slice av (zI s 0 (-1)).fst.length cv)/\w'.cell? ⟨w2.heap.size,2,none⟩=some (.bool false)/\w'.cell? ⟨w2.heap.size,3,none⟩=some (.int .i64 (tok s 0).at_)/\w'.cell? ⟨w2.heap.size,4,none⟩=some (.int .i64 0)) (go_keep) (fail)
    go_wp2_with fail;obtain⟨q0,q1,q2,q3,q4⟩:=z41 a0 a1 a2 a3 a4 (.string (tok s 0).text) (.slice av (zI s 0 (-1)).fst.length cv) (.bool false) (.int .i64 (tok s 0).at_) (.int .i64 0);have k5:=znh wr w.heap.size (.string (tok s 0).text) (.slice av (zI s 0 (-1)).fst.length cv) (.bool false) (.int .i64 (tok s 0).at_) (.int .i64 0);refine bodyPost_ret (v:=.tuple #[(zJ s).val (.slice av (zI s 0 (-1)).fst.length cv),.bool ((ps[ix].2:Int)==(zI s 0 (-1)).1.length)]) (by simp[results,Tryz.results130,go_sem,zJ,zL.val,q0,q1,q2,q3,q4];intro h;omega) rfl ⟨_,by rw[zA gK,zA HM],zA EM _ k5.drew⟩
end
section
open Go.RowKit Go.Maps
theorem AX.below {w:W8}{o:Nat}{rs:List RR}{ps:P9}{rv pv tv:Value}{gs:Nat}{S:Nat->Nat}{w':W8}(h:AX w o rs ps rv pv tv gs S)(hb:Below w.heap.size w w'):AX w' o rs ps rv pv tv gs S:=
 ⟨h.prog.kept ((zN.refl [] _).ai hb) (by simp),h.jf.kept ((zN.refl [] _).ai hb),h.body,h.atoms,h.Ev⟩
end
section
open Go.RowKit
def zga (s:B8):Option j6:=
 match x9 s 0 with
 | .no _=>none
 | .yes p pd ts _=>if (zG s p).1=0 then some ⟨pd,ts⟩ else none
def zon (w:W8)(r:Option j6)(e:Ending)(w':W8):Prop:=
 Below w.heap.size w w'/\match r with
 | none=>e=.returned (.tuple #[.agg #[.string { data:=#[] },.slice none 0 0],.bool false])
 | some A=>∃ a c,e=.returned (.tuple #[.agg #[.string A.p,.slice a A.ts.length c],.bool true])/\w'.ownsRow w.heap.size 191 1 (.slice a A.ts.length c) A.ts.length (A.ts.map zcb)
theorem z6w {w w1:W8}{s:B8}(aM:Below (w.alloc (Obj.cells #[.string { data:=#[] },.slice none 0 0] 79)).heap.size (w.alloc (Obj.cells #[.string { data:=#[] },.slice none 0 0] 79)) w1):
  ic (w1.alloc (Obj.cells #[.string s,.int .i64 (zG s 0).1,.int .i64 (zG s 0).2.1,.int .i64 (zG s 0).2.2,.int .i64 0,.slice none 0 0] 163)) w1.heap.size s 0 0 (.slice none 0 0):=by
 have hz:=aM.size;simp at hz;refine⟨by simp,?_,?_,?_,?_,?_,?_,?_⟩
 all_goals first | (rw[World.cell?_alloc_at _ _ _ _ rfl];rfl) | (intro o;rw[World.frozen?_alloc_at _ _ _ _ rfl];done) | skip
theorem z4q (w:W8)(s:B8)(hs:s.size<=2000000):
  Calls Tryz.prog 57 #[.string s] w (zon w (zga s)):=by
 have cE:s.size<=maxLen:=by unfold maxLen;omega
 go_enter Tryz.func57,Tryz.ntmps57;go_wp2_with fail;refine (zkl s 0 (Nat.zero_le _) cE _).mono ?_;rintro e w1 ⟨rfl,aM⟩;have cz:=aM.size;have aP:=z6w (s:=s) aM;have lX:w1.heap[w.heap.size]?=some (.cells #[.string { data:=#[] },.slice none 0 0] 79 (0,0)):=by rw[aM.block _ (by simp)];exact heap_alloc_new w _
 have eM:Below w.heap.size w w1:=(B9.alloc L9 _).trans (aM.mono (by simp));have HB:=zC eM;have HR:=zC lX;have eN:=zC aP;clear aM eM lX;simp at cz;obtain⟨aG,c0,c1,c2,c3,c4,c5,fz⟩:=aP;clear fz;go_wp2_with fail;refine (zke _ w1.heap.size s 0 0 (.slice none 0 0) false (zG s 0).2.1 [] (zA eN) ⟨World.ownsRow_nil _ _ _ _,by simp⟩ (by simp) (Nat.zero_le _) hs).mono ?_;intro e w2 hp;clear aG c0 c1 c2 c3 c4 c5;have Np:=(zA HB).alloc (B:=w.heap.size) (by omega) (Obj.cells #[.string s,.int .i64 (zG s 0).1,.int .i64 (zG s 0).2.1,.int .i64 (zG s 0).2.2,.int .i64 0,.slice none 0 0] 163);have I6:=(Below.heap_alloc w1 (Obj.cells #[.string s,.int .i64 (zG s 0).1,.int .i64 (zG s 0).2.1,.int .i64 (zG s 0).2.2,.int .i64 0,.slice none 0 0] 163) w.heap.size (by omega)).trans (zA HR)
 cases hP:x9 s 0 with
 | no p=>
  rw[hP] at hp;obtain⟨rfl,cy,mS⟩:=hp;have cx:=cy.size;simp at cx;have HN:=zC (show zga s=none by unfold zga;rw[hP]);have aH:=zY Np cy (by simp;omega) (by simp;omega);have Ac:=(cy.block w.heap.size (by simp;omega) (by simp;omega)).trans I6;have ni:=(Below.heap_alloc w2 (Obj.cells #[.string { data:=#[] },.slice none 0 0] 79) w.heap.size (by omega)).trans Ac;obtain⟨r0,f0⟩:=zB ni 0;obtain⟨r1,f1⟩:=zB ni 1;have kR:=zC aH;clear cy mS Np I6 aH Ac hP eN HR HB ni;go_wp2_with fail;obtain⟨q0,q1⟩:=zn5 r0 r1 (.string { data:=#[] }) (.slice none 0 0);refine bodyPost_ret (v:=.tuple #[.agg #[.string { data:=#[] },.slice none 0 0],.bool false]) (by simp[results,Tryz.results57,go_sem,q0,q1]) rfl ?_;rw[zA HN];exact⟨zY ((zA kR).alloc (by omega) _) (zct _ w.heap.size _ _) (by simp;omega) (by simp),rfl⟩
 | yes p pd ts pl=>
  rw[hP] at hp;obtain⟨tv,mi,rfl,cy,mS,il,qq,se⟩:=hp;obtain⟨ta,tc,rfl⟩:=zD qq;have cx:=cy.size;simp at cx;have aH:=zY Np cy (by simp;omega) (by simp[Value.ownBlock];omega);have Ac:=(cy.block w.heap.size (by simp;omega) (by simp[Value.ownBlock];omega)).trans I6;obtain⟨aG,c0,c1,c2,c3,c4,c5,fz⟩:=mS.kept ((zN.refl [] w2).alloc (Obj.cells #[.string pd,.slice ta ts.length tc] 79)) (by simp);have yl:=zF (base':=w.heap.size) qq (by simp;omega);have uD:∀ g,(Value.slice ta ts.length tc).ownBlock=some g->g≠w.heap.size:=λ g hg e=>by
   have:=yP qq (e:=79) (by decide) g (by simpa using hg);subst e;exact this _ _ Ac
  have ni:=(Below.heap_alloc w2 (Obj.cells #[.string pd,.slice ta ts.length tc] 79) w.heap.size (by omega)).trans Ac;obtain⟨r0,f0⟩:=zB ni 0;obtain⟨r1,f1⟩:=zB ni 1;have kR:=zC aH;have HT:=zC yl;have OP:=zC uD;clear cy mS Np I6 aH Ac eN HR HB il qq se fz yl uD ni
  by_cases h0:(zG s p).1=0
  ·have HN:=zC (show zga s=some ⟨pd,ts⟩ by unfold zga;rw[hP];exact if_pos h0);have Pw:((zG s p).1 != 0)=false:=(by simp[h0]);clear h0 hP;go_wp2_with fail;obtain⟨q0,q1⟩:=zn5 r0 r1 (.string pd) (.slice ta ts.length tc);refine bodyPost_ret (v:=.tuple #[.agg #[.string pd,.slice ta ts.length tc],.bool true]) (by simp[results,Tryz.results57,go_sem,q0,q1]) rfl ?_;rw[zA HN];exact⟨zY ((zA kR).alloc (by omega) _) (zct _ w.heap.size _ _) (by simp;omega) (by simp),ta,tc,rfl,qH ((zA HT).alloc _) (zct _ w.heap.size _ _) (zA OP)⟩
  ·have HN:=zC (show zga s=none by unfold zga;rw[hP];exact if_neg h0);have Pw:((zG s p).1 != 0)=true:=(by simp[h0]);clear h0 hP;go_wp2_with fail;obtain⟨q0,q1⟩:=zn5 r0 r1 (.string { data:=#[] }) (.slice none 0 0);refine bodyPost_ret (v:=.tuple #[.agg #[.string { data:=#[] },.slice none 0 0],.bool false]) (by simp[results,Tryz.results57,go_sem,q0,q1]) rfl ?_;rw[zA HN];exact⟨zY ((zA kR).alloc (by omega) _) (zct _ w.heap.size _ _) (by simp;omega) (by simp),rfl⟩
end
section
open Go.RowKit Go.Maps
def zdx (ps:P9)(s:B8):Option j6:=match zga s with
 | none=>none
 | some A=>if zhe ps A then some A else none
theorem zp3 {s:B8}{A:j6}(h:zga s=some A):A.p.size<=s.size/\A.ts.length<=4:=by
 unfold zga at h
 split at h
 ·cases h
 ·rename_i p pd ts pl hp
  split at h
  ·cases h;exact zjd hp
  ·cases h
theorem zn1 (w:W8)(s:B8)(tb n:Nat)(ps:P9)(S:B8->Nat)(h:fD Tryz.prog 9 w tb n (stV ps S))(hs:s.size<=2000000):
  Calls Tryz.prog 37 #[.string s,.map (some tb)] w (zon w (zdx ps s)):=by
 have vu:=h.lt;have HM:=zC h;clear h;go_enter Tryz.func37,Tryz.ntmps37;go_wp2_with fail;refine (z4q _ s hs).mono ?_;rintro e w1 ⟨aM,hp⟩;have cz:=aM.size;have lX:w1.heap[w.heap.size]?=some (.cells #[.string { data:=#[] },.slice none 0 0] 79 (0,0)):=by rw[aM.block _ (by simp)];exact heap_alloc_new w _
 have eM:Below w.heap.size w w1:=(B9.alloc L9 _).trans (aM.mono (by simp));have kO:=(zA HM).block (eM.block tb vu);have HB:=zC eM;simp at cz;clear aM eM
 cases hP:zga s with
 | none=>
  rw[hP] at hp;subst hp;have HN:=zC (show zdx ps s=none by unfold zdx;rw[hP]);have ni:=(Below.heap_alloc w1 (Obj.cells #[.string { data:=#[] },.slice none 0 0] 79) w.heap.size (by omega)).trans lX;obtain⟨r0,f0⟩:=zB ni 0;obtain⟨r1,f1⟩:=zB ni 1;clear hP kO lX ni;go_wp2_with fail;obtain⟨q0,q1⟩:=zn5 r0 r1 (.string { data:=#[] }) (.slice none 0 0);refine bodyPost_ret (v:=.tuple #[.agg #[.string { data:=#[] },.slice none 0 0],.bool false]) (by simp[results,Tryz.results37,go_sem,q0,q1]) rfl ?_;rw[zA HN];exact⟨zY ((zA HB).alloc (by omega) _) (zct _ w.heap.size _ _) (by simp;omega) (by simp),rfl⟩
 | some A=>
  rw[hP] at hp;obtain⟨a,c,rfl,aB⟩:=hp;obtain⟨aT,h4⟩:=zp3 hP;have uD:∀ g,(Value.slice a A.ts.length c).ownBlock=some g->g≠w.heap.size:=λ g hg e=>by
   have:=aB.lt g hg;simp at this;omega
  have HT:=zC (zF (base':=w.heap.size) aB (by simp));have OP:=zC uD;have HP:=zC hP;have il:=kO.block (Below.heap_alloc w1 (Obj.cells #[.string A.p,.slice a A.ts.length c] 79) tb (by omega));have ni:=(Below.heap_alloc w1 (Obj.cells #[.string A.p,.slice a A.ts.length c] 79) w.heap.size (by omega)).trans lX;have MU:=zC il;have DG:=zC ni;clear hP kO il aB uD lX ni HM;go_wp2_with fail;refine (z1q _ tb n ps S A a c (zA MU) (by unfold maxLen;omega)).mono ?_;rintro e w2 ⟨rfl,aH⟩;have cx:=aH.size;simp at cx;have oc:=(aH.block w.heap.size (by simp;omega)).trans (zA DG);have eS:=(aH.block w1.heap.size (by simp)).trans (heap_alloc_new w1 _);have kR:=zC (((zA HB).alloc (by omega) _).trans (aH.mono (by simp;omega)));have uT:=zC (zH ((zA HT).alloc _) aH (λ g e=>by have:=((zA HT).lt g e).2;simp;omega));obtain⟨r0,f0⟩:=zB oc 0;obtain⟨r1,f1⟩:=zB oc 1;obtain⟨a0,g0⟩:=zB eS 0;obtain⟨a1,g1⟩:=zB eS 1;clear aH oc eS
  cases hS:zhe ps A with
  | false=>
   have HN:=zC (show zdx ps s=none by unfold zdx;rw[zA HP];simp[hS]);clear hS;go_wp2_with fail;obtain⟨q0,q1⟩:=zn5 r0 r1 (.string { data:=#[] }) (.slice none 0 0);refine bodyPost_ret (v:=.tuple #[.agg #[.string { data:=#[] },.slice none 0 0],.bool false]) (by simp[results,Tryz.results37,go_sem,q0,q1]) rfl ?_;rw[zA HN];exact⟨zY (zA kR) (zct _ w.heap.size _ _) (by omega) (by simp),rfl⟩
  | true=>
   have HN:=zC (show zdx ps s=some A by unfold zdx;rw[zA HP];simp[hS]);clear hS;go_wp2_with fail;obtain⟨q0,q1⟩:=zn5 r0 r1 (.string A.p) (.slice a A.ts.length c);refine bodyPost_ret (v:=.tuple #[.agg #[.string A.p,.slice a A.ts.length c],.bool true]) (by simp[results,Tryz.results37,go_sem,q0,q1]) rfl ?_;rw[zA HN];exact⟨zY (zA kR) (zct _ w.heap.size _ _) (by omega) (by simp),a,c,rfl,qH (zA uT) (zct _ w.heap.size _ _) (zA OP)⟩
end
section
theorem zpz:∀ (L ps:P9),zay L ps->(∀ k n,xH ps k=some n->xH (qQ L ps) k=some n)/\∀ x∈L,xH (qQ L ps) x.1=some x.2
 | [],ps,_=>⟨λ _ _ h=>h,by simp⟩
 | x::r,ps,h=>by
  obtain⟨h1,h2⟩:=h;obtain⟨i1,i2⟩:=zpz r (qG ps x.1 x.2) h2;rw[qQ];have hx:xH (qG ps x.1 x.2) x.1=some x.2:=by rw[zh4 h1,if_pos rfl]
  refine⟨λ k n hk=>i1 k n ?_,λ y hy=>?_⟩
  ·rw[zh4 h1]
   by_cases e:k=x.1
   ·rw[if_pos e];rw[zao] at h1;rw[e] at hk;rw[hk] at h1;have h3:n=x.2:=(by simpa using h1);rw[h3]
   ·rw[if_neg e];exact hk
  ·rcases List.mem_cons.1 hy with rfl | hy
   ·exact i1 _ _ hx
   ·exact i2 y hy
theorem zsl {body:List zL}:∀ (ts:List xK),xJ body ts<0->∀ t∈ts,t.isVar=true->zax t.text body=true
 | [],_,t,ht,_=>by cases ht
 | u::r,h,t,ht,hv=>by
  rw[xJ] at h
  split at h
  ·omega
  ·rename_i c;rcases List.mem_cons.1 ht with rfl | ht
   ·simp only[hv,Bool.true_and,Bool.not_eq_true',Bool.not_eq_false] at c;exact c
   ·exact zsl r h t ht hv
theorem zlo {body:List zL}:∀ (l:List zL),xL body l<0->∀ A∈l,A.no=true->xJ body A.ae<0
 | [],_,A,hA,_=>by cases hA
 | B::r,h,A,hA,hn=>by
  rw[xL] at h
  by_cases c:0<=(if B.no then xJ body B.ae else -1)
  ·rw[if_pos c] at h
   by_cases hb:B.no=true
   ·rw[if_pos hb] at c;omega
   ·rw[if_neg hb] at c;omega
  ·rw[if_neg c] at h;rcases List.mem_cons.1 hA with rfl | hA
   ·rw[if_pos hn] at c;omega
   ·exact zlo r h A hA hn
theorem zkz:∀ (rs:List zP),xB rs<0->∀ R∈rs,xJ R.body R.head.ae<0/\xL R.body R.body<0
 | [],_,R,hR=>by cases hR
 | Q::r,h,R,hR=>by
  rw[xB] at h
  split at h
  ·omega
  ·rename_i c;rcases List.mem_cons.1 hR with rfl | hR
   ·unfold qD at c
    split at c
    ·omega
    ·constructor <;> omega
   ·exact zkz r h R hR
theorem zue {body:List zL}{v:B8}(h:zax v body=true):∃ a∈zok body,((true,v):zgr)∈a.ts:=by
 unfold zax at h;obtain⟨A,hA,h⟩:=List.any_eq_true.1 h;unfold zwu at h;simp only[Bool.and_eq_true,List.any_eq_true] at h;obtain⟨hn,u,hu,hx⟩:=h;unfold Dq at hx;simp only[Bool.and_eq_true] at hx;have e:u.text=v:=vO.1 hx.2;refine⟨pa A,List.mem_map.2 ⟨A,List.mem_filter.2 ⟨hA,hn⟩,rfl⟩,List.mem_map.2 ⟨u,hu,?_⟩⟩;unfold gZ;rw[hx.1,e]
variable {s:B8}
theorem z78 (h:(yH s).1=true):xB (yO s).1<0:=by
 unfold yH at h
 by_cases c0:800<s.size
 ·rw[if_pos c0] at h;cases h
 rw[if_neg c0] at h
 by_cases c1:0<=(yO s).2.2
 ·rw[if_pos c1] at h;cases h
 rw[if_neg c1] at h
 by_cases c2:0<=(yA s).1
 ·rw[if_pos c2] at h;cases h
 rw[if_neg c2] at h
 by_cases c3:0<=xB (yO s).1
 ·rw[if_pos c3] at h;cases h
 omega
theorem zql (h:(yH s).1=true){rp:List PR}(pw:rp.map (·.R)=(yS s).2.2.1)(ux:∀ r∈rp,r.bs.map (·.1)=r.R.body):zgs (yA s).2 (yO s).1 rp:=by
 have g:=zfy h;have UD:=g.rules;have Fz:=zkz _ (z78 h);have pn:∀ x∈(yS s).2.2.1.flatMap jJ,xH (yA s).2 x.1=some x.2:=by
  have:=(zpz _ _ g.agree).2;rw[g.met] at this;exact this
 have K4:∀ r∈rp,∃ R∈(yO s).1,qA R r:=λ r hr=>by
  have:r.R∈(yO s).1.map yT:=by rw[<-UD,<-pw];exact List.mem_map.2 ⟨r,hr,rfl⟩
  obtain⟨R,hR,e⟩:=List.mem_map.1 this;exact⟨R,hR,e.symm,ux r hr⟩
 refine⟨λ R hR=>?_,K4,λ r hr=>?_⟩
 ·have:yT R∈rp.map (·.R):=by rw[pw,UD];exact List.mem_map.2 ⟨R,hR,rfl⟩
  obtain⟨r,hr,e⟩:=List.mem_map.1 this;exact⟨r,hr,e,ux r hr⟩
 ·obtain⟨R,hR,hrel⟩:=K4 r hr;have ay:r.R∈(yS s).2.2.1:=by rw[<-pw];exact List.mem_map.2 ⟨r,hr,rfl⟩
  have hw:=zei s r.R ay;have hb:=g.body r.R ay;have zx:∀ x∈r.bs,x.1∈r.R.body:=λ x hx=>by rw[<-ux r hr];exact List.mem_map.2 ⟨x,hx,rfl⟩
  refine⟨?_,⟨hw.1,pn (r.R.pd,r.R.ts.length) (List.mem_flatMap.2 ⟨r.R,ay,by simp[jJ]⟩)⟩,λ x hx=>⟨hw.2 _ (zx x hx),pn (x.1.pd,x.1.ts.length) (List.mem_flatMap.2 ⟨r.R,ay,?_⟩)⟩,λ t ht hv=>?_,λ x hx t ht hv=>?_⟩
  ·rw[<-ux r hr,List.length_map] at hb;exact hb
  ·simp only[jJ,List.mem_cons,List.mem_map];exact .inr ⟨x.1,zx x hx,rfl⟩
  ·rw[hrel.hd] at ht;obtain⟨u,hu,rfl⟩:=List.mem_map.1 ht;have rK:u.isVar=true:=hv;have:=zue (zsl _ (Fz R hR).1 u hu rK);rw[hrel.pos];unfold gZ;rw[rK];exact this
  ·rw[hrel.neg] at hx;obtain⟨A,hA,rfl⟩:=List.mem_map.1 hx;obtain⟨hA,hn⟩:=List.mem_filter.1 hA;obtain⟨u,hu,rfl⟩:=List.mem_map.1 ht;have rK:u.isVar=true:=hv;have:=zue (zsl _ (zlo _ (Fz R hR).2 A hA hn) u hu rK);rw[hrel.pos];unfold gZ;rw[rK];exact this
theorem z0l (q:B8):zga q=if zgt q then some (pa (zJ q)) else none:=by
 have h:=zri q 0 (-1) (by decide) (Nat.zero_le _);unfold zga zgt
 cases hP:x9 q 0 with
 | no r=>
  rw[hP] at h;have h':(zI q 0 (-1)).2.2=((zG q r).2.1:Int):=h;rw[h',if_neg];simp;intro h;omega
 | yes p pd ts pl=>
  rw[hP] at h;obtain⟨h1,h2,h3,_,h5⟩:=h;rw[h1];have K:=zee q p h5;have e:(⟨pd,ts⟩:j6)=pa (zJ q):=by rw[h2,h3];rfl
  simp only
  by_cases c:(tok q p).kind=46
  ·rw[if_pos (K.k0.2 c),if_pos (by simp[c]),e]
  ·rw[if_neg (λ h=>c (K.k0.1 h)),if_neg (by simp[c])]
theorem z0m {q:B8}{A:j6}(h:zga q=some A):zit A.p A.ts:=by
 unfold zga at h
 split at h
 ·cases h
 ·rename_i p pd ts pl hp
  split at h
  ·cases h;exact MG hp
  ·cases h
theorem zw5 (ps:P9)(A:j6):zhe ps A=qP ps A.p A.ts.length:=by
 unfold zhe
 cases hn:xH ps A.p with
 | none=>exact (by rw[zao,hn]:qP ps A.p A.ts.length=true) ▸ rfl
 | some m=>
  by_cases e:m=A.ts.length
  ·have:qP ps A.p A.ts.length=true:=by rw[zao,hn,e];simp
   rw[this];simp[e]
  ·have:¬ qP ps A.p A.ts.length=true:=by rw[zao,hn];simpa using e
   simp[e,this]
theorem z29 (ps:P9)(q:B8):zdx ps q=if zae ps q then some (pa (zJ q)) else none:=by
 unfold zdx zae;rw[z0l]
 by_cases c:zgt q=true
 ·rw[if_pos c,c];simp only[Bool.true_and];rw[zw5];have:(pa (zJ q)).ts.length=(zI q 0 (-1)).1.length:=by simp[pa,zJ]
  rw[this];rfl
 ·rw[if_neg c];have:zgt q=false:=by simpa using c
  rw[this];simp
end
section
open Go.RowKit Go.Maps
theorem zim (t:B8):∀ (l:List zQ) (i f:Nat),zaj t l i=(f:Int)->∃ (j:Nat) (h:j<l.length),f=i+j/\l[j].text=t
 | [],i,f,h=>by rw[zaj] at h;omega
 | x::r,i,f,h=>by
  rw[zaj] at h
  split at h
  ·rename_i hx;refine⟨0,by simp,by omega,?_⟩;rw[vO] at hx;exact hx
  ·obtain⟨j,hj,e,hx⟩:=zim t r (i+1) f h;exact⟨j+1,by simpa using hj,by omega,by simpa using hx⟩
theorem z7c {l:List zQ}{t:B8}{f:Nat}(h:yL l t=(f:Int)):∃ h:f<l.length,l[f].text=t:=by
 obtain⟨j,hj,e,hx⟩:=zim t l 0 f h;have:f=j:=by omega
 subst this;exact⟨hj,hx⟩
def zk2 (v h:Int)(wv:Value):Value:=.agg #[.int .i64 v,.int .i64 h,wv]
inductive AS (w:W8)(ps:P9)(S:Nat->Nat)(rs:List zP)(s:B8)(aq:Int)(w':W8):Value->Nat->Prop
 | arg:aq<1\/50<aq->AS w ps S rs s aq w' (zk2 0 0 (.slice none 0 0)) 8
 | ask:1<=aq->aq<=50->(zae ps s&&vP (zJ s))=false->AS w ps S rs s aq w' (zk2 0 0 (.slice none 0 0)) 6
 | Cu:1<=aq->aq<=50->(zae ps s&&vP (zJ s))=true->zld ps S rs aq.toNat (oI S ps.length) 0 [] none->AS w ps S rs s aq w' (zk2 0 0 (.slice none 0 0)) 7
 | out {l:List zQ} {k:Nat} {x:B8} {a:O8} {c:Nat}:1<=aq->aq<=50->(zae ps s&&vP (zJ s))=true->zld ps S rs aq.toNat (oI S ps.length) 0 [] (some l)->l.length<=50->x.data.toList=xS (zJ s)->yL l x<0->k=(if 0<=zM ps (zJ s).pred then S (zM ps (zJ s).pred).toNat+1 else 0)->w'.ownsRow w.heap.size 5 1 (.slice a (zqo k l (λ i=>decide (lS l i<k))).length c) (zqo k l (λ i=>decide (lS l i<k))).length ((zqo k l (λ i=>decide (lS l i<k))).map u8c)->AS w ps S rs s aq w' (zk2 2 0 (.slice a (zqo k l (λ i=>decide (lS l i<k))).length c)) 0
 | yes {l:List zQ} {f:Nat} {x:B8} {a:O8} {c:Nat}:1<=aq->aq<=50->(zae ps s&&vP (zJ s))=true->zld ps S rs aq.toNat (oI S ps.length) 0 [] (some l)->l.length<=50->x.data.toList=xS (zJ s)->yL l x=(f:Int)->f<l.length->w'.ownsRow w.heap.size 5 1 (.slice a (zqo (lS l f) l (zj2 l (lS l f) l.length (zjg (λ _=>false) f true))).length c) (zqo (lS l f) l (zj2 l (lS l f) l.length (zjg (λ _=>false) f true))).length ((zqo (lS l f) l (zj2 l (lS l f) l.length (zjg (λ _=>false) f true))).map u8c)->AS w ps S rs s aq w' (zk2 1 (lH l f:Nat) (.slice a (zqo (lS l f) l (zj2 l (lS l f) l.length (zjg (λ _=>false) f true))).length c)) 0
def z6h (w:W8)(ps:P9)(S:Nat->Nat)(rs:List zP)(s:B8)(aq:Int)(e:Ending)(w':W8):Prop:=
 ∃ v n,e=.returned (.tuple #[v,.int .i64 (n:Nat)])/\AS w ps S rs s aq w' v n/\Below w.heap.size w w'
end
end Go.Proofs.YtldkpahaocjdpaaGreat
