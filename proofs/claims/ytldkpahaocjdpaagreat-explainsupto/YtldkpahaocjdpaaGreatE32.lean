/-
  The law's plays: true at every script whose steps are each answered as they should be.
-/
import Derived.Test.YtldkpahaocjdpaaGreatE31
import Derived.Test.YtldkpahaocjdpaaGreatRows
import Derived.ProofKit
import Derived.SizedLaws
import Derived.ChangeSlices
import Derived.Deep.Slices
import Derived.Deep.Strs
import Derived.Deep.CondSized
import Derived.JoinedCond
set_option maxHeartbeats 16000000
set_option maxRecDepth 1000000
namespace Go.Proofs.YtldkpahaocjdpaaGreat
section
open Go.RowKit Go.Maps
structure z9h (o:OpV):Prop where
 a:-9223372036854775808<=o.a/\o.a<=9223372036854775807
 b:-9223372036854775808<=o.b/\o.b<=9223372036854775807
 s:o.s.size<=maxLen
 t:o.t.size<=maxLen
 u:o.u.size<=maxLen
def OpV.agg (o:OpV):Value:=.agg #[.int .i64 o.kd,.int .i64 o.a,.int .i64 o.b,.string o.s,.string o.t,.string o.u,.slice o.at_ o.nt o.ct]
def zq1 (w0:W8)(o:OpV):Prop:=∀ (w:W8) (b:Nat) (bz bv tv sv:Value) (es:List PE) (mb mt ms:List MB),Below w0.heap.size w0 w->LW w b bz bv tv sv es mb mt ms->es.length<=10000000->mb.length<=10000000->mt.length<=10000000->ms.length<=10000000 ->
 Calls Tryz.prog 32 #[.pointer (some ⟨b,0,none⟩),o.agg] w (zo1 w b bz bv tv sv es mb mt ms)
def z0m:Prop:=∀ (w:W8) (b:Nat) (bz bv tv sv:Value) (es:List PE) (mb mt ms:List MB),LW w b bz bv tv sv es mb mt ms->mb.length<=10000000->mt.length<=10000000->ms.length<=10000000->Calls Tryz.prog 33 #[.pointer (some ⟨b,1,none⟩)] w (jT w)
theorem z6l {ks:List Int}{j:Nat}(hj:j<ks.length)(f:Int->Bool):(ks.take (j+1)).any f=((ks.take j).any f||f ks[j]):=by
 rw[List.take_succ_eq_append_getElem hj,List.any_append];simp only[List.any_cons,List.any_nil,Bool.or_false]
structure Mo (w0 w:W8)(b k:Nat)(bz bv tv sv:Value)(es:List PE)(mb mt ms:List MB)(wr:W8):Prop where
 lw:LW wr b bz bv tv sv es mb mt ms
 below:Below w.heap.size w wr
 base:Below w0.heap.size w0 wr
 e:es.length<=k+2
 b:mb.length<=2*k+2
 t:mt.length<=2*k+2
 s:ms.length<=2*k+2
def uF (w0 w:W8)(b k:Nat)(wr:W8):Prop:=∃ bz bv tv sv es mb mt ms,Mo w0 w b k bz bv tv sv es mb mt ms wr
variable {k:Nat} {w0 w wr:W8}
theorem uF.drawn {b:Nat}(h:uF w0 w b k wr)(n:Nat):uF w0 w b k (wr.drewN n):=by
 obtain⟨bz,bv,tv,sv,es,mb,mt,ms,h⟩:=h;exact⟨bz,bv,tv,sv,es,mb,mt,ms,h.lw.below (below_drewN B9 _),below_drewN h.below _,below_drewN h.base _,h.e,h.b,h.t,h.s⟩
theorem uF.next {b:Nat}(h:uF w0 w b k wr):uF w0 w b (k+1) wr:=by
 obtain⟨bz,bv,tv,sv,es,mb,mt,ms,h⟩:=h;exact⟨bz,bv,tv,sv,es,mb,mt,ms,h.lw,h.below,h.base,by have:=h.e;omega,by have:=h.b;omega,by have:=h.t;omega,by have:=h.s;omega⟩
variable {w':W8}
theorem Mo.step {b k':Nat}{bz bv tv sv:Value}{es:List PE}{mb mt ms:List MB}{e:Ending}(h:Mo w0 w b k bz bv tv sv es mb mt ms wr)(hw:w0.heap.size<=w.heap.size)(hs:zo1 wr b bz bv tv sv es mb mt ms e w')(hb:w.heap.size<=b)(hk:es.length<=k'+1/\mb.length<=2*k'/\mt.length<=2*k'/\ms.length<=2*k'):e=.returned (.bool true)/\uF w0 w b k' w':=by
 obtain⟨rfl,oR,nC,bY,GQ,uq,xw,Dz,ms',hL,l0,l1,l2,l3,l4,hK⟩:=hs;have bj:=h.below.size;have qu:∀ x∈chg b bz bv tv sv,w.heap.size<=x:=λ x hx=>by have:=(h.lw.sH x hx).1;omega
 exact⟨rfl,oR,nC,bY,GQ,uq,xw,Dz,ms',hL,zY h.below hK bj qu,zY h.base hK (by omega) (λ x hx=>by have:=qu x hx;omega),by omega,by omega,by omega,by omega⟩
theorem uF.still {b:Nat}{e:Ending}(h:uF w0 w b k wr)(hw:w0.heap.size<=w.heap.size)(hs:jT wr e w'):e=.returned (.bool true)/\uF w0 w b k w':=by
 obtain⟨bz,bv,tv,sv,es,mb,mt,ms,h⟩:=h;obtain⟨rfl,hB⟩:=hs;have bj:=h.below.size;exact⟨rfl,bz,bv,tv,sv,es,mb,mt,ms,h.lw.below hB,h.below.trans (hB.mono bj),h.base.trans (hB.mono (by omega)),h.e,h.b,h.t,h.s⟩
theorem z4c (w0 w:W8)(bC:Below w0.heap.size w0 w)(kd a b:Int)(s t u:B8)(at_:O8)(nt ct:Nat)(sa:O8)(len cap:Nat)(O:Nat->OpV)(kb:Nat)(ks:List Int)(h:H7 w sa len O)(hl:len<=1048576)(T4:∀ j (hj:j<ks.length),w.cell? ⟨kb,j,none⟩=some (.int .i64 ks[j]))(dF:ks.length<=100)(KP:kb<w.heap.size)
  (hA:zq1 w0 ⟨kd,a,b,s,t,u,at_,nt,ct⟩) (hO:∀ i,i<len->(O i).kd∈ks->zq1 w0 (O i)) (KU:z0m):
  Calls Tryz.prog 15 #[.agg #[.int .i64 kd,.int .i64 a,.int .i64 b,.string s,.string t,.string u,.slice at_ nt ct],.slice sa len cap,.slice (some ⟨kb,0,none⟩) ks.length ks.length] w (jT w):=by
 have b0:=((Below.refl w.heap.size w).alloc L9 (.cells #[.int .i64 kd,.int .i64 a,.int .i64 b,.string s,.string t,.string u,.slice at_ nt ct] 26)).alloc (by simp) (.cells #[.slice none 0 0,.slice none 0 0,.slice none 0 0,.slice none 0 0] 69);have PB:LW ((w.alloc (.cells #[.int .i64 kd,.int .i64 a,.int .i64 b,.string s,.string t,.string u,.slice at_ nt ct] 26)).alloc (.cells #[.slice none 0 0,.slice none 0 0,.slice none 0 0,.slice none 0 0] 69)) (w.heap.size+1) (.slice none 0 0) (.slice none 0 0) (.slice none 0 0) (.slice none 0 0) [] [] [] []:=by
  refine LW.start _ _ ?_;have:=heap_alloc_new (w.alloc (.cells #[.int .i64 kd,.int .i64 a,.int .i64 b,.string s,.string t,.string u,.slice at_ nt ct] 26)) (.cells #[.slice none 0 0,.slice none 0 0,.slice none 0 0,.slice none 0 0] 69);rw[World.size_alloc] at this;exact this
 have dq:((w.alloc (.cells #[.int .i64 kd,.int .i64 a,.int .i64 b,.string s,.string t,.string u,.slice at_ nt ct] 26)).alloc (.cells #[.slice none 0 0,.slice none 0 0,.slice none 0 0,.slice none 0 0] 69)).heap[w.heap.size]?=some (.cells #[.int .i64 kd,.int .i64 a,.int .i64 b,.string s,.string t,.string u,.slice at_ nt ct] 26 (0,0)):=by
  rw[Below.heap_alloc _ _ _ (by simp)];exact heap_alloc_new w _
 have hS:=zw7 ((w.alloc (.cells #[.int .i64 kd,.int .i64 a,.int .i64 b,.string s,.string t,.string u,.slice at_ nt ct] 26)).alloc (.cells #[.slice none 0 0,.slice none 0 0,.slice none 0 0,.slice none 0 0] 69)) (w.heap.size+1) (.slice none 0 0) (.slice none 0 0) (.slice none 0 0) (.slice none 0 0) [] [] [] [] 0 0 zv4 { data:=#[] } { data:=#[] } none 0 0 PB yaz (by simp);unfold zv4 at hS;have Tq:Mo w0 w (w.heap.size+1) 0 (.slice none 0 0) (.slice none 0 0) (.slice none 0 0) (.slice none 0 0) [] [] [] [] ((w.alloc (.cells #[.int .i64 kd,.int .i64 a,.int .i64 b,.string s,.string t,.string u,.slice at_ nt ct] 26)).alloc (.cells #[.slice none 0 0,.slice none 0 0,.slice none 0 0,.slice none 0 0] 69)):=⟨PB,b0,bC.trans (b0.mono bC.size),by simp,by simp,by simp,by simp⟩;have CG:=zC Tq;have Du:=bC.size;clear PB Tq;go_enter Tryz.func15,Tryz.ntmps15;go_wp2_with fail;refine hS.mono ?_;rintro e w1 Xr;obtain⟨rfl,Zi,MR,J9,-,-,kT,qj⟩:=Xr;have bR:(yY { data:=#[101,100,103,101,40,97,44,98,41,46,32,101,100,103,101,40,98,44,99,41,46,32,112,97,116,104,40,88,44,89,41,32,58,45,32,101,100,103,101,40,88,44,89,41,46,32,112,97,116,104,40,88,44,90,41,32,58,45,32,101,100,103,101,40,88,44,89,41,44,32,112,97,116,104,40,89,44,90,41,46,32,102,97,114,40,88,41,32,58,45,32,112,97,116,104,40,97,44,88,41,44,32,110,111,116,32,101,100,103,101,40,97,44,88,41,46] }).1=true:=yec;have Ao:MR.length=1:=by simpa using kT bR
 have gz:Below w.heap.size w w1:=zY b0 qj (by simp;omega) (by simp[Value.ownBlock]);have FL:Below w0.heap.size w0 w1:=bC.trans (gz.mono Du);have dP:=yK dq qj (by simp[Value.ownBlock]);have aY:=qj.size;simp at aY;obtain⟨W5,Xg,rfl⟩:=zD J9.row;have Tr:Mo w0 w (w.heap.size+1) 0 (.slice W5 MR.length Xg) (.slice none 0 0) (.slice none 0 0) (.slice none 0 0) MR [] [] [] w1:=⟨J9,gz,FL,by omega,by simp,by simp,by simp⟩;have oB:=hA w1 (w.heap.size+1) _ _ _ _ MR [] [] [] FL J9 (by omega) (by simp) (by simp) (by simp);unfold OpV.agg at oB;have lK:=J9.bp;rw[Ao] at lK;obtain⟨p0,Cj⟩:=zB lK 0;obtain⟨y0,Vo⟩:=zB dP 0;obtain⟨y1,Hh⟩:=zB dP 1;obtain⟨y2,Vp⟩:=zB dP 2;obtain⟨y3,RJ⟩:=zB dP 3;obtain⟨y4,RK⟩:=zB dP 4;obtain⟨y5,Zs⟩:=zB dP 5;obtain⟨y6,Zt⟩:=zB dP 6;have sC:=zC Tr;have IS:=zC oB;have CC:=zC Ao;clear hS dq qj b0 bR Tr oB J9 lK dP gz FL kT Ao CG;go_wp2_with fail;refine (zA IS).mono ?_;rintro e w2 aP;obtain⟨rfl,Ts⟩:=(zA sC).step (k':=0) Du aP (by omega) ⟨by rw[zA CC];exact Nat.le_refl _,Nat.le_refl _,Nat.le_refl _,Nat.le_refl _⟩;have mE:=zC Ts;clear aP Ts sC IS CC p0 Cj y0 y1 y2 y3 y4 y5 y6 Vo Hh Vp RJ RK Zs Zt aY;have HS:=zC h;have V2:=zC T4;have HO:=zC hO;clear h T4 hO hA bC;go_wp2_with fail
 go_loopg [9] len (λ gg i wr=>∃ k:Nat,k<=len/\gg=len-k/\i=.int .i64 k/\uF w0 w (w.heap.size+1) k wr)
 exact⟨0,Nat.zero_le _,rfl,rfl,zA mE⟩
 case round=>
  clear mE;obtain⟨k,hk,eD,rfl,hP⟩:=hrel
  by_cases aF:k<len
  ·obtain⟨g,off,rfl,XX,_⟩:=(zA HS).el k aF;have kP:(k:Int)<len:=(by omega);have HP:=zC hP;clear hP;go_wp2_with fail
   go_loopg [10,11] ks.length (λ gg v i wi=>∃ j:Nat,j<=ks.length/\gg=ks.length-j/\i=.int .i64 j/\v=.bool ((ks.take j).any (λ x=>(O k).kd==x))/\uF w0 w (w.heap.size+1) k wi)
   exact⟨0,Nat.zero_le _,rfl,rfl,rfl,zA HP⟩
   case round=>
    clear HP;obtain⟨j,hj,xj,rfl,rfl,Xt⟩:=hrel;obtain⟨bz,bv,tv,sv,es,mb,mt,ms,hP⟩:=Xt;have hB:=hP.below;have hW:=hP.lw;obtain⟨g',Zh,vc,aZ,c0,c1,c2,c3,c4,c5,c6,AN⟩:=((zA HS).below hB).el k aF;injection vc with vc
    injection vc with h1 h2 _
    subst h1 h2;have Yl:=hB.size
    by_cases hjk:j<ks.length
    ·have hkc:wr.cell? ⟨kb,j,none⟩=some (.int .i64 ks[j]):=(hB.cell (by simpa using KP)).trans (zA V2 j hjk);have Na:(j:Int)<ks.length:=(by omega);have du:=z6l hjk (λ x=>(O k).kd==x);have St:Hid (uF w0 w (w.heap.size+1) k wr):=zC ⟨bz,bv,tv,sv,es,mb,mt,ms,hP⟩;have sx:=zC du;clear du hP hB hW;generalize (ks.take j).any (λ x=>(O k).kd==x)=v0 at *;generalize ks[j]=x0 at *
     cases v0
     ·go_wp2_with fail;go_quiet (fail);go_wp2_with fail;go_roundg (ks.length-(j+1));exact⟨j+1,by omega,rfl,by go_num,by rw[zA sx];rfl,(zA St).drawn _⟩;omega
     ·go_wp2_with fail;go_quiet (fail);go_wp2_with fail;go_roundg (ks.length-(j+1));exact⟨j+1,by omega,rfl,by go_num,by rw[zA sx];rfl,(zA St).drawn _⟩;omega
    ·have qv:j=ks.length:=(by omega);have TZ:¬ ((j:Int)<ks.length):=(by omega);have It:(ks.take j).any (λ x=>(O k).kd==x)=true->(O k).kd∈ks:=λ he=>by
      rw[qv,List.take_length,List.any_eq_true] at he;obtain⟨x,hx,he⟩:=he;rw[beq_iff_eq.1 he];exact hx
     have Sj:=zC It;have HP:=zC hP;clear It hP qv xj hj;generalize (ks.take j).any (λ x=>(O k).kd==x)=v0 at *
     cases v0
     ·have Wt:=zC (uF.next ⟨bz,bv,tv,sv,es,mb,mt,ms,zA HP⟩);clear HP hB hW Sj;go_wp2_with fail;go_roundg (len-(k+1));exact⟨k+1,by omega,rfl,by go_num,zA Wt⟩;omega
     ·have aP:=zA HO k aF (zA Sj rfl) wr (w.heap.size+1) bz bv tv sv es mb mt ms (zA HP).base hW (by have:=(zA HP).e;omega) (by have:=(zA HP).b;omega) (by have:=(zA HP).t;omega) (by have:=(zA HP).s;omega);unfold OpV.agg at aP;have dB:=zC aP;clear aP hB hW;go_wp2_with fail;refine (zA dB).mono ?_;rintro e w3 aP;obtain⟨rfl,Ig⟩:=(zA HP).step (k':=k+1) Du aP (by omega) ⟨by have:=(zA HP).e;omega,by have:=(zA HP).b;omega,by have:=(zA HP).t;omega,by have:=(zA HP).s;omega⟩;have sD:=zC Ig;obtain⟨Ro,W6,NI,Zm,Xh,Y4,Zb,Za,zh⟩:=Ig;have HL:=zC (KU w3 (w.heap.size+1) Ro W6 NI Zm Xh Y4 Zb Za zh.lw (by have:=zh.b;omega) (by have:=zh.t;omega) (by have:=zh.s;omega));clear aP zh dB HP c0 c1 c2 c3 c4 c5 c6 Yl;go_wp2_with fail;refine (zA HL).mono ?_;rintro e w4 Gw;obtain⟨rfl,Tt⟩:=(zA sD).still Du Gw;have OC:=zC Tt;clear Gw Tt sD HL;go_wp2_with fail;go_roundg (len-(k+1));exact⟨k+1,by omega,rfl,by go_num,zA OC⟩;omega
  ·obtain⟨bz,bv,tv,sv,es,mb,mt,ms,hP⟩:=hP;have HB:=zC hP.below;clear hP;go_wp2_with fail;go_ret;exact⟨rfl,zA HB⟩
end
section
open Go.ChangeShapes Go.WideShapes Go.ChangeAt Go.RowKit Go.Deep
theorem yet:ownKnob Tryz.prog.godebug=none:=by kernel_rfl
theorem yeh:laidOutB Tryz.prog=true:=by kernel_rfl
theorem zvy:Tryz.prog.cellsOf 26=7:=by kernel_rfl
theorem z1m:Tryz.prog.cellsOf 3=1:=by kernel_rfl
theorem z1n:Tryz.prog.cellsOf 9=1:=by kernel_rfl
theorem zxy:Tryz.prog.cellsOf 24=1:=by kernel_rfl
variable {H:Type}
theorem z7r (d:DataW H):1<=Rows.uptoBulk d:=by
 cases d with
 | lit l=>cases l <;> simp[Rows.uptoBulk]
 | nil=>simp[Rows.uptoBulk]
 | ptr d=>simp[Rows.uptoBulk]
 | slice elems spare=>simp[Rows.uptoBulk]
 | agg parts=>simp[Rows.uptoBulk]
 | iface t d=>simp[Rows.uptoBulk]
 | map entries=>simp[Rows.uptoBulk]
 | held h=>simp[Rows.uptoBulk]
theorem z7e (l:List (DataW H)):l.length<=Rows.uptoBulkAll l:=by
 induction l with
 | nil=>simp[Rows.uptoBulkAll]
 | cons x r ih=>have:=z7r x;simp only[Rows.uptoBulkAll,List.length_cons];omega
theorem Vv {n:Int}(h:(Lit.int .i64 n).wf=true):-9223372036854775808<=n/\n<=9223372036854775807:=by
 simpa[Lit.wf,IntKind.min,IntKind.max,IntKind.signed,IntKind.bits] using h
end
section
open Go.ChangeShapes Go.WideShapes Go.ChangeAt Go.RowKit Go.Deep
variable {H:Type}
theorem z7m {l:List (DataW H)}{d:DataW H}(h:d∈l):Rows.uptoBulk d<=Rows.uptoBulkAll l:=by
 induction l with
 | nil=>cases h
 | cons x r ih=>
  simp only[Rows.uptoBulkAll];rcases List.mem_cons.1 h with rfl | h
  ·omega
  ·have:=ih h;omega
variable {W:W8}
theorem z7t {enc:TypeId × Value->H}{base n g off:Nat}{cs:V8}{x:DataW H × List MemPlace}{spare:Nat->Bool}{held:Bool}(hc:W.cells? base ⟨g,off,none⟩ 7=some cs)(ht:DataW.trod enc Tryz.prog W base spare held n 26 cs=some x):
  ∃ o:OpV,W.cell? ⟨g,off,none⟩=some (.int .i64 o.kd)/\W.cell? ⟨g,off+1,none⟩=some (.int .i64 o.a)/\W.cell? ⟨g,off+2,none⟩=some (.int .i64 o.b)/\W.cell? ⟨g,off+3,none⟩=some (.string o.s)/\W.cell? ⟨g,off+4,none⟩=some (.string o.t)/\W.cell? ⟨g,off+5,none⟩=some (.string o.u)/\W.cell? ⟨g,off+6,none⟩=some (.slice o.at_ o.nt o.ct)/\z9h o/\o.s.size+o.t.size+o.u.size<=Rows.uptoBulk x.1:=by
 obtain⟨_,Qd,cd⟩:=World.cells?_some hc;obtain⟨xs,m,_,Rb,hlen,EK,hf⟩:=DataW.trod_struct Tryz.underlying26 ht;obtain⟨c0,c1,c2,c3,c4,c5,c6,rfl⟩:∃ c0 c1 c2 c3 c4 c5 c6,cs=[c0,c1,c2,c3,c4,c5,c6]:=by
  match cs,Qd with
  | [c0,c1,c2,c3,c4,c5,c6],_=>exact⟨c0,c1,c2,c3,c4,c5,c6,rfl⟩
 obtain⟨y0,y1,y2,y3,y4,y5,y6,rfl⟩:∃ y0 y1 y2 y3 y4 y5 y6,xs=[y0,y1,y2,y3,y4,y5,y6]:=by
  match xs,EK with
  | [y0,y1,y2,y3,y4,y5,y6],_=>exact⟨y0,y1,y2,y3,y4,y5,y6,rfl⟩
 have f0 := hf 0 { name := "Kind", type := 3, offset := 0, embedded := false, tag := "", pkgPath := "", byteOffset := 0 } rfl;have f1 := hf 1 { name := "A", type := 3, offset := 1, embedded := false, tag := "", pkgPath := "", byteOffset := 8 } rfl;have f2 := hf 2 { name := "B", type := 3, offset := 2, embedded := false, tag := "", pkgPath := "", byteOffset := 16 } rfl;have f3 := hf 3 { name := "S", type := 9, offset := 3, embedded := false, tag := "", pkgPath := "", byteOffset := 24 } rfl;have f4 := hf 4 { name := "T", type := 9, offset := 4, embedded := false, tag := "", pkgPath := "", byteOffset := 40 } rfl;have f5 := hf 5 { name := "U", type := 9, offset := 5, embedded := false, tag := "", pkgPath := "", byteOffset := 56 } rfl;have f6 := hf 6 { name := "Turns", type := 24, offset := 6, embedded := false, tag := "", pkgPath := "", byteOffset := 72 } rfl;simp only[z1m,z1n,zxy,List.drop_zero,List.drop_succ_cons,List.take_succ_cons,List.take_zero,List.getElem?_cons_zero,List.getElem?_cons_succ] at f0 f1 f2 f3 f4 f5 f6;obtain⟨k0,e0,_,_⟩:=DataW.trod_int Tryz.underlying3 f0;obtain⟨k1,e1,_,r1⟩:=DataW.trod_int Tryz.underlying3 f1;obtain⟨k2,e2,_,r2⟩:=DataW.trod_int Tryz.underlying3 f2;obtain⟨s3,e3,d3,QT⟩:=DataW.trod_string Tryz.underlying9 f3;obtain⟨s4,e4,d4,YF⟩:=DataW.trod_string Tryz.underlying9 f4;obtain⟨s5,e5,d5,Gu⟩:=DataW.trod_string Tryz.underlying9 f5;have nj:s3.size+s4.size+s5.size<=Rows.uptoBulk x.1:=by
  rw[Rb];subst d3 d4 d5;have g3:=jI s3;have g4:=jI s4;have g5:=jI s5;simp only[List.map_cons,List.map_nil,Rows.uptoBulk,Rows.uptoBulkAll];omega
 have e6:∃ a n c,c6=.slice a n c:=by
  rcases DataW.trod_slice Tryz.underlying24 f6 with⟨h,_⟩ | ⟨a,len,cap,_,_,_,_,h,_⟩
  ·injection h with h;exact⟨_,_,_,h⟩
  ·injection h with h;exact⟨_,_,_,h⟩
 obtain⟨a6,n6,Xa,rfl⟩:=e6;injection e0 with e0
 injection e1 with e1
 injection e2 with e2
 injection e3 with e3
 injection e4 with e4
 injection e5 with e5
 subst e0 e1 e2 e3 e4 e5;have d0:=cd 0 (by omega);have d1:=cd 1 (by omega);have d2:=cd 2 (by omega);have d3:=cd 3 (by omega);have d4:=cd 4 (by omega);have d5:=cd 5 (by omega);have d6:=cd 6 (by omega);simp only[Addr.add,List.getElem?_cons_zero,List.getElem?_cons_succ] at d0 d1 d2 d3 d4 d5 d6;exact⟨⟨k0,k1,k2,s3,s4,s5,a6,n6,Xa⟩,by simpa using d0,by simpa using d1,by simpa using d2,by simpa using d3,by simpa using d4,by simpa using d5,by simpa using d6,⟨Vv r1,Vv r2,QT,YF,Gu⟩,nj⟩
theorem zsa {enc:TypeId × Value->H}{a0:O8}{len cap:Nat}{d0:DataW H}{p:List MemPlace}(h0:DataW.Trod enc Tryz.prog W 0 (λ _=>true) true 22 (.slice a0 len cap) d0 p)(hk:Rows.uptoBulk d0<=1048576):
  ∃ O:Nat->OpV,H7 W a0 len O/\(∀ i,i<len->z9h (O i)/\(O i).s.size+(O i).t.size+(O i).u.size<=1048576)/\len<=1048576:=by
 obtain⟨fuel,hf⟩:=h0;rcases open_slice Tryz.underlying22 hf with⟨ij,hx⟩ | ⟨a,Y0,dn,m,n,D,Pl,ij,_,hl,hm,nx,hx,qo⟩
 ·simp[Value.cells] at ij;obtain⟨rfl,rfl,rfl⟩:=ij;exact⟨λ _=>⟨0,0,0,{ data:=#[] },{ data:=#[] },{ data:=#[] },none,0,0⟩,⟨λ i hi=>by omega⟩,λ i hi=>by omega,by omega⟩
 ·simp[Value.cells] at ij;obtain⟨rfl,rfl,rfl⟩:=ij;simp only[Prod.mk.injEq] at hx;obtain⟨rfl,rfl⟩:=hx;simp only[if_true] at nx;subst nx;have hlen:len<=1048576:=by
   simp only[Rows.uptoBulk] at hk;have:=z7e ((List.range len).map D);simp only[List.length_map,List.length_range] at this;omega
  obtain⟨g,off,sp⟩:=a;have Us:0<len->sp=none:=λ h=>by
   obtain⟨Pd,hc,_⟩:=qo 0 (by omega);rw[zvy] at hc;obtain⟨_,Qd,cd⟩:=World.cells?_some hc;obtain⟨c0,r,rfl⟩:∃ c0 r,Pd=c0::r:=by
    match Pd,Qd with
    | c0::r,_=>exact⟨c0,r,rfl⟩
   have JP:=cd 0 (by omega);simpa[Addr.add] using World.cell?_spot JP
  have each:∀ i,i<len->∃ o:OpV,W.cell? ⟨g,off+i*7,none⟩=some (.int .i64 o.kd)/\W.cell? ⟨g,off+i*7+1,none⟩=some (.int .i64 o.a)/\W.cell? ⟨g,off+i*7+2,none⟩=some (.int .i64 o.b)/\W.cell? ⟨g,off+i*7+3,none⟩=some (.string o.s)/\W.cell? ⟨g,off+i*7+4,none⟩=some (.string o.t)/\W.cell? ⟨g,off+i*7+5,none⟩=some (.string o.u)/\W.cell? ⟨g,off+i*7+6,none⟩=some (.slice o.at_ o.nt o.ct)/\z9h o/\o.s.size+o.t.size+o.u.size<=1048576:=by
   intro i hi;obtain⟨Pd,hc,ht⟩:=qo i (by omega);rw[zvy] at hc;have hs:=Us (by omega);subst hs;have e:(⟨g,off,none⟩:Addr).add (i*7)=⟨g,off+i*7,none⟩:=(by unfold Addr.add;split <;> simp_all);rw[e] at hc;obtain⟨o,q0,q1,q2,q3,q4,q5,q6,q7,q8⟩:=z7t hc ht;refine⟨o,q0,q1,q2,q3,q4,q5,q6,q7,Nat.le_trans q8 ?_⟩;have cg:=z7m (l:=(List.range len).map D) (d:=D i) (List.mem_map.2 ⟨i,List.mem_range.2 hi,rfl⟩);simp only[Rows.uptoBulk] at hk;simp only;omega
  refine⟨λ i=>if h:i<len then Classical.choose (each i h) else ⟨0,0,0,{ data:=#[] },{ data:=#[] },{ data:=#[] },none,0,0⟩,⟨λ i hi=>?_⟩,λ i hi=>?_,hlen⟩
  ·obtain⟨q0,q1,q2,q3,q4,q5,q6,q7⟩:=Classical.choose_spec (each i hi);have hs:=Us (by omega);subst hs;simp only[dif_pos hi];exact⟨g,off,rfl,World.block_lt_of_cell? W _ q0,q0,q1,q2,q3,q4,q5,q6,q7.1.s⟩
  ·obtain⟨q0,q1,q2,q3,q4,q5,q6,q7⟩:=Classical.choose_spec (each i hi);simp only[dif_pos hi];exact q7
end
end Go.Proofs.YtldkpahaocjdpaaGreat
