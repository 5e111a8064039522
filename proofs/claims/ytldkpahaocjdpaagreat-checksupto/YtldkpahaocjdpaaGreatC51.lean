/-
  The law's plays: true at every script whose steps are each answered as they should be.
-/
import Derived.Test.YtldkpahaocjdpaaGreatC47
import Derived.Test.YtldkpahaocjdpaaGreatRows
import Derived.ProofKit
import Derived.SizedLaws
import Derived.ChangeSlices
import Derived.Deep.Slices
import Derived.Deep.Strs
import Derived.Deep.CondSized
import Derived.JoinedCond
import Derived.Test.YtldkpahaocjdpaaGreatC50
set_option maxHeartbeats 16000000
set_option maxRecDepth 1000000
namespace Go.Proofs.YtldkpahaocjdpaaGreat
section
open Go.RowKit Go.Maps
structure z2t (o:OpV):Prop where
 a:-9223372036854775808<=o.a/\o.a<=9223372036854775807
 b:-9223372036854775808<=o.b/\o.b<=9223372036854775807
 s:o.s.size<=maxLen
 t:o.t.size<=maxLen
 u:o.u.size<=maxLen
def OpV.agg (o:OpV):Value:=.agg #[.int .i64 o.kd,.int .i64 o.a,.int .i64 o.b,.string o.s,.string o.t,.string o.u,.slice o.at_ o.nt o.ct]
def zlc (w0:W8)(o:OpV):Prop:=∀ (w:W8) (b:Nat) (cG bv tv sv:Value) (es:List PE) (mb mt ms:List MB),Below w0.heap.size w0 w->LW w b cG bv tv sv es mb mt ms->es.length<=10000000->mb.length<=10000000->mt.length<=10000000->ms.length<=10000000 ->
 Calls Tryz.prog 32 #[.pointer (some ⟨b,0,none⟩),o.agg] w (zjo w b cG bv tv sv es mb mt ms)
def zxr:Prop:=∀ (w:W8) (b:Nat) (cG bv tv sv:Value) (es:List PE) (mb mt ms:List MB),LW w b cG bv tv sv es mb mt ms->mb.length<=10000000->mt.length<=10000000->ms.length<=10000000->Calls Tryz.prog 33 #[.pointer (some ⟨b,1,none⟩)] w (jC w)
theorem z26 {ks:List Int}{j:Nat}(hj:j<ks.length)(f:Int->Bool):(ks.take (j+1)).any f=((ks.take j).any f||f ks[j]):=by
 rw[List.take_succ_eq_append_getElem hj,List.any_append];simp only[List.any_cons,List.any_nil,Bool.or_false]
structure MJ (w0 w:W8)(b k:Nat)(cG bv tv sv:Value)(es:List PE)(mb mt ms:List MB)(wr:W8):Prop where
 lw:LW wr b cG bv tv sv es mb mt ms
 below:Below w.heap.size w wr
 base:Below w0.heap.size w0 wr
 e:es.length<=k+2
 b:mb.length<=2*k+2
 t:mt.length<=2*k+2
 s:ms.length<=2*k+2
def yt (w0 w:W8)(b k:Nat)(wr:W8):Prop:=∃ cG bv tv sv es mb mt ms,MJ w0 w b k cG bv tv sv es mb mt ms wr
variable {k:Nat} {w0 w wr:W8}
theorem yt.drawn {b:Nat}(h:yt w0 w b k wr)(n:Nat):yt w0 w b k (wr.drewN n):=by
 obtain⟨cG,bv,tv,sv,es,mb,mt,ms,h⟩:=h;exact⟨cG,bv,tv,sv,es,mb,mt,ms,h.lw.below (below_drewN B9 _),below_drewN h.below _,below_drewN h.base _,h.e,h.b,h.t,h.s⟩
theorem yt.next {b:Nat}(h:yt w0 w b k wr):yt w0 w b (k+1) wr:=by
 obtain⟨cG,bv,tv,sv,es,mb,mt,ms,h⟩:=h;exact⟨cG,bv,tv,sv,es,mb,mt,ms,h.lw,h.below,h.base,by have:=h.e;omega,by have:=h.b;omega,by have:=h.t;omega,by have:=h.s;omega⟩
variable {w':W8}
theorem MJ.step {b k':Nat}{cG bv tv sv:Value}{es:List PE}{mb mt ms:List MB}{e:Ending}(h:MJ w0 w b k cG bv tv sv es mb mt ms wr)(hw:w0.heap.size<=w.heap.size)(hs:zjo wr b cG bv tv sv es mb mt ms e w')(hb:w.heap.size<=b)(hk:es.length<=k'+1/\mb.length<=2*k'/\mt.length<=2*k'/\ms.length<=2*k'):e=.returned (.bool true)/\yt w0 w b k' w':=by
 obtain⟨rfl,sB,uW,cR,Hz,kj,Ew,Ex,ms',hL,l0,l1,l2,l3,l4,hK⟩:=hs;have aT:=h.below.size;have zu:∀ x∈chg b cG bv tv sv,w.heap.size<=x:=λ x hx=>by have:=(h.lw.Be x hx).1;omega
 exact⟨rfl,sB,uW,cR,Hz,kj,Ew,Ex,ms',hL,zY h.below hK aT zu,zY h.base hK (by omega) (λ x hx=>by have:=zu x hx;omega),by omega,by omega,by omega,by omega⟩
theorem yt.still {b:Nat}{e:Ending}(h:yt w0 w b k wr)(hw:w0.heap.size<=w.heap.size)(hs:jC wr e w'):e=.returned (.bool true)/\yt w0 w b k w':=by
 obtain⟨cG,bv,tv,sv,es,mb,mt,ms,h⟩:=h;obtain⟨rfl,hB⟩:=hs;have aT:=h.below.size;exact⟨rfl,cG,bv,tv,sv,es,mb,mt,ms,h.lw.below hB,h.below.trans (hB.mono aT),h.base.trans (hB.mono (by omega)),h.e,h.b,h.t,h.s⟩
theorem z0u (w0 w:W8)(dK:Below w0.heap.size w0 w)(kd a b:Int)(s t u:B8)(at_:O8)(nt ct:Nat)(sa:O8)(len cap:Nat)(O:Nat->OpV)(kb:Nat)(ks:List Int)(h:IF w sa len O)(hl:len<=1048576)(Uh:∀ j (hj:j<ks.length),w.cell? ⟨kb,j,none⟩=some (.int .i64 ks[j]))(eU:ks.length<=100)(Nu:kb<w.heap.size)
  (hA:zlc w0 ⟨kd,a,b,s,t,u,at_,nt,ct⟩) (hO:∀ i,i<len->(O i).kd∈ks->zlc w0 (O i)) (Lw:zxr):
  Calls Tryz.prog 15 #[.agg #[.int .i64 kd,.int .i64 a,.int .i64 b,.string s,.string t,.string u,.slice at_ nt ct],.slice sa len cap,.slice (some ⟨kb,0,none⟩) ks.length ks.length] w (jC w):=by
 have b0:=((Below.refl w.heap.size w).alloc L9 (.cells #[.int .i64 kd,.int .i64 a,.int .i64 b,.string s,.string t,.string u,.slice at_ nt ct] 26)).alloc (by simp) (.cells #[.slice none 0 0,.slice none 0 0,.slice none 0 0,.slice none 0 0] 69);have PY:LW ((w.alloc (.cells #[.int .i64 kd,.int .i64 a,.int .i64 b,.string s,.string t,.string u,.slice at_ nt ct] 26)).alloc (.cells #[.slice none 0 0,.slice none 0 0,.slice none 0 0,.slice none 0 0] 69)) (w.heap.size+1) (.slice none 0 0) (.slice none 0 0) (.slice none 0 0) (.slice none 0 0) [] [] [] []:=by
  refine LW.start _ _ ?_;have:=heap_alloc_new (w.alloc (.cells #[.int .i64 kd,.int .i64 a,.int .i64 b,.string s,.string t,.string u,.slice at_ nt ct] 26)) (.cells #[.slice none 0 0,.slice none 0 0,.slice none 0 0,.slice none 0 0] 69);rw[World.size_alloc] at this;exact this
 have ed:((w.alloc (.cells #[.int .i64 kd,.int .i64 a,.int .i64 b,.string s,.string t,.string u,.slice at_ nt ct] 26)).alloc (.cells #[.slice none 0 0,.slice none 0 0,.slice none 0 0,.slice none 0 0] 69)).heap[w.heap.size]?=some (.cells #[.int .i64 kd,.int .i64 a,.int .i64 b,.string s,.string t,.string u,.slice at_ nt ct] 26 (0,0)):=by
  rw[Below.heap_alloc _ _ _ (by simp)];exact heap_alloc_new w _
 have hS:=zuh ((w.alloc (.cells #[.int .i64 kd,.int .i64 a,.int .i64 b,.string s,.string t,.string u,.slice at_ nt ct] 26)).alloc (.cells #[.slice none 0 0,.slice none 0 0,.slice none 0 0,.slice none 0 0] 69)) (w.heap.size+1) (.slice none 0 0) (.slice none 0 0) (.slice none 0 0) (.slice none 0 0) [] [] [] [] 0 0 zti { data:=#[] } { data:=#[] } none 0 0 PY z68 (by simp);unfold zti at hS;have Tw:MJ w0 w (w.heap.size+1) 0 (.slice none 0 0) (.slice none 0 0) (.slice none 0 0) (.slice none 0 0) [] [] [] [] ((w.alloc (.cells #[.int .i64 kd,.int .i64 a,.int .i64 b,.string s,.string t,.string u,.slice at_ nt ct] 26)).alloc (.cells #[.slice none 0 0,.slice none 0 0,.slice none 0 0,.slice none 0 0] 69)):=⟨PY,b0,dK.trans (b0.mono dK.size),by simp,by simp,by simp,by simp⟩;have JT:=zC Tw;have Er:=dK.size;clear PY Tw;go_enter Tryz.func15,Tryz.ntmps15;go_wp2_with fail;refine hS.mono ?_;rintro e w1 W5;obtain⟨rfl,Zc,Nb,KD,-,-,iK,Ni⟩:=W5;have cd:(yH { data:=#[101,100,103,101,40,97,44,98,41,46,32,101,100,103,101,40,98,44,99,41,46,32,112,97,116,104,40,88,44,89,41,32,58,45,32,101,100,103,101,40,88,44,89,41,46,32,112,97,116,104,40,88,44,90,41,32,58,45,32,101,100,103,101,40,88,44,89,41,44,32,112,97,116,104,40,89,44,90,41,46,32,102,97,114,40,88,41,32,58,45,32,112,97,116,104,40,97,44,88,41,44,32,110,111,116,32,101,100,103,101,40,97,44,88,41,46] }).1=true:=yaf;have BS:Nb.length=1:=by simpa using iK cd
 have oM:Below w.heap.size w w1:=zY b0 Ni (by simp;omega) (by simp[Value.ownBlock]);have Gm:Below w0.heap.size w0 w1:=dK.trans (oM.mono Er);have nz:=yX ed Ni (by simp[Value.ownBlock]);have cz:=Ni.size;simp at cz;obtain⟨Wx,WO,rfl⟩:=zD KD.row;have Tx:MJ w0 w (w.heap.size+1) 0 (.slice Wx Nb.length WO) (.slice none 0 0) (.slice none 0 0) (.slice none 0 0) Nb [] [] [] w1:=⟨KD,oM,Gm,by omega,by simp,by simp,by simp⟩;have oZ:=hA w1 (w.heap.size+1) _ _ _ _ Nb [] [] [] Gm KD (by omega) (by simp) (by simp) (by simp);unfold OpV.agg at oZ;have Bu:=KD.cP;rw[BS] at Bu;obtain⟨p0,FL⟩:=zB Bu 0;obtain⟨y0,Zk⟩:=zB nz 0;obtain⟨y1,Jh⟩:=zB nz 1;obtain⟨y2,Zl⟩:=zB nz 2;obtain⟨y3,Vd⟩:=zB nz 3;obtain⟨y4,R4⟩:=zB nz 4;obtain⟨y5,Zm⟩:=zB nz 5;obtain⟨y6,Zn⟩:=zB nz 6;have DF:=zC Tx;have Sf:=zC oZ;have MV:=zC BS;clear hS ed Ni b0 cd Tx oZ KD Bu nz oM Gm iK BS JT;go_wp2_with fail;refine (zA Sf).mono ?_;rintro e w2 aP;obtain⟨rfl,Ty⟩:=(zA DF).step (k':=0) Er aP (by omega) ⟨by rw[zA MV];exact Nat.le_refl _,Nat.le_refl _,Nat.le_refl _,Nat.le_refl _⟩;have qv:=zC Ty;clear aP Ty DF Sf MV p0 FL y0 y1 y2 y3 y4 y5 y6 Zk Jh Zl Vd R4 Zm Zn cz;have HS:=zC h;have IB:=zC Uh;have HO:=zC hO;clear h Uh hO hA dK;go_wp2_with fail
 go_loopg [9] len (λ gg i wr=>∃ k:Nat,k<=len/\gg=len-k/\i=.int .i64 k/\yt w0 w (w.heap.size+1) k wr)
 exact⟨0,Nat.zero_le _,rfl,rfl,zA qv⟩
 case round=>
  clear qv;obtain⟨k,hk,iZ,rfl,hP⟩:=hrel
  by_cases aE:k<len
  ·obtain⟨g,off,rfl,GI,_⟩:=(zA HS).el k aE;have jb:(k:Int)<len:=(by omega);have HP:=zC hP;clear hP;go_wp2_with fail
   go_loopg [10,11] ks.length (λ gg v i wi=>∃ j:Nat,j<=ks.length/\gg=ks.length-j/\i=.int .i64 j/\v=.bool ((ks.take j).any (λ x=>(O k).kd==x))/\yt w0 w (w.heap.size+1) k wi)
   exact⟨0,Nat.zero_le _,rfl,rfl,rfl,zA HP⟩
   case round=>
    clear HP;obtain⟨j,hj,BI,rfl,rfl,W9⟩:=hrel;obtain⟨cG,bv,tv,sv,es,mb,mt,ms,hP⟩:=W9;have hB:=hP.below;have hW:=hP.lw;obtain⟨g',Za,Fh,bR,c0,c1,c2,c3,c4,c5,c6,Cl⟩:=((zA HS).below hB).el k aE;injection Fh with Fh
    injection Fh with h1 h2 _
    subst h1 h2;have XX:=hB.size
    by_cases hjk:j<ks.length
    ·have hkc:wr.cell? ⟨kb,j,none⟩=some (.int .i64 ks[j]):=(hB.cell (by simpa using Nu)).trans (zA IB j hjk);have IW:(j:Int)<ks.length:=(by omega);have eS:=z26 hjk (λ x=>(O k).kd==x);have MW:Hid (yt w0 w (w.heap.size+1) k wr):=zC ⟨cG,bv,tv,sv,es,mb,mt,ms,hP⟩;have me:=zC eS;clear eS hP hB hW;generalize (ks.take j).any (λ x=>(O k).kd==x)=v0 at *;generalize ks[j]=x0 at *
     cases v0
     ·go_wp2_with fail;go_quiet (fail);go_wp2_with fail;go_roundg (ks.length-(j+1));exact⟨j+1,by omega,rfl,by go_num,by rw[zA me];rfl,(zA MW).drawn _⟩;omega
     ·go_wp2_with fail;go_quiet (fail);go_wp2_with fail;go_roundg (ks.length-(j+1));exact⟨j+1,by omega,rfl,by go_num,by rw[zA me];rfl,(zA MW).drawn _⟩;omega
    ·have zw:j=ks.length:=(by omega);have Uc:¬ ((j:Int)<ks.length):=(by omega);have LG:(ks.take j).any (λ x=>(O k).kd==x)=true->(O k).kd∈ks:=λ he=>by
      rw[zw,List.take_length,List.any_eq_true] at he;obtain⟨x,hx,he⟩:=he;rw[beq_iff_eq.1 he];exact hx
     have SE:=zC LG;have HP:=zC hP;clear LG hP zw BI hj;generalize (ks.take j).any (λ x=>(O k).kd==x)=v0 at *
     cases v0
     ·have VW:=zC (yt.next ⟨cG,bv,tv,sv,es,mb,mt,ms,zA HP⟩);clear HP hB hW SE;go_wp2_with fail;go_roundg (len-(k+1));exact⟨k+1,by omega,rfl,by go_num,zA VW⟩;omega
     ·have aP:=zA HO k aE (zA SE rfl) wr (w.heap.size+1) cG bv tv sv es mb mt ms (zA HP).base hW (by have:=(zA HP).e;omega) (by have:=(zA HP).b;omega) (by have:=(zA HP).t;omega) (by have:=(zA HP).s;omega);unfold OpV.agg at aP;have eN:=zC aP;clear aP hB hW;go_wp2_with fail;refine (zA eN).mono ?_;rintro e w3 aP;obtain⟨rfl,IM⟩:=(zA HP).step (k':=k+1) Er aP (by omega) ⟨by have:=(zA HP).e;omega,by have:=(zA HP).b;omega,by have:=(zA HP).t;omega,by have:=(zA HP).s;omega⟩;have sN:=zC IM;obtain⟨RO,WA,N1,Zg,WQ,YV,Y2,Y1,Bp⟩:=IM;have HL:=zC (Lw w3 (w.heap.size+1) RO WA N1 Zg WQ YV Y2 Y1 Bp.lw (by have:=Bp.b;omega) (by have:=Bp.t;omega) (by have:=Bp.s;omega));clear aP Bp eN HP c0 c1 c2 c3 c4 c5 c6 XX;go_wp2_with fail;refine (zA HL).mono ?_;rintro e w4 Ah;obtain⟨rfl,Tz⟩:=(zA sN).still Er Ah;have VR:=zC Tz;clear Ah Tz sN HL;go_wp2_with fail;go_roundg (len-(k+1));exact⟨k+1,by omega,rfl,by go_num,zA VR⟩;omega
  ·obtain⟨cG,bv,tv,sv,es,mb,mt,ms,hP⟩:=hP;have HB:=zC hP.below;clear hP;go_wp2_with fail;go_ret;exact⟨rfl,zA HB⟩
end
section
open Go.RowKit Go.Maps
variable {m:MB} {w:W8}
theorem zrx (h:AU w 185 (ziy m.mark) m):Calls Tryz.prog 54 #[m.agg] w (jC w):=by
 obtain⟨n,hn,h1,h2,h3,h4⟩:=h.each;have hf:=h.gH;obtain⟨a1,c1,e1⟩:=zD h1;obtain⟨a2,c2,e2⟩:=zD h2;obtain⟨a3,c3,e3⟩:=zD h3;obtain⟨a4,c4,e4⟩:=zD h4;unfold MB.agg;rw[e1] at h1 ⊢;rw[e2] at h2 ⊢;rw[e3] at h3 ⊢;rw[e4] at h4 ⊢;exact zw3 w 0 m.mark a1 a2 a3 a4 n (n+1) (n+2) (n+64) c1 c2 c3 c4 h1 h2 h3 h4 (by omega) (by omega) (by omega) (by omega) (by omega)
theorem zrw (h:AU w 5 (mkB m.mark) m):Calls Tryz.prog 52 #[m.agg] w (jC w):=by
 obtain⟨n,hn,h1,h2,h3,h4⟩:=h.each;have hf:=h.gH;obtain⟨a1,c1,e1⟩:=zD h1;obtain⟨a2,c2,e2⟩:=zD h2;obtain⟨a3,c3,e3⟩:=zD h3;obtain⟨a4,c4,e4⟩:=zD h4;unfold MB.agg;rw[e1] at h1 ⊢;rw[e2] at h2 ⊢;rw[e3] at h3 ⊢;rw[e4] at h4 ⊢;exact zw2 w 0 m.mark a1 a2 a3 a4 n (n+1) (n+2) (n+64) c1 c2 c3 c4 h1 h2 h3 h4 (by omega) (by omega) (by omega) (by omega) (by omega)
theorem zry (h:AU w 9 (mkT m.mark) m):Calls Tryz.prog 53 #[m.agg] w (jC w):=by
 obtain⟨n,hn,h1,h2,h3,h4⟩:=h.each;have hf:=h.gH;obtain⟨a1,c1,e1⟩:=zD h1;obtain⟨a2,c2,e2⟩:=zD h2;obtain⟨a3,c3,e3⟩:=zD h3;obtain⟨a4,c4,e4⟩:=zD h4;unfold MB.agg;rw[e1] at h1 ⊢;rw[e2] at h2 ⊢;rw[e3] at h3 ⊢;rw[e4] at h4 ⊢;exact zw4 w 0 m.mark a1 a2 a3 a4 n (n+1) (n+2) (n+64) c1 c2 c3 c4 h1 h2 h3 h4 (by omega) (by omega) (by omega) (by omega) (by omega)
theorem z3y:zxr:=λ w b cG bv tv sv _ mb mt ms h l1 l2 l3=>
 zz1 w b cG bv tv sv mb mt ms mkB mkT ziy h.cP h.bs h.ts h.ss (by omega) (by omega) (by omega) (λ _ _ _ hm=>zrw hm) (λ _ _ _ hm=>zry hm) (λ _ _ _ hm=>zrx hm)
theorem z1i (w0:W8)(o:OpV)(h:z2t o)(hk:o.kd=1):zlc w0 o:=by
 intro w b cG bv tv sv es mb mt ms _ hL l1 l2 l3 l4;obtain⟨kd,a,bb,s,t,u,at_,nt,ct⟩:=o
 cases hk
 exact (zuh w b cG bv tv sv es mb mt ms a bb s t u at_ nt ct hL h.s (by omega)).mono λ e w' h=>h.Zf
end
section
open Go.ChangeShapes Go.WideShapes Go.ChangeAt Go.RowKit Go.Deep
theorem yau:ownKnob Tryz.prog.godebug=none:=by kernel_rfl
theorem yak:laidOutB Tryz.prog=true:=by kernel_rfl
theorem ztd:Tryz.prog.cellsOf 26=7:=by kernel_rfl
theorem zo3:Tryz.prog.cellsOf 3=1:=by kernel_rfl
theorem zym:Tryz.prog.cellsOf 9=1:=by kernel_rfl
theorem zu6:Tryz.prog.cellsOf 24=1:=by kernel_rfl
variable {H:Type}
theorem z4d (d:DataW H):1<=Rows.uptoBulk d:=by
 cases d with
 | lit l=>cases l <;> simp[Rows.uptoBulk]
 | nil=>simp[Rows.uptoBulk]
 | ptr d=>simp[Rows.uptoBulk]
 | slice elems spare=>simp[Rows.uptoBulk]
 | agg parts=>simp[Rows.uptoBulk]
 | iface t d=>simp[Rows.uptoBulk]
 | map entries=>simp[Rows.uptoBulk]
 | held h=>simp[Rows.uptoBulk]
theorem ztn (l:List (DataW H)):l.length<=Rows.uptoBulkAll l:=by
 induction l with
 | nil=>simp[Rows.uptoBulkAll]
 | cons x r ih=>have:=z4d x;simp only[Rows.uptoBulkAll,List.length_cons];omega
theorem Sa {n:Int}(h:(Lit.int .i64 n).wf=true):-9223372036854775808<=n/\n<=9223372036854775807:=by
 simpa[Lit.wf,IntKind.min,IntKind.max,IntKind.signed,IntKind.bits] using h
end
section
open Go.ChangeShapes Go.WideShapes Go.ChangeAt Go.RowKit Go.Deep
theorem z34 {H:Type}{l:List (DataW H)}{d:DataW H}(h:d∈l):Rows.uptoBulk d<=Rows.uptoBulkAll l:=by
 induction l with
 | nil=>cases h
 | cons x r ih=>
  simp only[Rows.uptoBulkAll];rcases List.mem_cons.1 h with rfl | h
  ·omega
  ·have:=ih h;omega
end
section
open Go.ChangeShapes Go.WideShapes Go.ChangeAt Go.RowKit Go.Deep
structure CM (w:W8)(a:O8)(n c:Nat):Prop where
 len:n<=1048576
 cap:n<=c
 max:c<=maxLen
 at_:0<n->∃ g off,a=some ⟨g,off,none⟩/\g<w.heap.size/\∀ j,j<n->∃ k:Int,w.cell? ⟨g,off+j,none⟩=some (.int .i64 k)/\-9223372036854775808<=k/\k<=9223372036854775807
theorem CM.nil (w:W8):CM w none 0 0:=⟨Nat.zero_le _,Nat.le_refl _,Nat.zero_le _,λ h=>absurd h (Nat.lt_irrefl 0)⟩
variable {W:W8} {H:Type}
theorem z4e {enc:TypeId × Value->H}{base n g off:Nat}{cs:V8}{x:DataW H × List MemPlace}{spare:Nat->Bool}{held:Bool}(hc:W.cells? base ⟨g,off,none⟩ 7=some cs)(ht:DataW.trod enc Tryz.prog W base spare held n 26 cs=some x):
  ∃ o:OpV,W.cell? ⟨g,off,none⟩=some (.int .i64 o.kd)/\W.cell? ⟨g,off+1,none⟩=some (.int .i64 o.a)/\W.cell? ⟨g,off+2,none⟩=some (.int .i64 o.b)/\W.cell? ⟨g,off+3,none⟩=some (.string o.s)/\W.cell? ⟨g,off+4,none⟩=some (.string o.t)/\W.cell? ⟨g,off+5,none⟩=some (.string o.u)/\W.cell? ⟨g,off+6,none⟩=some (.slice o.at_ o.nt o.ct)/\z2t o/\o.s.size+o.t.size+o.u.size<=Rows.uptoBulk x.1/\(Rows.uptoBulk x.1<=1048576->CM W o.at_ o.nt o.ct):=by
 obtain⟨_,IY,eT⟩:=World.cells?_some hc;obtain⟨xs,m,_,NS,hlen,nU,hf⟩:=DataW.trod_struct Tryz.underlying26 ht;obtain⟨c0,c1,c2,c3,c4,c5,c6,rfl⟩:∃ c0 c1 c2 c3 c4 c5 c6,cs=[c0,c1,c2,c3,c4,c5,c6]:=by
  match cs,IY with
  | [c0,c1,c2,c3,c4,c5,c6],_=>exact⟨c0,c1,c2,c3,c4,c5,c6,rfl⟩
 obtain⟨y0,y1,y2,y3,y4,y5,y6,rfl⟩:∃ y0 y1 y2 y3 y4 y5 y6,xs=[y0,y1,y2,y3,y4,y5,y6]:=by
  match xs,nU with
  | [y0,y1,y2,y3,y4,y5,y6],_=>exact⟨y0,y1,y2,y3,y4,y5,y6,rfl⟩
 have f0 := hf 0 { name := "Kind", type := 3, offset := 0, embedded := false, tag := "", pkgPath := "", byteOffset := 0 } rfl;have f1 := hf 1 { name := "A", type := 3, offset := 1, embedded := false, tag := "", pkgPath := "", byteOffset := 8 } rfl;have f2 := hf 2 { name := "B", type := 3, offset := 2, embedded := false, tag := "", pkgPath := "", byteOffset := 16 } rfl;have f3 := hf 3 { name := "S", type := 9, offset := 3, embedded := false, tag := "", pkgPath := "", byteOffset := 24 } rfl;have f4 := hf 4 { name := "T", type := 9, offset := 4, embedded := false, tag := "", pkgPath := "", byteOffset := 40 } rfl;have f5 := hf 5 { name := "U", type := 9, offset := 5, embedded := false, tag := "", pkgPath := "", byteOffset := 56 } rfl;have f6 := hf 6 { name := "Turns", type := 24, offset := 6, embedded := false, tag := "", pkgPath := "", byteOffset := 72 } rfl;simp only[zo3,zym,zu6,List.drop_zero,List.drop_succ_cons,List.take_succ_cons,List.take_zero,List.getElem?_cons_zero,List.getElem?_cons_succ] at f0 f1 f2 f3 f4 f5 f6;obtain⟨k0,e0,_,_⟩:=DataW.trod_int Tryz.underlying3 f0;obtain⟨k1,e1,_,r1⟩:=DataW.trod_int Tryz.underlying3 f1;obtain⟨k2,e2,_,r2⟩:=DataW.trod_int Tryz.underlying3 f2;obtain⟨s3,e3,d3,Yw⟩:=DataW.trod_string Tryz.underlying9 f3;obtain⟨s4,e4,d4,Yx⟩:=DataW.trod_string Tryz.underlying9 f4;obtain⟨s5,e5,d5,I7⟩:=DataW.trod_string Tryz.underlying9 f5;have sd:s3.size+s4.size+s5.size<=Rows.uptoBulk x.1:=by
  rw[NS];subst d3 d4 d5;have g3:=qR s3;have g4:=qR s4;have g5:=qR s5;simp only[List.map_cons,List.map_nil,Rows.uptoBulk,Rows.uptoBulkAll];omega
 have e6:∃ a n c,c6=.slice a n c/\(Rows.uptoBulk x.1<=1048576->CM W a n c):=by
  have TN:Rows.uptoBulk y6.1<=Rows.uptoBulk x.1:=by
   rw[NS];simp only[List.map_cons,List.map_nil,Rows.uptoBulk,Rows.uptoBulkAll];omega
  rcases open_slice1 Tryz.underlying24 zo3 f6 with⟨h,_⟩ | ⟨a,len,cap,m6,n6,V,D,Pl,h,_,hl,hm,uB,hx,qy⟩
  ·injection h with h
   exact⟨_,_,_,h,λ _=>⟨by omega,by omega,by unfold maxLen;omega,λ h=>by omega⟩⟩
  ·injection h with h
   refine⟨_,_,_,h,λ hk=>⟨?_,hl,hm,λ h0=>?_⟩⟩
   ·have h1:=congrArg Prod.fst hx;simp only at h1;rw[h1] at TN;simp only[Rows.uptoBulk] at TN;have:=ztn ((List.range len).map D);simp only[List.length_map,List.length_range] at this;omega
   ·have bh:len<=m6:=(by rw[uB];split <;> omega);obtain⟨g,off,sp⟩:=a;have NM:sp=none:=by
     have:=World.cell?_spot (qy 0 (by omega)).1;simpa[Addr.add] using this
    subst NM;have e:∀ i,(⟨g,off,none⟩:Addr).add i=⟨g,off+i,none⟩:=λ i=>by unfold Addr.add;split <;> simp_all
    refine⟨g,off,rfl,World.block_lt_of_cell? W _ (qy 0 (by omega)).1,λ j hj=>?_⟩;obtain⟨h1,h2⟩:=qy j (by omega);obtain⟨k,e1,_,r⟩:=DataW.trod_int Tryz.underlying3 h2;injection e1 with e1
    rw[e1,e] at h1;exact⟨k,h1,Sa r⟩
 obtain⟨a6,n6,WH,rfl,YF⟩:=e6;injection e0 with e0
 injection e1 with e1
 injection e2 with e2
 injection e3 with e3
 injection e4 with e4
 injection e5 with e5
 subst e0 e1 e2 e3 e4 e5;have d0:=eT 0 (by omega);have d1:=eT 1 (by omega);have d2:=eT 2 (by omega);have d3:=eT 3 (by omega);have d4:=eT 4 (by omega);have d5:=eT 5 (by omega);have d6:=eT 6 (by omega);simp only[Addr.add,List.getElem?_cons_zero,List.getElem?_cons_succ] at d0 d1 d2 d3 d4 d5 d6;exact⟨⟨k0,k1,k2,s3,s4,s5,a6,n6,WH⟩,by simpa using d0,by simpa using d1,by simpa using d2,by simpa using d3,by simpa using d4,by simpa using d5,by simpa using d6,⟨Sa r1,Sa r2,Yw,Yx,I7⟩,sd,YF⟩
theorem zp0 {enc:TypeId × Value->H}{a0:O8}{len cap:Nat}{d0:DataW H}{p:List MemPlace}(h0:DataW.Trod enc Tryz.prog W 0 (λ _=>true) true 22 (.slice a0 len cap) d0 p)(hk:Rows.uptoBulk d0<=1048576):
  ∃ O:Nat->OpV,IF W a0 len O/\(∀ i,i<len->z2t (O i)/\(O i).s.size+(O i).t.size+(O i).u.size<=1048576/\CM W (O i).at_ (O i).nt (O i).ct)/\len<=1048576:=by
 obtain⟨fuel,hf⟩:=h0;rcases open_slice Tryz.underlying22 hf with⟨ll,hx⟩ | ⟨a,YU,kD,m,n,D,Pl,ll,_,hl,hm,uB,hx,qy⟩
 ·simp[Value.cells] at ll;obtain⟨rfl,rfl,rfl⟩:=ll;exact⟨λ _=>⟨0,0,0,{ data:=#[] },{ data:=#[] },{ data:=#[] },none,0,0⟩,⟨λ i hi=>by omega⟩,λ i hi=>by omega,by omega⟩
 ·simp[Value.cells] at ll;obtain⟨rfl,rfl,rfl⟩:=ll;simp only[Prod.mk.injEq] at hx;obtain⟨rfl,rfl⟩:=hx;simp only[if_true] at uB;subst uB;have hlen:len<=1048576:=by
   simp only[Rows.uptoBulk] at hk;have:=ztn ((List.range len).map D);simp only[List.length_map,List.length_range] at this;omega
  obtain⟨g,off,sp⟩:=a;have NM:0<len->sp=none:=λ h=>by
   obtain⟨Pt,hc,_⟩:=qy 0 (by omega);rw[ztd] at hc;obtain⟨_,IY,eT⟩:=World.cells?_some hc;obtain⟨c0,r,rfl⟩:∃ c0 r,Pt=c0::r:=by
    match Pt,IY with
    | c0::r,_=>exact⟨c0,r,rfl⟩
   have Ke:=eT 0 (by omega);simpa[Addr.add] using World.cell?_spot Ke
  have each:∀ i,i<len->∃ o:OpV,W.cell? ⟨g,off+i*7,none⟩=some (.int .i64 o.kd)/\W.cell? ⟨g,off+i*7+1,none⟩=some (.int .i64 o.a)/\W.cell? ⟨g,off+i*7+2,none⟩=some (.int .i64 o.b)/\W.cell? ⟨g,off+i*7+3,none⟩=some (.string o.s)/\W.cell? ⟨g,off+i*7+4,none⟩=some (.string o.t)/\W.cell? ⟨g,off+i*7+5,none⟩=some (.string o.u)/\W.cell? ⟨g,off+i*7+6,none⟩=some (.slice o.at_ o.nt o.ct)/\z2t o/\o.s.size+o.t.size+o.u.size<=1048576/\CM W o.at_ o.nt o.ct:=by
   intro i hi;obtain⟨Pt,hc,ht⟩:=qy i (by omega);rw[ztd] at hc;have hs:=NM (by omega);subst hs;have e:(⟨g,off,none⟩:Addr).add (i*7)=⟨g,off+i*7,none⟩:=(by unfold Addr.add;split <;> simp_all);rw[e] at hc;obtain⟨o,q0,q1,q2,q3,q4,q5,q6,q7,q8,q9⟩:=z4e hc ht;have bY:=z34 (l:=(List.range len).map D) (d:=D i) (List.mem_map.2 ⟨i,List.mem_range.2 hi,rfl⟩);simp only[Rows.uptoBulk] at hk;have hle:Rows.uptoBulk (D i,Pl i).1<=1048576:=(by simp only;omega);exact⟨o,q0,q1,q2,q3,q4,q5,q6,q7,Nat.le_trans q8 hle,q9 hle⟩
  refine⟨λ i=>if h:i<len then Classical.choose (each i h) else ⟨0,0,0,{ data:=#[] },{ data:=#[] },{ data:=#[] },none,0,0⟩,⟨λ i hi=>?_⟩,λ i hi=>?_,hlen⟩
  ·obtain⟨q0,q1,q2,q3,q4,q5,q6,q7⟩:=Classical.choose_spec (each i hi);have hs:=NM (by omega);subst hs;simp only[dif_pos hi];exact⟨g,off,rfl,World.block_lt_of_cell? W _ q0,q0,q1,q2,q3,q4,q5,q6,q7.1.s⟩
  ·obtain⟨q0,q1,q2,q3,q4,q5,q6,q7⟩:=Classical.choose_spec (each i hi);simp only[dif_pos hi];exact q7
end
section
open Go.RowKit Go.Maps
variable {m g:Nat} {w:W8}
theorem z4g {base:Nat}{e:TypeId}{n cap:Nat}{xs:V8}(h:w.ownsRow base e 1 (.slice (some ⟨g,0,none⟩) n cap) n xs)(hm:m<=n):w.ownsRow base e 1 (.slice (some ⟨g,0,none⟩) m cap) m (xs.take m):=by
 obtain⟨hl,h0 | ⟨g',kD,cur,hv,hb,hg,cZ,da,ll,vt⟩⟩:=h
 ·cases h0.1
 ·injection hv with e1 e2 e3
  injection e1 with e1
  injection e1 with e1
  subst e1 e3;refine⟨by rw[List.length_take,hl];omega,.inr ⟨g,cap,cur,rfl,hb,hg,by omega,da,ll,?_⟩⟩;rw[<-vt,List.take_take]
  congr 1
  omega
theorem z6e (x:Int):∃ y:Nat,Value.int .u8 (x%256)=u8c y:=⟨(x%256).toNat,by unfold u8c;congr 1;omega⟩
structure yx (w:W8)(B:Nat)(a:O8)(c:Nat)(bs:List Nat)(wr:W8):Prop where
 below:Below B w wr
 row:wr.ownsRow B 5 1 (.slice a bs.length c) bs.length (bs.map u8c)
variable {x c B:Nat} {bs:List Nat} {a:O8} {wr:W8}
theorem yx.add {W w5:W8}{a':O8}{c':Nat}(h:yx w B a c bs wr)(hB:B<=w.heap.size)(hW:Below wr.heap.size wr W)(hg:W.grownBy w5 (Value.slice a bs.length c).ownBlock)(aC:w5.ownsRow B 5 1 (.slice a' (bs.length+1) c') (bs.length+1) (bs.map u8c++[u8c x])):yx w B a' c' (bs++[x]) w5:=by
 have hs:=h.below.size;have hz:=hW.size;refine⟨⟨hg.os.trans (hW.os.trans h.below.os),hg.tape.trans (hW.tape.trans h.below.tape),hg.output.trans (hW.output.trans h.below.output),Nat.le_trans hs (Nat.le_trans hz hg.size),λ i hi=>?_⟩,?_⟩
 ·rw[hg.block i (by omega) (λ e=>by have:=(h.row.lt i e.symm).1;omega),hW.block i (by omega)];exact h.below.block i hi
 ·rw[List.length_append,List.length_singleton,List.map_append];exact aC
theorem yx.cut (h:yx w B (some ⟨g,0,none⟩) c bs wr)(hm:m<=bs.length):yx w B (some ⟨g,0,none⟩) c (bs.take m) wr:=by
 have e:(bs.take m).length=m:=by rw[List.length_take];omega
 refine⟨h.below,?_⟩;rw[e,List.map_take];exact z4g h.row hm
theorem yx.set {k:Nat}(h:yx w B (some ⟨g,0,none⟩) c bs wr):yx w B (some ⟨g,0,none⟩) c (bs.set k x) (wr.setCell ⟨g,k,none⟩ (u8c x)):=by
 have hg:=(h.row.lt g rfl).1;refine⟨h.below.setCell hg _,?_⟩;rw[List.length_set,List.map_set];exact vT h.row k _
theorem yx.drew (h:yx w B a c bs wr):yx w B a c bs wr.drew:=⟨h.below.drew,h.row.drew⟩
def zle (B n:Nat)(w:W8)(e:Ending)(w':W8):Prop:=∃ s:B8,e=.returned (.string s)/\s.size<=n/\Below B w w'
theorem zw8 (w w0:W8)(B:Nat)(hB:B<=w.heap.size)(h0:Below w0.heap.size w0 w)(WS:w0.heap.size<=B)(a:O8)(c:Nat)(bs:List Nat)(h:w.ownsRow B 5 1 (.slice a bs.length c) bs.length (bs.map u8c))(hn:bs.length<=1000)(ta:O8)(nt ct:Nat)(ht:CM w0 ta nt ct):
  Calls Tryz.prog 93 #[.slice a bs.length c,.slice ta nt ct] w (zle B (bs.length+nt+1) w):=by
 obtain⟨i0,hi,cQ,cz,cx⟩:=info_parts zi7;have uD:=ht.len;have MQ:=zC (show yx w B a c bs w from ⟨Below.refl _ _,h⟩);have HT:=zC ht;have H0:=zC h0;clear h ht h0;generalize hN:bs.length=N at *;have HN:=zC hN;clear hN;go_enter Tryz.func93,Tryz.ntmps93;go_wp2_with fail
 go_loopg [0,5] (nt+1) (λ gg v i wr=>∃ (k:Nat) (a:O8) (c:Nat) (bs:List Nat),k<=nt+1/\gg=nt+1-k/\v=.slice a bs.length c/\i=.int .i64 k/\bs.length<=N+k/\yx w B a c bs wr)
 exact⟨0,a,c,bs,Nat.zero_le _,rfl,by rw[zA HN],rfl,by rw[zA HN];exact Nat.le_refl _,zA MQ⟩
 case round=>
  clear MQ;obtain⟨k,a,c,bs,hk,iZ,rfl,rfl,eK,ay⟩:=hrel;have bg:k<=1048577:=by omega
  have aM:bs.length<=1049577:=by omega
  have gJ:=zC ay
  by_cases aE:k+1<nt/\0<bs.length
  ·obtain⟨aE,aI⟩:=aE;obtain⟨g,kD,hv,hBg,bR⟩:=ay.row.form aI;injection hv with e1 e2 e3
   subst e1 e3;obtain⟨gt,ot,rfl,T8,Ma⟩:=(zA HT).at_ (by omega);obtain⟨t0,uy,pt,Ra⟩:=Ma k (by omega);obtain⟨t1,oO,lK,Rb⟩:=Ma (k+1) aE;have Al:Below w0.heap.size w0 wr:=(zA H0).trans (ay.below.mono WS);have q0:=(Al.cell (p:=⟨gt,ot+k,none⟩) T8).trans uy;have q1:=(Al.cell (p:=⟨gt,ot+(k+1),none⟩) T8).trans oO;have pe:=(zA HT).cap;have re:=(zA HT).max;unfold maxLen at re;have nC:(k:Int)+1<nt:=(by omega);have NJ:(0:Int)<bs.length:=(by omega);have XU:(k:Int)<nt:=(by omega);obtain⟨p,b8,yi⟩:=zn0 t0 (bs.length+2) (by omega) (by omega) pt Ra;have sm:∀ w,Calls Tryz.prog 51 #[.int .i64 t0,.int .i64 ((bs.length:Int)+2)] w λ e w'=>e=.returned (.int .i64 p)/\w'=w:=yi
   have JU:=zC sm;have UB:=z4t ay.row;have Re:=UB.2;unfold maxLen at Re;have Xn:(bs.length:Int)<=1049577:=(by omega);have XV:(k:Int)<=1048577:=by omega
   by_cases cF:p=bs.length
   ·subst cF;have bT:=ay.row.alloc (.cells #[.int .u8 (t1%256)] 5);have dJ:=zC (World.news_of_block (heap_alloc_new wr (.cells #[.int .u8 (t1%256)] 5)));clear ay uy oO Ma Al yi sm UB;go_wp2_with (first | (go_at_call 51;refine (zA JU _).mono ?_;rintro e wp ⟨rfl,vv⟩;have vv:=vv.symm;subst vv) | (at_builtin;refine wpList_append_own _ rfl _ _ 47 rfl B 5 i0 _ 1 1 Tryz.underlying47 hi cQ cz cx rfl (by decide) _ _ _ rfl bT ⟨wr.heap.size,0,none⟩ 1 1 [.int .u8 (t1%256)] rfl rfl (zA dJ) (by intro u hu;rw[List.mem_singleton.1 hu];rfl) (by unfold maxLen;omega) (by omega) (by simp;omega) ?_;intro v5 w5 aj aU hne5;clear hne5;obtain⟨a5,c5,rfl⟩:=zD aj;have zb:=zC aj;have uO:=zC aU;clear aj aU));go_roundg (nt+1-(k+2))
    case measure=>omega
    case rel=>
     obtain⟨y,hy⟩:=z6e t1;have Tv:=zA zb;rw[hy] at Tv;exact⟨k+2,a5,c5,bs++[y],by omega,rfl,by rw[List.length_append];rfl,by go_num,by rw[List.length_append,List.length_singleton];omega,(zA gJ).add hB (B9.alloc L9 _) (zA uO) Tv⟩
   ·by_cases iX:bs.length<p
    ·obtain⟨m,bh,Ca⟩:=zn0 t1 bs.length (by omega) (by omega) lK Rb;have OS:=zC Ca;have QZ:¬ ((p:Int)=bs.length):=(by omega);have Q4:(bs.length:Int)<p:=(by omega);have X8:(m:Int)<=c:=(by omega);have tL:(0:Int)<=m:=(by omega);clear ay uy oO Ma Al yi sm Ca;go_upto_region 6 with (go_at_call 51;refine (zA JU _).mono ?_;rintro e wp ⟨rfl,vv⟩;have vv:=vv.symm;subst vv);go_wp2_with (go_at_call 51;refine (zA OS _).mono ?_;rintro e wp ⟨rfl,vv⟩;have vv:=vv.symm;subst vv);go_roundg (nt+1-(k+2))
     case measure=>omega
     case rel=>
      refine⟨k+2,_,_,bs.take m,by omega,rfl,?_,by go_num,by rw[List.length_take];omega,(zA gJ).cut (by omega)⟩;rw[List.length_take,Nat.min_eq_left (by omega)]
    ·have NI:p<bs.length:=(by omega);have QZ:¬ ((p:Int)=bs.length):=(by omega);have Q4:¬ ((bs.length:Int)<p):=(by omega);have Yq:(p:Int)<bs.length:=(by omega);have c0:wr.cell? ⟨g,p,none⟩=some (.int .u8 (((bs[p]:Nat):Int)%256)):=by
      have:=World.ownsRow.cellAt ay.row p (by omega);rw[this,List.getElem?_map,List.getElem?_eq_getElem NI];rfl
     have f0:=zg6 ay.row p;generalize bs[p]=z at c0;clear ay uy oO Ma Al yi sm;go_upto_region 5 with (go_at_call 51;refine (zA JU _).mono ?_;rintro e wp ⟨rfl,vv⟩;have vv:=vv.symm;subst vv)
     go_region
     all_goals
      go_wp2_with fail;go_roundg (nt+1-(k+2))
      case measure=>omega
      case rel=>
       obtain⟨y,hy⟩:=z6e ((z:Int)+t1);rw[hy];exact⟨k+2,_,_,bs.set p y,by omega,rfl,by rw[List.length_set],by go_num,by rw[List.length_set];omega,(zA gJ).set.drew⟩
  ·have K6:=z3c ay.row rfl;have HS:=zC (show zle B (N+nt+1) w (.returned (.string (strOfNums (bs.map λ (x:Nat)=>(x:Int)%256)))) wr from ⟨_,rfl,by rw[strOfNums_size,List.length_map];omega,ay.below⟩);clear ay
   by_cases hlk1:k+1<nt
   ·have nC:(k:Int)+1<nt:=(by omega);have sR:¬ (0:Int)<bs.length:=(by omega);have aM:¬ 0<bs.length:=(by omega);go_wp2_with fail;go_ret;exact zA HS
   ·have nC:¬ (k:Int)+1<nt:=(by omega);go_wp2_with fail;go_ret;exact zA HS
end
section
open Go.RowKit Go.Maps
theorem zk3 {B:Nat->Bool}:∀ (l:List zQ) (i n:Nat) (pl:Nat->Nat) (out:List Nat),(∀ f∈l,f.fr.length<=3)->(zeq B l i n pl out).2.length<=out.length+4*l.length
 | [],i,n,pl,out,_=>by simp[zeq]
 | f::r,i,n,pl,out,h=>by
  have h3:=h f List.mem_cons_self;have hr:∀ f∈r,f.fr.length<=3:=λ f hf=>h f (List.mem_cons_of_mem _ hf)
  rw[zeq]
  split
  ·have:=zk3 (B:=B) r (i+1) (n+1) (dn pl i n) (out++f.r::f.fr.map (dn pl i n)) hr;simp only[List.length_append,List.length_cons,List.length_map] at this ⊢;omega
  ·have:=zk3 (B:=B) r (i+1) n pl out hr;simp only[List.length_cons];omega
theorem zud {k:Nat}{l:List zQ}{B:Nat->Bool}(h:∀ f∈l,f.fr.length<=3)(hl:l.length<=50):(zqo k l B).length<=1000:=by
 have:=zk3 (B:=B) l 0 0 (λ _=>0) [] h;unfold zqo;simp only[List.length_cons,List.length_nil] at this ⊢;omega
variable {s:B8}
theorem AS.bytes {w:W8}{t:B8}(cd:(yH t).1=true){S:Nat->Nat}{w':W8}{v:Value}{n:Nat}(h:AS w (yA t).2 S (yO t).1 s 50 w' v n):∃ (x d:Int) (a:O8) (bs:List Nat) (c:Nat),v=zk2 x d (.slice a bs.length c)/\bs.length<=1000/\w'.ownsRow w.heap.size 5 1 (.slice a bs.length c) bs.length (bs.map u8c):=by
 cases h with
 | arg _=>exact⟨_,_,none,[],0,rfl,by simp,World.ownsRow_nil _ _ _ _⟩
 | ask _ _ _=>exact⟨_,_,none,[],0,rfl,by simp,World.ownsRow_nil _ _ _ _⟩
 | Cu _ _ _ _=>exact⟨_,_,none,[],0,rfl,by simp,World.ownsRow_nil _ _ _ _⟩
 | out _ _ _ aP hl _ _ _ hr=>exact⟨_,_,_,_,_,rfl,zud (λ f hf=>(zss cd (by decide) aP f hf).1) hl,hr⟩
 | yes _ _ _ aP hl _ _ _ hr=>exact⟨_,_,_,_,_,rfl,zud (λ f hf=>(zss cd (by decide) aP f hf).1) hl,hr⟩
theorem z7v (h:(yH s).1=true):s.size<=maxLen:=by
 unfold maxLen
 by_cases hs:s.size<=800
 ·omega
 ·exfalso
  unfold yH at h;rw[if_pos (by omega)] at h
  cases h
theorem zmk (w w0:W8)(dK:Below w0.heap.size w0 w)(b:Nat)(cG bv tv sv:Value)(es:List PE)(mb mt ms:List MB)(h:LW w b cG bv tv sv es mb mt ms)(x y:Nat)(ps:B8)(lo:Nat)(hp:uq ps x y w lo)(a bb:Int)(s t u:B8)(at_:O8)(nt ct:Nat)(hs:s.size<=2000000)(ht:t.size<=2000000)(Rp:CM w0 at_ nt ct):
  Calls Tryz.prog 50 #[.pointer (some ⟨b,0,none⟩),.agg #[.int .i64 7,.int .i64 a,.int .i64 bb,.string s,.string t,.string u,.slice at_ nt ct],.agg #[.pointer (some ⟨x,0,none⟩),.pointer (some ⟨y,0,none⟩),.string ps]] w (zxl w b cG bv tv sv es mb mt ms):=by
 have b0:=((Below.refl w.heap.size w).alloc L9 (.cells #[.int .i64 7,.int .i64 a,.int .i64 bb,.string s,.string t,.string u,.slice at_ nt ct] 26)).alloc (by simp) (.cells #[.pointer (some ⟨x,0,none⟩),.pointer (some ⟨y,0,none⟩),.string ps] 112);have h0:=hp.below b0;have NI:((w.alloc (.cells #[.int .i64 7,.int .i64 a,.int .i64 bb,.string s,.string t,.string u,.slice at_ nt ct] 26)).alloc (.cells #[.pointer (some ⟨x,0,none⟩),.pointer (some ⟨y,0,none⟩),.string ps] 112)).heap[w.heap.size+1]?=some (.cells #[.pointer (some ⟨x,0,none⟩),.pointer (some ⟨y,0,none⟩),.string ps] 112 (0,0)):=by
  have:=heap_alloc_new (w.alloc (.cells #[.int .i64 7,.int .i64 a,.int .i64 bb,.string s,.string t,.string u,.slice at_ nt ct] 26)) (.cells #[.pointer (some ⟨x,0,none⟩),.pointer (some ⟨y,0,none⟩),.string ps] 112);rw[World.size_alloc] at this;exact this
 have Uq:((w.alloc (.cells #[.int .i64 7,.int .i64 a,.int .i64 bb,.string s,.string t,.string u,.slice at_ nt ct] 26)).alloc (.cells #[.pointer (some ⟨x,0,none⟩),.pointer (some ⟨y,0,none⟩),.string ps] 112)).heap[w.heap.size]?=some (.cells #[.int .i64 7,.int .i64 a,.int .i64 bb,.string s,.string t,.string u,.slice at_ nt ct] 26 (0,0)):=by
  rw[Below.heap_alloc _ _ _ (by simp)];exact heap_alloc_new w _
 have hC:=zpd h0 s hs 50;have lL:w.heap.size+2=((w.alloc (.cells #[.int .i64 7,.int .i64 a,.int .i64 bb,.string s,.string t,.string u,.slice at_ nt ct] 26)).alloc (.cells #[.pointer (some ⟨x,0,none⟩),.pointer (some ⟨y,0,none⟩),.string ps] 112)).heap.size:=by simp
 have ID:=zC lL;have gK:=zC hp.ok;have A8:=zC h;have lh:=zC b0;have M4:=zC dK;clear hp lL b0 h0 h dK;go_enter Tryz.func50,Tryz.ntmps50;go_wp2_with fail;refine hC.mono ?_;generalize ((w.alloc (.cells #[.int .i64 7,.int .i64 a,.int .i64 bb,.string s,.string t,.string u,.slice at_ nt ct] 26)).alloc (.cells #[.pointer (some ⟨x,0,none⟩),.pointer (some ⟨y,0,none⟩),.string ps] 112))=W0 at *;rintro e Jf ⟨S,v,n,rfl,gF,cC,LQ,Gy⟩;obtain⟨v1,d1,a1,bs,c1,rfl,eK,Hy⟩:=LQ.bytes (zA gK);unfold zk2;have lL:=zA ID;have aM:=Gy.alloc Gy.size (.cells #[.int .i64 v1,.int .i64 d1,.slice a1 bs.length c1] 49);have y1:=YB.new Jf v1 d1 (.slice a1 bs.length c1);have r1:=zH Hy ((Below.refl Jf.heap.size Jf).alloc L9 (.cells #[.int .i64 v1,.int .i64 d1,.slice a1 bs.length c1] 49)) (λ g e=>(Hy.lt g e).2);have lC:=zC aM;have Av:=zC r1;have S1:=zC y1;have SI:=zC ((aM.block (w.heap.size+1) (by omega)).trans NI);have OR:=zC ((aM.block w.heap.size (by omega)).trans Uq);clear hC NI Uq aM Gy r1 Hy y1 LQ gF cC lL;go_upto_region 32 with fail;generalize (Jf.alloc (.cells #[.int .i64 v1,.int .i64 d1,.slice a1 bs.length c1] 49))=w1 at *;generalize Jf.heap.size=A1 at *;have y2:=(zA S1).cells.2.2;obtain⟨o6,Y9⟩:=zB (zA OR) 6;have hT:=zw8 w1 w0 W0.heap.size (zA lC).size ((zA M4).trans (((zA lh).mono (zA M4).size).trans ((zA lC).mono (Nat.le_trans (zA M4).size (zA lh).size)))) (Nat.le_trans (zA M4).size (zA lh).size) a1 c1 bs (zA Av) eK at_ nt ct Rp;have uD:=Rp.len;clear Av S1;go_wp2_with fail;refine hT.mono ?_;rintro e w2 ⟨t1,rfl,sq,aH⟩;have lL:=zA ID;have LV:=(aH.block (w.heap.size+1) (by omega)).trans (zA SI);have Ha:=(aH.block w.heap.size (by omega)).trans (zA OR);have kR:=zC ((zA lh).trans (((zA lC).trans aH).mono (by omega)));have aT:=z7v (zA gK);obtain⟨p2,Zb⟩:=zB LV 2;obtain⟨o4,RN⟩:=zB Ha 4;obtain⟨o2,RM⟩:=zB Ha 2;clear hT aH LV Ha SI OR y2 o6 Y9 lh lC lL ID Rp;go_wp2_with fail
 refine (zo4 w2 ps t t1 _ aT ht (by omega)).mono ?_;rintro e w3 ⟨rfl,eG⟩;have kZ:=zC ((zA kR).trans (eG.mono (zA kR).size));clear eG p2 Zb o4 RN o2 RM;go_wp2_with fail;go_ret;exact⟨rfl,bv,tv,sv,mb,mt,ms,(zA A8).below (zA kZ),by omega,by omega,by omega,(zN.refl _ w).ai (zA kZ)⟩
theorem z1m (w:W8)(b:Nat)(cG bv tv sv:Value)(es:List PE)(mb mt ms:List MB)(a bb:Int)(s t u:B8)(at_:O8)(nt ct:Nat)(h:LW w b cG bv tv sv es mb mt ms)(hs:s.size<=maxLen)(ht:t.size<=2000000)(hu:u.size<=2000000):
  Calls Tryz.prog 32 #[.pointer (some ⟨b,0,none⟩),.agg #[.int .i64 6,.int .i64 a,.int .i64 bb,.string s,.string t,.string u,.slice at_ nt ct]] w (zjo w b cG bv tv sv es mb mt ms):=by
 have b0:=(Below.refl w.heap.size w).alloc L9 (.cells #[.int .i64 6,.int .i64 a,.int .i64 bb,.string s,.string t,.string u,.slice at_ nt ct] 26);have lh:=zC b0;have A8:=zC h;clear b0 h;go_enter Tryz.func32,Tryz.ntmps32;go_wp2_with fail;refine (zo4 _ s t u _ hs ht hu).mono ?_;rintro e w1 ⟨rfl,aM⟩;have HB:=zC ((zA lh).trans (aM.mono (zA lh).size));clear aM;go_wp2_with fail;go_ret;exact⟨rfl,cG,bv,tv,sv,es,mb,mt,ms,(zA A8).below (zA HB),Nat.le_refl _,by omega,by omega,by omega,by omega,(zN.refl _ w).ai (zA HB)⟩
end
end Go.Proofs.YtldkpahaocjdpaaGreat
