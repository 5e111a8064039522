/-
  The law's asked, at a Print and at a Strata.
-/
import Derived.Laws.BytesArg
import Derived.Test.YtldkpahaocjdpaaGreatC46
import Derived.Test.YtldkpahaocjdpaaGreatC40
set_option maxHeartbeats 16000000
set_option maxRecDepth 1000000
namespace Go.Proofs.YtldkpahaocjdpaaGreat
section
open Go.RowKit Go.Maps
theorem uq.below {s:B8}{xb yb:Nat}{w w':W8}{lo:Nat}(h:uq s xb yb w lo)(k:Below w.heap.size w w'):uq s xb yb w' lo:=h.kept ((zN.refl _ w).ai k)
def zxl (w:W8)(b:Nat)(cG bv tv sv:Value)(es:List PE)(mb mt ms:List MB):Ending->W8->Prop:=λ e w'=>e=.returned (.bool true)/\∃ uW cR Hz Ew Ex ms',LW w' b cG uW cR Hz es Ew Ex ms'/\Ew.length<=mb.length+2/\Ex.length<=mt.length+2/\ms'.length<=ms.length+2/\zN (chg b cG bv tv sv) w w'
end
section
open Go.RowKit Go.Maps
theorem zn0 (c:Int)(n:Nat)(hn:0<n)(hl:n<=1000000000000)(h1:-9223372036854775808<=c)(h2:c<=9223372036854775807):∃ k:Nat,k<n/\∀ w,Calls Tryz.prog 51 #[.int .i64 c,.int .i64 n] w λ e w'=>e=.returned (.int .i64 k)/\w'=w:=by
 have QN:¬ ((n:Int)=0):=by omega
 have AK:(0:Int)<n:=by omega
 by_cases hc:c<0
 ·obtain⟨k,hk,e⟩:=z4l hc hn;refine⟨k,hk,λ w=>?_⟩;have HE:=zC e;clear e;go_enter Tryz.func51,Tryz.ntmps51;go_wp2_with fail;go_ret;exact⟨by rw[<-zA HE];rfl,rfl⟩
 ·obtain⟨k,hk,e⟩:=z0t (Int.not_lt.1 hc) hn;refine⟨k,hk,λ w=>?_⟩;have HE:=zC e;clear e;go_enter Tryz.func51,Tryz.ntmps51;go_wp2_with fail;go_ret;exact⟨by rw[<-zA HE];rfl,rfl⟩
def zjo (w:W8)(b:Nat)(cG bv tv sv:Value)(es:List PE)(mb mt ms:List MB):Ending->W8->Prop:=λ e w'=>e=.returned (.bool true)/\∃ sB uW cR Hz kj Ew Ex ms',LW w' b sB uW cR Hz kj Ew Ex ms'/\es.length<=kj.length/\kj.length<=es.length+1/\Ew.length<=mb.length+2/\Ex.length<=mt.length+2/\ms'.length<=ms.length+2/\zN (chg b cG bv tv sv) w w'
theorem zuh (w:W8)(b:Nat)(cG bv tv sv:Value)(es:List PE)(mb mt ms:List MB)(a bb:Int)(s t u:B8)(at_:O8)(nt ct:Nat)(h:LW w b cG bv tv sv es mb mt ms)(hs:s.size<=maxLen)(hn:(es.length+1)*32<=140737488355328):
  Calls Tryz.prog 32 #[.pointer (some ⟨b,0,none⟩),.agg #[.int .i64 1,.int .i64 a,.int .i64 bb,.string s,.string t,.string u,.slice at_ nt ct]] w (N7 s w b cG bv tv sv es mb mt ms):=by
 have b0:=(Below.refl w.heap.size w).alloc L9 (.cells #[.int .i64 1,.int .i64 a,.int .i64 bb,.string s,.string t,.string u,.slice at_ nt ct] 26);have h0:=h.below b0;clear h;go_enter Tryz.func32,Tryz.ntmps32;go_wp2_with fail;refine (zzq _ b cG bv tv sv es mb mt ms 1 a bb s t u at_ nt ct h0 hs hn).mono ?_;rintro e w1 ⟨rfl,sB,kj,hW,l1,l2,l3,hK⟩;have L3:=zC l3;clear l3;have HK:=zC (((zN.refl (chg b cG bv tv sv) w).alloc _).step hK (λ x hx=>.inl hx));have HW:=zC hW;clear hK hW h0 b0;go_wp2_with fail;go_ret;exact⟨rfl,sB,kj,zA HW,l1,l2,zA L3,zA HK⟩
theorem N7.Zf {s:B8}{w w':W8}{b:Nat}{cG bv tv sv:Value}{es:List PE}{mb mt ms:List MB}{e:Ending}(h:N7 s w b cG bv tv sv es mb mt ms e w'):zjo w b cG bv tv sv es mb mt ms e w':=by
 obtain⟨rfl,sB,kj,hW,l1,l2,_,hK⟩:=h;exact⟨rfl,sB,bv,tv,sv,kj,mb,mt,ms,hW,l1,l2,by omega,by omega,by omega,hK⟩
end
section
open Go.RowKit Go.Maps
theorem z07 {w:W8}{base:Nat}{e:TypeId}{x v:Value}{n:Nat}(h:w.ownsRow base e 1 v n (rep [x] n))(k:Nat)(hk:k<n):∃ g cap,v=.slice (some ⟨g,0,none⟩) n cap/\g<w.heap.size/\n<=cap/\cap<=maxLen/\w.cell? ⟨g,k,none⟩=some x:=by
 have h':w.ownsRow base e 1 v (List.replicate n ()).length ((List.replicate n ()).flatMap λ _=>[x]):=by rw[List.length_replicate];exact h
 obtain⟨g,cap,hv,-,bR,cZ,da,hc⟩:=vU (f:=λ _:Unit=>[x]) (λ _=>rfl) h' k (by simpa using hk);rw[List.length_replicate] at hv cZ;refine⟨g,cap,hv,bR,cZ,da,?_⟩;have:=hc 0 (by simp);simpa using this
theorem zcj (w:W8)(base mk:Nat)(a:O8)(n c:Nat)(h:w.ownsRow base 5 1 (.slice a n c) n (rep (mkB mk) n))(hn:n<=100000)(pk:mk<=1000000000000):
  Calls Tryz.prog 94 #[.slice a n c,.int .i64 mk] w λ e w'=>e=.returned (.bool true)/\w'=w:=by
 have HA:=zC h;clear h;go_enter Tryz.func94,Tryz.ntmps94;go_wp2_with fail
 go_loopg [5] n (λ gg i wr=>∃ k:Nat,k<=n/\gg=n-k/\i=.int .i64 k/\wr=w)
 exact⟨0,Nat.zero_le _,rfl,rfl,rfl⟩
 case round=>
  obtain⟨k,hk,iZ,rfl,rfl⟩:=hrel
  by_cases aE:k<n
  ·obtain⟨g,cap,hv,bR,cZ,da,p0⟩:=z07 (zA HA) k aE;injection hv with h1 h2 h3
   subst h1 h3;go_wp2_with fail;go_roundg (n-(k+1));exact⟨k+1,by omega,rfl,by go_num,rfl⟩;omega
  ·go_wp2_with fail;go_ret;exact⟨rfl,rfl⟩
theorem zw2 (w:W8)(base mk:Nat)(a1 a2 a3 a4:O8)(n1 n2 n3 n4 c1 c2 c3 c4:Nat)(h1:w.ownsRow base 5 1 (.slice a1 n1 c1) n1 (rep (mkB mk) n1))(h2:w.ownsRow base 5 1 (.slice a2 n2 c2) n2 (rep (mkB mk) n2))(h3:w.ownsRow base 5 1 (.slice a3 n3 c3) n3 (rep (mkB mk) n3))(h4:w.ownsRow base 5 1 (.slice a4 n4 c4) n4 (rep (mkB mk) n4))(tN:n1<=100000)(uC:n2<=100000)(Df:n3<=100000)(LK:n4<=100000)(pk:mk<=1000000000000):
  Calls Tryz.prog 52 #[.agg #[.slice a1 n1 c1,.slice a2 n2 c2,.slice a3 n3 c3,.slice a4 n4 c4,.int .i64 mk]] w λ e w'=>e=.returned (.bool true)/\Below w.heap.size w w':=by
 have bA:=(Below.refl w.heap.size w).alloc L9 (.cells #[.slice a1 n1 c1,.slice a2 n2 c2,.slice a3 n3 c3,.slice a4 n4 c4,.int .i64 mk] 115);have H1:=zC h1;have H2:=zC h2;have H3:=zC h3;have H4:=zC h4;clear h1 h2 h3 h4;go_enter Tryz.func52,Tryz.ntmps52;go_wp2_with fail;refine (zcj _ base mk a1 n1 c1 ((zA H1).alloc _) tN pk).mono ?_;rintro e w' ⟨rfl,rfl⟩;go_wp2_with fail;refine (zcj _ base mk a2 n2 c2 ((zA H2).alloc _) uC pk).mono ?_;rintro e w' ⟨rfl,rfl⟩;go_wp2_with fail;refine (zcj _ base mk a3 n3 c3 ((zA H3).alloc _) Df pk).mono ?_;rintro e w' ⟨rfl,rfl⟩;go_wp2_with fail;refine (zcj _ base mk a4 n4 c4 ((zA H4).alloc _) LK pk).mono ?_;rintro e w' ⟨rfl,rfl⟩;go_wp2_with fail;go_ret;exact⟨rfl,bA⟩
end
section
open Go.RowKit Go.Maps
def mkS (n:Nat):B8:={ data:=#[35,UInt8.ofNat n,UInt8.ofNat (n/256)] }
theorem z7u (mk:Nat):strOfNums [35,(mk:Int)%256,(mk:Int)/256%256]=mkS mk:=by
 have e1:UInt8.ofNat ((mk:Int)%256).toNat=UInt8.ofNat mk:=by
  have:((mk:Int)%256).toNat=mk%256:=by omega
  rw[this];apply UInt8.toNat_inj.1;simp
 have e2:UInt8.ofNat ((mk:Int)/256%256).toNat=UInt8.ofNat (mk/256):=by
  have:((mk:Int)/256%256).toNat=mk/256%256:=by omega
  rw[this];apply UInt8.toNat_inj.1;simp
 simp only[strOfNums,List.map_cons,List.map_nil,e1,e2];rfl
theorem z63 (wr:W8)(mk:Nat):(convert 47 9 (.slice (some ⟨wr.heap.size,0,none⟩) 3 3)).run Tryz.prog ((wr.alloc (.cells #[.int .u8 35,.int .u8 ((mk:Int)%256),.int .u8 ((mk:Int)/256%256)] 5)).drew)=.ok (.string (mkS mk)) ((wr.alloc (.cells #[.int .u8 35,.int .u8 ((mk:Int)%256),.int .u8 ((mk:Int)/256%256)] 5)).drew):=by
 rw[<-z7u];refine run_convert_bytes_arg _ 47 5 Tryz.underlying47 Tryz.underlying5 _ 0 3 3 [35,(mk:Int)%256,(mk:Int)/256%256] rfl (λ i hi=>?_) _ Tryz.underlying9
 show ((wr.alloc _).drew).cell? ⟨wr.heap.size,0+i,none⟩=_
 rw[Nat.zero_add,World.cell?_drew,World.cell?_alloc_at _ _ _ _ rfl]
 match i,hi with
 | 0,_=>rfl
 | 1,_=>rfl
 | 2,_=>rfl
theorem z9h (n:Nat):mkT n=[.string (mkS n)]:=rfl
theorem zck (w:W8)(base mk:Nat)(a:O8)(n c:Nat)(h:w.ownsRow base 9 1 (.slice a n c) n (rep (mkT mk) n))(hn:n<=100000)(_:mk<=1000000000000):
  Calls Tryz.prog 95 #[.slice a n c,.int .i64 mk] w (jC w):=by
 rw[z9h] at h;have HA:=zC h;clear h;go_enter Tryz.func95,Tryz.ntmps95;go_wp2_with fail
 go_loopg [5] n (λ gg i wr=>∃ k:Nat,k<=n/\gg=n-k/\i=.int .i64 k/\Below w.heap.size w wr)
 exact⟨0,Nat.zero_le _,rfl,rfl,Below.refl _ _⟩
 case round=>
  obtain⟨k,hk,iZ,rfl,hb⟩:=hrel
  by_cases aE:k<n
  ·obtain⟨g,cap,hv,bR,cZ,da,p0⟩:=z07 (zH (zA HA) hb (λ g e=>((zA HA).lt g e).2)) k aE;injection hv with h1 h2 h3
   subst h1 h3;have hz:=hb.size;have K6:=z63 wr mk;go_wp2_with fail
   go_region
   all_goals
    go_wp2_with fail;go_roundg (n-(k+1));exact⟨k+1,by omega,rfl,by go_num,(hb.alloc hz _).drew⟩;omega
  ·go_wp2_with fail;go_ret;exact⟨rfl,hb⟩
theorem zw4 (w:W8)(base mk:Nat)(a1 a2 a3 a4:O8)(n1 n2 n3 n4 c1 c2 c3 c4:Nat)(h1:w.ownsRow base 9 1 (.slice a1 n1 c1) n1 (rep (mkT mk) n1))(h2:w.ownsRow base 9 1 (.slice a2 n2 c2) n2 (rep (mkT mk) n2))(h3:w.ownsRow base 9 1 (.slice a3 n3 c3) n3 (rep (mkT mk) n3))(h4:w.ownsRow base 9 1 (.slice a4 n4 c4) n4 (rep (mkT mk) n4))(tN:n1<=100000)(uC:n2<=100000)(Df:n3<=100000)(LK:n4<=100000)(pk:mk<=1000000000000):
  Calls Tryz.prog 53 #[.agg #[.slice a1 n1 c1,.slice a2 n2 c2,.slice a3 n3 c3,.slice a4 n4 c4,.int .i64 mk]] w (jC w):=by
 have bA:=(Below.refl w.heap.size w).alloc L9 (.cells #[.slice a1 n1 c1,.slice a2 n2 c2,.slice a3 n3 c3,.slice a4 n4 c4,.int .i64 mk] 117);have hA:(w.alloc (.cells #[.slice a1 n1 c1,.slice a2 n2 c2,.slice a3 n3 c3,.slice a4 n4 c4,.int .i64 mk] 117)).heap[w.heap.size]?=some (.cells #[.slice a1 n1 c1,.slice a2 n2 c2,.slice a3 n3 c3,.slice a4 n4 c4,.int .i64 mk] 117 (0,0)):=heap_alloc_new w _;have aG:w.heap.size<(w.alloc (.cells #[.slice a1 n1 c1,.slice a2 n2 c2,.slice a3 n3 c3,.slice a4 n4 c4,.int .i64 mk] 117)).heap.size:=by simp
 have H1:=zC (h1.alloc (.cells #[.slice a1 n1 c1,.slice a2 n2 c2,.slice a3 n3 c3,.slice a4 n4 c4,.int .i64 mk] 117));have H2:=zC (h2.alloc (.cells #[.slice a1 n1 c1,.slice a2 n2 c2,.slice a3 n3 c3,.slice a4 n4 c4,.int .i64 mk] 117));have H3:=zC (h3.alloc (.cells #[.slice a1 n1 c1,.slice a2 n2 c2,.slice a3 n3 c3,.slice a4 n4 c4,.int .i64 mk] 117));have H4:=zC (h4.alloc (.cells #[.slice a1 n1 c1,.slice a2 n2 c2,.slice a3 n3 c3,.slice a4 n4 c4,.int .i64 mk] 117));clear h1 h2 h3 h4;go_enter Tryz.func53,Tryz.ntmps53;go_wp2_with fail;refine (zck _ base mk a1 n1 c1 (zA H1) tN pk).mono ?_;rintro e w1 ⟨rfl,aM⟩;have oZ:=(aM.block w.heap.size aG).trans hA;have q2:=zH (zA H2) aM (λ g e=>((zA H2).lt g e).2);obtain⟨y1,Jh⟩:=zB oZ 1;obtain⟨y4,R4⟩:=zB oZ 4;have vg:=(Array.getElem?_eq_some_iff.1 oZ).1;go_wp2_with fail;refine (zck w1 base mk a2 n2 c2 q2 uC pk).mono ?_;rintro e w2 ⟨rfl,aH⟩;have Kr:=(aH.block w.heap.size vg).trans oZ;have lf:=aM.trans (aH.mono aM.size);have q3:=zH (zA H3) lf (λ g e=>((zA H3).lt g e).2);obtain⟨z2,EE⟩:=zB Kr 2;obtain⟨z4,R6⟩:=zB Kr 4;have sk:=(Array.getElem?_eq_some_iff.1 Kr).1;clear y1 Jh y4 R4 oZ q2;go_wp2_with fail;refine (zck w2 base mk a3 n3 c3 q3 Df pk).mono ?_;rintro e w3 ⟨rfl,eG⟩;have Pz:=(eG.block w.heap.size sk).trans Kr;have lU:=lf.trans (eG.mono lf.size);have q4:=zH (zA H4) lU (λ g e=>((zA H4).lt g e).2);obtain⟨x3,Jg⟩:=zB Pz 3;obtain⟨x4,RZ⟩:=zB Pz 4;clear z2 EE z4 R6 Kr q3;go_wp2_with fail;refine (zck w3 base mk a4 n4 c4 q4 LK pk).mono ?_;rintro e w4 ⟨rfl,cM⟩;have HB:=zC (bA.trans ((lU.trans (cM.mono lU.size)).mono (by simp)));clear x3 Jg x4 RZ Pz q4 aM aH eG cM lf lU bA hA;go_wp2_with fail;go_ret;exact⟨rfl,zA HB⟩
end
section
open Go.RowKit Go.Maps
theorem z48 (w:W8)(b:Nat)(cG bv tv sv:Value)(es:List PE)(mb mt ms:List MB)(kd a bb:Int)(s t u:B8)(at_:O8)(nt ct:Nat)(h:LW w b cG bv tv sv es mb mt ms)(hl:es.length<=1000000000000)(ha:-9223372036854775808<=a/\a<=9223372036854775807)(hk:kd=4\/kd=5\/kd=7)
  (rZ:∀ (w':W8) (p:PE) (lo:Nat),Below w.heap.size w w'->LW w' b cG bv tv sv es mb mt ms->uq p.s p.x p.y w' lo->Calls Tryz.prog 50 #[.pointer (some ⟨b,0,none⟩),.agg #[.int .i64 kd,.int .i64 a,.int .i64 bb,.string s,.string t,.string u,.slice at_ nt ct],.agg #[.pointer (some ⟨p.x,0,none⟩),.pointer (some ⟨p.y,0,none⟩),.string p.s]] w' (zxl w' b cG bv tv sv es mb mt ms)):
  Calls Tryz.prog 32 #[.pointer (some ⟨b,0,none⟩),.agg #[.int .i64 kd,.int .i64 a,.int .i64 bb,.string s,.string t,.string u,.slice at_ nt ct]] w (zjo w b cG bv tv sv es mb mt ms):=by
 have b0:=(Below.refl w.heap.size w).alloc L9 (.cells #[.int .i64 kd,.int .i64 a,.int .i64 bb,.string s,.string t,.string u,.slice at_ nt ct] 26);have h0:=h.below b0;have ed:(w.alloc (.cells #[.int .i64 kd,.int .i64 a,.int .i64 bb,.string s,.string t,.string u,.slice at_ nt ct] 26)).heap[w.heap.size]?=_:=heap_alloc_new w _;obtain⟨ap,cp,rfl⟩:=zD h0.row;have hblk:=h0.cP;obtain⟨p0,FL⟩:=zB hblk 0;have HA:=zC rZ;have K0:=zC ((zN.refl (chg b (.slice ap es.length cp) bv tv sv) w).alloc (.cells #[.int .i64 kd,.int .i64 a,.int .i64 bb,.string s,.string t,.string u,.slice at_ nt ct] 26));have H0:=zC h0;have lh:=zC b0;have sY:b<w.heap.size:=h.lt;clear rZ h b0 hblk h0
 by_cases eI:es.length=0
 ·have hz:es=[]:=List.eq_nil_of_length_eq_zero eI;subst hz;rcases hk with rfl | rfl | rfl
  all_goals
   go_enter Tryz.func32,Tryz.ntmps32;go_wp2_with fail;go_ret;exact⟨rfl,_,_,_,_,_,_,_,_,zA H0,by omega,by omega,by omega,by omega,by omega,zA K0⟩
 ·obtain⟨k,eU,Us⟩:=zn0 a es.length (by omega) hl ha.1 ha.2;have JU:=zC Us;obtain⟨lo,BF⟩:=((zA H0).Ki es[k] (List.getElem_mem eU)).Ki;obtain⟨g,cap,hv,-,bR,cZ,da,hc⟩:=vU (f:=PE.cells) (λ _=>rfl) (zA H0).row k eU;injection hv with e1 e2 e3
  subst e1 e3;have q0:=hc 0 (by simp);have q1:=hc 1 (by simp);have q2:=hc 2 (by simp);simp only[PE.cells,Nat.add_zero,List.getElem?_cons_zero,List.getElem?_cons_succ] at q0 q1 q2;have HE:=zC BF;have jb:(0:Int)<(es.length:Int):=by omega
  clear hc Us BF;generalize es[k]=p at *;obtain⟨x0,AR⟩:=zB ed 0;obtain⟨x1,td⟩:=zB ed 1;obtain⟨x2,MF⟩:=zB ed 2;obtain⟨x3,Jg⟩:=zB ed 3;obtain⟨x4,RZ⟩:=zB ed 4;obtain⟨x5,Zi⟩:=zB ed 5;obtain⟨x6,Zj⟩:=zB ed 6;clear ed AR td MF Jg RZ Zi Zj bR;rcases hk with rfl | rfl | rfl
  all_goals
   go_enter Tryz.func32,Tryz.ntmps32;go_wp2_with fail;refine zb9 16 z0b (by kernel_rfl) λ W hW=>?_
   simp only[List.take_succ_cons,List.take_zero,List.drop_succ_cons,List.drop_zero];have P0:W.cell? ⟨b,0,none⟩=some (.slice (some ⟨g,0,none⟩) es.length cp):=(by rw[hW];exact p0);have X0:=(congrArg (λ W:W8=>W.cell? ⟨w.heap.size,0,none⟩) hW).trans x0;simp only[List.getElem?_toArray,List.getElem?_cons_zero] at X0;have X1:W.cell? ⟨w.heap.size,1,none⟩=some (.int .i64 a):=(by rw[hW];exact x1);have X2:W.cell? ⟨w.heap.size,2,none⟩=some (.int .i64 bb):=(by rw[hW];exact x2);have X3:W.cell? ⟨w.heap.size,3,none⟩=some (.string s):=(by rw[hW];exact x3);have X4:W.cell? ⟨w.heap.size,4,none⟩=some (.string t):=(by rw[hW];exact x4);have X5:W.cell? ⟨w.heap.size,5,none⟩=some (.string u):=(by rw[hW];exact x5);have X6:W.cell? ⟨w.heap.size,6,none⟩=some (.slice at_ nt ct):=(by rw[hW];exact x6);have Q0:W.cell? ⟨g,k*3,none⟩=some (.pointer (some ⟨p.x,0,none⟩)):=(by rw[hW];exact q0);have Q1:W.cell? ⟨g,k*3+1,none⟩=some (.pointer (some ⟨p.y,0,none⟩)):=(by rw[hW];exact q1);have Q2:W.cell? ⟨g,k*3+2,none⟩=some (.string p.s):=(by rw[hW];exact q2);have uL:Hid (Below w.heap.size w W):=(by rw[hW];exact (zA lh).drew);have A8:Hid (LW W b (.slice (some ⟨g,0,none⟩) es.length cp) bv tv sv es mb mt ms):=(by rw[hW];exact (zA H0).below (B9.drew));have Vt:Hid (uq p.s p.x p.y W lo):=(by rw[hW];exact (zA HE).below (B9.drew));have JN:Hid (zN (chg b (.slice (some ⟨g,0,none⟩) es.length cp) bv tv sv) w W):=(by rw[hW];exact (zA K0).drew);clear hW x0 x1 x2 x3 x4 x5 x6 q0 q1 q2 p0 FL H0 HE K0 lh
   repeat still_step
   still_call (zA JU _)
   repeat still_step
   refine wpStill_nil ?_;clear Q0 Q1 Q2 X0 X1 X2 X3 X4 X5 X6 P0;go_wp2_with fail;refine (zA HA W p lo (zA uL) (zA A8) (zA Vt)).mono ?_;rintro e w1 ⟨rfl,uW,cR,Hz,Ew,Ex,ms',Nj,l1,l2,l3,E6⟩;have VG:=zC Nj;have C0:=zC ((zA JN).trans E6);clear Nj E6;go_wp2_with fail;go_ret;exact⟨rfl,_,uW,cR,Hz,es,Ew,Ex,ms',zA VG,Nat.le_refl _,by omega,l1,l2,l3,zA C0⟩
end
section
open Go.RowKit Go.Maps
def z8x (s:B8)(w:W8)(q:B8)(aq:Int):Ending->W8->Prop:=λ e w'=>∃ (S:Nat->Nat) (v:Value) (n:Nat),e=.returned (.tuple #[v,.int .i64 (n:Nat)])/\zdf (yA s).2 (yO s).1 S/\Low (yA s).2 (yO s).1 S/\AS w (yA s).2 S (yO s).1 q aq w' v n/\Below w.heap.size w w'
theorem zpd {s:B8}{xb yb:Nat}{w:W8}{lo:Nat}(h:uq s xb yb w lo)(q:B8)(hq:q.size<=2000000)(aq:Int):Calls Tryz.prog 91 #[.pointer (some ⟨yb,0,none⟩),.string q,.int .i64 aq] w (z8x s w q aq):=by
 obtain⟨rs,rv,pv,tv,gs,S,hC,h7,h5,h6,hS⟩:=z67 h
 by_cases hl:aq.toNat<=50
 ·refine (ztj w yb rs (yA s).2 rv pv tv gs S hC (λ i _=>hS i) q (by unfold maxLen;omega) aq zrh (λ _ _ l aP=>by rw[h7] at aP;exact zss h.ok hl aP)).mono ?_;rintro e w' ⟨v,n,rfl,h1,h2⟩;rw[h7] at h1;exact⟨S,v,n,rfl,h5,h6,h1,h2⟩
 ·refine (ztj w yb rs (yA s).2 rv pv tv gs S hC (λ i _=>hS i) q (by unfold maxLen;omega) aq zrh (λ _ WX=>by omega)).mono ?_;rintro e w' ⟨v,n,rfl,h1,h2⟩;rw[h7] at h1;exact⟨S,v,n,rfl,h5,h6,h1,h2⟩
end
section
open Go.RowKit Go.Maps
theorem z3c {w:W8}{base:Nat}{a:O8}{m c:Nat}{bs:List Nat}(h:w.ownsRow base 5 1 (.slice a m c) m (bs.map u8c))(hm:m=bs.length):(convert 47 9 (.slice a m c)).run Tryz.prog w=.ok (.string (strOfNums (bs.map λ (x:Nat)=>(x:Int)%256))) w:=by
 cases bs with
 | nil=>
  subst hm
  cases a with
  | none=>exact run_convert_bytes_nil _ 47 5 Tryz.underlying47 Tryz.underlying5 _ _ _ Tryz.underlying9
  | some p=>
   obtain⟨g,o,t⟩:=p;rcases h.2 with⟨h0,_⟩ | ⟨g',cap,cur,h0,_⟩
   ·cases h0
   ·injection h0 with e1 e2 e3
    injection e1 with e1
    injection e1 with e1 e4 e5
    subst e1 e4 e5;exact run_convert_bytes_arg _ 47 5 Tryz.underlying47 Tryz.underlying5 _ 0 _ _ [] rfl (λ i hi=>by simp at hi) _ Tryz.underlying9
 | cons x r=>
  obtain⟨g,cap,hv,_,_⟩:=h.form (by rw[hm];simp);injection hv with e1 e2 e3
  subst e1 e3;refine run_convert_bytes_arg _ 47 5 Tryz.underlying47 Tryz.underlying5 _ 0 _ _ _ (by rw[List.length_map];exact hm.symm) (λ i hi=>?_) _ Tryz.underlying9;have AG:i<(x::r).length:=by omega
  have:=World.ownsRow.cellAt h i (by omega);rw[Nat.zero_add,this,List.getD_eq_getElem?_getD,List.getElem?_map,List.getElem?_map,List.getElem?_eq_getElem AG];rfl
end
section
open Go.RowKit Go.Maps
def YB (w:W8)(b:Nat)(v d:Int)(s:Value):Prop:=w.heap[b]?=some (.cells #[.int .i64 v,.int .i64 d,s] 49 (0,0))
theorem YB.cells {w:W8}{b:Nat}{v d:Int}{s:Value}(h:YB w b v d s):w.cell? ⟨b,0,none⟩=some (.int .i64 v)/\w.cell? ⟨b,1,none⟩=some (.int .i64 d)/\w.cell? ⟨b,2,none⟩=some s:=⟨(zB h 0).1,(zB h 1).1,(zB h 2).1⟩
theorem YB.new (w:W8)(v d:Int)(s:Value):YB (w.alloc (.cells #[.int .i64 v,.int .i64 d,s] 49)) w.heap.size v d s:=heap_alloc_new w _
end
end Go.Proofs.YtldkpahaocjdpaaGreat
