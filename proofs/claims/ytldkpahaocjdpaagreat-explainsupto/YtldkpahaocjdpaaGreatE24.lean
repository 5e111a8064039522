/-
  The law's allBytes and still, at lists of bytes that hold their owner's mark alone.
-/
import Derived.Test.YtldkpahaocjdpaaGreatE23
import Derived.Laws.BytesArg
set_option maxHeartbeats 16000000
set_option maxRecDepth 1000000
namespace Go.Proofs.YtldkpahaocjdpaaGreat
section
open Go.RowKit Go.Maps
theorem z4s {w:W8}{base:Nat}{e:TypeId}{x v:Value}{n:Nat}(h:w.ownsRow base e 1 v n (rep [x] n))(k:Nat)(hk:k<n):∃ g cap,v=.slice (some ⟨g,0,none⟩) n cap/\g<w.heap.size/\n<=cap/\cap<=maxLen/\w.cell? ⟨g,k,none⟩=some x:=by
 have h':w.ownsRow base e 1 v (List.replicate n ()).length ((List.replicate n ()).flatMap λ _=>[x]):=by rw[List.length_replicate];exact h
 obtain⟨g,cap,hv,-,aZ,bO,bQ,hc⟩:=vX (f:=λ _:Unit=>[x]) (λ _=>rfl) h' k (by simpa using hk);rw[List.length_replicate] at hv bO;refine⟨g,cap,hv,aZ,bO,bQ,?_⟩;have:=hc 0 (by simp);simpa using this
theorem zc7 (w:W8)(base mk:Nat)(a:O8)(n c:Nat)(h:w.ownsRow base 5 1 (.slice a n c) n (rep (iI mk) n))(hn:n<=100000)(ji:mk<=1000000000000):
  Calls Tryz.prog 94 #[.slice a n c,.int .i64 mk] w λ e w'=>e=.returned (.bool true)/\w'=w:=by
 have HA:=zC h;clear h;go_enter Tryz.func94,Tryz.ntmps94;go_wp2_with fail
 go_loopg [5] n (λ gg i wr=>∃ k:Nat,k<=n/\gg=n-k/\i=.int .i64 k/\wr=w)
 exact⟨0,Nat.zero_le _,rfl,rfl,rfl⟩
 case round=>
  obtain⟨k,hk,eD,rfl,rfl⟩:=hrel
  by_cases aF:k<n
  ·obtain⟨g,cap,hv,aZ,bO,bQ,p0⟩:=z4s (zA HA) k aF;injection hv with h1 h2 h3
   subst h1 h3;go_wp2_with fail;go_roundg (n-(k+1));exact⟨k+1,by omega,rfl,by go_num,rfl⟩;omega
  ·go_wp2_with fail;go_ret;exact⟨rfl,rfl⟩
theorem zzs (w:W8)(base mk:Nat)(a1 a2 a3 a4:O8)(n1 n2 n3 n4 c1 c2 c3 c4:Nat)(h1:w.ownsRow base 5 1 (.slice a1 n1 c1) n1 (rep (iI mk) n1))(h2:w.ownsRow base 5 1 (.slice a2 n2 c2) n2 (rep (iI mk) n2))(h3:w.ownsRow base 5 1 (.slice a3 n3 c3) n3 (rep (iI mk) n3))(h4:w.ownsRow base 5 1 (.slice a4 n4 c4) n4 (rep (iI mk) n4))(ia:n1<=100000)(oI:n2<=100000)(Ay:n3<=100000)(vl:n4<=100000)(ji:mk<=1000000000000):
  Calls Tryz.prog 52 #[.agg #[.slice a1 n1 c1,.slice a2 n2 c2,.slice a3 n3 c3,.slice a4 n4 c4,.int .i64 mk]] w λ e w'=>e=.returned (.bool true)/\Below w.heap.size w w':=by
 have bA:=(Below.refl w.heap.size w).alloc L9 (.cells #[.slice a1 n1 c1,.slice a2 n2 c2,.slice a3 n3 c3,.slice a4 n4 c4,.int .i64 mk] 115);have H1:=zC h1;have H2:=zC h2;have H3:=zC h3;have H4:=zC h4;clear h1 h2 h3 h4;go_enter Tryz.func52,Tryz.ntmps52;go_wp2_with fail;refine (zc7 _ base mk a1 n1 c1 ((zA H1).alloc _) ia ji).mono ?_;rintro e w' ⟨rfl,rfl⟩;go_wp2_with fail;refine (zc7 _ base mk a2 n2 c2 ((zA H2).alloc _) oI ji).mono ?_;rintro e w' ⟨rfl,rfl⟩;go_wp2_with fail;refine (zc7 _ base mk a3 n3 c3 ((zA H3).alloc _) Ay ji).mono ?_;rintro e w' ⟨rfl,rfl⟩;go_wp2_with fail;refine (zc7 _ base mk a4 n4 c4 ((zA H4).alloc _) vl ji).mono ?_;rintro e w' ⟨rfl,rfl⟩;go_wp2_with fail;go_ret;exact⟨rfl,bA⟩
end
section
open Go.RowKit Go.Maps
def mkS (n:Nat):B8:={ data:=#[35,UInt8.ofNat n,UInt8.ofNat (n/256)] }
theorem ybo (mk:Nat):strOfNums [35,(mk:Int)%256,(mk:Int)/256%256]=mkS mk:=by
 have e1:UInt8.ofNat ((mk:Int)%256).toNat=UInt8.ofNat mk:=by
  have:((mk:Int)%256).toNat=mk%256:=by omega
  rw[this];apply UInt8.toNat_inj.1;simp
 have e2:UInt8.ofNat ((mk:Int)/256%256).toNat=UInt8.ofNat (mk/256):=by
  have:((mk:Int)/256%256).toNat=mk/256%256:=by omega
  rw[this];apply UInt8.toNat_inj.1;simp
 simp only[strOfNums,List.map_cons,List.map_nil,e1,e2];rfl
theorem yau (wr:W8)(mk:Nat):(convert 47 9 (.slice (some ⟨wr.heap.size,0,none⟩) 3 3)).run Tryz.prog ((wr.alloc (.cells #[.int .u8 35,.int .u8 ((mk:Int)%256),.int .u8 ((mk:Int)/256%256)] 5)).drew)=.ok (.string (mkS mk)) ((wr.alloc (.cells #[.int .u8 35,.int .u8 ((mk:Int)%256),.int .u8 ((mk:Int)/256%256)] 5)).drew):=by
 rw[<-ybo];refine run_convert_bytes_arg _ 47 5 Tryz.underlying47 Tryz.underlying5 _ 0 3 3 [35,(mk:Int)%256,(mk:Int)/256%256] rfl (λ i hi=>?_) _ Tryz.underlying9
 show ((wr.alloc _).drew).cell? ⟨wr.heap.size,0+i,none⟩=_
 rw[Nat.zero_add,World.cell?_drew,World.cell?_alloc_at _ _ _ _ rfl]
 match i,hi with
 | 0,_=>rfl
 | 1,_=>rfl
 | 2,_=>rfl
theorem ydk (n:Nat):mkT n=[.string (mkS n)]:=rfl
theorem zc8 (w:W8)(base mk:Nat)(a:O8)(n c:Nat)(h:w.ownsRow base 9 1 (.slice a n c) n (rep (mkT mk) n))(hn:n<=100000)(_:mk<=1000000000000):
  Calls Tryz.prog 95 #[.slice a n c,.int .i64 mk] w (jT w):=by
 rw[ydk] at h;have HA:=zC h;clear h;go_enter Tryz.func95,Tryz.ntmps95;go_wp2_with fail
 go_loopg [5] n (λ gg i wr=>∃ k:Nat,k<=n/\gg=n-k/\i=.int .i64 k/\Below w.heap.size w wr)
 exact⟨0,Nat.zero_le _,rfl,rfl,Below.refl _ _⟩
 case round=>
  obtain⟨k,hk,eD,rfl,hb⟩:=hrel
  by_cases aF:k<n
  ·obtain⟨g,cap,hv,aZ,bO,bQ,p0⟩:=z4s (zJ (zA HA) hb (λ g e=>((zA HA).lt g e).2)) k aF;injection hv with h1 h2 h3
   subst h1 h3;have hz:=hb.size;have M8:=yau wr mk;go_wp2_with fail
   go_region
   all_goals
    go_wp2_with fail;go_roundg (n-(k+1));exact⟨k+1,by omega,rfl,by go_num,(hb.alloc hz _).drew⟩;omega
  ·go_wp2_with fail;go_ret;exact⟨rfl,hb⟩
theorem zzu (w:W8)(base mk:Nat)(a1 a2 a3 a4:O8)(n1 n2 n3 n4 c1 c2 c3 c4:Nat)(h1:w.ownsRow base 9 1 (.slice a1 n1 c1) n1 (rep (mkT mk) n1))(h2:w.ownsRow base 9 1 (.slice a2 n2 c2) n2 (rep (mkT mk) n2))(h3:w.ownsRow base 9 1 (.slice a3 n3 c3) n3 (rep (mkT mk) n3))(h4:w.ownsRow base 9 1 (.slice a4 n4 c4) n4 (rep (mkT mk) n4))(ia:n1<=100000)(oI:n2<=100000)(Ay:n3<=100000)(vl:n4<=100000)(ji:mk<=1000000000000):
  Calls Tryz.prog 53 #[.agg #[.slice a1 n1 c1,.slice a2 n2 c2,.slice a3 n3 c3,.slice a4 n4 c4,.int .i64 mk]] w (jT w):=by
 have bA:=(Below.refl w.heap.size w).alloc L9 (.cells #[.slice a1 n1 c1,.slice a2 n2 c2,.slice a3 n3 c3,.slice a4 n4 c4,.int .i64 mk] 117);have hA:(w.alloc (.cells #[.slice a1 n1 c1,.slice a2 n2 c2,.slice a3 n3 c3,.slice a4 n4 c4,.int .i64 mk] 117)).heap[w.heap.size]?=some (.cells #[.slice a1 n1 c1,.slice a2 n2 c2,.slice a3 n3 c3,.slice a4 n4 c4,.int .i64 mk] 117 (0,0)):=heap_alloc_new w _;have aH:w.heap.size<(w.alloc (.cells #[.slice a1 n1 c1,.slice a2 n2 c2,.slice a3 n3 c3,.slice a4 n4 c4,.int .i64 mk] 117)).heap.size:=by simp
 have H1:=zC (h1.alloc (.cells #[.slice a1 n1 c1,.slice a2 n2 c2,.slice a3 n3 c3,.slice a4 n4 c4,.int .i64 mk] 117));have H2:=zC (h2.alloc (.cells #[.slice a1 n1 c1,.slice a2 n2 c2,.slice a3 n3 c3,.slice a4 n4 c4,.int .i64 mk] 117));have H3:=zC (h3.alloc (.cells #[.slice a1 n1 c1,.slice a2 n2 c2,.slice a3 n3 c3,.slice a4 n4 c4,.int .i64 mk] 117));have H4:=zC (h4.alloc (.cells #[.slice a1 n1 c1,.slice a2 n2 c2,.slice a3 n3 c3,.slice a4 n4 c4,.int .i64 mk] 117));clear h1 h2 h3 h4;go_enter Tryz.func53,Tryz.ntmps53;go_wp2_with fail;refine (zc8 _ base mk a1 n1 c1 (zA H1) ia ji).mono ?_;rintro e w1 ⟨rfl,aL⟩;have oB:=(aL.block w.heap.size aH).trans hA;have q2:=zJ (zA H2) aL (λ g e=>((zA H2).lt g e).2);obtain⟨y1,Hh⟩:=zB oB 1;obtain⟨y4,RK⟩:=zB oB 4;have sR:=(Array.getElem?_eq_some_iff.1 oB).1;go_wp2_with fail;refine (zc8 w1 base mk a2 n2 c2 q2 oI ji).mono ?_;rintro e w2 ⟨rfl,aK⟩;have B6:=(aK.block w.heap.size sR).trans oB;have lu:=aL.trans (aK.mono aL.size);have q3:=zJ (zA H3) lu (λ g e=>((zA H3).lt g e).2);obtain⟨z2,pL⟩:=zB B6 2;obtain⟨z4,RO⟩:=zB B6 4;have gn:=(Array.getElem?_eq_some_iff.1 B6).1;clear y1 Hh y4 RK oB q2;go_wp2_with fail;refine (zc8 w2 base mk a3 n3 c3 q3 Ay ji).mono ?_;rintro e w3 ⟨rfl,cI⟩;have Pk:=(cI.block w.heap.size gn).trans B6;have kn:=lu.trans (cI.mono lu.size);have q4:=zJ (zA H4) kn (λ g e=>((zA H4).lt g e).2);obtain⟨x3,ER⟩:=zB Pk 3;obtain⟨x4,RC⟩:=zB Pk 4;clear z2 pL z4 RO B6 q3;go_wp2_with fail;refine (zc8 w3 base mk a4 n4 c4 q4 vl ji).mono ?_;rintro e w4 ⟨rfl,bZ⟩;have HB:=zC (bA.trans ((kn.trans (bZ.mono kn.size)).mono (by simp)));clear x3 ER x4 RC Pk q4 aL aK cI bZ lu kn bA hA;go_wp2_with fail;go_ret;exact⟨rfl,zA HB⟩
end
section
open Go.RowKit Go.Maps
theorem zzt (w:W8)(base mk:Nat)(a1 a2 a3 a4:O8)(n1 n2 n3 n4 c1 c2 c3 c4:Nat)(h1:w.ownsRow base 185 3 (.slice a1 n1 c1) n1 (zyv mk n1))(h2:w.ownsRow base 185 3 (.slice a2 n2 c2) n2 (zyv mk n2))(h3:w.ownsRow base 185 3 (.slice a3 n3 c3) n3 (zyv mk n3))(h4:w.ownsRow base 185 3 (.slice a4 n4 c4) n4 (zyv mk n4))(ia:n1<=100000)(oI:n2<=100000)(Ay:n3<=100000)(vl:n4<=100000)(ji:mk<=1000000000000):
  Calls Tryz.prog 54 #[.agg #[.slice a1 n1 c1,.slice a2 n2 c2,.slice a3 n3 c3,.slice a4 n4 c4,.int .i64 mk]] w λ e w'=>e=.returned (.bool true)/\Below w.heap.size w w':=by
 have bA:=(Below.refl w.heap.size w).alloc L9 (.cells #[.slice a1 n1 c1,.slice a2 n2 c2,.slice a3 n3 c3,.slice a4 n4 c4,.int .i64 mk] 120);have H1:=zC h1;have H2:=zC h2;have H3:=zC h3;have H4:=zC h4;clear h1 h2 h3 h4;go_enter Tryz.func54,Tryz.ntmps54;go_wp2_with fail;refine (zb9 _ base mk a1 n1 c1 ((zA H1).alloc _) ia ji).mono ?_;rintro e w' ⟨rfl,rfl⟩;go_wp2_with fail;refine (zb9 _ base mk a2 n2 c2 ((zA H2).alloc _) oI ji).mono ?_;rintro e w' ⟨rfl,rfl⟩;go_wp2_with fail;refine (zb9 _ base mk a3 n3 c3 ((zA H3).alloc _) Ay ji).mono ?_;rintro e w' ⟨rfl,rfl⟩;go_wp2_with fail;refine (zb9 _ base mk a4 n4 c4 ((zA H4).alloc _) vl ji).mono ?_;rintro e w' ⟨rfl,rfl⟩;go_wp2_with fail;go_ret;exact⟨rfl,bA⟩
end
section
open Go.RowKit Go.Maps
variable {m:MB} {w:W8}
theorem zug (h:sr w 185 (zj5 m.mark) m):Calls Tryz.prog 54 #[m.agg] w (jT w):=by
 obtain⟨n,hn,h1,h2,h3,h4⟩:=h.each;have hf:=h.eJ;obtain⟨a1,c1,e1⟩:=zD h1;obtain⟨a2,c2,e2⟩:=zD h2;obtain⟨a3,c3,e3⟩:=zD h3;obtain⟨a4,c4,e4⟩:=zD h4;unfold MB.agg;rw[e1] at h1 ⊢;rw[e2] at h2 ⊢;rw[e3] at h3 ⊢;rw[e4] at h4 ⊢;exact zzt w 0 m.mark a1 a2 a3 a4 n (n+1) (n+2) (n+64) c1 c2 c3 c4 h1 h2 h3 h4 (by omega) (by omega) (by omega) (by omega) (by omega)
theorem zuf (h:sr w 5 (iI m.mark) m):Calls Tryz.prog 52 #[m.agg] w (jT w):=by
 obtain⟨n,hn,h1,h2,h3,h4⟩:=h.each;have hf:=h.eJ;obtain⟨a1,c1,e1⟩:=zD h1;obtain⟨a2,c2,e2⟩:=zD h2;obtain⟨a3,c3,e3⟩:=zD h3;obtain⟨a4,c4,e4⟩:=zD h4;unfold MB.agg;rw[e1] at h1 ⊢;rw[e2] at h2 ⊢;rw[e3] at h3 ⊢;rw[e4] at h4 ⊢;exact zzs w 0 m.mark a1 a2 a3 a4 n (n+1) (n+2) (n+64) c1 c2 c3 c4 h1 h2 h3 h4 (by omega) (by omega) (by omega) (by omega) (by omega)
theorem zuh (h:sr w 9 (mkT m.mark) m):Calls Tryz.prog 53 #[m.agg] w (jT w):=by
 obtain⟨n,hn,h1,h2,h3,h4⟩:=h.each;have hf:=h.eJ;obtain⟨a1,c1,e1⟩:=zD h1;obtain⟨a2,c2,e2⟩:=zD h2;obtain⟨a3,c3,e3⟩:=zD h3;obtain⟨a4,c4,e4⟩:=zD h4;unfold MB.agg;rw[e1] at h1 ⊢;rw[e2] at h2 ⊢;rw[e3] at h3 ⊢;rw[e4] at h4 ⊢;exact zzu w 0 m.mark a1 a2 a3 a4 n (n+1) (n+2) (n+64) c1 c2 c3 c4 h1 h2 h3 h4 (by omega) (by omega) (by omega) (by omega) (by omega)
theorem z7f:z0m:=λ w b bz bv tv sv _ mb mt ms h l1 l2 l3=>
 z3c w b bz bv tv sv mb mt ms iI mkT zj5 h.bp h.bs h.ts h.ss (by omega) (by omega) (by omega) (λ _ _ _ hm=>zuf hm) (λ _ _ _ hm=>zuh hm) (λ _ _ _ hm=>zug hm)
theorem z41 (w0:W8)(o:OpV)(h:z9h o)(hk:o.kd=1):zq1 w0 o:=by
 intro w b bz bv tv sv es mb mt ms _ hL l1 l2 l3 l4;obtain⟨kd,a,bb,s,t,u,at_,nt,ct⟩:=o
 cases hk
 exact (zw7 w b bz bv tv sv es mb mt ms a bb s t u at_ nt ct hL h.s (by omega)).mono λ e w' h=>h.Zl
end
section
open Go.RowKit Go.Maps
theorem z8s (w:W8)(b:Nat)(bz bv tv sv:Value)(es:List PE)(mb mt ms:List MB)(kd a bb:Int)(s t u:B8)(at_:O8)(nt ct:Nat)(h:LW w b bz bv tv sv es mb mt ms)(hl:es.length<=1000000000000)(ha:-9223372036854775808<=a/\a<=9223372036854775807)(hk:kd=4\/kd=5\/kd=7)
  (oD:∀ (w':W8) (p:PE) (lo:Nat),LW w' b bz bv tv sv es mb mt ms->pt p.s p.x p.y w' lo->Calls Tryz.prog 50 #[.pointer (some ⟨b,0,none⟩),.agg #[.int .i64 kd,.int .i64 a,.int .i64 bb,.string s,.string t,.string u,.slice at_ nt ct],.agg #[.pointer (some ⟨p.x,0,none⟩),.pointer (some ⟨p.y,0,none⟩),.string p.s]] w' (z0c w' b bz bv tv sv es mb mt ms)):
  Calls Tryz.prog 32 #[.pointer (some ⟨b,0,none⟩),.agg #[.int .i64 kd,.int .i64 a,.int .i64 bb,.string s,.string t,.string u,.slice at_ nt ct]] w (zo1 w b bz bv tv sv es mb mt ms):=by
 have b0:=(Below.refl w.heap.size w).alloc L9 (.cells #[.int .i64 kd,.int .i64 a,.int .i64 bb,.string s,.string t,.string u,.slice at_ nt ct] 26);have h0:=h.below b0;have dq:(w.alloc (.cells #[.int .i64 kd,.int .i64 a,.int .i64 bb,.string s,.string t,.string u,.slice at_ nt ct] 26)).heap[w.heap.size]?=_:=heap_alloc_new w _;obtain⟨ap,cp,rfl⟩:=zD h0.row;have hblk:=h0.bp;obtain⟨p0,Cj⟩:=zB hblk 0;have HA:=zC oD;have K0:=zC ((zK.refl (chg b (.slice ap es.length cp) bv tv sv) w).alloc (.cells #[.int .i64 kd,.int .i64 a,.int .i64 bb,.string s,.string t,.string u,.slice at_ nt ct] 26));have H0:=zC h0;have xq:b<w.heap.size:=h.lt;clear oD h b0 hblk h0
 by_cases bF:es.length=0
 ·have hz:es=[]:=List.eq_nil_of_length_eq_zero bF;subst hz;rcases hk with rfl | rfl | rfl
  all_goals
   go_enter Tryz.func32,Tryz.ntmps32;go_wp2_with fail;go_ret;exact⟨rfl,_,_,_,_,_,_,_,_,zA H0,by omega,by omega,by omega,by omega,by omega,zA K0⟩
 ·obtain⟨k,dF,Ug⟩:=z73 a es.length (by omega) hl ha.1 ha.2;have Wr:=zC Ug;obtain⟨lo,zz⟩:=((zA H0).Ia es[k] (List.getElem_mem dF)).Ia;obtain⟨g,cap,hv,-,aZ,bO,bQ,hc⟩:=vX (f:=PE.cells) (λ _=>rfl) (zA H0).row k dF;injection hv with e1 e2 e3
  subst e1 e3;have q0:=hc 0 (by simp);have q1:=hc 1 (by simp);have q2:=hc 2 (by simp);simp only[PE.cells,Nat.add_zero,List.getElem?_cons_zero,List.getElem?_cons_succ] at q0 q1 q2;have HE:=zC zz;have kP:(0:Int)<(es.length:Int):=by omega
  clear hc Ug zz;generalize es[k]=p at *;obtain⟨x0,uE⟩:=zB dq 0;obtain⟨x1,mZ⟩:=zB dq 1;obtain⟨x2,Me⟩:=zB dq 2;obtain⟨x3,ER⟩:=zB dq 3;obtain⟨x4,RC⟩:=zB dq 4;obtain⟨x5,Zp⟩:=zB dq 5;obtain⟨x6,Zq⟩:=zB dq 6;clear dq uE mZ Me ER RC Zp Zq aZ;rcases hk with rfl | rfl | rfl
  all_goals
   go_enter Tryz.func32,Tryz.ntmps32;go_wp2_with fail;refine zc0 16 z3q (by kernel_rfl) λ W hW=>?_
   simp only[List.take_succ_cons,List.take_zero,List.drop_succ_cons,List.drop_zero];have P0:W.cell? ⟨b,0,none⟩=some (.slice (some ⟨g,0,none⟩) es.length cp):=(by rw[hW];exact p0);have X0:=(congrArg (λ W:W8=>W.cell? ⟨w.heap.size,0,none⟩) hW).trans x0;simp only[List.getElem?_toArray,List.getElem?_cons_zero] at X0;have X1:W.cell? ⟨w.heap.size,1,none⟩=some (.int .i64 a):=(by rw[hW];exact x1);have X2:W.cell? ⟨w.heap.size,2,none⟩=some (.int .i64 bb):=(by rw[hW];exact x2);have X3:W.cell? ⟨w.heap.size,3,none⟩=some (.string s):=(by rw[hW];exact x3);have X4:W.cell? ⟨w.heap.size,4,none⟩=some (.string t):=(by rw[hW];exact x4);have X5:W.cell? ⟨w.heap.size,5,none⟩=some (.string u):=(by rw[hW];exact x5);have X6:W.cell? ⟨w.heap.size,6,none⟩=some (.slice at_ nt ct):=(by rw[hW];exact x6);have Q0:W.cell? ⟨g,k*3,none⟩=some (.pointer (some ⟨p.x,0,none⟩)):=(by rw[hW];exact q0);have Q1:W.cell? ⟨g,k*3+1,none⟩=some (.pointer (some ⟨p.y,0,none⟩)):=(by rw[hW];exact q1);have Q2:W.cell? ⟨g,k*3+2,none⟩=some (.string p.s):=(by rw[hW];exact q2);have sy:Hid (LW W b (.slice (some ⟨g,0,none⟩) es.length cp) bv tv sv es mb mt ms):=(by rw[hW];exact (zA H0).below (B9.drew));have VL:Hid (pt p.s p.x p.y W lo):=(by rw[hW];exact (zA HE).below (B9.drew));have Se:Hid (zK (chg b (.slice (some ⟨g,0,none⟩) es.length cp) bv tv sv) w W):=(by rw[hW];exact (zA K0).drew);clear hW x0 x1 x2 x3 x4 x5 x6 q0 q1 q2 p0 Cj H0 HE K0
   repeat still_step
   still_call (zA Wr _)
   repeat still_step
   refine wpStill_nil ?_;clear Q0 Q1 Q2 X0 X1 X2 X3 X4 X5 X6 P0;go_wp2_with fail;refine (zA HA W p lo (zA sy) (zA VL)).mono ?_;rintro e w1 ⟨rfl,nC,bY,GQ,xw,Dz,ms',MX,l1,l2,l3,Ie⟩;have V3:=zC MX;have BX:=zC ((zA Se).trans Ie);clear MX Ie;go_wp2_with fail;go_ret;exact⟨rfl,_,nC,bY,GQ,es,xw,Dz,ms',zA V3,Nat.le_refl _,by omega,l1,l2,l3,zA BX⟩
end
section
theorem z8o (p:Int->Bool)(s:B8)(i:Nat):∀ j,i<=j->j<skip p s i->∃ h:j<s.size,p s[j].toNat=true:=by
 fun_induction skip p s i with
 | SR i h hp ih=>
  intro j hj aH;rcases Nat.eq_or_lt_of_le hj with rfl | hj
  ·exact⟨h,hp⟩
  ·exact ih j hj aH
 | SS i h hp=>intro j hj aH;omega
 | SU i h=>intro j hj aH;omega
structure lO (x:B8):Prop where
 ne:0<x.size
 le:x.size<=8
 no:∀ c∈x.data.toList,c≠40/\c≠41/\c≠44
variable {s:B8}
theorem zpc {a b:Nat}(hb:b<=s.size){c:UInt8}(h:c∈(s.extract a b).data.toList):∃ (j:Nat) (hj:j<s.size),a<=j/\j<b/\s[j]=c:=by
 rw[Array.mem_toList_iff,Array.mem_iff_getElem] at h;obtain⟨i,hi,rfl⟩:=h;have bj:(s.extract a b).size=b-a:=by rw[ByteArray.size_extract];omega
 have ve:i<(s.extract a b).size:=hi;refine⟨a+i,by omega,by omega,by omega,?_⟩;have:=ByteArray.getElem_extract ve;rw[<-this];rfl
theorem z5z {p:Int->Bool}{k:Nat}(hp:∀ c:UInt8,p c.toNat=true->c≠40/\c≠41/\c≠44)(hk:k<=s.size)(h:k<skip p s k)(h8:skip p s k-k<=8):lO (s.extract k (skip p s k)):=by
 have hle:=zcz p s k hk;refine⟨?_,?_,λ c hc=>?_⟩
 ·rw[ByteArray.size_extract];omega
 ·rw[ByteArray.size_extract];omega
 ·obtain⟨j,hj,h1,h2,rfl⟩:=zpc hle hc;obtain⟨_,h3⟩:=z8o p s k j h1 h2;exact hp _ h3
theorem ydj (c:UInt8)(h:xL c.toNat=true):c≠40/\c≠41/\c≠44:=by
 refine⟨?_,?_,?_⟩ <;> (rintro rfl;revert h;decide)
theorem ya8 (c:UInt8)(h:yF c.toNat=true):c≠40/\c≠41/\c≠44:=by
 refine⟨?_,?_,?_⟩ <;> (rintro rfl;revert h;decide)
variable {p:Nat}
theorem z83 (h:(tok s p).kind=110\/(tok s p).kind=118):lO (tok s p).text:=by
 revert h
 unfold tok;generalize skip zO s p=k;unfold zhq;intro h
 by_cases c0:s.size<=k
 ·rw[if_pos c0] at h;rcases h with h | h <;> cases h
 rw[if_neg c0] at h ⊢
 by_cases c1:k<skip xL s k
 ·rw[if_pos c1] at h ⊢
  by_cases c2:(s.extract k (skip xL s k)).toList=[110,111,116]
  ·rw[if_pos c2] at h;rcases h with h | h <;> cases h
  rw[if_neg c2] at h ⊢
  by_cases c3:skip xL s k-k<=8
  ·rw[if_pos c3];exact z5z ydj (by omega) c1 c3
  ·rw[if_neg c3] at h;rcases h with h | h <;> cases h
 rw[if_neg c1] at h ⊢
 by_cases c4:k<skip yF s k
 ·rw[if_pos c4] at h ⊢
  by_cases c3:skip yF s k-k<=8
  ·rw[if_pos c3];exact z5z ya8 (by omega) c4 c3
  ·rw[if_neg c3] at h;rcases h with h | h <;> cases h
 rw[if_neg c4] at h ⊢
 by_cases c5:xA s k=0
 ·rw[if_pos c5] at h;rcases h with h | h <;> cases h
 rw[if_neg c5] at h
 by_cases c6:xA s k=2
 ·rw[if_pos c6] at h;rcases h with h | h <;> cases h
 ·rw[if_neg c6] at h;rcases h with h | h <;> cases h
theorem zjf (h:(zF s p).1=2\/(zF s p).1=3):lO (xQ s p):=by
 by_cases hp:p<=s.size
 ·have K:=zfh s p hp;rw[K.k2,K.k3] at h;rw[K.word h];exact z83 h
 ·exfalso
  have e:skip zO s p=p:=jJ _ _ _ (by omega);have z:(s.extract p s.size).size=0:=by rw[ByteArray.size_extract];omega
  have:(zF s p).1=0:=by unfold zF;rw[e];simp only;unfold oi;rw[dif_neg (by omega)]
  omega
structure zkq (pd:B8)(ts:List (Bool × B8)):Prop where
 pd:lO pd
 eJ:ts.length<=4
 ts:∀ t∈ts,lO t.2
theorem zux (s:B8)(f:Nat):∀ {p:Nat} {l:List (Bool × B8)} {pl:Nat->Nat},(∀ t∈l,lO t.2)->∀ t∈(yB s f p l pl).2.2.1,lO t.2:=by
 induction f with
 | zero=>intro p l pl h;exact h
 | succ f ih=>
  intro p l pl h;rw[yB]
  split
  ·rename_i hk;have h':∀ t∈l++[((zF s p).1==3,xQ s p)],lO t.2:=λ t ht=>by
    rcases List.mem_append.1 ht with ht | ht
    ·exact h t ht
    ·rw[List.mem_singleton.1 ht];exact zjf hk
   split
   ·exact ih h'
   ·exact h'
  ·exact h
theorem Mk {q:Nat}{pd:B8}{ts:List (Bool × B8)}{pl:Nat->Nat}(h:vD s p=.yes q pd ts pl):zkq pd ts:=by
 have h4:=(zkm h).2;unfold vD at h
 by_cases c1:(zF s p).1=2
 ·rw[if_pos c1] at h
  by_cases c2:(zF s (zF s p).2.2).1=5
  ·rw[if_pos c2] at h
   by_cases c3:(yB s 4 (zF s (zF s p).2.2).2.2 [] (λ _=>0)).1=true
   ·rw[if_pos c3] at h;injection h with h1 h2 h3 h4
    subst h2 h3;exact⟨zjf (.inl c1),h4,zux s 4 (by simp)⟩
   ·rw[if_neg c3] at h;cases h
  ·rw[if_neg c2] at h;injection h with h1 h2 h3 h4
   subst h2 h3;exact⟨zjf (.inl c1),h4,by simp⟩
 ·rw[if_neg c1] at h;cases h
def z6h (R:vY):Prop:=zkq R.pd R.ts/\∀ l∈R.body,zkq l.pd l.ts
theorem zy5 (s:B8)(num f:Nat):∀ {p:Nat} {l:List vK} {ms:List xU},(∀ x∈l,zkq x.pd x.ts)->∀ x∈(jG s num f p l ms).2.2.1,zkq x.pd x.ts:=by
 induction f with
 | zero=>intro p l ms hl;exact hl
 | succ f ih=>
  intro p l ms hl;rw[jG]
  cases hr:vD s (yM s p 4) with
  | no q=>exact hl
  | yes q pd ts pl=>
   have nU:∀ x∈l++[uH s p pd ts],zkq x.pd x.ts:=λ x hx=>by
    rcases List.mem_append.1 hx with hx | hx
    ·exact hl x hx
    ·simp at hx;subst hx;exact Mk hr
   simp only
   split
   ·exact ih (p:=(zF s q).2.2) nU
   ·exact nU
theorem zy7 (s:B8)(num p:Nat)(ms:List xU)(h:(vG s num p ms).1=true):z6h (vG s num p ms).2.2.1:=by
 unfold vG at h ⊢
 cases hr:vD s p with
 | no q=>rw[hr] at h;cases h
 | yes q pd ts pl=>
  rw[hr] at h;simp only at h ⊢
  split
  ·exact⟨Mk hr,by simp⟩
  ·split
   ·exact⟨Mk hr,zy5 s num 3 (p:=(zF s q).2.2) (l:=[]) (by simp)⟩
   ·exact⟨Mk hr,by simp⟩
theorem zuv (s:B8)(f:Nat):∀ {p:Nat} {rs:List vY} {ms:List xU},(∀ R∈rs,z6h R)->∀ R∈(jW s f p rs ms).2.2.1,z6h R:=by
 induction f with
 | zero=>intro p rs ms hr;exact hr
 | succ f ih=>
  intro p rs ms hr;rw[jW]
  split
  ·exact hr
  ·split
   ·exact hr
   ·split
    ·rename_i hy;refine ih (λ R hR=>?_);rcases List.mem_append.1 hR with hR | hR
     ·exact hr R hR
     ·simp at hR;subst hR;exact zy7 s _ _ _ hy
    ·exact hr
theorem zjv (s:B8):∀ R∈(yL s).2.2.1,z6h R:=zuv s 31 (by simp)
end
section
open Go.RowKit
abbrev Env:=List (B8 × B8)
def zj3:Env->B8->B8
 | [],_=>{ data:=#[] }
 | x::r,n=>if x.1.toList==n.toList then x.2 else zj3 r n
def oh (e:Env)(t:xD):B8:=if t.isVar then zj3 e t.text else t.text
variable {k:Nat} {e:Env}
theorem zyb {n:B8}(h:k<e.length):zj3 (e.drop k) n=if e[k].1.toList==n.toList then e[k].2 else zj3 (e.drop (k+1)) n:=by
 rw[List.drop_eq_getElem_cons h];rfl
def jB:Env->List xD->List xD->Option Env
 | e,t::ts,u::us=>if (oh e t).toList==[] then jB (e++[(t.text,u.text)]) ts us else if (oh e t).toList==u.text.toList then jB e ts us else none
 | e,_,_=>some e
def qA (e:Env)(a th:zL):Option Env:=if a.pred.toList==th.pred.toList&&a.ae.length==th.ae.length then jB e a.ae th.ae else none
def ofT (e:Env)(t:xD):xD:=⟨oh e t,false,0⟩
def fa (e:Env)(a:zL):zL:=⟨a.pred,a.ae.map (ofT e),false,0,0⟩
theorem zrz {ts us:List xD}(h:k<ts.length)(h':k<us.length):jB e (ts.drop k) (us.drop k)=if (oh e ts[k]).toList==[] then jB (e++[(ts[k].text,us[k].text)]) (ts.drop (k+1)) (us.drop (k+1)) else if (oh e ts[k]).toList==us[k].text.toList then jB e (ts.drop (k+1)) (us.drop (k+1)) else none:=by
 rw[List.drop_eq_getElem_cons h,List.drop_eq_getElem_cons h'];rfl
structure om (w:W8)(base:Nat)(e:Env)(nv tv:Value):Prop where
 ns:w.ownsRow base 9 1 nv e.length (e.map λ x=>.string x.1)
 ts:w.ownsRow base 9 1 tv e.length (e.map λ x=>.string x.2)
 nil:e=[]->nv=.slice none 0 0/\tv=.slice none 0 0
variable {nv tv:Value} {base:Nat} {w:W8}
theorem om.below {w':W8}(h:om w base e nv tv)(k:Below w.heap.size w w'):om w' base e nv tv:=⟨zJ h.ns k (λ g e=>(h.ns.lt g e).2),zJ h.ts k (λ g e=>(h.ts.lt g e).2),h.nil⟩
theorem om.alloc (h:om w base e nv tv)(o:Obj):om (w.alloc o) base e nv tv:=⟨h.ns.alloc _,h.ts.alloc _,h.nil⟩
theorem om.shape (h:om w base e nv tv):∃ an cn at_ ct,nv=.slice an e.length cn/\tv=.slice at_ e.length ct:=by
 obtain⟨an,cn,h1⟩:=zD h.ns;obtain⟨at_,ct,h2⟩:=zD h.ts;exact⟨an,cn,at_,ct,h1,h2⟩
def yah (s:B8)(w:W8):Ending->W8->Prop:=λ e w'=>e=.returned (.string s)/\Below w.heap.size w w'
theorem zom (w:W8)(base:Nat)(E:Env)(an fy:O8)(cn ct:Nat)(h:om w base E (.slice an E.length cn) (.slice fy E.length ct))(text:B8)(v:Bool)(at_:Nat):
  Calls Tryz.prog 197 #[.agg #[.slice an E.length cn,.slice fy E.length ct],.agg #[.string text,.bool v,.int .i64 at_]] w (yah (oh E ⟨text,v,at_⟩) w):=by
 have gR:=yU h.ns;unfold maxLen at gR;have b0:=((Below.refl w.heap.size w).alloc L9 (.cells #[.slice an E.length cn,.slice fy E.length ct] 258)).alloc (by simp) (.cells #[.string text,.bool v,.int .i64 at_] 317);have x0:((w.alloc (.cells #[.slice an E.length cn,.slice fy E.length ct] 258)).alloc (.cells #[.string text,.bool v,.int .i64 at_] 317)).heap[w.heap.size]?=some (.cells #[.slice an E.length cn,.slice fy E.length ct] 258 (0,0)):=by
  rw[Below.heap_alloc _ _ _ (by simp)];exact heap_alloc_new w _
 have x1:((w.alloc (.cells #[.slice an E.length cn,.slice fy E.length ct] 258)).alloc (.cells #[.string text,.bool v,.int .i64 at_] 317)).heap[w.heap.size+1]?=some (.cells #[.string text,.bool v,.int .i64 at_] 317 (0,0)):=by
  have:=heap_alloc_new (w.alloc (.cells #[.slice an E.length cn,.slice fy E.length ct] 258)) (.cells #[.string text,.bool v,.int .i64 at_] 317);rw[World.size_alloc] at this;exact this
 have h0:=(h.alloc (.cells #[.slice an E.length cn,.slice fy E.length ct] 258)).alloc (.cells #[.string text,.bool v,.int .i64 at_] 317)
 cases v with
 | false=>
  clear h0 h x0 x1;go_enter Tryz.func197,Tryz.ntmps197;go_wp2_with fail;go_ret;exact⟨rfl,b0⟩
 | true=>
  have HF:=zC (show oh E ⟨text,true,at_⟩=zj3 E text from rfl);have rT:=zC x0;have yp:=zC x1;have H0:=zC h0;have ou:=zC b0;clear h x0 x1 h0 b0;go_enter Tryz.func197,Tryz.ntmps197;go_wp2_with fail
  go_loopg [5] E.length (λ gg i wr=>∃ k:Nat,k<=E.length/\gg=E.length-k/\i=.int .i64 k/\zj3 (E.drop k) text=zj3 E text/\Below w.heap.size w wr/\wr.heap[w.heap.size]?=some (.cells #[.slice an E.length cn,.slice fy E.length ct] 258 (0,0))/\wr.heap[w.heap.size+1]?=some (.cells #[.string text,.bool true,.int .i64 at_] 317 (0,0))/\om wr base E (.slice an E.length cn) (.slice fy E.length ct))
  exact⟨0,Nat.zero_le _,rfl,rfl,rfl,zA ou,zA rT,zA yp,zA H0⟩
  case round=>
   clear ou rT yp H0;obtain⟨k,hk,eD,rfl,aE,hb,x0,x1,he⟩:=hrel;obtain⟨p0,Cj⟩:=zB x0 0;obtain⟨p1,xx⟩:=zB x0 1;obtain⟨q0,Bb⟩:=zB x1 0;have lJ:=zC aE;have rT:=zC x0;have yp:=zC x1;have HB:=zC hb;have HE:=zC he;clear aE x0 x1 hb he Cj xx Bb
   by_cases aF:k<E.length
   ·have kP:(k:Int)<E.length:=(by omega);obtain⟨g1,c1,im,-,ia,dH,va⟩:=zce (zA HE).ns (by omega);obtain⟨g2,c2,Dr,-,oI,dD,nS⟩:=zce (zA HE).ts (by omega);injection im with i1 i2 i3
    subst i1 i3;injection Dr with i1 i2 i3
    subst i1 i3;have d1:=va k aF;have d2:=nS k aF;rw[List.getElem?_map,List.getElem?_eq_getElem aF] at d1 d2;simp only[Option.map_some] at d1 d2;clear va nS;have HS:=zC (zyb (n:=text) aF);go_wp2_with fail;go_quiet (fail)
    cases hq:E[k].1.toList==text.toList with
    | true=>
     go_wp2_with fail;go_ret;exact⟨by rw[zA HF,<-zA lJ,zA HS,if_pos hq];rfl,below_drewN (zA HB) _⟩
    | false=>
     go_wp2_with fail;go_roundg (E.length-(k+1));exact⟨k+1,by omega,rfl,by go_num,by rw[<-zA lJ,zA HS,if_neg (by rw[hq];decide)],below_drewN (zA HB) _,zA rT,zA yp,(zA HE).below (below_drewN B9 _)⟩;omega
   ·go_wp2_with fail;go_ret;exact⟨by rw[zA HF,<-zA lJ,List.drop_of_length_le (by omega)];rfl,zA HB⟩
end
section
open Go.RowKit
def zj9 (l:List B8):V8:=l.map .string
structure iv (w:W8)(A T:zL)(nv tv av bv:Value)(ns ts:List B8)(dv bY:Value)(wr:W8):Prop where
 below:Below w.heap.size w wr
 b0:wr.heap[w.heap.size]?=some (.cells #[nv,tv] 258 (0,0))
 b1:wr.heap[w.heap.size+1]?=some (.cells #[.string A.pred,av,.bool A.no,.int .i64 A.at_,.int .i64 A.az] 243 (0,0))
 b2:wr.heap[w.heap.size+1+1]?=some (.cells #[.string T.pred,bv,.bool T.no,.int .i64 T.at_,.int .i64 T.az] 243 (0,0))
 b3:wr.heap[w.heap.size+1+1+1]?=some (.cells #[.slice none 0 0,.slice none 0 0] 258 (0,0))
 b4:wr.heap[w.heap.size+1+1+1+1]?=some (.cells #[dv,bY] 258 (0,0))
 rn:wr.ownsRow (w.heap.size+5) 9 1 dv ns.length (zj9 ns)
 rt:wr.ownsRow (w.heap.size+5) 9 1 bY ts.length (zj9 ts)
 ne:∀ g,dv.ownBlock=some g->bY.ownBlock≠some g
 nn:ns=[]->dv=.slice none 0 0
 tn:ts=[]->bY=.slice none 0 0
variable {wr w:W8} {ns ts:List B8} {nv tv av bv dv bY:Value} {A T:zL}
theorem iv.lt (h:iv w A T nv tv av bv ns ts dv bY wr):w.heap.size+5<=wr.heap.size:=(Array.getElem?_eq_some_iff.1 h.b4).1
theorem iv.dQ {w':W8}(h:iv w A T nv tv av bv ns ts dv bY wr)(k:Below wr.heap.size wr w'):iv w A T nv tv av bv ns ts dv bY w':=by
 have hl:=h.lt;exact⟨h.below.trans (k.mono (by omega)),(k.block _ (by omega)).trans h.b0,(k.block _ (by omega)).trans h.b1,(k.block _ (by omega)).trans h.b2,(k.block _ (by omega)).trans h.b3,(k.block _ (by omega)).trans h.b4,zJ h.rn k (λ g e=>(h.rn.lt g e).2),zJ h.rt k (λ g e=>(h.rt.lt g e).2),h.ne,h.nn,h.tn⟩
theorem iv.start (w:W8)(A T:zL)(nv tv av bv:Value):iv w A T nv tv av bv [] [] (.slice none 0 0) (.slice none 0 0)
  (((((w.alloc (.cells #[nv,tv] 258)).alloc (.cells #[.string A.pred,av,.bool A.no,.int .i64 A.at_,.int .i64 A.az] 243)).alloc (.cells #[.string T.pred,bv,.bool T.no,.int .i64 T.at_,.int .i64 T.az] 243)).alloc (.cells #[.slice none 0 0,.slice none 0 0] 258)).alloc (.cells #[.slice none 0 0,.slice none 0 0] 258)):=by
 refine⟨((((((Below.refl _ w).alloc L9 _).alloc (by simp) _).alloc (by simp;omega) _).alloc (by simp;omega) _).alloc (by simp;omega) _),?_,?_,?_,?_,?_,World.ownsRow_nil _ _ _ _,World.ownsRow_nil _ _ _ _,(λ g e=>by cases e),(λ _=>rfl),(λ _=>rfl)⟩
 ·rw[Below.heap_alloc _ _ _ (by simp <;> omega),Below.heap_alloc _ _ _ (by simp <;> omega),Below.heap_alloc _ _ _ (by simp <;> omega),Below.heap_alloc _ _ _ (by simp)];exact heap_alloc_new w _
 ·rw[Below.heap_alloc _ _ _ (by simp <;> omega),Below.heap_alloc _ _ _ (by simp <;> omega),Below.heap_alloc _ _ _ (by simp)];have:=heap_alloc_new (w.alloc (.cells #[nv,tv] 258)) (.cells #[.string A.pred,av,.bool A.no,.int .i64 A.at_,.int .i64 A.az] 243);simpa using this
 ·rw[Below.heap_alloc _ _ _ (by simp <;> omega),Below.heap_alloc _ _ _ (by simp)];have:=heap_alloc_new ((w.alloc (.cells #[nv,tv] 258)).alloc (.cells #[.string A.pred,av,.bool A.no,.int .i64 A.at_,.int .i64 A.az] 243)) (.cells #[.string T.pred,bv,.bool T.no,.int .i64 T.at_,.int .i64 T.az] 243);simpa using this
 ·rw[Below.heap_alloc _ _ _ (by simp)];have:=heap_alloc_new (((w.alloc (.cells #[nv,tv] 258)).alloc (.cells #[.string A.pred,av,.bool A.no,.int .i64 A.at_,.int .i64 A.az] 243)).alloc (.cells #[.string T.pred,bv,.bool T.no,.int .i64 T.at_,.int .i64 T.az] 243)) (.cells #[.slice none 0 0,.slice none 0 0] 258);simpa using this
 ·have:=heap_alloc_new ((((w.alloc (.cells #[nv,tv] 258)).alloc (.cells #[.string A.pred,av,.bool A.no,.int .i64 A.at_,.int .i64 A.az] 243)).alloc (.cells #[.string T.pred,bv,.bool T.no,.int .i64 T.at_,.int .i64 T.az] 243)).alloc (.cells #[.slice none 0 0,.slice none 0 0] 258)) (.cells #[.slice none 0 0,.slice none 0 0] 258);simpa using this
theorem zmw (a b:List B8):zj9 (a++b)=zj9 a++zj9 b:=List.map_append
variable {news:List B8} {g cap m:Nat} {W w5:W8}
theorem iv.JJ (h:iv w A T nv tv av bv ns ts dv bY wr)(hW:zK [] wr W)(hg:W.grownBy w5 dv.ownBlock)(hm:news.length=m)(Cd:0<m)
  (ay:w5.ownsRow (w.heap.size+5) 9 1 (.slice (some ⟨g,0,none⟩) (ns.length+m) cap) (ns.length+m) (zj9 ns++zj9 news)) (du:dv.ownBlock=some g\/g=W.heap.size):
  iv w A T nv tv av bv (ns++news) ts (.slice (some ⟨g,0,none⟩) (ns.length+m) cap) bY (w5.setCell ⟨w.heap.size+1+1+1+1,0,none⟩ (.slice (some ⟨g,0,none⟩) (ns.length+m) cap))/\w5.heap[w.heap.size+1+1+1+1]?=some (.cells #[dv,bY] 258 (0,0)):=by
 have hl:=h.lt;have hz:=hW.size;have k5:zK dv.ownBlock.toList wr w5:=(hW.mono (by simp)).trans (zK.aR hg);have eI:∀ b,b<w.heap.size+5->b∉dv.ownBlock.toList:=λ b hb hm=>by have:=(h.rn.lt b (by simpa using hm)).1;omega
 have bp:∀ b,b<w.heap.size+5->w5.heap[b]?=wr.heap[b]?:=λ b hb=>k5.block b (by omega) (eI b hb)
 have kS:∀ b,b≠w.heap.size+1+1+1+1->(w5.setCell ⟨w.heap.size+1+1+1+1,0,none⟩ (.slice (some ⟨g,0,none⟩) (ns.length+m) cap)).heap[b]?=w5.heap[b]?:=λ b hb=>Below.heap_setCell _ _ _ _ (by simpa using hb)
 have JN:=(bp (w.heap.size+1+1+1+1) (by omega)).trans h.b4;have s5:=k5.size;have Dg:news≠[]:=λ e=>by rw[e] at hm;simp at hm;omega
 refine⟨⟨?_,?_,?_,?_,?_,?_,?_,?_,?_,λ e=>absurd (List.append_eq_nil_iff.1 e).2 Dg,h.tn⟩,JN⟩
 ·refine⟨k5.os.trans h.below.os,k5.tape.trans h.below.tape,k5.output.trans h.below.output,by simp;omega,λ b hb=>?_⟩;rw[kS b (by omega),bp b (by omega)];exact h.below.block b hb
 ·rw[kS _ (by omega),bp _ (by omega)];exact h.b0
 ·rw[kS _ (by omega),bp _ (by omega)];exact h.b1
 ·rw[kS _ (by omega),bp _ (by omega)];exact h.b2
 ·rw[kS _ (by omega),bp _ (by omega)];exact h.b3
 ·rw[heap_setCell_same _ _ _ _ _ _ JN];rfl
 ·rw[zmw,List.length_append,hm];exact ownsRow_setCell_below ay (by simp) _
 ·have h1:w5.ownsRow (w.heap.size+5) 9 1 bY ts.length (zj9 ts):=zZ h.rt (λ b hb=>k5.block b (h.rt.lt b hb).2 (λ hm=>h.ne b (by simpa using hm) hb));exact ownsRow_setCell_below h1 (by simp) _
 ·intro g' e;have e':g=g':=by simpa[Value.ownBlock] using e
  subst e';rcases du with h1 | h1
  ·exact h.ne g h1
  ·intro h2;have:=(h.rt.lt g h2).2;omega
theorem iv.JK (h:iv w A T nv tv av bv ns ts dv bY wr)(hW:zK [] wr W)(hg:W.grownBy w5 bY.ownBlock)(hm:news.length=m)(Cd:0<m)
  (ay:w5.ownsRow (w.heap.size+5) 9 1 (.slice (some ⟨g,0,none⟩) (ts.length+m) cap) (ts.length+m) (zj9 ts++zj9 news)) (du:bY.ownBlock=some g\/g=W.heap.size):
  iv w A T nv tv av bv ns (ts++news) dv (.slice (some ⟨g,0,none⟩) (ts.length+m) cap) (w5.setCell ⟨w.heap.size+1+1+1+1,1,none⟩ (.slice (some ⟨g,0,none⟩) (ts.length+m) cap))/\w5.heap[w.heap.size+1+1+1+1]?=some (.cells #[dv,bY] 258 (0,0)):=by
 have hl:=h.lt;have hz:=hW.size;have k5:zK bY.ownBlock.toList wr w5:=(hW.mono (by simp)).trans (zK.aR hg);have eI:∀ b,b<w.heap.size+5->b∉bY.ownBlock.toList:=λ b hb hm=>by have:=(h.rt.lt b (by simpa using hm)).1;omega
 have bp:∀ b,b<w.heap.size+5->w5.heap[b]?=wr.heap[b]?:=λ b hb=>k5.block b (by omega) (eI b hb)
 have kS:∀ b,b≠w.heap.size+1+1+1+1->(w5.setCell ⟨w.heap.size+1+1+1+1,1,none⟩ (.slice (some ⟨g,0,none⟩) (ts.length+m) cap)).heap[b]?=w5.heap[b]?:=λ b hb=>Below.heap_setCell _ _ _ _ (by simpa using hb)
 have JN:=(bp (w.heap.size+1+1+1+1) (by omega)).trans h.b4;have s5:=k5.size;have Dg:news≠[]:=λ e=>by rw[e] at hm;simp at hm;omega
 refine⟨⟨?_,?_,?_,?_,?_,?_,?_,?_,?_,h.nn,λ e=>absurd (List.append_eq_nil_iff.1 e).2 Dg⟩,JN⟩
 ·refine⟨k5.os.trans h.below.os,k5.tape.trans h.below.tape,k5.output.trans h.below.output,by simp;omega,λ b hb=>?_⟩;rw[kS b (by omega),bp b (by omega)];exact h.below.block b hb
 ·rw[kS _ (by omega),bp _ (by omega)];exact h.b0
 ·rw[kS _ (by omega),bp _ (by omega)];exact h.b1
 ·rw[kS _ (by omega),bp _ (by omega)];exact h.b2
 ·rw[kS _ (by omega),bp _ (by omega)];exact h.b3
 ·rw[heap_setCell_same _ _ _ _ _ _ JN];rfl
 ·have h1:w5.ownsRow (w.heap.size+5) 9 1 dv ns.length (zj9 ns):=zZ h.rn (λ b hb=>k5.block b (h.rn.lt b hb).2 (λ hm=>h.ne b hb (by simpa using hm)));exact ownsRow_setCell_below h1 (by simp) _
 ·rw[zmw,List.length_append,hm];exact ownsRow_setCell_below ay (by simp) _
 ·intro g' e e2;have e':g=g':=by simpa[Value.ownBlock] using e2
  subst e';rcases du with h1 | h1
  ·exact h.ne g e h1
  ·have:=(h.rn.lt g e).2;omega
theorem iv.same (h:iv w A T nv tv av bv ns ts dv bY wr){j:Nat}{v:Value}(hv:(#[dv,bY]:Array Value).setIfInBounds j v=#[dv,bY]):iv w A T nv tv av bv ns ts dv bY (wr.setCell ⟨w.heap.size+1+1+1+1,j,none⟩ v):=by
 have hl:=h.lt;have kS:∀ b,b≠w.heap.size+1+1+1+1->(wr.setCell ⟨w.heap.size+1+1+1+1,j,none⟩ v).heap[b]?=wr.heap[b]?:=λ b hb=>Below.heap_setCell _ _ _ _ (by simpa using hb)
 refine⟨h.below.setCell (by simp;omega) _,?_,?_,?_,?_,?_,?_,?_,h.ne,h.nn,h.tn⟩
 ·rw[kS _ (by omega)];exact h.b0
 ·rw[kS _ (by omega)];exact h.b1
 ·rw[kS _ (by omega)];exact h.b2
 ·rw[kS _ (by omega)];exact h.b3
 ·rw[heap_setCell_same _ _ _ _ _ _ h.b4,hv]
 ·exact ownsRow_setCell_below h.rn (by simp) _
 ·exact ownsRow_setCell_below h.rt (by simp) _
theorem iv.fin (h:iv w A T nv tv av bv ns ts dv bY wr)(u v:Value):Below w.heap.size w ((wr.setCell ⟨w.heap.size+1+1+1,0,none⟩ u).setCell ⟨w.heap.size+1+1+1,1,none⟩ v)/\((wr.setCell ⟨w.heap.size+1+1+1,0,none⟩ u).setCell ⟨w.heap.size+1+1+1,1,none⟩ v).ownsRow w.heap.size 9 1 dv ns.length (zj9 ns)/\((wr.setCell ⟨w.heap.size+1+1+1,0,none⟩ u).setCell ⟨w.heap.size+1+1+1,1,none⟩ v).ownsRow w.heap.size 9 1 bY ts.length (zj9 ts):=
 ⟨(h.below.setCell (by simp;omega) _).setCell (by simp;omega) _,zG (ownsRow_setCell_below (ownsRow_setCell_below h.rn (by simp) _) (by simp) _) (by omega),zG (ownsRow_setCell_below (ownsRow_setCell_below h.rt (by simp) _) (by simp) _) (by omega)⟩
theorem zw8 {l:List B8}:∀ u∈zj9 l,u.oneCell'=true:=by
 intro u hu;obtain⟨x,_,rfl⟩:=List.mem_map.1 hu;rfl
theorem zp2 {base:Nat}{e:TypeId}{n:Nat}{xs:V8}(h:w.ownsRow base e 1 (.slice (some ⟨g,0,none⟩) n cap) n xs):∀ j u,xs[j]?=some u->w.cell? ((⟨g,0,none⟩:Addr).add j)=some u:=by
 intro j u hj;have hl:xs.length=n*1:=h.1;have aH:j<xs.length:=(List.getElem?_eq_some_iff.1 hj).1;obtain⟨g',c',hv,_,_,_,hc⟩:=zce h (by omega);injection hv with i1 i2 i3
 injection i1 with i1
 injection i1 with i1
 subst i1;have:=hc j (by omega);unfold Addr.add
 split <;> simp_all
end
end Go.Proofs.YtldkpahaocjdpaaGreat
