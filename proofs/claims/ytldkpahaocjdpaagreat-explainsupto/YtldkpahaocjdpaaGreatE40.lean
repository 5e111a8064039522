/-
  The law's allBytes and still, at lists of bytes that hold their owner's mark alone.
-/
import Derived.Laws.BytesArg
import Derived.Test.YtldkpahaocjdpaaGreatE32
import Derived.Shelf.Sort.Plain
import Derived.Shelf.Slices.In.SortNone
import Derived.Sort.OwnSorted
import Derived.Test.YtldkpahaocjdpaaGreatE39
set_option maxHeartbeats 16000000
set_option maxRecDepth 1000000
namespace Go.Proofs.YtldkpahaocjdpaaGreat
section
open Go.RowKit Go.Maps
theorem z4s {w:W8}{base:Nat}{e:TypeId}{x v:Value}{n:Nat}(h:w.ownsRow base e 1 v n (rep [x] n))(k:Nat)(hk:k<n):∃ g cap,v=.slice (some ⟨g,0,none⟩) n cap/\g<w.heap.size/\n<=cap/\cap<=maxLen/\w.cell? ⟨g,k,none⟩=some x:=by
 have h':w.ownsRow base e 1 v (List.replicate n ()).length ((List.replicate n ()).flatMap λ _=>[x]):=by rw[List.length_replicate];exact h
 obtain⟨g,cap,hv,-,aZ,bO,bQ,hc⟩:=vX (f:=λ _:Unit=>[x]) (λ _=>rfl) h' k (by simpa using hk);rw[List.length_replicate] at hv bO;refine⟨g,cap,hv,aZ,bO,bQ,?_⟩;have:=hc 0 (by simp);simpa using this
theorem zc7 (w:W8)(base mk:Nat)(a:O8)(n c:Nat)(h:w.ownsRow base 5 1 (.slice a n c) n (rep (iI mk) n))(hn:n<=100000)(ji:mk<=1000000000000):
  Calls Tryz.prog 94 #[.slice a n c,.int .i64 mk] w λ e w'=>e=.returned (.bool true)/\w'=w:=by
 have HA:=zC h;clear h;go_enter Tryz.func94,Tryz.ntmps94;go_wp2_with fail
 go_loopg [5] n (λ gg i wr=>∃ k:Nat,k<=n/\gg=n-k/\i=.int .i64 k/\wr=w)
 exact⟨0,Nat.zero_le _,rfl,rfl,rfl⟩
 case round=>
  obtain⟨k,hk,eD,rfl,rfl⟩:=hrel
  by_cases aF:k<n
  ·obtain⟨g,cap,hv,aZ,bO,bQ,p0⟩:=z4s (zA HA) k aF;injection hv with h1 h2 h3
   subst h1 h3;go_wp2_with fail;go_roundg (n-(k+1));exact⟨k+1,by omega,rfl,by go_num,rfl⟩;omega
  ·go_wp2_with fail;go_ret;exact⟨rfl,rfl⟩
theorem zzs (w:W8)(base mk:Nat)(a1 a2 a3 a4:O8)(n1 n2 n3 n4 c1 c2 c3 c4:Nat)(h1:w.ownsRow base 5 1 (.slice a1 n1 c1) n1 (rep (iI mk) n1))(h2:w.ownsRow base 5 1 (.slice a2 n2 c2) n2 (rep (iI mk) n2))(h3:w.ownsRow base 5 1 (.slice a3 n3 c3) n3 (rep (iI mk) n3))(h4:w.ownsRow base 5 1 (.slice a4 n4 c4) n4 (rep (iI mk) n4))(ia:n1<=100000)(oI:n2<=100000)(Ay:n3<=100000)(vl:n4<=100000)(ji:mk<=1000000000000):
  Calls Tryz.prog 52 #[.agg #[.slice a1 n1 c1,.slice a2 n2 c2,.slice a3 n3 c3,.slice a4 n4 c4,.int .i64 mk]] w λ e w'=>e=.returned (.bool true)/\Below w.heap.size w w':=by
 have bA:=(Below.refl w.heap.size w).alloc L9 (.cells #[.slice a1 n1 c1,.slice a2 n2 c2,.slice a3 n3 c3,.slice a4 n4 c4,.int .i64 mk] 115);have H1:=zC h1;have H2:=zC h2;have H3:=zC h3;have H4:=zC h4;clear h1 h2 h3 h4;go_enter Tryz.func52,Tryz.ntmps52;go_wp2_with fail;refine (zc7 _ base mk a1 n1 c1 ((zA H1).alloc _) ia ji).mono ?_;rintro e w' ⟨rfl,rfl⟩;go_wp2_with fail;refine (zc7 _ base mk a2 n2 c2 ((zA H2).alloc _) oI ji).mono ?_;rintro e w' ⟨rfl,rfl⟩;go_wp2_with fail;refine (zc7 _ base mk a3 n3 c3 ((zA H3).alloc _) Ay ji).mono ?_;rintro e w' ⟨rfl,rfl⟩;go_wp2_with fail;refine (zc7 _ base mk a4 n4 c4 ((zA H4).alloc _) vl ji).mono ?_;rintro e w' ⟨rfl,rfl⟩;go_wp2_with fail;go_ret;exact⟨rfl,bA⟩
end
section
open Go.RowKit Go.Maps
def mkS (n:Nat):B8:={ data:=#[35,UInt8.ofNat n,UInt8.ofNat (n/256)] }
theorem ybo (mk:Nat):strOfNums [35,(mk:Int)%256,(mk:Int)/256%256]=mkS mk:=by
 have e1:UInt8.ofNat ((mk:Int)%256).toNat=UInt8.ofNat mk:=by
  have:((mk:Int)%256).toNat=mk%256:=by omega
  rw[this];apply UInt8.toNat_inj.1;simp
 have e2:UInt8.ofNat ((mk:Int)/256%256).toNat=UInt8.ofNat (mk/256):=by
  have:((mk:Int)/256%256).toNat=mk/256%256:=by omega
  rw[this];apply UInt8.toNat_inj.1;simp
 simp only[strOfNums,List.map_cons,List.map_nil,e1,e2];rfl
theorem yau (wr:W8)(mk:Nat):(convert 47 9 (.slice (some ⟨wr.heap.size,0,none⟩) 3 3)).run Tryz.prog ((wr.alloc (.cells #[.int .u8 35,.int .u8 ((mk:Int)%256),.int .u8 ((mk:Int)/256%256)] 5)).drew)=.ok (.string (mkS mk)) ((wr.alloc (.cells #[.int .u8 35,.int .u8 ((mk:Int)%256),.int .u8 ((mk:Int)/256%256)] 5)).drew):=by
 rw[<-ybo];refine run_convert_bytes_arg _ 47 5 Tryz.underlying47 Tryz.underlying5 _ 0 3 3 [35,(mk:Int)%256,(mk:Int)/256%256] rfl (λ i hi=>?_) _ Tryz.underlying9
 show ((wr.alloc _).drew).cell? ⟨wr.heap.size,0+i,none⟩=_
 rw[Nat.zero_add,World.cell?_drew,World.cell?_alloc_at _ _ _ _ rfl]
 match i,hi with
 | 0,_=>rfl
 | 1,_=>rfl
 | 2,_=>rfl
theorem ydk (n:Nat):mkT n=[.string (mkS n)]:=rfl
theorem zc8 (w:W8)(base mk:Nat)(a:O8)(n c:Nat)(h:w.ownsRow base 9 1 (.slice a n c) n (rep (mkT mk) n))(hn:n<=100000)(_:mk<=1000000000000):
  Calls Tryz.prog 95 #[.slice a n c,.int .i64 mk] w (jT w):=by
 rw[ydk] at h;have HA:=zC h;clear h;go_enter Tryz.func95,Tryz.ntmps95;go_wp2_with fail
 go_loopg [5] n (λ gg i wr=>∃ k:Nat,k<=n/\gg=n-k/\i=.int .i64 k/\Below w.heap.size w wr)
 exact⟨0,Nat.zero_le _,rfl,rfl,Below.refl _ _⟩
 case round=>
  obtain⟨k,hk,eD,rfl,hb⟩:=hrel
  by_cases aF:k<n
  ·obtain⟨g,cap,hv,aZ,bO,bQ,p0⟩:=z4s (zJ (zA HA) hb (λ g e=>((zA HA).lt g e).2)) k aF;injection hv with h1 h2 h3
   subst h1 h3;have hz:=hb.size;have M8:=yau wr mk;go_wp2_with fail
   go_region
   all_goals
    go_wp2_with fail;go_roundg (n-(k+1));exact⟨k+1,by omega,rfl,by go_num,(hb.alloc hz _).drew⟩;omega
  ·go_wp2_with fail;go_ret;exact⟨rfl,hb⟩
theorem zzu (w:W8)(base mk:Nat)(a1 a2 a3 a4:O8)(n1 n2 n3 n4 c1 c2 c3 c4:Nat)(h1:w.ownsRow base 9 1 (.slice a1 n1 c1) n1 (rep (mkT mk) n1))(h2:w.ownsRow base 9 1 (.slice a2 n2 c2) n2 (rep (mkT mk) n2))(h3:w.ownsRow base 9 1 (.slice a3 n3 c3) n3 (rep (mkT mk) n3))(h4:w.ownsRow base 9 1 (.slice a4 n4 c4) n4 (rep (mkT mk) n4))(ia:n1<=100000)(oI:n2<=100000)(Ay:n3<=100000)(vl:n4<=100000)(ji:mk<=1000000000000):
  Calls Tryz.prog 53 #[.agg #[.slice a1 n1 c1,.slice a2 n2 c2,.slice a3 n3 c3,.slice a4 n4 c4,.int .i64 mk]] w (jT w):=by
 have bA:=(Below.refl w.heap.size w).alloc L9 (.cells #[.slice a1 n1 c1,.slice a2 n2 c2,.slice a3 n3 c3,.slice a4 n4 c4,.int .i64 mk] 117);have hA:(w.alloc (.cells #[.slice a1 n1 c1,.slice a2 n2 c2,.slice a3 n3 c3,.slice a4 n4 c4,.int .i64 mk] 117)).heap[w.heap.size]?=some (.cells #[.slice a1 n1 c1,.slice a2 n2 c2,.slice a3 n3 c3,.slice a4 n4 c4,.int .i64 mk] 117 (0,0)):=heap_alloc_new w _;have aH:w.heap.size<(w.alloc (.cells #[.slice a1 n1 c1,.slice a2 n2 c2,.slice a3 n3 c3,.slice a4 n4 c4,.int .i64 mk] 117)).heap.size:=by simp
 have H1:=zC (h1.alloc (.cells #[.slice a1 n1 c1,.slice a2 n2 c2,.slice a3 n3 c3,.slice a4 n4 c4,.int .i64 mk] 117));have H2:=zC (h2.alloc (.cells #[.slice a1 n1 c1,.slice a2 n2 c2,.slice a3 n3 c3,.slice a4 n4 c4,.int .i64 mk] 117));have H3:=zC (h3.alloc (.cells #[.slice a1 n1 c1,.slice a2 n2 c2,.slice a3 n3 c3,.slice a4 n4 c4,.int .i64 mk] 117));have H4:=zC (h4.alloc (.cells #[.slice a1 n1 c1,.slice a2 n2 c2,.slice a3 n3 c3,.slice a4 n4 c4,.int .i64 mk] 117));clear h1 h2 h3 h4;go_enter Tryz.func53,Tryz.ntmps53;go_wp2_with fail;refine (zc8 _ base mk a1 n1 c1 (zA H1) ia ji).mono ?_;rintro e w1 ⟨rfl,aL⟩;have oB:=(aL.block w.heap.size aH).trans hA;have q2:=zJ (zA H2) aL (λ g e=>((zA H2).lt g e).2);obtain⟨y1,Hh⟩:=zB oB 1;obtain⟨y4,RK⟩:=zB oB 4;have sR:=(Array.getElem?_eq_some_iff.1 oB).1;go_wp2_with fail;refine (zc8 w1 base mk a2 n2 c2 q2 oI ji).mono ?_;rintro e w2 ⟨rfl,aK⟩;have B6:=(aK.block w.heap.size sR).trans oB;have lu:=aL.trans (aK.mono aL.size);have q3:=zJ (zA H3) lu (λ g e=>((zA H3).lt g e).2);obtain⟨z2,pL⟩:=zB B6 2;obtain⟨z4,RO⟩:=zB B6 4;have gn:=(Array.getElem?_eq_some_iff.1 B6).1;clear y1 Hh y4 RK oB q2;go_wp2_with fail;refine (zc8 w2 base mk a3 n3 c3 q3 Ay ji).mono ?_;rintro e w3 ⟨rfl,cI⟩;have Pk:=(cI.block w.heap.size gn).trans B6;have kn:=lu.trans (cI.mono lu.size);have q4:=zJ (zA H4) kn (λ g e=>((zA H4).lt g e).2);obtain⟨x3,ER⟩:=zB Pk 3;obtain⟨x4,RC⟩:=zB Pk 4;clear z2 pL z4 RO B6 q3;go_wp2_with fail;refine (zc8 w3 base mk a4 n4 c4 q4 vl ji).mono ?_;rintro e w4 ⟨rfl,bZ⟩;have HB:=zC (bA.trans ((kn.trans (bZ.mono kn.size)).mono (by simp)));clear x3 ER x4 RC Pk q4 aL aK cI bZ lu kn bA hA;go_wp2_with fail;go_ret;exact⟨rfl,zA HB⟩
end
section
open Go.RowKit Go.Maps
variable {m:MB} {w:W8}
theorem zug (h:sr w 185 (zj5 m.mark) m):Calls Tryz.prog 54 #[m.agg] w (jT w):=by
 obtain⟨n,hn,h1,h2,h3,h4⟩:=h.each;have hf:=h.eJ;obtain⟨a1,c1,e1⟩:=zD h1;obtain⟨a2,c2,e2⟩:=zD h2;obtain⟨a3,c3,e3⟩:=zD h3;obtain⟨a4,c4,e4⟩:=zD h4;unfold MB.agg;rw[e1] at h1 ⊢;rw[e2] at h2 ⊢;rw[e3] at h3 ⊢;rw[e4] at h4 ⊢;exact zzt w 0 m.mark a1 a2 a3 a4 n (n+1) (n+2) (n+64) c1 c2 c3 c4 h1 h2 h3 h4 (by omega) (by omega) (by omega) (by omega) (by omega)
theorem zuf (h:sr w 5 (iI m.mark) m):Calls Tryz.prog 52 #[m.agg] w (jT w):=by
 obtain⟨n,hn,h1,h2,h3,h4⟩:=h.each;have hf:=h.eJ;obtain⟨a1,c1,e1⟩:=zD h1;obtain⟨a2,c2,e2⟩:=zD h2;obtain⟨a3,c3,e3⟩:=zD h3;obtain⟨a4,c4,e4⟩:=zD h4;unfold MB.agg;rw[e1] at h1 ⊢;rw[e2] at h2 ⊢;rw[e3] at h3 ⊢;rw[e4] at h4 ⊢;exact zzs w 0 m.mark a1 a2 a3 a4 n (n+1) (n+2) (n+64) c1 c2 c3 c4 h1 h2 h3 h4 (by omega) (by omega) (by omega) (by omega) (by omega)
theorem zuh (h:sr w 9 (mkT m.mark) m):Calls Tryz.prog 53 #[m.agg] w (jT w):=by
 obtain⟨n,hn,h1,h2,h3,h4⟩:=h.each;have hf:=h.eJ;obtain⟨a1,c1,e1⟩:=zD h1;obtain⟨a2,c2,e2⟩:=zD h2;obtain⟨a3,c3,e3⟩:=zD h3;obtain⟨a4,c4,e4⟩:=zD h4;unfold MB.agg;rw[e1] at h1 ⊢;rw[e2] at h2 ⊢;rw[e3] at h3 ⊢;rw[e4] at h4 ⊢;exact zzu w 0 m.mark a1 a2 a3 a4 n (n+1) (n+2) (n+64) c1 c2 c3 c4 h1 h2 h3 h4 (by omega) (by omega) (by omega) (by omega) (by omega)
theorem z7f:z0m:=λ w b bz bv tv sv _ mb mt ms h l1 l2 l3=>
 z3c w b bz bv tv sv mb mt ms iI mkT zj5 h.bp h.bs h.ts h.ss (by omega) (by omega) (by omega) (λ _ _ _ hm=>zuf hm) (λ _ _ _ hm=>zuh hm) (λ _ _ _ hm=>zug hm)
theorem z41 (w0:W8)(o:OpV)(h:z9h o)(hk:o.kd=1):zq1 w0 o:=by
 intro w b bz bv tv sv es mb mt ms _ hL l1 l2 l3 l4;obtain⟨kd,a,bb,s,t,u,at_,nt,ct⟩:=o
 cases hk
 exact (zw7 w b bz bv tv sv es mb mt ms a bb s t u at_ nt ct hL h.s (by omega)).mono λ e w' h=>h.Zl
end
section
open Go.RowKit Go.Maps
attribute [local go_sem ↓] zcf zba zc1 j2 zbb qQ qP qO
attribute [local go_sem] qS zbo jY jX
theorem zpt {L:List (Th × Nat)}(h:(L.map (·.1)).Nodup):L.Nodup:=by
 induction L with
 | nil=>simp
 | cons x r ih=>
  rw[List.map_cons,List.nodup_cons] at h;exact List.nodup_cons.2 ⟨λ hm=>h.1 (List.mem_map_of_mem hm),ih h.2⟩
end
section
open Go.RowKit
def zhi (s:B8):Option jZ:=
 match vD s 0 with
 | .no _=>none
 | .yes p pd ts _=>if (zF s p).1=0 then some ⟨pd,ts⟩ else none
def zqq (w:W8)(r:Option jZ)(e:Ending)(w':W8):Prop:=
 Below w.heap.size w w'/\match r with
 | none=>e=.returned (.tuple #[.agg #[.string { data:=#[] },.slice none 0 0],.bool false])
 | some A=>∃ a c,e=.returned (.tuple #[.agg #[.string A.p,.slice a A.ts.length c],.bool true])/\w'.ownsRow w.heap.size 191 1 (.slice a A.ts.length c) A.ts.length (A.ts.map zc3)
theorem yal {w w1:W8}{s:B8}(aL:Below (w.alloc (Obj.cells #[.string { data:=#[] },.slice none 0 0] 79)).heap.size (w.alloc (Obj.cells #[.string { data:=#[] },.slice none 0 0] 79)) w1):
  dT (w1.alloc (Obj.cells #[.string s,.int .i64 (zF s 0).1,.int .i64 (zF s 0).2.1,.int .i64 (zF s 0).2.2,.int .i64 0,.slice none 0 0] 163)) w1.heap.size s 0 0 (.slice none 0 0):=by
 have hz:=aL.size;simp at hz;refine⟨by simp,?_,?_,?_,?_,?_,?_,?_⟩
 all_goals first | (rw[World.cell?_alloc_at _ _ _ _ rfl];rfl) | (intro o;rw[World.frozen?_alloc_at _ _ _ _ rfl];done) | skip
theorem z8c (w:W8)(s:B8)(hs:s.size<=2000000):
  Calls Tryz.prog 57 #[.string s] w (zqq w (zhi s)):=by
 have bM:s.size<=maxLen:=by unfold maxLen;omega
 go_enter Tryz.func57,Tryz.ntmps57;go_wp2_with fail;refine (zmt s 0 (Nat.zero_le _) bM _).mono ?_;rintro e w1 ⟨rfl,aL⟩;have aY:=aL.size;have aP:=yal (s:=s) aL;have mg:w1.heap[w.heap.size]?=some (.cells #[.string { data:=#[] },.slice none 0 0] 79 (0,0)):=by rw[aL.block _ (by simp)];exact heap_alloc_new w _
 have dp:Below w.heap.size w w1:=(B9.alloc L9 _).trans (aL.mono (by simp));have HB:=zC dp;have HR:=zC mg;have dB:=zC aP;clear aL dp mg;simp at aY;obtain⟨aH,c0,c1,c2,c3,c4,c5,fz⟩:=aP;clear fz;go_wp2_with fail;refine (zmf _ w1.heap.size s 0 0 (.slice none 0 0) false (zF s 0).2.1 [] (zA dB) ⟨World.ownsRow_nil _ _ _ _,by simp⟩ (by simp) (Nat.zero_le _) hs).mono ?_;intro e w2 hp;clear aH c0 c1 c2 c3 c4 c5;have FU:=(zA HB).alloc (B:=w.heap.size) (by omega) (Obj.cells #[.string s,.int .i64 (zF s 0).1,.int .i64 (zF s 0).2.1,.int .i64 (zF s 0).2.2,.int .i64 0,.slice none 0 0] 163);have xn:=(Below.heap_alloc w1 (Obj.cells #[.string s,.int .i64 (zF s 0).1,.int .i64 (zF s 0).2.1,.int .i64 (zF s 0).2.2,.int .i64 0,.slice none 0 0] 163) w.heap.size (by omega)).trans (zA HR)
 cases hP:vD s 0 with
 | no p=>
  rw[hP] at hp;obtain⟨rfl,bn,ik⟩:=hp;have bg:=bn.size;simp at bg;have HN:=zC (show zhi s=none by unfold zhi;rw[hP]);have aK:=zY FU bn (by simp;omega) (by simp;omega);have vo:=(bn.block w.heap.size (by simp;omega) (by simp;omega)).trans xn;have lj:=(Below.heap_alloc w2 (Obj.cells #[.string { data:=#[] },.slice none 0 0] 79) w.heap.size (by omega)).trans vo;obtain⟨r0,f0⟩:=zB lj 0;obtain⟨r1,f1⟩:=zB lj 1;have ir:=zC aK;clear bn ik FU xn aK vo hP dB HR HB lj;go_wp2_with fail;obtain⟨q0,q1⟩:=zj8 r0 r1 (.string { data:=#[] }) (.slice none 0 0);refine bodyPost_ret (v:=.tuple #[.agg #[.string { data:=#[] },.slice none 0 0],.bool false]) (by simp[results,Tryz.results57,go_sem,q0,q1]) rfl ?_;rw[zA HN];exact⟨zY ((zA ir).alloc (by omega) _) (zby _ w.heap.size _ _) (by simp;omega) (by simp),rfl⟩
 | yes p pd ts pl=>
  rw[hP] at hp;obtain⟨tv,kq,rfl,bn,ik,dD,mA,oE⟩:=hp;obtain⟨ta,tc,rfl⟩:=zD mA;have bg:=bn.size;simp at bg;have aK:=zY FU bn (by simp;omega) (by simp[Value.ownBlock];omega);have vo:=(bn.block w.heap.size (by simp;omega) (by simp[Value.ownBlock];omega)).trans xn;obtain⟨aH,c0,c1,c2,c3,c4,c5,fz⟩:=ik.kept ((zK.refl [] w2).alloc (Obj.cells #[.string pd,.slice ta ts.length tc] 79)) (by simp);have vq:=zG (base':=w.heap.size) mA (by simp;omega);have oJ:∀ g,(Value.slice ta ts.length tc).ownBlock=some g->g≠w.heap.size:=λ g hg e=>by
   have:=yH mA (e:=79) (by decide) g (by simpa using hg);subst e;exact this _ _ vo
  have lj:=(Below.heap_alloc w2 (Obj.cells #[.string pd,.slice ta ts.length tc] 79) w.heap.size (by omega)).trans vo;obtain⟨r0,f0⟩:=zB lj 0;obtain⟨r1,f1⟩:=zB lj 1;have ir:=zC aK;have HT:=zC vq;have Jj:=zC oJ;clear bn ik FU xn aK vo dB HR HB dD mA oE fz vq oJ lj
  by_cases h0:(zF s p).1=0
  ·have HN:=zC (show zhi s=some ⟨pd,ts⟩ by unfold zhi;rw[hP];exact if_pos h0);have Pf:((zF s p).1 != 0)=false:=(by simp[h0]);clear h0 hP;go_wp2_with fail;obtain⟨q0,q1⟩:=zj8 r0 r1 (.string pd) (.slice ta ts.length tc);refine bodyPost_ret (v:=.tuple #[.agg #[.string pd,.slice ta ts.length tc],.bool true]) (by simp[results,Tryz.results57,go_sem,q0,q1]) rfl ?_;rw[zA HN];exact⟨zY ((zA ir).alloc (by omega) _) (zby _ w.heap.size _ _) (by simp;omega) (by simp),ta,tc,rfl,j8 ((zA HT).alloc _) (zby _ w.heap.size _ _) (zA Jj)⟩
  ·have HN:=zC (show zhi s=none by unfold zhi;rw[hP];exact if_neg h0);have Pf:((zF s p).1 != 0)=true:=(by simp[h0]);clear h0 hP;go_wp2_with fail;obtain⟨q0,q1⟩:=zj8 r0 r1 (.string { data:=#[] }) (.slice none 0 0);refine bodyPost_ret (v:=.tuple #[.agg #[.string { data:=#[] },.slice none 0 0],.bool false]) (by simp[results,Tryz.results57,go_sem,q0,q1]) rfl ?_;rw[zA HN];exact⟨zY ((zA ir).alloc (by omega) _) (zby _ w.heap.size _ _) (by simp;omega) (by simp),rfl⟩
end
section
open Go.RowKit Go.Maps
def ze1 (ps:P9)(s:B8):Option jZ:=match zhi s with
 | none=>none
 | some A=>if zil ps A then some A else none
theorem zsf {s:B8}{A:jZ}(h:zhi s=some A):A.p.size<=s.size/\A.ts.length<=4:=by
 unfold zhi at h
 split at h
 ·cases h
 ·rename_i p pd ts pl hp
  split at h
  ·cases h;exact zkm hp
  ·cases h
theorem zpw (w:W8)(s:B8)(tb n:Nat)(ps:P9)(S:B8->Nat)(h:dE Tryz.prog 9 w tb n (stV ps S))(hs:s.size<=2000000):
  Calls Tryz.prog 37 #[.string s,.map (some tb)] w (zqq w (ze1 ps s)):=by
 have rk:=h.lt;have HM:=zC h;clear h;go_enter Tryz.func37,Tryz.ntmps37;go_wp2_with fail;refine (z8c _ s hs).mono ?_;rintro e w1 ⟨aL,hp⟩;have aY:=aL.size;have mg:w1.heap[w.heap.size]?=some (.cells #[.string { data:=#[] },.slice none 0 0] 79 (0,0)):=by rw[aL.block _ (by simp)];exact heap_alloc_new w _
 have dp:Below w.heap.size w w1:=(B9.alloc L9 _).trans (aL.mono (by simp));have dH:=(zA HM).block (dp.block tb rk);have HB:=zC dp;simp at aY;clear aL dp
 cases hP:zhi s with
 | none=>
  rw[hP] at hp;subst hp;have HN:=zC (show ze1 ps s=none by unfold ze1;rw[hP]);have lj:=(Below.heap_alloc w1 (Obj.cells #[.string { data:=#[] },.slice none 0 0] 79) w.heap.size (by omega)).trans mg;obtain⟨r0,f0⟩:=zB lj 0;obtain⟨r1,f1⟩:=zB lj 1;clear hP dH mg lj;go_wp2_with fail;obtain⟨q0,q1⟩:=zj8 r0 r1 (.string { data:=#[] }) (.slice none 0 0);refine bodyPost_ret (v:=.tuple #[.agg #[.string { data:=#[] },.slice none 0 0],.bool false]) (by simp[results,Tryz.results37,go_sem,q0,q1]) rfl ?_;rw[zA HN];exact⟨zY ((zA HB).alloc (by omega) _) (zby _ w.heap.size _ _) (by simp;omega) (by simp),rfl⟩
 | some A=>
  rw[hP] at hp;obtain⟨a,c,rfl,aB⟩:=hp;obtain⟨bj,h4⟩:=zsf hP;have oJ:∀ g,(Value.slice a A.ts.length c).ownBlock=some g->g≠w.heap.size:=λ g hg e=>by
   have:=aB.lt g hg;simp at this;omega
  have HT:=zC (zG (base':=w.heap.size) aB (by simp));have Jj:=zC oJ;have HP:=zC hP;have dD:=dH.block (Below.heap_alloc w1 (Obj.cells #[.string A.p,.slice a A.ts.length c] 79) tb (by omega));have lj:=(Below.heap_alloc w1 (Obj.cells #[.string A.p,.slice a A.ts.length c] 79) w.heap.size (by omega)).trans mg;have wU:=zC dD;have CI:=zC lj;clear hP dH dD aB oJ mg lj HM;go_wp2_with fail;refine (z45 _ tb n ps S A a c (zA wU) (by unfold maxLen;omega)).mono ?_;rintro e w2 ⟨rfl,aK⟩;have bg:=aK.size;simp at bg;have il:=(aK.block w.heap.size (by simp;omega)).trans (zA CI);have du:=(aK.block w1.heap.size (by simp)).trans (heap_alloc_new w1 _);have ir:=zC (((zA HB).alloc (by omega) _).trans (aK.mono (by simp;omega)));have uN:=zC (zJ ((zA HT).alloc _) aK (λ g e=>by have:=((zA HT).lt g e).2;simp;omega));obtain⟨r0,f0⟩:=zB il 0;obtain⟨r1,f1⟩:=zB il 1;obtain⟨a0,g0⟩:=zB du 0;obtain⟨a1,g1⟩:=zB du 1;clear aK il du
  cases hS:zil ps A with
  | false=>
   have HN:=zC (show ze1 ps s=none by unfold ze1;rw[zA HP];simp[hS]);clear hS;go_wp2_with fail;obtain⟨q0,q1⟩:=zj8 r0 r1 (.string { data:=#[] }) (.slice none 0 0);refine bodyPost_ret (v:=.tuple #[.agg #[.string { data:=#[] },.slice none 0 0],.bool false]) (by simp[results,Tryz.results37,go_sem,q0,q1]) rfl ?_;rw[zA HN];exact⟨zY (zA ir) (zby _ w.heap.size _ _) (by omega) (by simp),rfl⟩
  | true=>
   have HN:=zC (show ze1 ps s=some A by unfold ze1;rw[zA HP];simp[hS]);clear hS;go_wp2_with fail;obtain⟨q0,q1⟩:=zj8 r0 r1 (.string A.p) (.slice a A.ts.length c);refine bodyPost_ret (v:=.tuple #[.agg #[.string A.p,.slice a A.ts.length c],.bool true]) (by simp[results,Tryz.results37,go_sem,q0,q1]) rfl ?_;rw[zA HN];exact⟨zY (zA ir) (zby _ w.heap.size _ _) (by omega) (by simp),a,c,rfl,j8 (zA uN) (zby _ w.heap.size _ _) (zA Jj)⟩
end
section
open Go.RowKit Go.Maps
theorem zpl {l:Int}(h:uG l=true):1<=l/\l<=50:=by unfold uG at h;simpa using h
theorem iq.sG {w w':W8}{n base:Nat}{rv:Value}{rs:List PR}(h:iq w base rv rs)(k:Below n w w')(hn:w.heap.size<=n):iq w' base rv rs:=
 h.bu (B:=[]) ⟨k.os,k.tape,k.output,k.size,λ i hi _=>k.block i (by omega)⟩ (by simp)
end
section
open Go.RowKit Go.Maps
attribute [local go_sem ↓] zbb qQ qP qO
attribute [local go_sem] jY jX
def zno (S:B8->Nat)(p:Th × Nat):Pl:=⟨p.1,S p.1.1,p.2⟩
theorem yba:(Tryz.prog.info? 148).map (λ i=>(i.zero,i.size,i.bytes))=some (some (.agg #[.string { data:=#[] },.string { data:=#[] },.string { data:=#[] },.string { data:=#[] },.string { data:=#[] },.int .i64 0,.int .i64 0]),7,96):=by kernel_rfl
theorem z75 (w1:W8)(o:Obj)(p:Pl)(j:Nat)(u:Value)(h:(ez p)[j]?=some u):((w1.alloc o).alloc (.cells (ez p).toArray 148)).cell? ((⟨w1.heap.size+1,0,none⟩:Addr).add j)=some u:=by
 have e:(⟨w1.heap.size+1,0,none⟩:Addr).add j=⟨w1.heap.size+1,j,none⟩:=by unfold Addr.add;split <;> simp_all
 rw[e,World.cell?_alloc_at _ _ _ _ (by simp)];simpa using h
structure yeo (w:W8)(kb rb:Nat)(S:B8->Nat)(K:List (Th × Nat))(Lf:Th->Prop)(ts:List (Th × Nat))(v:Value)(eC:Nat)(wr:W8):Prop where
 rg:so wr kb rb K Lf eC
 mem:∀ p,p∈ts↔p∈K/\¬ Lf p.1
 nd:ts.Nodup
 len:ts.length+eC<=K.length
 row:wr.ownsRow (w.heap.size+1) 148 7 v ts.length (ts.flatMap λ p=>ez (zno S p))
 k:Below w.heap.size w wr
theorem ybs {K ts:List (Th × Nat)}{Lf:Th->Prop}{t:Th}{n:Nat}(hm:∀ p,p∈ts↔p∈K/\¬ Lf p.1)(ht:(t,n)∈K)(hd:(K.map (·.1)).Nodup):∀ p,p∈ts++[(t,n)]↔p∈K/\¬ (Lf p.1/\p.1≠t):=by
 intro p;rw[List.mem_append,hm,List.mem_singleton]
 constructor
 ·rintro (⟨h1,h2⟩ | rfl)
  ·exact⟨h1,λ h=>h2 h.1⟩
  ·exact⟨ht,λ h=>h.2 rfl⟩
 ·rintro⟨h1,h2⟩
  by_cases e:p.1=t
  ·right
   have h3:yS K t=some p.2:=za5 hd (by rw[<-e];exact h1);rw[za5 hd ht] at h3;have:=Option.some.inj h3;exact Prod.ext e this.symm
  ·left;exact⟨h1,λ h=>h2 ⟨h,e⟩⟩
def z0p (w:W8)(S:B8->Nat)(K:List (Th × Nat))(e:Ending)(w':W8):Prop:=
 ∃ (O:List Pl) (a:O8) (c:Nat),e=.returned (.slice a O.length c)/\O.Perm (K.map (zno S))/\(O.Pairwise λ p q=>vU p q=true)/\w'.ownsRow w.heap.size 148 7 (.slice a O.length c) O.length (O.flatMap ez)/\Below w.heap.size w w'
theorem z3z (w:W8)(kb tb n:Nat)(ps:P9)(S:B8->Nat)(K:List (Th × Nat))(hm:qR w kb K)(ht:dE Tryz.prog 9 w tb n (stV ps S))(hK:K.length<=1000)(LB:∀ p∈K,(zau p.1.1 (xB p.1)).length<=1000000000)(pF:∀ p∈K,p.1.1.size<=1000000/\(yX ps p.1.1).isSome=true)(mT:(K.map λ p=>xK p.1).Nodup):
  Calls Tryz.prog 67 #[.map (some kb),.map (some tb)] w (z0p w S K):=by
 obtain⟨i0,hi,bL,aY,bg⟩:=info_parts yba;have ML:=zC LB;have Wu:=zC pF;have B2:=zC mT;have dF:=hm.lt;have rk:=ht.lt;have HM:=zC hm;have HT:=zC ht;clear LB hm ht pF mT;have KI:=zpd;have Ce:=zA HM;go_enter Tryz.func67,Tryz.ntmps67;go_wp2_with (first | (at_range;refine znb _ rfl _ 83 rfl Tryz.underlying83 kb K rfl Ce ?_;intro w1 hrg1 jg sg) | go_in)
 try go_frame
 have h0:yeo w kb w.heap.size S K (λ _=>True) [] (.slice none 0 0) K.length w1:=
  ⟨hrg1,λ p=>⟨λ h=>absurd h List.not_mem_nil,λ h=>absurd trivial h.2⟩,by simp,by simp,World.ownsRow_nil _ _ _ _,⟨jg.os,jg.tape,jg.output,jg.size,λ j hj=>jg.block j hj (by simp)⟩⟩
 have H0:=zC h0;clear hrg1 jg sg Ce h0
 go_loopg [5] K.length (λ gg v wr=>∃ (Lf:Th->Prop) (ts:List (Th × Nat)),yeo w kb w.heap.size S K Lf ts v gg wr)
 exact⟨_,_,zA H0⟩
 case round=>
  clear H0;obtain⟨Lf,ts,ax⟩:=hrel;obtain⟨a1,c1,rfl⟩:=zD ax.row;have oL:=ax.rg;have AV:w.heap.size<wr.heap.size:=ax.rg.lt;have hlen:=ax.len;have bT:=zC ax;clear ax;go_wp2_with (first | (at_next;refine zqi _ rfl _ rfl kb w.heap.size K Lf gk rfl oL ?_ ?_) | go_in)
  ·intro dj;have HD:=zC dj;have ax:=zA bT;have bV:ts.Perm K:=(List.perm_ext_iff_of_nodup ax.nd (zpt ax.rg.map.nodup)).2 λ p=>by
    rw[ax.mem];exact⟨λ h=>h.1,λ h=>⟨h,dj p.1.1 p.1.2 p.2 h⟩⟩
   have KQ:(ts.map (zno S)).length=ts.length:=(by simp);have aB:=ax.row;rw[<-KQ,show (ts.flatMap λ p=>ez (zno S p))=(ts.map (zno S)).flatMap ez by rw[List.flatMap_map]] at aB
   have HS:=zC (zzq wr (w.heap.size+1) a1 c1 (ts.map (zno S)) aB (by rw[KQ];omega) (λ p hp=>by
    obtain⟨y,hy,rfl⟩:=List.mem_map.1 hp;have kX:=bV.mem_iff.1 hy
    exact⟨ax.rg.map.ok _ kX,zA ML _ kX⟩) (by
    rw[List.map_map]
    exact ((bV.map _).nodup_iff).2 (zA B2)))
   rw[KQ] at HS;have px:=zC bV;clear dj oL ax aB bV;go_wp2_with (go_at_call 105;refine (zA HS).mono ?_;rintro e w2 ⟨rfl,O,Tm,Tn,To,Tp⟩;have HO:=zC (And.intro Tm (And.intro Tn (And.intro To Tp)));clear Tm Tn To Tp);go_ret;obtain⟨q1,q2,q3,g2⟩:=zA HO;have ax:=zA bT;have MZ:O.length=ts.length:=(by rw[q1.length_eq,KQ]);refine⟨O,a1,c1,by rw[MZ];rfl,q1.trans ((zA px).map _),q2,?_,?_⟩
   ·rw[MZ] at q3 ⊢;exact zG q3 (by omega)
   ·exact⟨g2.os.trans ax.k.os,g2.tape.trans ax.k.tape,g2.output.trans ax.k.output,Nat.le_trans ax.k.size g2.size,λ i hi=>(g2.block i (by omega) (λ e=>by have:=(ax.row.lt i e.symm).1;omega)).trans (ax.k.block i hi)⟩
  ·intro tp tts h w2 cnt2 nz qx hrg2 gn fL sj hen2;have ax:=zA bT;have k2:Below w.heap.size w w2:=⟨fL.os.trans ax.k.os,fL.tape.trans ax.k.tape,fL.output.trans ax.k.output,Nat.le_trans ax.k.size fL.size,λ i hi=>(fL.block i (by omega) (by simp;omega)).trans (ax.k.block i hi)⟩;have r2:w2.ownsRow (w.heap.size+1) 148 7 (.slice a1 ts.length c1) ts.length (ts.flatMap λ p=>ez (zno S p)):=zZ ax.row (λ g e=>fL.block g (ax.row.lt g e).2 (λ e2=>by have:=(ax.row.lt g e).1;injection e2 with e2;omega));generalize ((tp,tts):Th)=t at *;obtain⟨ft,Ix⟩:=zA Wu _ nz;obtain⟨m,nx⟩:=Option.isSome_iff_exists.1 Ix;simp only at ft nx;have hT:zdu t:=ax.rg.map.ok _ nz;have oP:wr.heap.size<=w2.heap.size:=fL.size;have k3:Below w2.heap.size w2 (w2.alloc (.cells (zV t).toArray 88)):=B9.alloc L9 _;have t3:(zmx (.pointer (some ⟨w2.heap.size,0,none⟩))).run Tryz.prog (w2.alloc (.cells (zV t).toArray 88))=.ok (.agg #[.string t.1,.string (xW t.2 0),.string (xW t.2 1),.string (xW t.2 2),.string (xW t.2 3)]) (w2.alloc (.cells (zV t).toArray 88)):=(TV.new w2 t).load;have q0:(w2.alloc (.cells (zV t).toArray 88)).cell? ⟨w2.heap.size,0,none⟩=some (.string t.1):=(zB (TV.new w2 t) 0).1;have Is:dE Tryz.prog 9 (w2.alloc (.cells (zV t).toArray 88)) tb n (stV ps S):=(zA HT).block ((k2.trans (k3.mono k2.size)).block tb rk);have Al:t.1.size<=maxLen:=(by unfold maxLen;omega);have hu:(stV ps S t.1).getD (.agg #[.string { data:=#[] },.int .i64 0,.int .i64 0])=.agg #[.string t.1,.int .i64 (S t.1),.int .i64 m]:=(by unfold stV;rw[nx];rfl);have sF:=zC hrg2;have wR:=zC k2;have mG:=zC r2;have dB:=zC (ybs ax.mem nz ax.rg.map.nodup);have oJ:(t,h)∉ts:=λ hm=>((ax.mem _).1 hm).2 qx
   have Jj:=zC oJ;have OA:=zC ax.nd;have bH:=(r2.alloc (.cells (zV t).toArray 88)).alloc (.cells (ez (zno S (t,h))).toArray 148);clear sj fL oL hrg2 k2 r2 nz qx ax k3 oJ nx Ix
   go_wp2_with (first
     | (at_lookup;refine zfw _ rfl _ _ 73 rfl 9 185 Tryz.underlying9 Tryz.underlying73 (Tryz.zeroValue185 _) tb n (stV ps S) rfl Is t.1 rfl Al _ hu ?_)
     | (at_builtin;refine wpList_append_own _ rfl _ _ 141 rfl (w.heap.size+1) 148 i0 _ 7 96 Tryz.underlying141 hi bL aY bg rfl (by decide) _ _ _ rfl bH ⟨w2.heap.size+1,0,none⟩ 1 1 (ez (zno S (t,h))) rfl rfl (z75 w2 (.cells (zV t).toArray 88) (zno S (t,h))) (zsh _) (by unfold maxLen;omega) (by omega) (by simp;omega) ?_;intro v7 w7 hown7 hg7 hne7;clear hne7;obtain⟨a7,Xc,rfl⟩:=zD hown7;have Wn:=zC hown7;have VU:=zC hg7;clear hown7 hg7))
   go_roundg cnt2
   case measure=>omega
   case rel=>
    have g7:=zA VU;have k2:=zA wR;have r2:=zA mG;have hb:∀ i,i<=w.heap.size->w7.heap[i]?=w2.heap[i]?:=λ i hi=>by
     rw[g7.block i (by simp;omega) (λ e=>by have:=(r2.lt i e.symm).1;omega),Below.heap_alloc _ _ _ (by simp;omega),Below.heap_alloc _ _ _ (by omega)]
    refine⟨_,ts++[(t,h)],(zA sF).blocks (hb _ (by omega)) (hb _ L9),zA dB,List.nodup_append.2 ⟨zA OA,by simp,λ x hx y hy e=>by rw[List.mem_singleton.1 hy] at e;rw[e] at hx;exact zA Jj hx⟩,by rw[List.length_append];simp;omega,?_,?_⟩
    ·have h7:=zA Wn;have e1:(ts++[(t,h)]).length=ts.length+1:=(by simp);rw[e1,List.flatMap_append];simpa using h7
    ·exact⟨g7.os.trans k2.os,g7.tape.trans k2.tape,g7.output.trans k2.output,by have h1:=g7.size;have h2:=k2.size;simp at h1;omega,λ i hi=>(hb i (by omega)).trans (k2.block i hi)⟩
end
section
open Go.RowKit
theorem z3i (m:Value)(k:Nat)(ys:V8)(h:1<=ys.length):(rep [m] k++ys).set k m=rep [m] (k+1)++ys.drop 1:=by
 match ys,h with
 | y0::r,_=>
  have hl:(rep [m] k).length=k:=by rw[NZ];simp
  rw[List.set_append_right _ _ (by omega),hl,zpz];simp[rep]
end
end Go.Proofs.YtldkpahaocjdpaaGreat
