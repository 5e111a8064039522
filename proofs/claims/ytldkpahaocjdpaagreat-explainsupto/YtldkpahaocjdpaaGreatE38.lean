/-
  The reference's Query, at every atom and limit.
-/
import Derived.Test.YtldkpahaocjdpaaGreatE37
import Derived.Sort.Walk0
import Derived.Calls
import Derived.OrdersIn
import Derived.OrdersHeld
import Derived.Deep.RegionHeld
set_option maxHeartbeats 16000000
set_option maxRecDepth 1000000
namespace Go.Proofs.YtldkpahaocjdpaaGreat
section
open Go.RowKit Go.Maps
theorem z53.below {w:W8}{o:Nat}{rs:List RR}{ps:P9}{rv pv tv:Value}{gs:Nat}{S:Nat->Nat}{w':W8}(h:z53 w o rs ps rv pv tv gs S)(hb:Below w.heap.size w w'):z53 w' o rs ps rv pv tv gs S:=
 ⟨h.prog.kept ((zK.refl [] _).ak hb) (by simp),h.og.kept ((zK.refl [] _).ak hb),h.body,h.atoms,h.Ny⟩
end
section
open Go.RowKit Go.Maps
def zil (ps:P9)(A:jZ):Bool:=match yX ps A.p with
 | some n=>decide (n=A.ts.length)
 | none=>true
theorem z45 (w:W8)(tb n:Nat)(ps:P9)(S:B8->Nat)(A:jZ)(a:O8)(c:Nat)(h:dE Tryz.prog 9 w tb n (stV ps S))(hp:A.p.size<=maxLen):
  Calls Tryz.prog 58 #[.map (some tb),.agg #[.string A.p,.slice a A.ts.length c]] w λ en w'=>en=.returned (.bool (zil ps A))/\Below w.heap.size w w':=by
 have k0:Below w.heap.size w (w.alloc (.cells #[.string A.p,.slice a A.ts.length c] 79)):=B9.alloc L9 _;have hm:=h.block (k0.block tb h.lt);have HK:=zC k0;clear h
 cases hn:yX ps A.p with
 | none=>
  have HS:=zC (show zil ps A=true by unfold zil;rw[hn]);have hu:(stV ps S A.p).getD (.agg #[.string { data:=#[] },.int .i64 0,.int .i64 0])=.agg #[.string { data:=#[] },.int .i64 0,.int .i64 0]:=by unfold stV;rw[hn];rfl
  have hc:(stV ps S A.p).isSome=false:=by unfold stV;rw[hn];rfl
  clear k0;go_enter Tryz.func58,Tryz.ntmps58;go_wp2_with (at_lookup;refine qC _ rfl _ _ 73 rfl 9 185 Tryz.underlying9 Tryz.underlying73 (Tryz.zeroValue185 _) tb n (stV ps S) rfl hm A.p rfl hp _ hu _ hc ?_);go_ret;exact⟨by rw[zA HS];rfl,(zA HK).alloc (zA HK).size _⟩
 | some m=>
  have hu:(stV ps S A.p).getD (.agg #[.string { data:=#[] },.int .i64 0,.int .i64 0])=.agg #[.string A.p,.int .i64 (S A.p),.int .i64 m]:=by unfold stV;rw[hn];rfl
  have hc:(stV ps S A.p).isSome=true:=by unfold stV;rw[hn];rfl
  have HS:=zC (show zil ps A=((m:Int)==(A.ts.length:Int)) by
   unfold zil;rw[hn]
   by_cases e:m=A.ts.length
   ·subst e;simp
   ·have:¬ ((m:Int)=A.ts.length):=by omega
    simp[e,this])
  clear k0;go_enter Tryz.func58,Tryz.ntmps58;go_wp2_with (at_lookup;refine qC _ rfl _ _ 73 rfl 9 185 Tryz.underlying9 Tryz.underlying73 (Tryz.zeroValue185 _) tb n (stV ps S) rfl hm A.p rfl hp _ hu _ hc ?_);go_ret;exact⟨by rw[zA HS];rfl,(zA HK).alloc (zA HK).size _⟩
def uG (l:Int):Bool:=decide (1<=l)&&decide (l<=50)
theorem z3l (w:W8)(l:Int):Calls Tryz.prog 34 #[.int .i64 l] w λ en w'=>en=.returned (.bool (uG l))/\w'=w:=by
 by_cases h1:1<=l
 ·go_enter Tryz.func34,Tryz.ntmps34;go_wp2_with fail;go_ret;exact⟨by unfold uG;simp[h1],rfl⟩
 ·go_enter Tryz.func34,Tryz.ntmps34;go_wp2_with fail;go_ret;exact⟨by (unfold uG;simp;omega),rfl⟩
end
section
open Go.RowKit
def zhi (s:B8):Option jZ:=
 match vD s 0 with
 | .no _=>none
 | .yes p pd ts _=>if (zF s p).1=0 then some ⟨pd,ts⟩ else none
def zqq (w:W8)(r:Option jZ)(e:Ending)(w':W8):Prop:=
 Below w.heap.size w w'/\match r with
 | none=>e=.returned (.tuple #[.agg #[.string { data:=#[] },.slice none 0 0],.bool false])
 | some A=>∃ a c,e=.returned (.tuple #[.agg #[.string A.p,.slice a A.ts.length c],.bool true])/\w'.ownsRow w.heap.size 191 1 (.slice a A.ts.length c) A.ts.length (A.ts.map zc3)
theorem yal {w w1:W8}{s:B8}(aL:Below (w.alloc (Obj.cells #[.string { data:=#[] },.slice none 0 0] 79)).heap.size (w.alloc (Obj.cells #[.string { data:=#[] },.slice none 0 0] 79)) w1):
  dT (w1.alloc (Obj.cells #[.string s,.int .i64 (zF s 0).1,.int .i64 (zF s 0).2.1,.int .i64 (zF s 0).2.2,.int .i64 0,.slice none 0 0] 163)) w1.heap.size s 0 0 (.slice none 0 0):=by
 have hz:=aL.size;simp at hz;refine⟨by simp,?_,?_,?_,?_,?_,?_,?_⟩
 all_goals first | (rw[World.cell?_alloc_at _ _ _ _ rfl];rfl) | (intro o;rw[World.frozen?_alloc_at _ _ _ _ rfl];done) | skip
theorem z8c (w:W8)(s:B8)(hs:s.size<=2000000):
  Calls Tryz.prog 57 #[.string s] w (zqq w (zhi s)):=by
 have bM:s.size<=maxLen:=by unfold maxLen;omega
 go_enter Tryz.func57,Tryz.ntmps57;go_wp2_with fail;refine (zmt s 0 (Nat.zero_le _) bM _).mono ?_;rintro e w1 ⟨rfl,aL⟩;have aY:=aL.size;have aP:=yal (s:=s) aL;have mg:w1.heap[w.heap.size]?=some (.cells #[.string { data:=#[] },.slice none 0 0] 79 (0,0)):=by rw[aL.block _ (by simp)];exact heap_alloc_new w _
 have dp:Below w.heap.size w w1:=(B9.alloc L9 _).trans (aL.mono (by simp));have HB:=zC dp;have HR:=zC mg;have dB:=zC aP;clear aL dp mg;simp at aY;obtain⟨aH,c0,c1,c2,c3,c4,c5,fz⟩:=aP;clear fz;go_wp2_with fail;refine (zmf _ w1.heap.size s 0 0 (.slice none 0 0) false (zF s 0).2.1 [] (zA dB) ⟨World.ownsRow_nil _ _ _ _,by simp⟩ (by simp) (Nat.zero_le _) hs).mono ?_;intro e w2 hp;clear aH c0 c1 c2 c3 c4 c5;have FU:=(zA HB).alloc (B:=w.heap.size) (by omega) (Obj.cells #[.string s,.int .i64 (zF s 0).1,.int .i64 (zF s 0).2.1,.int .i64 (zF s 0).2.2,.int .i64 0,.slice none 0 0] 163);have xn:=(Below.heap_alloc w1 (Obj.cells #[.string s,.int .i64 (zF s 0).1,.int .i64 (zF s 0).2.1,.int .i64 (zF s 0).2.2,.int .i64 0,.slice none 0 0] 163) w.heap.size (by omega)).trans (zA HR)
 cases hP:vD s 0 with
 | no p=>
  rw[hP] at hp;obtain⟨rfl,bn,ik⟩:=hp;have bg:=bn.size;simp at bg;have HN:=zC (show zhi s=none by unfold zhi;rw[hP]);have aK:=zY FU bn (by simp;omega) (by simp;omega);have vo:=(bn.block w.heap.size (by simp;omega) (by simp;omega)).trans xn;have lj:=(Below.heap_alloc w2 (Obj.cells #[.string { data:=#[] },.slice none 0 0] 79) w.heap.size (by omega)).trans vo;obtain⟨r0,f0⟩:=zB lj 0;obtain⟨r1,f1⟩:=zB lj 1;have ir:=zC aK;clear bn ik FU xn aK vo hP dB HR HB lj;go_wp2_with fail;obtain⟨q0,q1⟩:=zj8 r0 r1 (.string { data:=#[] }) (.slice none 0 0);refine bodyPost_ret (v:=.tuple #[.agg #[.string { data:=#[] },.slice none 0 0],.bool false]) (by simp[results,Tryz.results57,go_sem,q0,q1]) rfl ?_;rw[zA HN];exact⟨zY ((zA ir).alloc (by omega) _) (zby _ w.heap.size _ _) (by simp;omega) (by simp),rfl⟩
 | yes p pd ts pl=>
  rw[hP] at hp;obtain⟨tv,kq,rfl,bn,ik,dD,mA,oE⟩:=hp;obtain⟨ta,tc,rfl⟩:=zD mA;have bg:=bn.size;simp at bg;have aK:=zY FU bn (by simp;omega) (by simp[Value.ownBlock];omega);have vo:=(bn.block w.heap.size (by simp;omega) (by simp[Value.ownBlock];omega)).trans xn;obtain⟨aH,c0,c1,c2,c3,c4,c5,fz⟩:=ik.kept ((zK.refl [] w2).alloc (Obj.cells #[.string pd,.slice ta ts.length tc] 79)) (by simp);have vq:=zG (base':=w.heap.size) mA (by simp;omega);have oJ:∀ g,(Value.slice ta ts.length tc).ownBlock=some g->g≠w.heap.size:=λ g hg e=>by
   have:=yH mA (e:=79) (by decide) g (by simpa using hg);subst e;exact this _ _ vo
  have lj:=(Below.heap_alloc w2 (Obj.cells #[.string pd,.slice ta ts.length tc] 79) w.heap.size (by omega)).trans vo;obtain⟨r0,f0⟩:=zB lj 0;obtain⟨r1,f1⟩:=zB lj 1;have ir:=zC aK;have HT:=zC vq;have Jj:=zC oJ;clear bn ik FU xn aK vo dB HR HB dD mA oE fz vq oJ lj
  by_cases h0:(zF s p).1=0
  ·have HN:=zC (show zhi s=some ⟨pd,ts⟩ by unfold zhi;rw[hP];exact if_pos h0);have Pf:((zF s p).1 != 0)=false:=(by simp[h0]);clear h0 hP;go_wp2_with fail;obtain⟨q0,q1⟩:=zj8 r0 r1 (.string pd) (.slice ta ts.length tc);refine bodyPost_ret (v:=.tuple #[.agg #[.string pd,.slice ta ts.length tc],.bool true]) (by simp[results,Tryz.results57,go_sem,q0,q1]) rfl ?_;rw[zA HN];exact⟨zY ((zA ir).alloc (by omega) _) (zby _ w.heap.size _ _) (by simp;omega) (by simp),ta,tc,rfl,j8 ((zA HT).alloc _) (zby _ w.heap.size _ _) (zA Jj)⟩
  ·have HN:=zC (show zhi s=none by unfold zhi;rw[hP];exact if_neg h0);have Pf:((zF s p).1 != 0)=true:=(by simp[h0]);clear h0 hP;go_wp2_with fail;obtain⟨q0,q1⟩:=zj8 r0 r1 (.string { data:=#[] }) (.slice none 0 0);refine bodyPost_ret (v:=.tuple #[.agg #[.string { data:=#[] },.slice none 0 0],.bool false]) (by simp[results,Tryz.results57,go_sem,q0,q1]) rfl ?_;rw[zA HN];exact⟨zY ((zA ir).alloc (by omega) _) (zby _ w.heap.size _ _) (by simp;omega) (by simp),rfl⟩
end
section
open Go.RowKit Go.Maps
def ze1 (ps:P9)(s:B8):Option jZ:=match zhi s with
 | none=>none
 | some A=>if zil ps A then some A else none
theorem zsf {s:B8}{A:jZ}(h:zhi s=some A):A.p.size<=s.size/\A.ts.length<=4:=by
 unfold zhi at h
 split at h
 ·cases h
 ·rename_i p pd ts pl hp
  split at h
  ·cases h;exact zkm hp
  ·cases h
theorem zpw (w:W8)(s:B8)(tb n:Nat)(ps:P9)(S:B8->Nat)(h:dE Tryz.prog 9 w tb n (stV ps S))(hs:s.size<=2000000):
  Calls Tryz.prog 37 #[.string s,.map (some tb)] w (zqq w (ze1 ps s)):=by
 have rk:=h.lt;have HM:=zC h;clear h;go_enter Tryz.func37,Tryz.ntmps37;go_wp2_with fail;refine (z8c _ s hs).mono ?_;rintro e w1 ⟨aL,hp⟩;have aY:=aL.size;have mg:w1.heap[w.heap.size]?=some (.cells #[.string { data:=#[] },.slice none 0 0] 79 (0,0)):=by rw[aL.block _ (by simp)];exact heap_alloc_new w _
 have dp:Below w.heap.size w w1:=(B9.alloc L9 _).trans (aL.mono (by simp));have dH:=(zA HM).block (dp.block tb rk);have HB:=zC dp;simp at aY;clear aL dp
 cases hP:zhi s with
 | none=>
  rw[hP] at hp;subst hp;have HN:=zC (show ze1 ps s=none by unfold ze1;rw[hP]);have lj:=(Below.heap_alloc w1 (Obj.cells #[.string { data:=#[] },.slice none 0 0] 79) w.heap.size (by omega)).trans mg;obtain⟨r0,f0⟩:=zB lj 0;obtain⟨r1,f1⟩:=zB lj 1;clear hP dH mg lj;go_wp2_with fail;obtain⟨q0,q1⟩:=zj8 r0 r1 (.string { data:=#[] }) (.slice none 0 0);refine bodyPost_ret (v:=.tuple #[.agg #[.string { data:=#[] },.slice none 0 0],.bool false]) (by simp[results,Tryz.results37,go_sem,q0,q1]) rfl ?_;rw[zA HN];exact⟨zY ((zA HB).alloc (by omega) _) (zby _ w.heap.size _ _) (by simp;omega) (by simp),rfl⟩
 | some A=>
  rw[hP] at hp;obtain⟨a,c,rfl,aB⟩:=hp;obtain⟨bj,h4⟩:=zsf hP;have oJ:∀ g,(Value.slice a A.ts.length c).ownBlock=some g->g≠w.heap.size:=λ g hg e=>by
   have:=aB.lt g hg;simp at this;omega
  have HT:=zC (zG (base':=w.heap.size) aB (by simp));have Jj:=zC oJ;have HP:=zC hP;have dD:=dH.block (Below.heap_alloc w1 (Obj.cells #[.string A.p,.slice a A.ts.length c] 79) tb (by omega));have lj:=(Below.heap_alloc w1 (Obj.cells #[.string A.p,.slice a A.ts.length c] 79) w.heap.size (by omega)).trans mg;have wU:=zC dD;have CI:=zC lj;clear hP dH dD aB oJ mg lj HM;go_wp2_with fail;refine (z45 _ tb n ps S A a c (zA wU) (by unfold maxLen;omega)).mono ?_;rintro e w2 ⟨rfl,aK⟩;have bg:=aK.size;simp at bg;have il:=(aK.block w.heap.size (by simp;omega)).trans (zA CI);have du:=(aK.block w1.heap.size (by simp)).trans (heap_alloc_new w1 _);have ir:=zC (((zA HB).alloc (by omega) _).trans (aK.mono (by simp;omega)));have uN:=zC (zJ ((zA HT).alloc _) aK (λ g e=>by have:=((zA HT).lt g e).2;simp;omega));obtain⟨r0,f0⟩:=zB il 0;obtain⟨r1,f1⟩:=zB il 1;obtain⟨a0,g0⟩:=zB du 0;obtain⟨a1,g1⟩:=zB du 1;clear aK il du
  cases hS:zil ps A with
  | false=>
   have HN:=zC (show ze1 ps s=none by unfold ze1;rw[zA HP];simp[hS]);clear hS;go_wp2_with fail;obtain⟨q0,q1⟩:=zj8 r0 r1 (.string { data:=#[] }) (.slice none 0 0);refine bodyPost_ret (v:=.tuple #[.agg #[.string { data:=#[] },.slice none 0 0],.bool false]) (by simp[results,Tryz.results37,go_sem,q0,q1]) rfl ?_;rw[zA HN];exact⟨zY (zA ir) (zby _ w.heap.size _ _) (by omega) (by simp),rfl⟩
  | true=>
   have HN:=zC (show ze1 ps s=some A by unfold ze1;rw[zA HP];simp[hS]);clear hS;go_wp2_with fail;obtain⟨q0,q1⟩:=zj8 r0 r1 (.string A.p) (.slice a A.ts.length c);refine bodyPost_ret (v:=.tuple #[.agg #[.string A.p,.slice a A.ts.length c],.bool true]) (by simp[results,Tryz.results37,go_sem,q0,q1]) rfl ?_;rw[zA HN];exact⟨zY (zA ir) (zby _ w.heap.size _ _) (by omega) (by simp),a,c,rfl,j8 (zA uN) (zby _ w.heap.size _ _) (zA Jj)⟩
end
section
open Go.RowKit Go.Maps
theorem zpl {l:Int}(h:uG l=true):1<=l/\l<=50:=by unfold uG at h;simpa using h
theorem iq.sG {w w':W8}{n base:Nat}{rv:Value}{rs:List PR}(h:iq w base rv rs)(k:Below n w w')(hn:w.heap.size<=n):iq w' base rv rs:=
 h.bu (B:=[]) ⟨k.os,k.tape,k.output,k.size,λ i hi _=>k.block i (by omega)⟩ (by simp)
end
section
theorem zr9:∀ (L ps:P9),zbh L ps->(∀ k n,yX ps k=some n->yX (iK L ps) k=some n)/\∀ x∈L,yX (iK L ps) x.1=some x.2
 | [],ps,_=>⟨λ _ _ h=>h,by simp⟩
 | x::r,ps,h=>by
  obtain⟨h1,h2⟩:=h;obtain⟨i1,i2⟩:=zr9 r (qW ps x.1 x.2) h2;rw[iK];have hx:yX (qW ps x.1 x.2) x.1=some x.2:=by rw[zjb h1,if_pos rfl]
  refine⟨λ k n hk=>i1 k n ?_,λ y hy=>?_⟩
  ·rw[zjb h1]
   by_cases e:k=x.1
   ·rw[if_pos e];rw[za6] at h1;rw[e] at hk;rw[hk] at h1;have h3:n=x.2:=(by simpa using h1);rw[h3]
   ·rw[if_neg e];exact hk
  ·rcases List.mem_cons.1 hy with rfl | hy
   ·exact i1 _ _ hx
   ·exact i2 y hy
theorem zu4 {body:List zL}:∀ (ts:List xD),xC body ts<0->∀ t∈ts,t.isVar=true->zbf t.text body=true
 | [],_,t,ht,_=>by cases ht
 | u::r,h,t,ht,hv=>by
  rw[xC] at h
  split at h
  ·omega
  ·rename_i c;rcases List.mem_cons.1 ht with rfl | ht
   ·simp only[hv,Bool.true_and,Bool.not_eq_true',Bool.not_eq_false] at c;exact c
   ·exact zu4 r h t ht hv
theorem zn8 {body:List zL}:∀ (l:List zL),xE body l<0->∀ A∈l,A.no=true->xC body A.ae<0
 | [],_,A,hA,_=>by cases hA
 | B::r,h,A,hA,hn=>by
  rw[xE] at h
  by_cases c:0<=(if B.no then xC body B.ae else -1)
  ·rw[if_pos c] at h
   by_cases hb:B.no=true
   ·rw[if_pos hb] at c;omega
   ·rw[if_neg hb] at c;omega
  ·rw[if_neg c] at h;rcases List.mem_cons.1 hA with rfl | hA
   ·rw[if_pos hn] at c;omega
   ·exact zn8 r h A hA hn
theorem zm5:∀ (rs:List zS),yT rs<0->∀ R∈rs,xC R.body R.head.ae<0/\xE R.body R.body<0
 | [],_,R,hR=>by cases hR
 | Q::r,h,R,hR=>by
  rw[yT] at h
  split at h
  ·omega
  ·rename_i c;rcases List.mem_cons.1 hR with rfl | hR
   ·unfold qN at c
    split at c
    ·omega
    ·constructor <;> omega
   ·exact zm5 r h R hR
theorem zw3 {body:List zL}{v:B8}(h:zbf v body=true):∃ a∈zqn body,((true,v):zdy)∈a.ts:=by
 unfold zbf at h;obtain⟨A,hA,h⟩:=List.any_eq_true.1 h;unfold zzm at h;simp only[Bool.and_eq_true,List.any_eq_true] at h;obtain⟨hn,u,hu,hx⟩:=h;unfold Co at hx;simp only[Bool.and_eq_true] at hx;have e:u.text=v:=xO.1 hx.2;refine⟨pa A,List.mem_map.2 ⟨A,List.mem_filter.2 ⟨hA,hn⟩,rfl⟩,List.mem_map.2 ⟨u,hu,?_⟩⟩;unfold ed;rw[hx.1,e]
variable {s:B8}
theorem yb8 (h:(yY s).1=true):yT (yG s).1<0:=by
 unfold yY at h
 by_cases c0:800<s.size
 ·rw[if_pos c0] at h;cases h
 rw[if_neg c0] at h
 by_cases c1:0<=(yG s).2.2
 ·rw[if_pos c1] at h;cases h
 rw[if_neg c1] at h
 by_cases c2:0<=(zT s).1
 ·rw[if_pos c2] at h;cases h
 rw[if_neg c2] at h
 by_cases c3:0<=yT (yG s).1
 ·rw[if_pos c3] at h;cases h
 omega
theorem zmr (h:(yY s).1=true){rp:List PR}(oN:rp.map (·.R)=(yL s).2.2.1)(ly:∀ r∈rp,r.bs.map (·.1)=r.R.body):zax (zT s).2 (yG s).1 rp:=by
 have g:=zha h;have Un:=g.rules;have EA:=zm5 _ (yb8 h);have lC:∀ x∈(yL s).2.2.1.flatMap jN,yX (zT s).2 x.1=some x.2:=by
  have:=(zr9 _ _ g.agree).2;rw[g.met] at this;exact this
 have Ku:∀ r∈rp,∃ R∈(yG s).1,ue R r:=λ r hr=>by
  have:r.R∈(yG s).1.map yO:=by rw[<-Un,<-oN];exact List.mem_map.2 ⟨r,hr,rfl⟩
  obtain⟨R,hR,e⟩:=List.mem_map.1 this;exact⟨R,hR,e.symm,ly r hr⟩
 refine⟨λ R hR=>?_,Ku,λ r hr=>?_⟩
 ·have:yO R∈rp.map (·.R):=by rw[oN,Un];exact List.mem_map.2 ⟨R,hR,rfl⟩
  obtain⟨r,hr,e⟩:=List.mem_map.1 this;exact⟨r,hr,e,ly r hr⟩
 ·obtain⟨R,hR,hrel⟩:=Ku r hr;have ax:r.R∈(yL s).2.2.1:=by rw[<-oN];exact List.mem_map.2 ⟨r,hr,rfl⟩
  have hw:=zjv s r.R ax;have hb:=g.body r.R ax;have vh:∀ x∈r.bs,x.1∈r.R.body:=λ x hx=>by rw[<-ly r hr];exact List.mem_map.2 ⟨x,hx,rfl⟩
  refine⟨?_,⟨hw.1,lC (r.R.pd,r.R.ts.length) (List.mem_flatMap.2 ⟨r.R,ax,by simp[jN]⟩)⟩,λ x hx=>⟨hw.2 _ (vh x hx),lC (x.1.pd,x.1.ts.length) (List.mem_flatMap.2 ⟨r.R,ax,?_⟩)⟩,λ t ht hv=>?_,λ x hx t ht hv=>?_⟩
  ·rw[<-ly r hr,List.length_map] at hb;exact hb
  ·simp only[jN,List.mem_cons,List.mem_map];exact .inr ⟨x.1,vh x hx,rfl⟩
  ·rw[hrel.hd] at ht;obtain⟨u,hu,rfl⟩:=List.mem_map.1 ht;have oc:u.isVar=true:=hv;have:=zw3 (zu4 _ (EA R hR).1 u hu oc);rw[hrel.pos];unfold ed;rw[oc];exact this
  ·rw[hrel.neg] at hx;obtain⟨A,hA,rfl⟩:=List.mem_map.1 hx;obtain⟨hA,hn⟩:=List.mem_filter.1 hA;obtain⟨u,hu,rfl⟩:=List.mem_map.1 ht;have oc:u.isVar=true:=hv;have:=zw3 (zu4 _ (zn8 _ (EA R hR).2 A hA hn) u hu oc);rw[hrel.pos];unfold ed;rw[oc];exact this
theorem z32 (q:B8):zhi q=if zhw q then some (pa (zN q)) else none:=by
 have h:=ztu q 0 (-1) (by decide) (Nat.zero_le _);unfold zhi zhw
 cases hP:vD q 0 with
 | no r=>
  rw[hP] at h;have h':(zH q 0 (-1)).2.2=((zF q r).2.1:Int):=h;rw[h',if_neg];simp;intro h;omega
 | yes p pd ts pl=>
  rw[hP] at h;obtain⟨h1,h2,h3,_,h5⟩:=h;rw[h1];have K:=zfh q p h5;have e:(⟨pd,ts⟩:jZ)=pa (zN q):=by rw[h2,h3];rfl
  simp only
  by_cases c:(tok q p).kind=46
  ·rw[if_pos (K.k0.2 c),if_pos (by simp[c]),e]
  ·rw[if_neg (λ h=>c (K.k0.1 h)),if_neg (by simp[c])]
theorem z33 {q:B8}{A:jZ}(h:zhi q=some A):zkq A.p A.ts:=by
 unfold zhi at h
 split at h
 ·cases h
 ·rename_i p pd ts pl hp
  split at h
  ·cases h;exact Mk hp
  ·cases h
theorem zzv (ps:P9)(A:jZ):zil ps A=iJ ps A.p A.ts.length:=by
 unfold zil
 cases hn:yX ps A.p with
 | none=>exact (by rw[za6,hn]:iJ ps A.p A.ts.length=true) ▸ rfl
 | some m=>
  by_cases e:m=A.ts.length
  ·have:iJ ps A.p A.ts.length=true:=by rw[za6,hn,e];simp
   rw[this];simp[e]
  ·have:¬ iJ ps A.p A.ts.length=true:=by rw[za6,hn];simpa using e
   simp[e,this]
theorem z6o (ps:P9)(q:B8):ze1 ps q=if zcn ps q then some (pa (zN q)) else none:=by
 unfold ze1 zcn;rw[z32]
 by_cases c:zhw q=true
 ·rw[if_pos c,c];simp only[Bool.true_and];rw[zzv];have:(pa (zN q)).ts.length=(zH q 0 (-1)).1.length:=by simp[pa,zN]
  rw[this];rfl
 ·rw[if_neg c];have:zhw q=false:=by simpa using c
  rw[this];simp
end
section
open Go.Sort
theorem zwm {S:Nat->Nat}:∀ {n i:Nat},i<n->S i<=lQ S n
 | 0,_,h=>by omega
 | n+1,i,h=>by
  rw[lQ];rcases Nat.lt_or_eq_of_le (Nat.le_of_lt_succ h) with h | rfl
  ·exact Nat.le_trans (zwm h) (Nat.le_max_left _ _)
  ·exact Nat.le_max_right _ _
theorem zwl {S:Nat->Nat}:∀ (n:Nat),n=0\/∃ i,i<n/\lQ S n=S i
 | 0=>.inl rfl
 | n+1=>by
  right
  rw[lQ];rcases Nat.le_total (lQ S n) (S n) with h | h
  ·exact⟨n,by omega,Nat.max_eq_right h⟩
  ·rw[Nat.max_eq_left h];rcases zwl (S:=S) n with h0 | ⟨i,hi,e⟩
   ·refine⟨n,by omega,?_⟩;subst h0;have:lQ S 0=0:=rfl;omega
   ·exact⟨i,by omega,e⟩
variable {ps:P9}
theorem zid {k:B8}:(yX ps k).isSome=true↔0<=zM ps k:=by
 have h:=(zod k ps 0).1;unfold zM
 constructor
 ·intro hk;refine Int.not_lt.1 λ c=>?_
  rw[h.1 c] at hk
  cases hk
 ·intro hk
  cases hn:yX ps k with
  | none=>have:=h.2 hn;omega
  | some n=>rfl
variable {m:Nat} {S:Nat->Nat} {Sp:B8->Nat}
theorem zx2 (ho:z6e ps)(hs:∀ k,0<=zM ps k->Sp k=S (qJ ps k))(hc:ze6 ps Sp m)(bF:ps≠[]):m=lQ S ps.length+1:=by
 have np:∀ (i:Nat) (hi:i<ps.length),0<=zM ps ps[i].1/\qJ ps ps[i].1=i:=λ i hi=>by
  have:=z3x ho i 0 hi;unfold qJ zM;rw[this]
  constructor
  ·omega
  ·simp
 have h1:lQ S ps.length+1<=m:=by
  rcases zwl (S:=S) ps.length with h0 | ⟨i,hi,e⟩
  ·exact absurd (List.length_eq_zero_iff.1 h0) bF
  ·obtain⟨a,b⟩:=np i hi;have:=hc.1 _ (zid.2 a);rw[hs _ a,b] at this;omega
 have h2:m<=lQ S ps.length+1:=by
  rcases hc.2 with h0 | ⟨k,hk,e⟩
  ·omega
  ·have sP:=zid.1 hk;rw[hs k sP] at e;have:=(z2u k ps 0 sP).2;have aH:qJ ps k<ps.length:=(by unfold qJ zM at *;omega);have:=zwm (S:=S) aH;omega
 omega
theorem zu2 {l:List zP}{s n:Nat}{out:List zP}(h:BN ps S [] l s n out):out=[]:=by
 have:=(zw1 h).tk.mem
 cases out with
 | nil=>rfl
 | cons f r=>have:=(this f List.mem_cons_self).1;simp[j4] at this
theorem zu8 {rs:List zS}{rp:List PR}(hR:zax ps rs rp)(ho:z6e ps)(aS:∀ R∈rs,0<=zM ps R.head.pred)(hs:∀ k,0<=zM ps k->Sp k=S (qJ ps k)){limit:Nat}(hl:limit<=50)(hc:ze6 ps Sp m){r:Option (List zP)}{r':Option (List (Th × Nat))}(h:zka ps S rs limit (lQ S ps.length) 0 [] r)(h':zdx rp Sp limit m 0 [] r'):ztp ps limit r r':=by
 by_cases bF:ps=[]
 ·subst bF;have AL:rs=[]:=by
   cases rs with
   | nil=>rfl
   | cons R q=>have:=aS R List.mem_cons_self;simp[zM,xR] at this
  subst AL;have hm:m=0:=by
   rcases hc.2 with h0 | ⟨k,hk,_⟩
   ·exact h0
   ·cases hk
  subst hm;have e':r'=some []:=by
   cases h' with
   | ends _=>rfl
   | gX h2 _=>omega
   | next h2 _ _=>omega
  have e:r=some []:=by
   have h0:lQ S 0=0:=rfl;rw[List.length_nil,h0] at h
   cases h with
   | ends h1=>omega
   | gX _ hc=>
    cases hc with
    | fG hr hb=>rw[zu2 hr] at hb;simp at hb
    | more hr hn _ _=>exact absurd (zu2 hr) hn
   | next _ hc hn=>
    cases hc with
    | done _ _=>
     cases hn with
     | ends _=>rfl
     | gX h1 _=>omega
     | next h1 _ _=>omega
    | more hr hn _ _=>exact absurd (zu2 hr) hn
  exact .inr ⟨[],[],e,e',Vx _,Nat.zero_le _⟩
 ·rw[zx2 ho hs hc bF] at h';exact ydw hR (λ R uY=>hs _ (aS R uY)) hl h [] r' (Vx _) (Nat.zero_le _) h'
end
section
open Go.RowKit Go.Maps
theorem z12 {s:B8}{xb yb:Nat}{w:W8}{lo:Nat}(h:pt s xb yb w lo):∃ (rs:List RR) (rv pv tv:Value) (gs:Nat) (S:Nat->Nat),z53 w yb rs (zT s).2 rv pv tv gs S/\rs.map (·.R)=(yG s).1/\zef (zT s).2 (yG s).1 S/\Low (zT s).2 (yG s).1 S/\∀ i,S i<=1000000:=by
 obtain⟨rs,ps,rv,pv,tv,gs,S,h1,h2,h3,h4,h5,h6,h7,h8,h9⟩:=h.y;have hg:=zha h.ok;subst h8;rw[h7] at h5 h6;have ax:∀ r∈rs,yO r.R∈(yL s).2.2.1:=λ r hr=>by
  rw[hg.rules,<-h7,List.map_map];exact List.mem_map.2 ⟨r,hr,rfl⟩
 have hm:∀ r∈rs,r.R∈(yG s).1:=λ r hr=>by rw[<-h7];exact List.mem_map_of_mem hr
 have du:∀ A:zL,zkq A.pred (A.ae.map ed)->zns A:=λ A hA=>⟨by have:=hA.pd.le;omega,λ t ht=>by
  have:=(hA.ts (ed t) (List.mem_map.2 ⟨t,ht,rfl⟩)).le;have e:(ed t).2=t.text:=rfl;rw[e] at this
  omega,by have:=hA.eJ;rw[List.length_map] at this;exact this⟩
 refine⟨rs,rv,pv,tv,gs,S,⟨h3,h4,λ r hr=>?_,λ r hr a ha=>?_,λ r hr=>?_⟩,h7,h5,h6,λ i=>?_⟩
 ·have hb:=hg.body _ (ax r hr);have e:=(h3.each r hr).eq;simp only[yO] at hb;rw[List.length_map,e,List.length_map] at hb;exact hb
 ·have hw:=zjv s _ (ax r hr);rcases List.mem_cons.1 ha with rfl | ha
  ·exact du _ hw.1
  ·exact du _ (hw.2 (lP a) (List.mem_map.2 ⟨a,ha,rfl⟩))
 ·exact h9 _ (List.mem_flatMap.2 ⟨r.R,hm r hr,List.mem_cons_self⟩)
 ·obtain⟨f,hf,me⟩:=hg.some_;rw[hg.rules] at hf;have:=h6 _ (zxl hf h9) i;have:=me (ycu (zT s).2 i);omega
end
section
open Go.RowKit Go.Maps
attribute [local go_sem ↓] zcf zba zc1 j2 zbb qQ qP qO
attribute [local go_sem] qS zbo jY jX
def yak (No:Nat->Prop)(w:W8)(mb:Nat)(pd:B8)(hv bv:Value)(base:Nat)(ls:List (vK × Value))(K:List (Th × Nat))(r:Option yR)(en:Ending)(w':W8):Prop:=
 (r=none->en=.returned (.func (.func 218) #[] #[])/\Below w.heap.size w w')/\∀ s,r=some s->zkt No w mb pd hv bv base ls K s en w'
theorem ycp (No:Nat->Prop)(w:W8)(mb:Nat)(pd:B8)(pH:List zdy)(hv bv:Value)(base:Nat)(ls:List (vK × Value))(K:List (Th × Nat))(t:Th)(h:EX No w mb hv bv base ls K)(hh:w.ownsRow base 191 1 hv pH.length (pH.map zc3))(h4:pH.length<=4):
  Calls Tryz.prog 165 #[.agg #[.string pd,hv,bv],thV t,.map (some mb)] w (yak No w mb pd hv bv base ls K (xG [] ⟨pd,pH⟩ t)):=by
 obtain⟨ah,ch,rfl⟩:=zD hh;obtain⟨ab,cb,rfl⟩:=zD h.l.row;have H:=zC h;have HH:=zC hh;clear h hh;obtain⟨ct,lL⟩:∃ ct,ct=(zV t).toArray:=⟨_,rfl⟩;have pw:=zC lL;unfold thV;rw[<-lL];clear lL;go_enter Tryz.func165,Tryz.ntmps165;go_upto_region 1 with fail;generalize bC:World.alloc (World.alloc w _) _=w0;have k0:Below w.heap.size w w0:=by
  rw[<-bC];exact ((Below.refl w.heap.size w).alloc L9 _).alloc (by simp) _
 have x0:w0.heap[w.heap.size]?=some (.cells #[.string pd,.slice ah pH.length ch,.slice ab ls.length cb] 123 (0,0)):=by
  rw[<-bC,Below.heap_alloc _ _ _ (by simp)];exact heap_alloc_new w _
 have x1:TV w0 (w.heap.size+1) t:=by
  rw[<-bC,zA pw];have:=heap_alloc_new (w.alloc (.cells #[.string pd,.slice ah pH.length ch,.slice ab ls.length cb] 123)) (.cells (zV t).toArray 88);rw[World.size_alloc] at this;exact this
 have s0:w0.heap.size=w.heap.size+1+1:=by rw[<-bC];simp
 clear bC;have t3:=x1.load;obtain⟨c0,-⟩:=zB x0 0;obtain⟨c1,-⟩:=zB x0 1;simp only[List.getElem?_toArray,List.getElem?_cons_zero,List.getElem?_cons_succ] at c0 c1;have HM:=zC (zof w0 base [] ⟨pd,pH⟩ ah ch t (zZ (zA HH) (λ g e=>k0.block g ((zA HH).lt g e).2)) h4 (pH.map (·.2)) (by simp;omega) (vZ.nil _) (λ t ht _=>List.mem_map_of_mem ht));have dr:=zC k0;have rT:=zC x0;have lV:=zC s0;clear k0 x0 x1 s0;generalize xG [] ⟨pd,pH⟩ t=R at *;go_upto_region 2 with (go_at_call 62;refine (zA HM).mono ?_;rintro en w4 ⟨bZ,rfl⟩;have iM:=zC bZ;clear bZ);generalize AU:World.alloc w4 _=w5;have b5:Below w.heap.size w w5:=by
  rw[<-AU];exact ((zA dr).trans ((zA iM).mono (zA dr).size)).alloc (Nat.le_trans (zA dr).size (zA iM).size) _
 have e5:BV w5 w4.heap.size (R.getD []):=by rw[<-AU];exact BV.new w4 _
 have y0:w5.heap[w.heap.size]?=some (.cells #[.string pd,.slice ah pH.length ch,.slice ab ls.length cb] 123 (0,0)):=by
  have h1:=zA lV;have h2:=(zA iM).size;rw[<-AU,Below.heap_alloc _ _ _ (by omega),(zA iM).block _ (by omega)];exact zA rT
 have l5:=e5.load;obtain⟨d0,-⟩:=zB y0 0;obtain⟨d1,-⟩:=zB y0 1;obtain⟨d2,-⟩:=zB y0 2;simp only[List.getElem?_toArray,List.getElem?_cons_zero,List.getElem?_cons_succ] at d0 d1 d2;have Cq:=zC b5;clear AU e5 y0 t3 c0 c1
 cases R with
 | none=>
  clear l5;go_wp2_with fail;go_ret;exact⟨λ _=>⟨rfl,zA Cq⟩,λ s e=>by cases e⟩
 | some s=>
  simp only[Option.getD_some] at l5;have HC:=zC (zj1 No w5 mb pd _ _ base ls K s ((zA H).below b5));clear b5;go_wp2_with (go_at_call 200;refine (zA HC).mono ?_;rintro en w6 ⟨rb,xb,eb,rfl,FT,Uz⟩;have VE:=zC FT;have WO:=zC Uz;clear FT Uz);go_ret;exact⟨λ e=>(by cases e),λ s' e=>by cases e;exact⟨_,_,_,rfl,(zA Cq).trans ((zA VE).mono (zA Cq).size),zA WO⟩⟩
end
section
def zes:List Nat->List Nat->Bool
 | [],[]=>false
 | [],_::_=>true
 | _::_,[]=>false
 | a::x,b::y=>if a<b then true else if b<a then false else zes x y
theorem zkh:∀ x:List Nat,zes x x=false
 | []=>rfl
 | a::x=>by rw[zes,if_neg (Nat.lt_irrefl a),if_neg (Nat.lt_irrefl a)];exact zkh x
theorem zi7:∀ {x y z:List Nat},zes x y=true->zes y z=true->zes x z=true
 | [],[],_,h,_=>by cases h
 | [],_::_,[],_,h=>by cases h
 | [],_::_,_::_,_,_=>rfl
 | _::_,[],_,h,_=>by cases h
 | _::_,_::_,[],_,h=>by cases h
 | a::x,b::y,c::z,h,k=>by
  rw[zes] at h k ⊢
  by_cases h1:a<b
  ·by_cases h2:b<c
   ·rw[if_pos (by omega)]
   ·rw[if_neg h2] at k
    by_cases h3:c<b
    ·rw[if_pos h3] at k;cases k
    ·rw[if_pos (by omega)]
  ·rw[if_neg h1] at h
   by_cases h4:b<a
   ·rw[if_pos h4] at h;cases h
   ·rw[if_neg h4] at h;have:a=b:=by omega
    subst this
    by_cases h2:a<c
    ·rw[if_pos h2]
    ·rw[if_neg h2] at k ⊢
     by_cases h3:c<a
     ·rw[if_pos h3] at k;cases k
     ·rw[if_neg h3] at k ⊢;exact zi7 h k
theorem z24:∀ {x y:List Nat},zes x y=false->zes y x=false->x=y
 | [],[],_,_=>rfl
 | [],_::_,h,_=>by cases h
 | _::_,[],_,h=>by cases h
 | a::x,b::y,h,k=>by
  rw[zes] at h k
  by_cases h1:a<b
  ·rw[if_pos h1] at h;cases h
  ·by_cases h2:b<a
   ·rw[if_pos h2] at k;cases k
   ·rw[if_neg h1,if_neg h2] at h;rw[if_neg h2,if_neg h1] at k;rw[z24 h k,show a=b by omega]
theorem zwd:∀ {x y:List Nat} (u v:List Nat),x.length=y.length->zes x y=true->zes (x++u) (y++v)=true
 | [],[],_,_,_,h=>by cases h
 | [],_::_,_,_,hl,_=>by cases hl
 | _::_,[],_,_,hl,_=>by cases hl
 | a::x,b::y,u,v,hl,h=>by
  rw[zes] at h;rw[List.cons_append,List.cons_append,zes]
  by_cases h1:a<b
  ·rw[if_pos h1]
  ·rw[if_neg h1] at h ⊢
   by_cases h2:b<a
   ·rw[if_pos h2] at h;cases h
   ·rw[if_neg h2] at h ⊢;exact zwd u v (by simpa using hl) h
theorem zrr:∀ (x:List Nat) {i j:Nat},i<j->zes (x++[i]) (x++[j])=true
 | [],i,j,h=>by simp[zes,h]
 | a::x,i,j,h=>by
  rw[List.cons_append,List.cons_append,zes,if_neg (Nat.lt_irrefl a),if_neg (Nat.lt_irrefl a)];exact zrr x h
def znz (x y:Nat):Int:=if x<y then -1 else if y<x then 1 else 0
def zpk:List Nat->List Nat->Int
 | [],[]=>0
 | [],_::_=>-1
 | _::_,[]=>1
 | a::x,b::y=>if znz a b=0 then zpk x y else znz a b
theorem zwe:∀ x y:List Nat,zpk x y<0↔zes x y=true
 | [],[]=>by simp[zpk,zes]
 | [],_::_=>by simp[zpk,zes]
 | _::_,[]=>by simp[zpk,zes]
 | a::x,b::y=>by
  have ih:=zwe x y;rw[zpk,zes];unfold znz
  by_cases h1:a<b
  ·simp[h1]
  ·by_cases h2:b<a
   ·simp[h1,h2]
   ·simp only[if_neg h1,if_neg h2,if_true];exact ih
end
section
open Go.RowKit
def ew (l:List Nat):V8:=l.map λ (x:Nat)=>Value.int .i64 x
theorem z3v {w:W8}{base:Nat}{a:O8}{c:Nat}{xs:List Nat}(h:w.ownsRow base 3 1 (.slice a xs.length c) xs.length (ew xs))(k:Nat)(hk:k<xs.length):∃ g,a=some ⟨g,0,none⟩/\g<w.heap.size/\xs.length<=c/\c<=maxLen/\w.cell? ⟨g,k,none⟩=some (.int .i64 xs[k]):=by
 rcases h.2 with⟨_,h0⟩ | ⟨g,cap,cur,hv,hb,hg,bO,bQ,ij,ht⟩
 ·omega
 ·injection hv with h1 h2 h3
  subst h1 h3;refine⟨g,rfl,(Array.getElem?_eq_some_iff.1 hg).1,bO,bQ,?_⟩;rw[h.cellAt k (by omega)];unfold ew;rw[List.getElem?_map,List.getElem?_eq_getElem hk];rfl
theorem zyn (x:Int)(w:W8):Calls Tryz.prog 216 #[.int .i64 x] w λ e w'=>e=.returned (.bool false)/\w'=w:=by
 go_enter Tryz.func216,Tryz.ntmps216;go_wp2_with fail;go_ret;exact⟨by simp,rfl⟩
theorem zjo (x y:Nat)(w:W8):Calls Tryz.prog 161 #[.int .i64 x,.int .i64 y] w λ e w'=>e=.returned (.int .i64 (znz x y))/\w'=w:=by
 have hn:=zyn
 by_cases h1:x<y
 ·have HC:=zC (show znz x y=-1 by unfold znz;rw[if_pos h1]);have hi:(x:Int)<y:=by omega
  clear h1;go_enter Tryz.func161,Tryz.ntmps161;go_wp2_with (go_at_call 216;refine (hn _ _).mono ?_;rintro e w' ⟨rfl,rfl⟩);go_ret;exact⟨by rw[zA HC];rfl,rfl⟩
 ·by_cases h2:y<x
  ·have HC:=zC (show znz x y=1 by unfold znz;rw[if_neg h1,if_pos h2]);have hi:¬ (x:Int)<y:=(by omega);have hj:(y:Int)<x:=(by omega);clear h1 h2;go_enter Tryz.func161,Tryz.ntmps161;go_wp2_with (go_at_call 216;refine (hn _ _).mono ?_;rintro e w' ⟨rfl,rfl⟩);go_ret;exact⟨by rw[zA HC];rfl,rfl⟩
  ·have HC:=zC (show znz x y=0 by unfold znz;rw[if_neg h1,if_neg h2]);have hi:¬ (x:Int)<y:=(by omega);have hj:¬ (y:Int)<x:=(by omega);clear h1 h2;go_enter Tryz.func161,Tryz.ntmps161;go_wp2_with (go_at_call 216;refine (hn _ _).mono ?_;rintro e w' ⟨rfl,rfl⟩);go_ret;exact⟨by rw[zA HC];rfl,rfl⟩
theorem z25 {x y:List Nat}{k:Nat}(hx:k<x.length)(hy:k<y.length):zpk (x.drop k) (y.drop k)=if znz x[k] y[k]=0 then zpk (x.drop (k+1)) (y.drop (k+1)) else znz x[k] y[k]:=by
 rw[List.drop_eq_getElem_cons hx,List.drop_eq_getElem_cons hy,zpk]
theorem zrb (w:W8)(base base':Nat)(a b:O8)(c d:Nat)(x y:List Nat)(hx:w.ownsRow base 3 1 (.slice a x.length c) x.length (ew x))(hy:w.ownsRow base' 3 1 (.slice b y.length d) y.length (ew y)):
  Calls Tryz.prog 166 #[.slice a x.length c,.slice b y.length d] w λ e w'=>e=.returned (.int .i64 (zpk x y))/\w'=w:=by
 have HX:=zC hx;have HY:=zC hy;have m1:=yU hx;have m2:=yU hy;unfold maxLen at m1 m2;clear hx hy;go_enter Tryz.func166,Tryz.ntmps166;go_wp2_with fail
 go_loop [11] (λ i=>∃ k:Nat,k<=x.length/\k<=y.length/\i=.int .i64 k/\zpk (x.drop k) (y.drop k)=zpk x y) (λ i=>x.length-(intOf i).toNat)
 exact⟨0,Nat.zero_le _,Nat.zero_le _,rfl,rfl⟩
 case round=>
  obtain⟨k,hk,bn,rfl,aE⟩:=hrel;have HF:=zC aE;clear aE
  by_cases aF:k<x.length
  ·obtain⟨g,rfl,xi,bO,bQ,hc⟩:=z3v (zA HX) k aF;have nu:(k:Int)<x.length:=by omega
   by_cases lh:k<y.length
   ·obtain⟨g2,rfl,fL,K7,Kw,nS⟩:=z3v (zA HY) k lh;have P7:(k:Int)<y.length:=(by omega);have HS:=zC (z25 aF lh);have HC:=zC (λ w=>zjo x[k] y[k] w);generalize x[k]=xk at *;generalize y[k]=yk at *
    by_cases h0:znz xk yk=0
    ·have HE:=zC (show zpk (x.drop (k+1)) (y.drop (k+1))=zpk x y by rw[<-zA HF,zA HS,if_pos h0]);rw[h0] at HC;clear h0;go_wp2_with (go_at_call 161;refine (zA HC _).mono ?_;rintro e w' ⟨rfl,rfl⟩)
     go_round
     case rel=>exact⟨k+1,by omega,by omega,by go_num,zA HE⟩
     case measure=>simp[intOf];omega
    ·have HE:=zC (show zpk x y=znz xk yk by rw[<-zA HF,zA HS,if_neg h0]);generalize znz xk yk=r at *;go_wp2_with (go_at_call 161;refine (zA HC _).mono ?_;rintro e w' ⟨rfl,rfl⟩);go_ret;exact⟨by rw[zA HE];rfl,rfl⟩
   ·have P7:¬ (k:Int)<y.length:=(by omega);have hle:(y.length:Int)<=k:=(by omega);have HE:=zC (show zpk x y=1 by rw[<-zA HF,List.drop_eq_getElem_cons aF,List.drop_of_length_le (l:=y) (by omega)];rfl);go_wp2_with fail;go_ret;exact⟨by rw[zA HE];rfl,rfl⟩
  ·have nu:¬ (k:Int)<x.length:=by omega
   by_cases lh:x.length<y.length
   ·have kP:(x.length:Int)<y.length:=(by omega);have HE:=zC (show zpk x y=-1 by rw[<-zA HF,List.drop_of_length_le (l:=x) (by omega),List.drop_eq_getElem_cons (l:=y) (by omega)];rfl);go_wp2_with fail;go_ret;exact⟨by rw[zA HE];rfl,rfl⟩
   ·have kP:¬ (x.length:Int)<y.length:=(by omega);have HE:=zC (show zpk x y=0 by rw[<-zA HF,List.drop_of_length_le (l:=x) (by omega),List.drop_of_length_le (l:=y) (by omega)];rfl);go_wp2_with fail;go_ret;exact⟨by rw[zA HE];rfl,rfl⟩
def orC (a b c:Int):Int:=if a≠0 then a else if b≠0 then b else c
theorem ybr (w:W8)(g:Nat)(a b c:Int)(h:w.heap[g]?=some (.cells #[.int .i64 a,.int .i64 b,.int .i64 c] 3 (0,0))):
  Calls Tryz.prog 160 #[.slice (some ⟨g,0,none⟩) 3 3] w λ e w'=>e=.returned (.int .i64 (orC a b c))/\w'=w:=by
 have c0:=(zB h 0).1;have c1:=(zB h 1).1;have c2:=(zB h 2).1;simp only[List.getElem?_toArray,List.getElem?_cons_zero,List.getElem?_cons_succ] at c0 c1 c2;have hg:=(Array.getElem?_eq_some_iff.1 h).1;clear h;go_enter Tryz.func160,Tryz.ntmps160;go_wp2_with fail
 go_loop [8] (λ i=>∃ k:Nat,k<=3/\i=.int .i64 k/\(0<k->a=0)/\(1<k->b=0)/\(2<k->c=0)) (λ i=>3-(intOf i).toNat)
 exact⟨0,by omega,rfl,by omega,by omega,by omega⟩
 case round=>
  obtain⟨k,hk,rfl,h0,h1,h2⟩:=hrel
  match k,hk with
  | 0,_=>
   clear h0 h1 h2
   by_cases ha:a=0
   ·go_wp2_with fail
    go_round
    case rel=>exact⟨1,by omega,by go_num,λ _=>ha,by omega,by omega⟩
    case measure=>simp[intOf]
   ·have HE:=zC (show orC a b c=a by unfold orC;rw[if_pos ha]);go_wp2_with fail;go_ret;exact⟨by rw[zA HE];rfl,rfl⟩
  | 1,_=>
   have ha:=h0 (by omega);have HA:=zC ha;clear h0 h1 h2 ha
   by_cases hb:b=0
   ·go_wp2_with fail
    go_round
    case rel=>exact⟨2,by omega,by go_num,λ _=>zA HA,λ _=>hb,by omega⟩
    case measure=>simp[intOf]
   ·have HE:=zC (show orC a b c=b by unfold orC;rw[if_neg (by simp[zA HA]),if_pos hb]);go_wp2_with fail;go_ret;exact⟨by rw[zA HE];rfl,rfl⟩
  | 2,_=>
   have HA:=zC (h0 (by omega));have HB:=zC (h1 (by omega));clear h0 h1 h2
   by_cases hc:c=0
   ·go_wp2_with fail
    go_round
    case rel=>exact⟨3,by omega,by go_num,λ _=>zA HA,λ _=>zA HB,λ _=>hc⟩
    case measure=>simp[intOf]
   ·have HE:=zC (show orC a b c=c by unfold orC;rw[if_neg (by simp[zA HA]),if_neg (by simp[zA HB])]);go_wp2_with fail;go_ret;exact⟨by rw[zA HE];rfl,rfl⟩
  | 3,_=>
   have HE:=zC (show orC a b c=0 by unfold orC;rw[if_neg (by simp[h0]),if_neg (by simp[h1])];exact h2 (by omega));clear h0 h1 h2;go_wp2_with fail;go_ret;exact⟨by rw[zA HE];rfl,rfl⟩
end
section
open Go.RowKit
def zcp (n:Nat)(f:Nat->Value):Array Value:=((List.range n).map f).toArray
theorem qL (n:Nat)(f:Nat->Value):(zcp n f).size=n:=by simp[zcp]
variable {i n:Nat} {f:Nat->Value}
theorem zd4 (h:i<n):(zcp n f)[i]?=some (f i):=by
 simp[zcp,h]
theorem zlv (n:Nat)(z:Value):madeCells #[z] n=zcp n (λ _=>z):=by
 apply Array.ext_getElem?;intro i
 by_cases h:i<n
 ·rw[NV z n i h,zd4 h]
 ·rw[Array.getElem?_eq_none (by simp[madeCells];omega),Array.getElem?_eq_none (by rw[qL];omega)]
variable {v:Value}
theorem zyd:(zcp n f).setIfInBounds i v=zcp n (λ j=>if j=i then v else f j):=by
 apply Array.ext_getElem?;intro j;rw[Array.getElem?_setIfInBounds]
 by_cases h:j<n
 ·rw[zd4 h,zd4 h]
  split
  ·rename_i e;subst e;rw[if_pos (by rw[qL];exact h),if_pos rfl]
  ·rename_i e;rw[if_neg (λ e'=>e e'.symm)]
 ·rw[Array.getElem?_eq_none (xs:=zcp n f) (by rw[qL];omega),Array.getElem?_eq_none (by rw[qL];omega)]
  split
  ·rename_i e;subst e;rw[if_neg (by rw[qL];exact h)]
  ·rfl
variable {g:Nat->Value}
theorem z17 (h:∀ i,i<n->f i=g i):zcp n f=zcp n g:=by
 unfold zcp;rw[List.map_congr_left λ i hi=>h i (List.mem_range.1 hi)]
def fj (w:W8)(b:Nat)(T:TypeId)(n:Nat)(f:Nat->Value):Prop:=w.heap[b]?=some (.cells (zcp n f) T (0,0))
theorem fj.start (w:W8)(T:TypeId)(n:Nat)(z:Value):fj (w.alloc (.cells (madeCells #[z] n) T)) w.heap.size T n (λ _=>z):=by
 unfold fj;rw[<-zlv];exact heap_alloc_new w _
variable {T:TypeId} {b:Nat} {w:W8}
theorem fj.set (h:fj w b T n f)(i:Nat)(v:Value):fj (w.setCell ⟨b,i,none⟩ v) b T n (λ j=>if j=i then v else f j):=by
 unfold fj;rw[setCell_eq_setRow w b i _ T (0,0) v h,<-zyd];exact setRow_heap _ _ _ _ _ _ h
theorem fj.cell (h:fj w b T n f)(hi:i<n):w.cell? ⟨b,i,none⟩=some (f i):=by
 rw[(zB h i).1,zd4 hi]
theorem fj.fz (h:fj w b T n f)(i:Nat):w.frozen? ⟨b,i,none⟩=false:=(zB h i).2
theorem fj.lt (h:fj w b T n f):b<w.heap.size:=(Array.getElem?_eq_some_iff.1 h).1
theorem fj.eq (h:fj w b T n f)(e:∀ i,i<n->f i=g i):fj w b T n g:=by
 unfold fj at h ⊢;rw[h,z17 e]
variable {w':W8}
theorem fj.block (h:fj w b T n f)(e:w'.heap[b]?=w.heap[b]?):fj w' b T n f:=e.trans h
theorem fj.below (h:fj w b T n f)(k:Below w.heap.size w w'):fj w' b T n f:=(k.block b h.lt).trans h
theorem fj.ew {w:W8}{b n:Nat}{g:Nat->Nat}(h:fj w b 3 n (λ i=>.int .i64 (g i:Nat)))(hn:n<=maxLen){base:Nat}(hb:base<=b):w.ownsRow base 3 1 (.slice (some ⟨b,0,none⟩) n n) n (ew ((List.range n).map g)):=by
 refine⟨by simp[Go.Proofs.YtldkpahaocjdpaaGreat.ew],.inr ⟨b,n,_,rfl,hb,h,Nat.le_refl _,hn,by rw[qL];omega,?_⟩⟩;simp only[zcp,Go.Proofs.YtldkpahaocjdpaaGreat.ew,List.map_map,Nat.mul_one];rw[List.take_of_length_le (by simp)];rfl
variable {row:Option Nat} {A B:W8}
theorem zk5 {cs:Array Value}{t:TypeId}{fr:Nat × Nat}(h:A.heap[b]?=some (.cells cs t fr))(hg:A.grownBy B row)(hr:∀ i,row=some i->∃ o:Obj,A.heap[i]?=some o/\o.isCells=false):B.heap[b]?=some (.cells cs t fr):=
 (hg.block b (Array.getElem?_eq_some_iff.1 h).1 (λ e=>by obtain⟨o,ho,hc⟩:=hr b e.symm;rw[h] at ho;cases ho;cases hc)).trans h
theorem zsd {base:Nat}{e:TypeId}{size:Nat}{xs:V8}(h:A.ownsRow base e size v n xs)(hg:A.grownBy B row)(hr:∀ i,row=some i->∃ o:Obj,A.heap[i]?=some o/\o.isCells=false):B.ownsRow base e size v n xs:=by
 refine zZ h λ g nE=>?_
 rcases h.2 with⟨h0,_⟩ | ⟨g',cap,cur,rfl,hb,bS,_⟩
 ·rw[h0] at nE;cases nE
 ·have e:g'=g:=by simpa[Value.ownBlock] using nE
  subst e;rw[zk5 bS hg hr,bS]
theorem qH.setCell {No:Nat->Prop}{a:W8}(h:qH No a w){j:Nat}(hb:a.heap.size<=b\/No b)(v:Value):qH No a (w.setCell ⟨b,j,none⟩ v):=
 ⟨h.os,h.tape,h.output,by simpa using h.size,λ i o hi hn ho=>by
  have h1:=h.same i o hi hn ho;have bF:i≠b:=λ e=>by
   subst e;rcases hb with hb | hb
   ·have:=(Array.getElem?_eq_some_iff.1 hi).1;omega
   ·exact hn hb
  rw[Below.heap_setCell _ _ _ _ (by simpa using bF)]
  exact h1⟩
end
section
def Ext (e x:yR):Prop:=∀ v y,pAt e v=some y->pAt x v=some y
def Dom (e:yR)(a:jZ):Prop:=∀ t∈a.ts,t.1=true->∃ x,pAt e t.2=some x
theorem Ext.refl (e:yR):Ext e e:=λ _ _ h=>h
theorem Ext.trans {a b c:yR}(h:Ext a b)(k:Ext b c):Ext a c:=λ v y hv=>k v y (h v y hv)
theorem Ext.nil (e:yR):Ext [] e:=λ v y h=>by cases h
theorem Ext.bP {e x:yR}(h:Ext e x){t:zdy}(hd:t.1=true->∃ y,pAt e t.2=some y):bP x t=bP e t:=by
 unfold Go.Proofs.YtldkpahaocjdpaaGreat.bP
 split
 ·rename_i ht;obtain⟨y,hy⟩:=hd ht;unfold oj;rw[h _ _ hy,hy]
 ·rfl
variable {e x:yR}
theorem Ext.fill (h:Ext e x){a:jZ}(hd:Dom e a):xV x a=xV e a:=
 Prod.ext rfl (List.map_congr_left λ t ht=>h.bP (hd t ht))
theorem Ext.SY (h:Ext e x){a:jZ}(hd:Dom e a):Dom x a:=λ t ht hv=>let ⟨y,hy⟩:=hd t ht hv;⟨y,h _ _ hy⟩
variable {e':yR}
theorem z78 {t:zdy}{n:B8}(h:pmT e t n=some e'):Ext e e'/\bP e' t=n/\(t.1=true->∃ x,pAt e' t.2=some x):=by
 unfold pmT at h
 by_cases hv:t.1=true
 ·rw[if_pos hv] at h;unfold pmB at h
  cases hp:pAt e t.2 with
  | none=>
   rw[hp] at h
   cases h
   have h2:pAt (e++[(t.2,n)]) t.2=some n:=(by rw[IJ,hp];simp);refine⟨λ v x hx=>by rw[IJ,hx],?_,λ _=>⟨n,h2⟩⟩;unfold bP oj;rw[if_pos hv,h2];rfl
  | some x=>
   rw[hp] at h;simp only at h
   split at h
   ·rename_i hq
    cases h
    refine⟨Ext.refl _,?_,λ _=>⟨x,hp⟩⟩;unfold bP oj;rw[if_pos hv,hp];exact xO.1 hq
   ·cases h
 ·rw[if_neg hv] at h
  split at h
  ·rename_i hq
   cases h
   refine⟨Ext.refl _,?_,λ c=>absurd c hv⟩;unfold bP;rw[if_neg hv];exact xO.1 hq
  ·cases h
theorem ydq (hx:Ext e x){t:zdy}(hd:t.1=true->∃ y,pAt x t.2=some y):∃ e',pmT e t (bP x t)=some e'/\Ext e' x:=by
 unfold pmT bP
 by_cases hv:t.1=true
 ·obtain⟨y,hy⟩:=hd hv;rw[if_pos hv,if_pos hv];unfold oj pmB;rw[hy];simp only[Option.getD_some]
  cases hp:pAt e t.2 with
  | none=>
   refine⟨_,rfl,λ v z hz=>?_⟩;rw[IJ] at hz
   cases hq:pAt e v with
   | some q=>rw[hq] at hz;cases hz;exact hx _ _ hq
   | none=>
    rw[hq] at hz;simp only at hz
    split at hz
    ·rename_i hc
     cases hz
     rw[<-xO.1 hc];exact hy
    ·cases hz
  | some q=>
   have:=hx _ _ hp;rw[hy] at this
   cases this
   exact⟨e,by simp,hx⟩
 ·rw[if_neg hv,if_neg hv];exact⟨e,by simp,hx⟩
theorem zsi:∀ (ts:List zdy) (ns:List B8) (e e':yR),ts.length=ns.length->zj7 e ts ns=some e'->Ext e e'/\ts.map (bP e')=ns/\∀ t∈ts,t.1=true->∃ x,pAt e' t.2=some x
 | [],[],e,e',_,h=>by rw[zj7] at h;cases h;exact⟨Ext.refl _,rfl,by simp⟩
 | [],_::_,_,_,hl,_=>by cases hl
 | _::_,[],_,_,hl,_=>by cases hl
 | t::ts,n::ns,e,e',hl,h=>by
  rw[zj7] at h;simp only[List.headD_cons,List.tail_cons] at h
  cases h1:pmT e t n with
  | none=>rw[h1] at h;cases h
  | some e1=>
   rw[h1] at h;simp only at h;obtain⟨g1,b1,d1⟩:=z78 h1;obtain⟨g2,b2,d2⟩:=zsi ts ns e1 e' (by simpa using hl) h;refine⟨g1.trans g2,?_,λ u hu hv=>?_⟩
   ·rw[List.map_cons,b2,g2.bP d1,b1]
   ·rcases List.mem_cons.1 hu with rfl | hu
    ·obtain⟨x,hx⟩:=d1 hv;exact⟨x,g2 _ _ hx⟩
    ·exact d2 u hu hv
theorem z4h {x:yR}:∀ (ts:List zdy) (e:yR),Ext e x->(∀ t∈ts,t.1=true->∃ y,pAt x t.2=some y)->∃ e',zj7 e ts (ts.map (bP x))=some e'/\Ext e' x
 | [],e,h,_=>⟨e,rfl,h⟩
 | t::ts,e,h,hd=>by
  obtain⟨e1,h1,g1⟩:=ydq h (hd t List.mem_cons_self);obtain⟨e2,h2,g2⟩:=z4h ts e1 g1 (λ u hu=>hd u (List.mem_cons_of_mem _ hu));refine⟨e2,?_,g2⟩;rw[zj7];simp only[List.map_cons,List.headD_cons,List.tail_cons];rw[h1];exact h2
def yd1 (a:jZ)(t:Th):Prop:=a.p=t.1->a.ts.length=t.2.length
variable {ps:P9}
theorem zt7 {a:jZ}{t:Th}(ha:zis ps a)(ht:iD ps t):yd1 a t:=λ e=>by
 have h1:=ha.num;rw[e,ht.num] at h1;exact (Option.some.inj h1).symm
theorem zhj {a:jZ}{t:Th}(hf:yd1 a t)(h:xG e a t=some e'):Ext e e'/\xV e' a=t/\Dom e' a:=by
 unfold xG at h
 split at h
 ·rename_i c;have hp:a.p=t.1:=xO.1 c;obtain⟨g,b,d⟩:=zsi a.ts t.2 e e' (hf hp) h;exact⟨g,Prod.ext hp b,d⟩
 ·cases h
theorem zsj (hx:Ext e x){a:jZ}(hd:Dom x a):∃ e',xG e a (xV x a)=some e'/\Ext e' x:=by
 obtain⟨e',h1,h2⟩:=z4h a.ts e hx hd;refine⟨e',?_,h2⟩;unfold xG;rw[if_pos (by simp[xV])];exact h1
theorem za9 {K:List (Th × Nat)}:∀ (pos:List jZ) (e x:yR),(∀ a∈pos,∀ p∈K,yd1 a p.1)->x∈yD K pos e->Ext e x/\∀ a∈pos,Dom x a/\∃ n,(xV x a,n)∈K
 | [],e,x,_,h=>by
  rw[yD] at h;rw[List.mem_singleton.1 h];exact⟨Ext.refl _,by simp⟩
 | a::r,e,x,hf,h=>by
  rw[yD] at h;obtain⟨p,hp,h⟩:=List.mem_flatMap.1 h
  cases hm:xG e a p.1 with
  | none=>rw[hm] at h;simp at h
  | some e1=>
   rw[hm] at h;simp only at h;obtain⟨g1,b1,d1⟩:=zhj (hf a List.mem_cons_self p hp) hm;obtain⟨g2,b2⟩:=za9 r e1 x (λ y hy=>hf y (List.mem_cons_of_mem _ hy)) h;refine⟨g1.trans g2,λ y hy=>?_⟩;rcases List.mem_cons.1 hy with rfl | hy
   ·exact⟨g2.SY d1,p.2,by rw[g2.fill d1,b1];exact hp⟩
   ·exact b2 y hy
theorem zhk {K:List (Th × Nat)}{x:yR}:∀ (pos:List jZ) (e:yR),Ext e x->(∀ a∈pos,Dom x a/\∃ n,(xV x a,n)∈K)->∃ e'∈yD K pos e,Ext e' x
 | [],e,h,_=>⟨e,by rw[yD];exact List.mem_singleton.2 rfl,h⟩
 | a::r,e,h,hd=>by
  obtain⟨d,n,hn⟩:=hd a List.mem_cons_self;obtain⟨e1,h1,g1⟩:=zsj h d;obtain⟨e2,h2,g2⟩:=zhk r e1 g1 (λ y hy=>hd y (List.mem_cons_of_mem _ hy));refine⟨e2,?_,g2⟩;rw[yD];refine List.mem_flatMap.2 ⟨_,hn,?_⟩;rw[h1];exact h2
def qK (N:List (Th × Nat))(pos:List jZ)(e:yR):List Nat:=pos.map λ a=>(yS N (xV e a)).getD 0
def zfr (N:List (Th × Nat))(r:PR)(t:Th):List (List Nat):=match xG [] (gw r) t with
 | none=>[]
 | some s=>(zbe N (zcv r.bs) (yP r.bs) s).map (qK N (yP r.bs))
variable {N:List (Th × Nat)}
theorem zmp {pos:List jZ}(h:Ext e x)(hd:∀ a∈pos,Dom e a):qK N pos x=qK N pos e:=
 List.map_congr_left λ a ha=>by rw[h.fill (hd a ha)]
theorem zn0 {K:List (Th × Nat)}{neg:List jZ}(h:Ext e x)(hd:∀ a∈neg,Dom e a):j6 K neg x=j6 K neg e:=by
 unfold j6;have:∀ l:List jZ,(∀ a∈l,a∈neg)->(l.any λ a=>(yS K (xV x a)).isSome)=l.any λ a=>(yS K (xV e a)).isSome:=by
  intro l
  induction l with
  | nil=>intro _;rfl
  | cons a r ih=>intro hl;rw[List.any_cons,List.any_cons,ih (λ b hb=>hl b (List.mem_cons_of_mem _ hb)),h.fill (hd a (hl a List.mem_cons_self))]
 exact this neg (λ _ h=>h)
variable {r:PR}
theorem nP.FJ (hg:nP ps r)(h:∀ a∈yP r.bs,Dom e a):∀ a∈zcv r.bs,Dom e a:=λ a ha t ht hv=>by
 obtain⟨b,hb,QZ⟩:=hg.EN a ha t ht hv;exact h b hb t QZ hv
theorem nP.JV (hg:nP ps r)(h:∀ a∈yP r.bs,Dom e a):Dom e (gw r):=λ t ht hv=>by
 obtain⟨b,hb,QZ⟩:=hg.Bf t ht hv;exact h b hb t QZ hv
theorem zzf (hN:∀ p∈N,iD ps p.1)(hg:nP ps r){t:Th}(ht:iD ps t)(row:List Nat):row∈zfr N r t↔∃ e∈zbe N (zcv r.bs) (yP r.bs) [],xV e (gw r)=t/\qK N (yP r.bs) e=row:=by
 have C5:∀ a∈yP r.bs,∀ p∈N,yd1 a p.1:=λ a ha p hp=>zt7 (hg.pos a ha) (hN p hp)
 constructor
 ·intro h;unfold zfr at h
  cases hs:xG [] (gw r) t with
  | none=>rw[hs] at h;cases h
  | some s=>
   rw[hs] at h;obtain⟨x,hx,rfl⟩:=List.mem_map.1 h;obtain⟨hx,FX⟩:=List.mem_filter.1 hx;obtain⟨-,b1,d1⟩:=zhj (zt7 hg.hd ht) hs;obtain⟨g2,b2⟩:=za9 _ _ _ C5 hx;obtain⟨e,he,g3⟩:=zhk (yP r.bs) [] (Ext.nil x) b2;have d3:∀ a∈yP r.bs,Dom e a:=λ a ha=>((za9 _ _ _ C5 he).2 a ha).1
   refine⟨e,List.mem_filter.2 ⟨he,?_⟩,?_,(zmp g3 d3).symm⟩
   ·rw[<-zn0 g3 (hg.FJ d3)];exact FX
   ·rw[<-g3.fill (hg.JV d3),g2.fill d1,b1]
 ·rintro⟨e,he,hh,rfl⟩;obtain⟨he,FX⟩:=List.mem_filter.1 he;obtain⟨-,b2⟩:=za9 _ _ _ C5 he;have d2:∀ a∈yP r.bs,Dom e a:=λ a ha=>(b2 a ha).1
  obtain⟨s,hs,gs⟩:=zsj (Ext.nil e) (hg.JV d2);rw[hh] at hs;obtain⟨x,hx,g3⟩:=zhk (yP r.bs) s gs b2;have d3:∀ a∈yP r.bs,Dom x a:=λ a ha=>((za9 _ _ _ C5 hx).2 a ha).1
  unfold zfr;rw[hs];refine List.mem_map.2 ⟨x,List.mem_filter.2 ⟨hx,?_⟩,(zmp g3 d3).symm⟩;rw[<-zn0 g3 (hg.FJ d3)];exact FX
end
section
open Go
def zuq (ops:Array Oper):Bool:=ops.all λ o=>match o.op with | .defer _=>false | _=>true
theorem zu5 {o:Oper}(h:(match o.op with | .defer _=>false | _=>true)=true)(l:Nat)(ρ:Operand->Value):o.semAt (some l) ρ=o.semAt none ρ:=by
 unfold Oper.semAt
 split
 ·rename_i h1;rw[h1] at h;cases h
 ·rfl
variable {w:W8} {a:Act} {Q:Exit->Act->W8->Prop} {ops:Array Oper} {P:Program} {n:Nat}
theorem ztf {i:Nat}{K K':Act->W8->Prop}(hd:zuq ops=true)(hQ:¬ LetsOut Q)(l:Nat)(hK:∀ a w,K a w->K' a w)(h:wpOp P ops Q i K a w):wpOpIn (Fence.wide.inRound l) n P ops Q i K' a w:=by
 refine wpOpIn_mono hK ?_;unfold wpOp at h;unfold wpOpIn
 split
 ·rename_i ho;rw[ho] at h;exact h
 ·rename_i o ho;rw[ho] at h;simp only at h;have aX:=Array.all_eq_true.1 hd i (Array.getElem?_eq_some_iff.1 ho).1;rw[(Array.getElem?_eq_some_iff.1 ho).2] at aX
  split
  ·rename_i hw;rw[if_pos hw] at h;refine⟨λ _ _=>trivial,?_⟩
   show o.uponIn (Fence.wide.inRound l) n P a K Q ((o.semAt (some l) a.eval).run P w)
   rw[zu5 aX l];rcases h with h | h
   ·unfold Oper.wp at h;have e:o.semAt none a.eval=execOp a.eval o:=rfl;rw[e];generalize (execOp a.eval o).run P w=r at h ⊢
    cases r with
    | ok x w'=>
     cases x <;> first
      | exact h
      | exact h.elim
      | exact⟨λ e=>(by cases e),callsIn_wide.2 h⟩
      | exact⟨λ e=>(by cases e),λ c cs _=>(let ⟨v,w',r,s⟩:=h c cs;⟨v,w',r,stepsIn_wide.2 s⟩)⟩
    | halt x w'=>cases x <;> first | exact h | exact h.elim
   ·exact absurd h.2 hQ
  ·rename_i hw;rw[if_neg hw] at h;exact⟨λ _ _=>trivial,h⟩
theorem zg2 {n:Nat}{P:Program}{md:Region.Mode}{ops:Array Oper}{Q:Exit->Act->W8->Prop}(hd:zuq ops=true)(hQ:¬ LetsOut Q)(l:Nat):∀ (fuel:Nat) (A7:Array Bool) (a:Act) (w:W8),wpAny P md ops Q fuel A7 a w->wpAnyIn (Fence.wide.inRound l) n P md ops Q fuel A7 a w
 | 0,_,_,_,h=>h
 | fuel+1,_,_,_,h=>⟨h.1,λ i hi=>ztf hd hQ l (λ a w h=>zg2 hd hQ l fuel _ a w h) (h.2 i hi)⟩
theorem zjy {id:Nat}(S:W8->Prop)(hm:P.follows .mixedOrders=true)(hd:zuq ops=true)(hQ:¬ LetsOut Q){l:Nat}(h:wpAnyH P .any ops Q S ops.size (Array.replicate ops.size false) a w.drew):(Code.region id ops true).wpIn (Fence.wide.inRound l) n P Q a w:=
 wpIn_region_any hm (zg2 hd hQ l _ _ _ _ (wpAny_of_held _ _ _ _ h))
end
end Go.Proofs.YtldkpahaocjdpaaGreat
