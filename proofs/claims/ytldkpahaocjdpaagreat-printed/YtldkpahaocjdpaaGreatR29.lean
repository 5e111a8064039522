/-
  The program's reader: what is asked, as a text that is one atom and nothing else.
-/
import Derived.Test.YtldkpahaocjdpaaGreatR27
set_option maxHeartbeats 16000000
set_option maxRecDepth 1000000
namespace Go.Proofs.YtldkpahaocjdpaaGreat
section
open Go.RowKit
def zdd (s:B8):Option xG:=
 match yK s 0 with
 | .no _=>none
 | .yes p pd ts _=>if (zD s p).1=0 then some ⟨pd,ts⟩ else none
def zrs (w:W8)(r:Option xG)(e:Ending)(w':W8):Prop:=
 Below w.heap.size w w'/\match r with
 | none=>e=.returned (.tuple #[.agg #[.string { data:=#[] },.slice none 0 0],.bool false])
 | some A=>∃ a c,e=.returned (.tuple #[.agg #[.string A.p,.slice a A.ts.length c],.bool true])/\w'.ownsRow w.heap.size 191 1 (.slice a A.ts.length c) A.ts.length (A.ts.map zaz)
theorem ybd {w w1:W8}{s:B8}(aT:Below (w.alloc (Obj.cells #[.string { data:=#[] },.slice none 0 0] 79)).heap.size (w.alloc (Obj.cells #[.string { data:=#[] },.slice none 0 0] 79)) w1):
  dN (w1.alloc (Obj.cells #[.string s,.int .i64 (zD s 0).1,.int .i64 (zD s 0).2.1,.int .i64 (zD s 0).2.2,.int .i64 0,.slice none 0 0] 163)) w1.heap.size s 0 0 (.slice none 0 0):=by
 have hz:=aT.size;simp at hz;refine⟨by simp,?_,?_,?_,?_,?_,?_,?_⟩
 all_goals first | (rw[World.cell?_alloc_at _ _ _ _ rfl];rfl) | (intro o;rw[World.frozen?_alloc_at _ _ _ _ rfl];done) | skip
theorem z8t (w:W8)(s:B8)(hs:s.size<=2000000):
  Calls Tryz.prog 57 #[.string s] w (zrs w (zdd s)):=by
 have dQ:s.size<=maxLen:=by unfold maxLen;omega
 go_enter Tryz.func57,Tryz.ntmps57;go_wp2_with fail;refine (zmo s 0 (Nat.zero_le _) dQ _).mono ?_;rintro e w1 ⟨rfl,aT⟩;have aj:=aT.size;have dj:=ybd (s:=s) aT;have fY:w1.heap[w.heap.size]?=some (.cells #[.string { data:=#[] },.slice none 0 0] 79 (0,0)):=by rw[aT.block _ (by simp)];exact heap_alloc_new w _
 have fA:Below w.heap.size w w1:=(B9.alloc L9 _).trans (aT.mono (by simp));have HB:=zC fA;have HR:=zC fY;have fT:=zC dj;clear aT fA fY;simp at aj;obtain⟨bP,c0,c1,c2,c3,c4,c5,fz⟩:=dj;clear fz;go_wp2_with fail;refine (zl6 _ w1.heap.size s 0 0 (.slice none 0 0) false (zD s 0).2.1 [] (zA fT) ⟨World.ownsRow_nil _ _ _ _,by simp⟩ (by simp) (Nat.zero_le _) hs).mono ?_;intro e w2 hp;clear bP c0 c1 c2 c3 c4 c5;have uf:=(zA HB).alloc (B:=w.heap.size) (by omega) (Obj.cells #[.string s,.int .i64 (zD s 0).1,.int .i64 (zD s 0).2.1,.int .i64 (zD s 0).2.2,.int .i64 0,.slice none 0 0] 163);have KW:=(Below.heap_alloc w1 (Obj.cells #[.string s,.int .i64 (zD s 0).1,.int .i64 (zD s 0).2.1,.int .i64 (zD s 0).2.2,.int .i64 0,.slice none 0 0] 163) w.heap.size (by omega)).trans (zA HR)
 cases hP:yK s 0 with
 | no p=>
  rw[hP] at hp;obtain⟨rfl,cN,fc⟩:=hp;have bZ:=cN.size;simp at bZ;have HN:=zC (show zdd s=none by unfold zdd;rw[hP]);have aU:=yE uf cN (by simp;omega) (by simp;omega);have nH:=(cN.block w.heap.size (by simp;omega) (by simp;omega)).trans KW;have iF:=(Below.heap_alloc w2 (Obj.cells #[.string { data:=#[] },.slice none 0 0] 79) w.heap.size (by omega)).trans nH;obtain⟨r0,f0⟩:=zB iF 0;obtain⟨r1,f1⟩:=zB iF 1;have ep:=zC aU;clear cN fc uf KW aU nH hP fT HR HB iF;go_wp2_with fail;obtain⟨q0,q1⟩:=zkg r0 r1 (.string { data:=#[] }) (.slice none 0 0);refine bodyPost_ret (v:=.tuple #[.agg #[.string { data:=#[] },.slice none 0 0],.bool false]) (by simp[results,Tryz.results57,go_sem,q0,q1]) rfl ?_;rw[zA HN];exact⟨yE ((zA ep).alloc (by omega) _) (za9 _ w.heap.size _ _) (by simp;omega) (by simp),rfl⟩
 | yes p pd ts pl=>
  rw[hP] at hp;obtain⟨tv,gm,rfl,cN,fc,eG,gK,Jf⟩:=hp;obtain⟨ta,tc,rfl⟩:=zE gK;have bZ:=cN.size;simp at bZ;have aU:=yE uf cN (by simp;omega) (by simp[Value.ownBlock];omega);have nH:=(cN.block w.heap.size (by simp;omega) (by simp[Value.ownBlock];omega)).trans KW;obtain⟨bP,c0,c1,c2,c3,c4,c5,fz⟩:=fc.kept ((yA.refl [] w2).alloc (Obj.cells #[.string pd,.slice ta ts.length tc] 79)) (by simp);have ki:=zI (base':=w.heap.size) gK (by simp;omega);have bV:∀ g,(Value.slice ta ts.length tc).ownBlock=some g->g≠w.heap.size:=λ g hg e=>by
   have:=vL gK (e:=79) (by decide) g (by simpa using hg);subst e;exact this _ _ nH
  have iF:=(Below.heap_alloc w2 (Obj.cells #[.string pd,.slice ta ts.length tc] 79) w.heap.size (by omega)).trans nH;obtain⟨r0,f0⟩:=zB iF 0;obtain⟨r1,f1⟩:=zB iF 1;have ep:=zC aU;have HT:=zC ki;have tF:=zC bV;clear cN fc uf KW aU nH fT HR HB eG gK Jf fz ki bV iF
  by_cases h0:(zD s p).1=0
  ·have HN:=zC (show zdd s=some ⟨pd,ts⟩ by unfold zdd;rw[hP];exact if_pos h0);have BY:((zD s p).1 != 0)=false:=(by simp[h0]);clear h0 hP;go_wp2_with fail;obtain⟨q0,q1⟩:=zkg r0 r1 (.string pd) (.slice ta ts.length tc);refine bodyPost_ret (v:=.tuple #[.agg #[.string pd,.slice ta ts.length tc],.bool true]) (by simp[results,Tryz.results57,go_sem,q0,q1]) rfl ?_;rw[zA HN];exact⟨yE ((zA ep).alloc (by omega) _) (za9 _ w.heap.size _ _) (by simp;omega) (by simp),ta,tc,rfl,jI ((zA HT).alloc _) (za9 _ w.heap.size _ _) (zA tF)⟩
  ·have HN:=zC (show zdd s=none by unfold zdd;rw[hP];exact if_neg h0);have BY:((zD s p).1 != 0)=true:=(by simp[h0]);clear h0 hP;go_wp2_with fail;obtain⟨q0,q1⟩:=zkg r0 r1 (.string { data:=#[] }) (.slice none 0 0);refine bodyPost_ret (v:=.tuple #[.agg #[.string { data:=#[] },.slice none 0 0],.bool false]) (by simp[results,Tryz.results57,go_sem,q0,q1]) rfl ?_;rw[zA HN];exact⟨yE ((zA ep).alloc (by omega) _) (za9 _ w.heap.size _ _) (by simp;omega) (by simp),rfl⟩
end
section
open Go.RowKit Go.Maps
def vC (ps:P9)(s:B8):Option xG:=match zdd s with
 | none=>none
 | some A=>if zb7 ps A then some A else none
theorem zl5 {s:B8}{A:xG}(h:zdd s=some A):A.p.size<=s.size/\A.ts.length<=4:=by
 unfold zdd at h
 split at h
 ·cases h
 ·rename_i p pd ts pl hp
  split at h
  ·cases h;exact zh7 hp
  ·cases h
theorem zic (w:W8)(s:B8)(tb n:Nat)(ps:P9)(S:B8->Nat)(h:qQ Tryz.prog 9 w tb n (stV ps S))(hs:s.size<=2000000):
  Calls Tryz.prog 37 #[.string s,.map (some tb)] w (zrs w (vC ps s)):=by
 have fZ:=h.lt;have HM:=zC h;clear h;go_enter Tryz.func37,Tryz.ntmps37;go_wp2_with fail;refine (z8t _ s hs).mono ?_;rintro e w1 ⟨aT,hp⟩;have aj:=aT.size;have fY:w1.heap[w.heap.size]?=some (.cells #[.string { data:=#[] },.slice none 0 0] 79 (0,0)):=by rw[aT.block _ (by simp)];exact heap_alloc_new w _
 have fA:Below w.heap.size w w1:=(B9.alloc L9 _).trans (aT.mono (by simp));have fa:=(zA HM).block (fA.block tb fZ);have HB:=zC fA;simp at aj;clear aT fA
 cases hP:zdd s with
 | none=>
  rw[hP] at hp;subst hp;have HN:=zC (show vC ps s=none by unfold vC;rw[hP]);have iF:=(Below.heap_alloc w1 (Obj.cells #[.string { data:=#[] },.slice none 0 0] 79) w.heap.size (by omega)).trans fY;obtain⟨r0,f0⟩:=zB iF 0;obtain⟨r1,f1⟩:=zB iF 1;clear hP fa fY iF;go_wp2_with fail;obtain⟨q0,q1⟩:=zkg r0 r1 (.string { data:=#[] }) (.slice none 0 0);refine bodyPost_ret (v:=.tuple #[.agg #[.string { data:=#[] },.slice none 0 0],.bool false]) (by simp[results,Tryz.results37,go_sem,q0,q1]) rfl ?_;rw[zA HN];exact⟨yE ((zA HB).alloc (by omega) _) (za9 _ w.heap.size _ _) (by simp;omega) (by simp),rfl⟩
 | some A=>
  rw[hP] at hp;obtain⟨a,c,rfl,aE⟩:=hp;obtain⟨hsz,h4⟩:=zl5 hP;have bV:∀ g,(Value.slice a A.ts.length c).ownBlock=some g->g≠w.heap.size:=λ g hg e=>by
   have:=aE.lt g hg;simp at this;omega
  have HT:=zC (zI (base':=w.heap.size) aE (by simp));have tF:=zC bV;have HP:=zC hP;have eG:=fa.block (Below.heap_alloc w1 (Obj.cells #[.string A.p,.slice a A.ts.length c] 79) tb (by omega));have iF:=(Below.heap_alloc w1 (Obj.cells #[.string A.p,.slice a A.ts.length c] 79) w.heap.size (by omega)).trans fY;have vt:=zC eG;have Bu:=zC iF;clear hP fa eG aE bV fY iF HM;go_wp2_with fail;refine (z5p _ tb n ps S A a c (zA vt) (by unfold maxLen;omega)).mono ?_;rintro e w2 ⟨rfl,aU⟩;have bZ:=aU.size;simp at bZ;have eY:=(aU.block w.heap.size (by simp;omega)).trans (zA Bu);have gT:=(aU.block w1.heap.size (by simp)).trans (heap_alloc_new w1 _);have ep:=zC (((zA HB).alloc (by omega) _).trans (aU.mono (by simp;omega)));have tM:=zC (zG ((zA HT).alloc _) aU (λ g e=>by have:=((zA HT).lt g e).2;simp;omega));obtain⟨r0,f0⟩:=zB eY 0;obtain⟨r1,f1⟩:=zB eY 1;obtain⟨a0,g0⟩:=zB gT 0;obtain⟨a1,g1⟩:=zB gT 1;clear aU eY gT
  cases hS:zb7 ps A with
  | false=>
   have HN:=zC (show vC ps s=none by unfold vC;rw[zA HP];simp[hS]);clear hS;go_wp2_with fail;obtain⟨q0,q1⟩:=zkg r0 r1 (.string { data:=#[] }) (.slice none 0 0);refine bodyPost_ret (v:=.tuple #[.agg #[.string { data:=#[] },.slice none 0 0],.bool false]) (by simp[results,Tryz.results37,go_sem,q0,q1]) rfl ?_;rw[zA HN];exact⟨yE (zA ep) (za9 _ w.heap.size _ _) (by omega) (by simp),rfl⟩
  | true=>
   have HN:=zC (show vC ps s=some A by unfold vC;rw[zA HP];simp[hS]);clear hS;go_wp2_with fail;obtain⟨q0,q1⟩:=zkg r0 r1 (.string A.p) (.slice a A.ts.length c);refine bodyPost_ret (v:=.tuple #[.agg #[.string A.p,.slice a A.ts.length c],.bool true]) (by simp[results,Tryz.results37,go_sem,q0,q1]) rfl ?_;rw[zA HN];exact⟨yE (zA ep) (za9 _ w.heap.size _ _) (by omega) (by simp),a,c,rfl,jI (zA tM) (za9 _ w.heap.size _ _) (zA tF)⟩
end
section
open Go.RowKit Go.Maps
inductive zkw (w:W8)(rs:List PR)(ps:P9)(s:B8)(limit:Int)(w':W8):Ending->Prop
 | arg:qY limit=false->zkw w rs ps s limit w' (.returned (.tuple #[.slice none 0 0,.int .i64 8]))
 | ask:qY limit=true->vC ps s=none->zkw w rs ps s limit w' (.returned (.tuple #[.slice none 0 0,.int .i64 6]))
 | fk {A:xG} {S:B8->Nat} {m:Nat}:qY limit=true->vC ps s=some A->qH (rs.map (·.R)) S->zuu (rs.map (·.R)) S->vY ps S m->jL rs S limit.toNat m 0 [] none->zkw w rs ps s limit w' (.returned (.tuple #[.slice none 0 0,.int .i64 7]))
 | yes {A:xG} {S:B8->Nat} {m:Nat} {K:List (Th × Nat)} {zs:List B8} {a:O8} {c:Nat}:qY limit=true->vC ps s=some A->qH (rs.map (·.R)) S->zuu (rs.map (·.R)) S->vY ps S m->jL rs S limit.toNat m 0 [] (some K)->(K.map (·.1)).Nodup->zs.Perm ((K.filter (zg3 A)).map λ p=>yF p.1)->w'.ownsRow w.heap.size 9 1 (.slice a zs.length c) zs.length ((zbe zs).map encStr)->zkw w rs ps s limit w' (.returned (.tuple #[.slice a zs.length c,.int .i64 0]))
theorem zxq {l:Int}(h:qY l=true):1<=l/\l<=50:=by unfold qY at h;simpa using h
theorem aD.iY {w w':W8}{n base:Nat}{rv:Value}{rs:List PR}(h:aD w base rv rs)(k:Below n w w')(hn:w.heap.size<=n):aD w' base rv rs:=
 h.cZ (B:=[]) ⟨k.os,k.tape,k.output,k.size,λ i hi _=>k.block i (by omega)⟩ (by simp)
theorem z0b (w:W8)(base b:Nat)(rs:List PR)(ps:P9)(s:B8)(limit:Int)(TI:Th->Prop)(hs:s.size<=2000000)(h:zky w base b rs)(iG:rs.length<=30)(cE:∀ r∈rs,r.bs.length<=3)(eN:∀ r∈rs,r.R.pd.size<=800)(kX:∀ r∈rs,∀ x∈r.bs,x.1.pd.size<=800)(kc:qS ((rs.map (·.R)).flatMap xS) [])(gj:j7 ((rs.map (·.R)).flatMap xS) []=ps)(dP:ps.length<=1000)(ak:∀ r∈rs,(∃ n,zV ps r.R.pd=some n)/\∀ x∈r.bs,∃ n,zV ps x.1.pd=some n)(f0:B8->Nat)(bO:qH (rs.map (·.R)) f0)(jd:∀ k,f0 k<=1000)(oX:fI rs TI)(Fe:∀ t,TI t->(j2 t.1 (xE t)).length<=1000000000):
  Calls Tryz.prog 20 #[.pointer (some ⟨b,0,none⟩),.string s,.int .i64 limit] w λ e w'=>zkw w rs ps s limit w' e/\Below w.heap.size w w':=by
 obtain⟨a,c,hb,bM,hr⟩:=h;have ja:b<w.heap.size:=(Array.getElem?_eq_some_iff.1 hb).1;obtain⟨x0,_⟩:=zB hb 0;have HR:=zC hr;have HB:=zC hb;have pZ:=zC oX;have Il:=zC Fe;have rN:=zC (z3z w base a c rs ps hr iG cE eN kX kc gj dP ak f0 bO jd);have fR:=zC (show ∀ r∈rs,r.R.pd.size<=800/\(zV ps r.R.pd).isSome=true from λ r hr=>⟨eN r hr,by obtain⟨n,e⟩:=(ak r hr).1;rw[e];rfl⟩);have wH:=zC bO;have tt:=zC jd;clear hr cE eN kX kc gj dP ak bO jd oX Fe;go_enter Tryz.func20,Tryz.ntmps20;go_wp2_with fail;refine (zsz w limit).mono ?_;rintro e w1 ⟨rfl,hw⟩;have hw:=hw.symm;subst hw
 cases hL:qY limit with
 | false=>
  have HL:=zC hL;clear hL;go_wp2_with fail
  go_ret2
  exact⟨.arg (zA HL),Below.refl _ _⟩
 | true=>
  obtain⟨l1,Ky⟩:=zxq hL;obtain⟨lim,rfl⟩:∃ n:Nat,limit=n:=⟨limit.toNat,by omega⟩;have HL:=zC hL;clear hL;go_wp2_with fail;refine (za6 _ b _ a rs.length c rfl x0).mono ?_;rintro e w2 ⟨rfl,hw⟩;have hw:=hw.symm;subst hw;go_wp2_with fail;refine (zA rN).mono ?_;clear rN;rintro e w2 ⟨rfl,bZ,aU,S,n,hm,hn,fD,aX⟩;have HS:=zC (show ∀ k,(zV ps k).isSome=true->S k<=1000000 from λ k _=>by have:=aX f0 (zA wH) k;have:=zA tt k;omega);have HV:=zC fD;have iJ:=zC aX;have HM:=zC hm;have ep:=zC aU;clear fD aX hm aU x0;go_wp2_with fail;refine (zic w2 s _ n ps S (zA HM) hs).mono ?_;rintro e w3 ⟨cE,hp⟩;have pO:=cE.size;have iz:=(zA ep).trans (cE.mono (by omega));have ma:=(iz.block b ja).trans (zA HB);have ey:=(zA HM).block (cE.block _ bZ);have iF:=(zA HR).iY iz L9
  cases hP:vC ps s with
  | none=>
   rw[hP] at hp;subst hp;have HP:=zC hP;have gh:=zC (iz.alloc (by omega) (.cells #[.string { data:=#[] },.slice none 0 0] 79));clear hP iz ma ey iF cE;go_wp2_with fail
   go_ret2
   exact⟨.ask (zA HL) (zA HP),zA gh⟩
  | some A=>
   rw[hP] at hp;obtain⟨aa,ac,rfl,aE⟩:=hp;have bQ:=iz.alloc (by omega) (.cells #[.string A.p,.slice aa A.ts.length ac] 79);have cS:=(Below.heap_alloc w3 (.cells #[.string A.p,.slice aa A.ts.length ac] 79) b (by omega)).trans ma;have jr:=ey.block (Below.heap_alloc w3 (.cells #[.string A.p,.slice aa A.ts.length ac] 79) w.heap.size (by omega));have eY:=iF.below (B9.alloc L9 (.cells #[.string A.p,.slice aa A.ts.length ac] 79));have sI:=aE.alloc (.cells #[.string A.p,.slice aa A.ts.length ac] 79);have oR:=heap_alloc_new w3 (.cells #[.string A.p,.slice aa A.ts.length ac] 79);obtain⟨JX,h4⟩:A.p.size<=s.size/\A.ts.length<=4:=by
    unfold vC at hP
    split at hP
    ·cases hP
    ·rename_i A' hA
     split at hP
     ·cases hP;exact zl5 hA
     ·cases hP
   have ll:(w3.alloc (.cells #[.string A.p,.slice aa A.ts.length ac] 79)).heap.size=w3.heap.size+1:=(by simp);have HP:=zC hP;have eC:=zC bQ;have iK:=zC cS;have MU:=zC jr;have nY:=zC eY;have xe:=zC sI;have AW:=zC oR;have BN:=zC ll;clear hP iz ma ey iF cE bQ cS jr eY sI oR aE ll;go_wp2_with fail;generalize (w3.alloc (.cells #[.string A.p,.slice aa A.ts.length ac] 79))=w4 at *;obtain⟨x0,_⟩:=zB (zA iK) 0;refine (za6 _ b _ a rs.length c rfl x0).mono ?_;rintro e w5 ⟨rfl,hw⟩;have hw:=hw.symm;subst hw;clear x0;go_wp2_with fail;have ll:=zA BN;refine (zxk w4 base a c rs w.heap.size n ps S lim TI (zA nY) (by omega) (zA MU) (zA HS) (by omega) (zA fR) (zA pZ) (by omega)).mono ?_;rintro e w5 ⟨m,r,kT,il,eO,cP,eJ⟩;have gi:=(zA eC).trans (eO.mono (by omega));have jy:=(eO.block w3.heap.size (by omega)).trans (zA AW);have pE:=zG (zA xe) eO (λ g e=>((zA xe).lt g e).2)
   cases r with
   | none=>
    have he:=cP rfl;subst he;have jn:=zC gi;have HX:=zC (And.intro kT il);clear cP eJ kT il gi jy pE eO ll;go_wp2_with fail
    go_ret2
    exact⟨.fk (zA HL) (zA HP) (zA HV) (zA iJ) (zA HX).1 (zA HX).2,zA jn⟩
   | some K=>
    obtain⟨kb,rfl,KQ,aq,B5,LH⟩:=eJ K rfl;have u6:=eO.size;obtain⟨y0,_⟩:=zB jy 0;obtain⟨y1,_⟩:=zB jy 1;have jn:=zC gi;have HX:=zC (And.intro kT il);have kz:=zC aq;have Bw:=zC pE;have wO:=zC LH;clear cP eJ kT il gi jy pE eO aq LH ll;go_wp2_with fail;refine (zsy w5 kb w2.heap.size A aa ac K (zA kz) (zA Bw) h4 (by omega) (λ p hp=>zA Il _ (zA wO p hp))).mono ?_;rintro e w6 ⟨zs,az,cz,rfl,dC,sJ,iA⟩;have HZ:=zC (zkw.yes (limit:=(lim:Int)) (zA HL) (zA HP) (zA HV) (zA iJ) (zA HX).1 (zA HX).2 (zA kz).nodup dC (zI (base':=w.heap.size) sJ (zA jn).size));have mU:=zC ((zA jn).trans (iA.mono (zA jn).size));clear dC sJ iA;go_wp2_with fail
    go_ret2
    exact⟨zA HZ,zA mU⟩
end
section
open Go.RowKit Go.Maps
def z6j (A:xG):Option Th:=if A.ts.any (·.1) then none else some (A.p,A.ts.map (·.2))
theorem zjg {fn:Func}{p u:Tmp}(h:fn.results=#[.cell p 88,.tmp u])(tmps:Array Value)(w:W8)(g:Nat)(t:Th)(hp:tmps.getD p undef=.pointer (some ⟨g,0,none⟩))(hg:w.heap[g]?=some (.cells (zK t).toArray 88 (0,0))):
  (results fn tmps).run Tryz.prog w=.ok (.tuple #[thV t,tmps.getD u undef]) w:=by
 have rf:tmps[p]?.getD undef=.pointer (some ⟨g,0,none⟩):=by simpa using hp
 have cD:tmps.getD u undef=tmps[u]?.getD undef:=by simp
 rw[cD];simp[results,h,rf,asAddr,run_loadVar_row w g _ 88 _ _ _ hg Tryz.underlying88 rfl (by rw[zgn];rfl),thV]
def zww (w:W8)(r:Option Th)(en:Ending)(w':W8):Prop:=Below w.heap.size w w'/\en=.returned (.tuple #[thV (r.getD ({ data:=#[] },[])),.bool r.isSome])
theorem z9m (w:W8)(base:Nat)(A:xG)(a:O8)(c:Nat)(h:w.ownsRow base 191 1 (.slice a A.ts.length c) A.ts.length (A.ts.map zaz))(h4:A.ts.length<=4):
  Calls Tryz.prog 65 #[.agg #[.string A.p,.slice a A.ts.length c]] w (zww w (z6j A)):=by
 have H:=zC h;clear h;have a1:=zk2;have a2:=zix;have a3:=zk1;go_enter Tryz.func65,Tryz.ntmps65;go_upto_region 2 with fail;generalize hw0:World.alloc (World.alloc (World.alloc w _) _) _=w0;have k0:Below w.heap.size w w0:=by
  rw[<-hw0];exact (((Below.refl w.heap.size w).alloc L9 _).alloc (by simp) _).alloc (by simp only[World.size_alloc];omega) _
 have x1:w0.heap[w.heap.size]?=some (.cells #[.string A.p,.slice a A.ts.length c] 79 (0,0)):=by
  rw[<-hw0,Below.heap_alloc _ _ _ (by simp only[World.size_alloc];omega),Below.heap_alloc _ _ _ (by simp)];exact heap_alloc_new w _
 have x2:w0.heap[w.heap.size+1]?=some (.cells (zK ⟨{ data:=#[] },[]⟩).toArray 88 (0,0)):=by
  rw[<-hw0,Below.heap_alloc _ _ _ (by simp)];have:=heap_alloc_new (w.alloc (.cells #[.string A.p,.slice a A.ts.length c] 79)) (.cells (zK ⟨{ data:=#[] },[]⟩).toArray 88);rw[World.size_alloc] at this;exact this
 have x3:w0.heap[w.heap.size+1+1]?=some (.cells (zK ⟨A.p,[]⟩).toArray 88 (0,0)):=by
  rw[<-hw0];have:=heap_alloc_new ((w.alloc (.cells #[.string A.p,.slice a A.ts.length c] 79)).alloc (.cells (zK ⟨{ data:=#[] },[]⟩).toArray 88)) (.cells (zK ⟨A.p,[]⟩).toArray 88);rw[World.size_alloc,World.size_alloc] at this;exact this
 have s0:w.heap.size+1+1+1=w0.heap.size:=by rw[<-hw0];simp
 have ee:=zQ (zA H) (λ g e=>k0.block g ((zA H).lt g e).2);have HG:=zC (λ g (e1:(Value.slice a A.ts.length c).ownBlock=some g)=>((zA H).lt g e1).2);clear hw0 H;have fH:=zC s0;have jw:=zC x3;have oF:=zC x2;have na:=zC ee;have cq:=zC k0;obtain⟨p1,-⟩:=zB x1 1;simp only[List.getElem?_toArray,List.getElem?_cons_zero,List.getElem?_cons_succ] at p1;clear x1 x2 x3 ee k0 s0;go_wp2_with fail
 go_loopg [15] A.ts.length (λ gg i wr=>∃ (k:Nat) (L:List B8),k<=A.ts.length/\gg=A.ts.length-k/\i=.int .i64 k/\L=(A.ts.take k).map (·.2)/\(A.ts.take k).any (·.1)=false/\wr.heap[w.heap.size+1+1]?=some (.cells (zK ⟨A.p,L⟩).toArray 88 (0,0))/\yA [w.heap.size+1+1] w0 wr)
 exact⟨0,[],Nat.zero_le _,rfl,rfl,rfl,rfl,zA jw,yA.refl _ _⟩
 case round=>
  obtain⟨k,L,hk,fM,rfl,hL,oO,hx,cV⟩:=hrel;have ik:L.length=k:=by rw[hL];simp;omega
  have sY:=zA fH;have lu:=zC (show Below w.heap.size w wr from ⟨cV.os.trans (zA cq).os,cV.tape.trans (zA cq).tape,cV.output.trans (zA cq).output,Nat.le_trans (zA cq).size cV.size,λ i hi=>(cV.block i (by omega) (by simp;omega)).trans ((zA cq).block i hi)⟩);have HX:=zC hx;have gw:=zC cV;have HL:=zC hL;have p8:=zC ik;have AV:=zC oO;have qc:=zC ((cV.block (w.heap.size+1) (by omega) (by simp)).trans (zA oF))
  by_cases aN:k<A.ts.length
  ·obtain⟨g,rfl,nB,dG,dx,hc⟩:=zwf (zA na) k aN;have eP:=zA HG g rfl;have gD:wr.cell? ⟨g,k,none⟩=some (zaz A.ts[k]):=((zA gw).cell (p:=⟨g,k,none⟩) nB (by simp;omega)).trans hc;obtain⟨dV,Fx⟩:=zB hx (1+k);replace dV:wr.cell? ⟨w.heap.size+1+1,1+k,none⟩=some (.string (xF L k)):=by
    rw[dV,List.getElem?_toArray];exact zco ⟨A.p,L⟩ (by omega)
   have gW:(k:Int)<A.ts.length:=(by omega);have jq:(1+k:Int)<5:=(by omega);clear hc sY hx cV hL ik oO
   cases hv:A.ts[k].1 with
   | false=>
    have nA:wr.cell? ⟨g,k,none⟩=some (.iface 193 (.string A.ts[k].2)):=(by rw[gD];unfold zaz;rw[hv];rfl);have HV:=zC hv;clear gD hv;go_wp2_with fail;go_roundg (A.ts.length-(k+1))
    case measure=>omega
    case rel=>
     have:=zqb (zA HX) (by rw[zA p8];omega) A.ts[k].2;rw[zA p8] at this;refine⟨k+1,L++[A.ts[k].2],by omega,rfl,by go_num,?_,?_,this,(zA gw).setCell (by simp) _⟩
     ·rw[List.take_succ_eq_append_getElem aN,List.map_append,zA HL];rfl
     ·rw[List.take_succ_eq_append_getElem aN,List.any_append,zA AV];simp[zA HV]
   | true=>
    have nA:wr.cell? ⟨g,k,none⟩=some (.iface 130 (.string A.ts[k].2)):=(by rw[gD];unfold zaz;rw[hv];rfl);have HE:=zC (show z6j A=none by unfold z6j;rw[if_pos (List.any_eq_true.2 ⟨_,List.getElem_mem aN,hv⟩)]);clear gD hv;go_wp2_with (first | (refine wpList_store_row rfl 88 _ _ rfl _ _ rfl rfl _ _ (zA qc) (by rw[zgn];rfl) rfl (zeg ({ data:=#[] },[])) ?_) | fail);refine bodyPost_ret (v:=.tuple #[thV ({ data:=#[] },[]),.bool false]) (zjg Tryz.results65 _ _ _ _ rfl (setRow_heap _ _ _ _ _ _ (zA qc))) rfl ?_;rw[zA HE];exact⟨zX (zA lu) (by omega) _,rfl⟩
  ·have HE:=zC (show z6j A=some (A.p,L) by unfold z6j;rw[List.take_of_length_le (by omega)] at hL oO;rw[oO,hL];rfl);clear sY hx cV hL ik oO;go_wp2_with (first | (refine wpList_load_row rfl 88 _ rfl _ rfl _ _ _ _ (zA HX) Tryz.underlying88 rfl (by rw[zgn];rfl) ?_) | (refine wpList_store_row rfl 88 _ _ rfl _ _ rfl rfl _ _ (zA qc) (by rw[zgn];rfl) rfl (zeg _) ?_) | fail);refine bodyPost_ret (v:=.tuple #[thV (A.p,L),.bool true]) (zjg Tryz.results65 _ _ _ _ rfl (setRow_heap _ _ _ _ _ _ (zA qc))) rfl ?_;rw[zA HE];exact⟨zX (zA lu) (by omega) _,rfl⟩
end
section
open Go.RowKit Go.Maps
attribute [local go_sem ↓] vS vA xZ xY
attribute [local go_sem] vH vG
def vF (ps:P9)(s:B8):Option Th:=(vC ps s).bind z6j
theorem TV.result {fn:Func}{p u:Tmp}(h:fn.results=#[.cell p 88,.tmp u]){w:W8}{g:Nat}{t:Th}(hg:TV w g t)(tmps:Array Value)(hp:tmps.getD p undef=.pointer (some ⟨g,0,none⟩)):(results fn tmps).run Tryz.prog w=.ok (.tuple #[thV t,tmps.getD u undef]) w:=zjg h tmps w g t hp hg
theorem zid (w:W8)(s:B8)(tb n:Nat)(ps:P9)(S:B8->Nat)(h:qQ Tryz.prog 9 w tb n (stV ps S))(hs:s.size<=2000000):
  Calls Tryz.prog 41 #[.string s,.map (some tb)] w (zww w (vF ps s)):=by
 have fZ:=h.lt;have k0:Below w.heap.size w (w.alloc (.cells (zK ({ data:=#[] },[])).toArray 88)):=B9.alloc L9 _;have HA:=zC (zic (w.alloc (.cells (zK ({ data:=#[] },[])).toArray 88)) s tb n ps S (h.block (k0.block tb fZ)) hs);have cq:=zC k0;clear h k0;go_enter Tryz.func41,Tryz.ntmps41;go_wp2_with fail;refine (zA HA).mono ?_;rintro e w1 ⟨aT,hp⟩;have aj:w.heap.size+1<=w1.heap.size:=by have:=aT.size;simpa using this
 have fA:Below w.heap.size w w1:=(zA cq).trans (aT.mono (by simp));have fY:TV w1 w.heap.size ({ data:=#[] },[]):=(aT.block _ (by simp)).trans (heap_alloc_new w _)
 cases hP:vC ps s with
 | none=>
  rw[hP] at hp;subst hp;have HN:=zC (show vF ps s=none by unfold vF;rw[hP];rfl);have iF:TV (w1.alloc (.cells #[.string { data:=#[] },.slice none 0 0] 79)) w.heap.size ({ data:=#[] },[]):=fY.alloc _;have dj:(zuc (.pointer (some ⟨w.heap.size,0,none⟩)) (.agg #[.string { data:=#[] },.string { data:=#[] },.string { data:=#[] },.string { data:=#[] },.string { data:=#[] }])).run Tryz.prog (w1.alloc (.cells #[.string { data:=#[] },.slice none 0 0] 79))=.ok () ((w1.alloc (.cells #[.string { data:=#[] },.slice none 0 0] 79)).setRow w.heap.size (zK ({ data:=#[] },[])).toArray):=iF.store ({ data:=#[] },[]);have Bu:=zC iF;have HB:=zC (fA.alloc fA.size (.cells #[.string { data:=#[] },.slice none 0 0] 79));have hz:=z5a;clear hP fY aT fA iF;go_wp2_with fail;refine bodyPost_ret (v:=.tuple #[thV ({ data:=#[] },[]),.bool false]) (TV.result Tryz.results41 (setRow_heap _ _ _ _ _ _ (zA Bu)) _ rfl) rfl ?_;rw[zA HN];exact⟨zX (zA HB) L9 _,rfl⟩
 | some A=>
  rw[hP] at hp;obtain⟨a,c,rfl,aE⟩:=hp;obtain⟨hsz,h4⟩:A.p.size<=s.size/\A.ts.length<=4:=by
   unfold vC at hP
   split at hP
   ·cases hP
   ·rename_i A' hA
    split at hP
    ·cases hP;exact zl5 hA
    ·cases hP
  have xj:=zC (show vF ps s=z6j A by unfold vF;rw[hP];rfl);have HO:=zC (z9m (w1.alloc (.cells #[.string A.p,.slice a A.ts.length c] 79)) _ A a c (aE.alloc _) h4);have fu:=fA.alloc fA.size (.cells #[.string A.p,.slice a A.ts.length c] 79);have zk:TV (w1.alloc (.cells #[.string A.p,.slice a A.ts.length c] 79)) w.heap.size ({ data:=#[] },[]):=fY.alloc _;have rF:=zC fu;have Ic:=zC zk;clear hP fY aT fA aE fu zk;generalize z6j A=R at *;go_wp2_with fail;refine (zA HO).mono ?_;rintro e w2 ⟨aU,rfl⟩;have fc:TV w2 w.heap.size ({ data:=#[] },[]):=(zA Ic).below aU;have dj:=fc.store (R.getD ({ data:=#[] },[]));have rO:=zC fc;have ep:=zC ((zA rF).trans (aU.mono (zA rF).size));clear aU fc;go_wp2_with fail;refine bodyPost_ret (v:=.tuple #[thV (R.getD ({ data:=#[] },[])),.bool R.isSome]) (TV.result Tryz.results41 (setRow_heap _ _ _ _ _ _ (zA rO)) _ rfl) rfl ?_;rw[zA xj];exact⟨zX (zA ep) L9 _,rfl⟩
def xQ (ps:P9)(S:B8->Nat)(K:List (Th × Nat))(t:Th):Nat:=if (zV ps t.1).isSome then (if (zU K t).isSome then S t.1 else S t.1+1) else 0
theorem z6c (w:W8)(tb n kb:Nat)(ps:P9)(S:B8->Nat)(K:List (Th × Nat))(t:Th)(h:qQ Tryz.prog 9 w tb n (stV ps S))(hm:vW w kb K)(ht:zbk t)(hS:S t.1<=1000000):
  Calls Tryz.prog 66 #[.map (some tb),.map (some kb),thV t] w λ e w'=>e=.returned (.int .i64 (xQ ps S K t:Nat))/\Below w.heap.size w w':=by
 have fZ:=h.lt;have du:=hm.lt;have k0:Below w.heap.size w (w.alloc (.cells (zK t).toArray 88)):=B9.alloc L9 _;have KT:=h.block (k0.block tb fZ);have q0:(w.alloc (.cells (zK t).toArray 88)).cell? ⟨w.heap.size,0,none⟩=some (.string t.1):=(zB (TV.new w t) 0).1;have pe:t.1.size<=maxLen:=by have:=ht.pd;unfold maxLen;simp only[Th.p] at this;omega
 have HM:=zC hm;have cq:=zC k0;obtain⟨ct,eM⟩:∃ ct,ct=(zK t).toArray:=⟨_,rfl⟩;have fw:=zC eM;unfold thV;rw[<-eM] at q0 KT cq ⊢;clear h hm k0 eM
 cases hn:zV ps t.1 with
 | none=>
  have HE:=zC (show xQ ps S K t=0 by unfold xQ;rw[hn];rfl);have hu:(stV ps S t.1).getD (.agg #[.string { data:=#[] },.int .i64 0,.int .i64 0])=.agg #[.string { data:=#[] },.int .i64 0,.int .i64 0]:=by unfold stV;rw[hn];rfl
  have hc:(stV ps S t.1).isSome=false:=by unfold stV;rw[hn];rfl
  clear hn;go_enter Tryz.func66,Tryz.ntmps66;go_wp2_with (at_lookup;refine vI _ rfl _ _ 73 rfl 9 185 Tryz.underlying9 Tryz.underlying73 (Tryz.zeroValue185 _) tb n (stV ps S) rfl KT t.1 rfl pe _ hu _ hc ?_);go_ret;exact⟨by rw[zA HE];rfl,(zA cq).alloc (zA cq).size _⟩
 | some m=>
  have hu:(stV ps S t.1).getD (.agg #[.string { data:=#[] },.int .i64 0,.int .i64 0])=.agg #[.string t.1,.int .i64 (S t.1),.int .i64 m]:=by unfold stV;rw[hn];rfl
  have hc:(stV ps S t.1).isSome=true:=by unfold stV;rw[hn];rfl
  have HW:=zC (show xQ ps S K t=if (zU K t).isSome then S t.1 else S t.1+1 by unfold xQ;rw[hn];rfl);have bB:Below w.heap.size w ((w.alloc (.cells ct 88)).alloc (.cells #[.string t.1,.int .i64 (S t.1),.int .i64 m] 185)):=(zA cq).alloc (zA cq).size _;have tB:(zeq (.pointer (some ⟨w.heap.size,0,none⟩))).run Tryz.prog ((w.alloc (.cells ct 88)).alloc (.cells #[.string t.1,.int .i64 (S t.1),.int .i64 m] 185))=.ok (thV t) ((w.alloc (.cells ct 88)).alloc (.cells #[.string t.1,.int .i64 (S t.1),.int .i64 m] 185)):=by rw[zA fw];exact ((TV.new w t).alloc _).load
  have lB:=((zA HM).block (bB.block kb du)).look ht Tryz.underlying83;have MP:=zC bB;clear hn bB
  cases hf:(zU K t).isSome with
  | true=>
   have HE:=zC (show xQ ps S K t=S t.1 by rw[zA HW,hf];rfl);rw[hf] at lB;clear hf;go_enter Tryz.func66,Tryz.ntmps66;go_wp2_with (at_lookup;refine vI _ rfl _ _ 73 rfl 9 185 Tryz.underlying9 Tryz.underlying73 (Tryz.zeroValue185 _) tb n (stV ps S) rfl KT t.1 rfl pe _ hu _ hc ?_);go_ret;exact⟨by rw[zA HE];rfl,zA MP⟩
  | false=>
   have HE:=zC (show xQ ps S K t=S t.1+1 by rw[zA HW,hf];rfl);rw[hf] at lB;clear hf;go_enter Tryz.func66,Tryz.ntmps66;go_wp2_with (at_lookup;refine vI _ rfl _ _ 73 rfl 9 185 Tryz.underlying9 Tryz.underlying73 (Tryz.zeroValue185 _) tb n (stV ps S) rfl KT t.1 rfl pe _ hu _ hc ?_);go_ret;exact⟨by rw[zA HE];simp,zA MP⟩
end
end Go.Proofs.YtldkpahaocjdpaaGreat
