/-
  The program's reader: what is asked, as a text that is one atom and nothing else.
-/
import Derived.Test.YtldkpahaocjdpaaGreatR27
set_option maxHeartbeats 16000000
set_option maxRecDepth 1000000
namespace Go.Proofs.YtldkpahaocjdpaaGreat
section
open Go.RowKit
def paskS (s:B8):Option PAtm:=
 match patomS s 0 with
 | .no _=>none
 | .yes p pd ts _=>if (ae s p).1=0 then some ⟨pd,ts⟩ else none
def AskedPost (w:W8)(r:Option PAtm)(e:Ending)(w':W8):Prop:=
 Below w.heap.size w w'/\match r with
 | none=>e=.returned (.tuple #[.agg #[.string { data:=#[] },.slice none 0 0],.bool false])
 | some A=>∃ a c,e=.returned (.tuple #[.agg #[.string A.p,.slice a A.ts.length c],.bool true])/\w'.ownsRow w.heap.size 191 1 (.slice a A.ts.length c) A.ts.length (A.ts.map termV)
theorem a_start {w w1:W8}{s:B8}(aT:Below (w.alloc (Obj.cells #[.string { data:=#[] },.slice none 0 0] 79)).heap.size (w.alloc (Obj.cells #[.string { data:=#[] },.slice none 0 0] 79)) w1):
  dN (w1.alloc (Obj.cells #[.string s,.int .i64 (ae s 0).1,.int .i64 (ae s 0).2.1,.int .i64 (ae s 0).2.2,.int .i64 0,.slice none 0 0] 163)) w1.heap.size s 0 0 (.slice none 0 0):=by
 have hz:=aT.size;simp at hz;refine⟨by simp,?_,?_,?_,?_,?_,?_,?_⟩
 all_goals first | (rw[World.cell?_alloc_at _ _ _ _ rfl];rfl) | (intro o;rw[World.frozen?_alloc_at _ _ _ _ rfl];done) | skip
theorem rask_any (w:W8)(s:B8)(hs:s.size<=2000000):
  Calls Tryz.prog 57 #[.string s] w (AskedPost w (paskS s)):=by
 have dQ:s.size<=maxLen:=by unfold maxLen;omega
 go_enter Tryz.func57,Tryz.ntmps57;go_wp2_with fail;refine (scan_any' s 0 (Nat.zero_le _) dQ _).mono ?_;rintro e w1 ⟨rfl,aT⟩;have ir:=aT.size;have dj:=a_start (s:=s) aT;have fY:w1.heap[w.heap.size]?=some (.cells #[.string { data:=#[] },.slice none 0 0] 79 (0,0)):=by rw[aT.block _ (by simp)];exact heap_alloc_new w _
 have fA:Below w.heap.size w w1:=(B9.alloc L9 _).trans (aT.mono (by simp));have HB:=hide fA;have HR:=hide fY;have fT:=hide dj;clear aT fA fY;simp at ir;obtain⟨bP,c0,c1,c2,c3,c4,c5,fz⟩:=dj;clear fz;go_wp2_with fail;refine (patom_any _ w1.heap.size s 0 0 (.slice none 0 0) false (ae s 0).2.1 [] (ad fT) ⟨World.ownsRow_nil _ _ _ _,by simp⟩ (by simp) (Nat.zero_le _) hs).mono ?_;intro e w2 hp;clear bP c0 c1 c2 c3 c4 c5;have uf:=(ad HB).alloc (B:=w.heap.size) (by omega) (Obj.cells #[.string s,.int .i64 (ae s 0).1,.int .i64 (ae s 0).2.1,.int .i64 (ae s 0).2.2,.int .i64 0,.slice none 0 0] 163);have vQ:=(Below.heap_alloc w1 (Obj.cells #[.string s,.int .i64 (ae s 0).1,.int .i64 (ae s 0).2.1,.int .i64 (ae s 0).2.2,.int .i64 0,.slice none 0 0] 163) w.heap.size (by omega)).trans (ad HR)
 cases hP:patomS s 0 with
 | no p=>
  rw[hP] at hp;obtain⟨rfl,cN,fc⟩:=hp;have bZ:=cN.size;simp at bZ;have HN:=hide (show paskS s=none by unfold paskS;rw[hP]);have aU:=below_kept uf cN (by simp;omega) (by simp;omega);have nH:=(cN.block w.heap.size (by simp;omega) (by simp;omega)).trans vQ;have iF:=(Below.heap_alloc w2 (Obj.cells #[.string { data:=#[] },.slice none 0 0] 79) w.heap.size (by omega)).trans nH;obtain⟨r0,f0⟩:=block_cells iF 0;obtain⟨r1,f1⟩:=block_cells iF 1;have ep:=hide aU;clear cN fc uf vQ aU nH hP fT HR HB iF;go_wp2_with fail;obtain⟨q0,q1⟩:=set2' r0 r1 (.string { data:=#[] }) (.slice none 0 0);refine bodyPost_ret (v:=.tuple #[.agg #[.string { data:=#[] },.slice none 0 0],.bool false]) (by simp[results,Tryz.results57,go_sem,q0,q1]) rfl ?_;rw[ad HN];exact⟨below_kept ((ad ep).alloc (by omega) _) (ra_set _ w.heap.size _ _) (by simp;omega) (by simp),rfl⟩
 | yes p pd ts pl=>
  rw[hP] at hp;obtain⟨tv,gm,rfl,cN,fc,eG,gK,Jf⟩:=hp;obtain⟨ta,tc,rfl⟩:=own_slice gK;have bZ:=cN.size;simp at bZ;have aU:=below_kept uf cN (by simp;omega) (by simp[Value.ownBlock];omega);have nH:=(cN.block w.heap.size (by simp;omega) (by simp[Value.ownBlock];omega)).trans vQ;obtain⟨bP,c0,c1,c2,c3,c4,c5,fz⟩:=fc.kept ((Kept.refl [] w2).alloc (Obj.cells #[.string pd,.slice ta ts.length tc] 79)) (by simp);have ki:=aw (base':=w.heap.size) gK (by simp;omega);have jP:∀ g,(Value.slice ta ts.length tc).ownBlock=some g->g≠w.heap.size:=λ g hg e=>by
   have:=own_notT gK (e:=79) (by decide) g (by simpa using hg);subst e;exact this _ _ nH
  have iF:=(Below.heap_alloc w2 (Obj.cells #[.string pd,.slice ta ts.length tc] 79) w.heap.size (by omega)).trans nH;obtain⟨r0,f0⟩:=block_cells iF 0;obtain⟨r1,f1⟩:=block_cells iF 1;have ep:=hide aU;have HT:=hide ki;have tF:=hide jP;clear cN fc uf vQ aU nH fT HR HB eG gK Jf fz ki jP iF
  by_cases h0:(ae s p).1=0
  ·have HN:=hide (show paskS s=some ⟨pd,ts⟩ by unfold paskS;rw[hP];exact if_pos h0);have BY:((ae s p).1 != 0)=false:=(by simp[h0]);clear h0 hP;go_wp2_with fail;obtain⟨q0,q1⟩:=set2' r0 r1 (.string pd) (.slice ta ts.length tc);refine bodyPost_ret (v:=.tuple #[.agg #[.string pd,.slice ta ts.length tc],.bool true]) (by simp[results,Tryz.results57,go_sem,q0,q1]) rfl ?_;rw[ad HN];exact⟨below_kept ((ad ep).alloc (by omega) _) (ra_set _ w.heap.size _ _) (by simp;omega) (by simp),ta,tc,rfl,ownsRow_apart ((ad HT).alloc _) (ra_set _ w.heap.size _ _) (ad tF)⟩
  ·have HN:=hide (show paskS s=none by unfold paskS;rw[hP];exact if_neg h0);have BY:((ae s p).1 != 0)=true:=(by simp[h0]);clear h0 hP;go_wp2_with fail;obtain⟨q0,q1⟩:=set2' r0 r1 (.string { data:=#[] }) (.slice none 0 0);refine bodyPost_ret (v:=.tuple #[.agg #[.string { data:=#[] },.slice none 0 0],.bool false]) (by simp[results,Tryz.results57,go_sem,q0,q1]) rfl ?_;rw[ad HN];exact⟨below_kept ((ad ep).alloc (by omega) _) (ra_set _ w.heap.size _ _) (by simp;omega) (by simp),rfl⟩
end
section
open Go.RowKit Go.Maps
def askedS (ps:P9)(s:B8):Option PAtm:=match paskS s with
 | none=>none
 | some A=>if suitsB ps A then some A else none
theorem pask_size {s:B8}{A:PAtm}(h:paskS s=some A):A.p.size<=s.size/\A.ts.length<=4:=by
 unfold paskS at h
 split at h
 ·cases h
 ·rename_i p pd ts pl hp
  split at h
  ·cases h;exact patom_ok hp
  ·cases h
theorem readasked_any (w:W8)(s:B8)(tb n:Nat)(ps:P9)(S:B8->Nat)(h:SMap Tryz.prog 9 w tb n (stV ps S))(hs:s.size<=2000000):
  Calls Tryz.prog 37 #[.string s,.map (some tb)] w (AskedPost w (askedS ps s)):=by
 have fZ:=h.lt;have HM:=hide h;clear h;go_enter Tryz.func37,Tryz.ntmps37;go_wp2_with fail;refine (rask_any _ s hs).mono ?_;rintro e w1 ⟨aT,hp⟩;have ir:=aT.size;have fY:w1.heap[w.heap.size]?=some (.cells #[.string { data:=#[] },.slice none 0 0] 79 (0,0)):=by rw[aT.block _ (by simp)];exact heap_alloc_new w _
 have fA:Below w.heap.size w w1:=(B9.alloc L9 _).trans (aT.mono (by simp));have fa:=(ad HM).block (fA.block tb fZ);have HB:=hide fA;simp at ir;clear aT fA
 cases hP:paskS s with
 | none=>
  rw[hP] at hp;subst hp;have HN:=hide (show askedS ps s=none by unfold askedS;rw[hP]);have iF:=(Below.heap_alloc w1 (Obj.cells #[.string { data:=#[] },.slice none 0 0] 79) w.heap.size (by omega)).trans fY;obtain⟨r0,f0⟩:=block_cells iF 0;obtain⟨r1,f1⟩:=block_cells iF 1;clear hP fa fY iF;go_wp2_with fail;obtain⟨q0,q1⟩:=set2' r0 r1 (.string { data:=#[] }) (.slice none 0 0);refine bodyPost_ret (v:=.tuple #[.agg #[.string { data:=#[] },.slice none 0 0],.bool false]) (by simp[results,Tryz.results37,go_sem,q0,q1]) rfl ?_;rw[ad HN];exact⟨below_kept ((ad HB).alloc (by omega) _) (ra_set _ w.heap.size _ _) (by simp;omega) (by simp),rfl⟩
 | some A=>
  rw[hP] at hp;obtain⟨a,c,rfl,aE⟩:=hp;obtain⟨hsz,h4⟩:=pask_size hP;have jP:∀ g,(Value.slice a A.ts.length c).ownBlock=some g->g≠w.heap.size:=λ g hg e=>by
   have:=aE.lt g hg;simp at this;omega
  have HT:=hide (aw (base':=w.heap.size) aE (by simp));have tF:=hide jP;have HP:=hide hP;have eG:=fa.block (Below.heap_alloc w1 (Obj.cells #[.string A.p,.slice a A.ts.length c] 79) tb (by omega));have iF:=(Below.heap_alloc w1 (Obj.cells #[.string A.p,.slice a A.ts.length c] 79) w.heap.size (by omega)).trans fY;have vt:=hide eG;have Bu:=hide iF;clear hP fa eG aE jP fY iF HM;go_wp2_with fail;refine (suits_any _ tb n ps S A a c (ad vt) (by unfold maxLen;omega)).mono ?_;rintro e w2 ⟨rfl,aU⟩;have bZ:=aU.size;simp at bZ;have eY:=(aU.block w.heap.size (by simp;omega)).trans (ad Bu);have gT:=(aU.block w1.heap.size (by simp)).trans (heap_alloc_new w1 _);have ep:=hide (((ad HB).alloc (by omega) _).trans (aU.mono (by simp;omega)));have tM:=hide (own_below ((ad HT).alloc _) aU (λ g e=>by have:=((ad HT).lt g e).2;simp;omega));obtain⟨r0,f0⟩:=block_cells eY 0;obtain⟨r1,f1⟩:=block_cells eY 1;obtain⟨a0,g0⟩:=block_cells gT 0;obtain⟨a1,g1⟩:=block_cells gT 1;clear aU eY gT
  cases hS:suitsB ps A with
  | false=>
   have HN:=hide (show askedS ps s=none by unfold askedS;rw[ad HP];simp[hS]);clear hS;go_wp2_with fail;obtain⟨q0,q1⟩:=set2' r0 r1 (.string { data:=#[] }) (.slice none 0 0);refine bodyPost_ret (v:=.tuple #[.agg #[.string { data:=#[] },.slice none 0 0],.bool false]) (by simp[results,Tryz.results37,go_sem,q0,q1]) rfl ?_;rw[ad HN];exact⟨below_kept (ad ep) (ra_set _ w.heap.size _ _) (by omega) (by simp),rfl⟩
  | true=>
   have HN:=hide (show askedS ps s=some A by unfold askedS;rw[ad HP];simp[hS]);clear hS;go_wp2_with fail;obtain⟨q0,q1⟩:=set2' r0 r1 (.string A.p) (.slice a A.ts.length c);refine bodyPost_ret (v:=.tuple #[.agg #[.string A.p,.slice a A.ts.length c],.bool true]) (by simp[results,Tryz.results37,go_sem,q0,q1]) rfl ?_;rw[ad HN];exact⟨below_kept (ad ep) (ra_set _ w.heap.size _ _) (by omega) (by simp),a,c,rfl,ownsRow_apart (ad tM) (ra_set _ w.heap.size _ _) (ad tF)⟩
end
section
open Go.RowKit Go.Maps
inductive PQOut (w:W8)(rs:List PR)(ps:P9)(s:B8)(limit:Int)(w':W8):Ending->Prop
 | arg:cC limit=false->PQOut w rs ps s limit w' (.returned (.tuple #[.slice none 0 0,.int .i64 8]))
 | ask:cC limit=true->askedS ps s=none->PQOut w rs ps s limit w' (.returned (.tuple #[.slice none 0 0,.int .i64 6]))
 | fk {A:PAtm} {S:B8->Nat} {m:Nat}:cC limit=true->askedS ps s=some A->ValidN (rs.map (·.R)) S->LowN (rs.map (·.R)) S->IsCount ps S m->PStrat rs S limit.toNat m 0 [] none->PQOut w rs ps s limit w' (.returned (.tuple #[.slice none 0 0,.int .i64 7]))
 | yes {A:PAtm} {S:B8->Nat} {m:Nat} {K:List (Th × Nat)} {zs:List B8} {a:O8} {c:Nat}:cC limit=true->askedS ps s=some A->ValidN (rs.map (·.R)) S->LowN (rs.map (·.R)) S->IsCount ps S m->PStrat rs S limit.toNat m 0 [] (some K)->(K.map (·.1)).Nodup->zs.Perm ((K.filter (hitB A)).map λ p=>thText p.1)->w'.ownsRow w.heap.size 9 1 (.slice a zs.length c) zs.length ((sortT zs).map encStr)->PQOut w rs ps s limit w' (.returned (.tuple #[.slice a zs.length c,.int .i64 0]))
theorem limit_of {l:Int}(h:cC l=true):1<=l/\l<=50:=by unfold cC at h;simpa using h
theorem bR.iY {w w':W8}{n base:Nat}{rv:Value}{rs:List PR}(h:bR w base rv rs)(k:Below n w w')(hn:w.heap.size<=n):bR w' base rv rs:=
 h.cZ (B:=[]) ⟨k.os,k.tape,k.output,k.size,λ i hi _=>k.block i (by omega)⟩ (by simp)
theorem pquery_any (w:W8)(base b:Nat)(rs:List PR)(ps:P9)(s:B8)(limit:Int)(TI:Th->Prop)(hs:s.size<=2000000)(h:ProgIn w base b rs)(iG:rs.length<=30)(cE:∀ r∈rs,r.bs.length<=3)(eN:∀ r∈rs,r.R.pd.size<=800)(kX:∀ r∈rs,∀ x∈r.bs,x.1.pd.size<=800)(kc:AgreeL ((rs.map (·.R)).flatMap aZ) [])(gj:meetL ((rs.map (·.R)).flatMap aZ) []=ps)(dP:ps.length<=1000)(ak:∀ r∈rs,(∃ n,numOf ps r.R.pd=some n)/\∀ x∈r.bs,∃ n,numOf ps x.1.pd=some n)(f0:B8->Nat)(jM:ValidN (rs.map (·.R)) f0)(jd:∀ k,f0 k<=1000)(oX:dr rs TI)(Fe:∀ t,TI t->(atomT t.1 (thTerms t)).length<=1000000000):
  Calls Tryz.prog 20 #[.pointer (some ⟨b,0,none⟩),.string s,.int .i64 limit] w λ e w'=>PQOut w rs ps s limit w' e/\Below w.heap.size w w':=by
 obtain⟨a,c,hb,jK,hr⟩:=h;have ja:b<w.heap.size:=(Array.getElem?_eq_some_iff.1 hb).1;obtain⟨x0,_⟩:=block_cells hb 0;have HR:=hide hr;have HB:=hide hb;have pZ:=hide oX;have Il:=hide Fe;have rN:=hide (of_any w base a c rs ps hr iG cE eN kX kc gj dP ak f0 jM jd);have qC:=hide (show ∀ r∈rs,r.R.pd.size<=800/\(numOf ps r.R.pd).isSome=true from λ r hr=>⟨eN r hr,by obtain⟨n,e⟩:=(ak r hr).1;rw[e];rfl⟩);have wH:=hide jM;have tt:=hide jd;clear hr cE eN kX kc gj dP ak jM jd oX Fe;go_enter Tryz.func20,Tryz.ntmps20;go_wp2_with fail;refine (maybe_any w limit).mono ?_;rintro e w1 ⟨rfl,hw⟩;have hw:=hw.symm;subst hw
 cases hL:cC limit with
 | false=>
  have HL:=hide hL;clear hL;go_wp2_with fail
  go_ret2
  exact⟨.arg (ad HL),Below.refl _ _⟩
 | true=>
  obtain⟨l1,Ky⟩:=limit_of hL;obtain⟨lim,rfl⟩:∃ n:Nat,limit=n:=⟨limit.toNat,by omega⟩;have HL:=hide hL;clear hL;go_wp2_with fail;refine (plist_any _ b _ a rs.length c rfl x0).mono ?_;rintro e w2 ⟨rfl,hw⟩;have hw:=hw.symm;subst hw;go_wp2_with fail;refine (ad rN).mono ?_;clear rN;rintro e w2 ⟨rfl,bZ,aU,S,n,hm,hn,fD,aX⟩;have HS:=hide (show ∀ k,(numOf ps k).isSome=true->S k<=1000000 from λ k _=>by have:=aX f0 (ad wH) k;have:=ad tt k;omega);have HV:=hide fD;have iJ:=hide aX;have HM:=hide hm;have ep:=hide aU;clear fD aX hm aU x0;go_wp2_with fail;refine (readasked_any w2 s _ n ps S (ad HM) hs).mono ?_;rintro e w3 ⟨cE,hp⟩;have pO:=cE.size;have iz:=(ad ep).trans (cE.mono (by omega));have ma:=(iz.block b ja).trans (ad HB);have ey:=(ad HM).block (cE.block _ bZ);have iF:=(ad HR).iY iz L9
  cases hP:askedS ps s with
  | none=>
   rw[hP] at hp;subst hp;have HP:=hide hP;have gh:=hide (iz.alloc (by omega) (.cells #[.string { data:=#[] },.slice none 0 0] 79));clear hP iz ma ey iF cE;go_wp2_with fail
   go_ret2
   exact⟨.ask (ad HL) (ad HP),ad gh⟩
  | some A=>
   rw[hP] at hp;obtain⟨aa,ac,rfl,aE⟩:=hp;have bQ:=iz.alloc (by omega) (.cells #[.string A.p,.slice aa A.ts.length ac] 79);have j5:=(Below.heap_alloc w3 (.cells #[.string A.p,.slice aa A.ts.length ac] 79) b (by omega)).trans ma;have jr:=ey.block (Below.heap_alloc w3 (.cells #[.string A.p,.slice aa A.ts.length ac] 79) w.heap.size (by omega));have eY:=iF.below (B9.alloc L9 (.cells #[.string A.p,.slice aa A.ts.length ac] 79));have sI:=aE.alloc (.cells #[.string A.p,.slice aa A.ts.length ac] 79);have oR:=heap_alloc_new w3 (.cells #[.string A.p,.slice aa A.ts.length ac] 79);obtain⟨JX,h4⟩:A.p.size<=s.size/\A.ts.length<=4:=by
    unfold askedS at hP
    split at hP
    ·cases hP
    ·rename_i A' hA
     split at hP
     ·cases hP;exact pask_size hA
     ·cases hP
   have ll:(w3.alloc (.cells #[.string A.p,.slice aa A.ts.length ac] 79)).heap.size=w3.heap.size+1:=(by simp);have HP:=hide hP;have eC:=hide bQ;have qB:=hide j5;have zY:=hide jr;have nY:=hide eY;have xe:=hide sI;have AW:=hide oR;have BN:=hide ll;clear hP iz ma ey iF cE bQ j5 jr eY sI oR aE ll;go_wp2_with fail;generalize (w3.alloc (.cells #[.string A.p,.slice aa A.ts.length ac] 79))=w4 at *;obtain⟨x0,_⟩:=block_cells (ad qB) 0;refine (plist_any _ b _ a rs.length c rfl x0).mono ?_;rintro e w5 ⟨rfl,hw⟩;have hw:=hw.symm;subst hw;clear x0;go_wp2_with fail;have ll:=ad BN;refine (foll_any w4 base a c rs w.heap.size n ps S lim TI (ad nY) (by omega) (ad zY) (ad HS) (by omega) (ad qC) (ad pZ) (by omega)).mono ?_;rintro e w5 ⟨m,r,kT,il,eO,cP,eJ⟩;have gi:=(ad eC).trans (eO.mono (by omega));have jy:=(eO.block w3.heap.size (by omega)).trans (ad AW);have pE:=own_below (ad xe) eO (λ g e=>((ad xe).lt g e).2)
   cases r with
   | none=>
    have he:=cP rfl;subst he;have jn:=hide gi;have HX:=hide (And.intro kT il);clear cP eJ kT il gi jy pE eO ll;go_wp2_with fail
    go_ret2
    exact⟨.fk (ad HL) (ad HP) (ad HV) (ad iJ) (ad HX).1 (ad HX).2,ad jn⟩
   | some K=>
    obtain⟨kb,rfl,vK,gP,B5,xQ⟩:=eJ K rfl;have u6:=eO.size;obtain⟨y0,_⟩:=block_cells jy 0;obtain⟨y1,_⟩:=block_cells jy 1;have jn:=hide gi;have HX:=hide (And.intro kT il);have kz:=hide gP;have Bw:=hide pE;have wO:=hide xQ;clear cP eJ kT il gi jy pE eO gP xQ ll;go_wp2_with fail;refine (matching_any w5 kb w2.heap.size A aa ac K (ad kz) (ad Bw) h4 (by omega) (λ p hp=>ad Il _ (ad wO p hp))).mono ?_;rintro e w6 ⟨zs,az,cz,rfl,dC,sJ,iA⟩;have HZ:=hide (PQOut.yes (limit:=(lim:Int)) (ad HL) (ad HP) (ad HV) (ad iJ) (ad HX).1 (ad HX).2 (ad kz).nodup dC (aw (base':=w.heap.size) sJ (ad jn).size));have mU:=hide ((ad jn).trans (iA.mono (ad jn).size));clear dC sJ iA;go_wp2_with fail
    go_ret2
    exact⟨ad HZ,ad mU⟩
end
section
open Go.RowKit Go.Maps
def thOf (A:PAtm):Option Th:=if A.ts.any (·.1) then none else some (A.p,A.ts.map (·.2))
theorem results_th {fn:Func}{p u:Tmp}(h:fn.results=#[.cell p 88,.tmp u])(tmps:Array Value)(w:W8)(g:Nat)(t:Th)(hp:tmps.getD p undef=.pointer (some ⟨g,0,none⟩))(hg:w.heap[g]?=some (.cells (aq t).toArray 88 (0,0))):
  (results fn tmps).run Tryz.prog w=.ok (.tuple #[thV t,tmps.getD u undef]) w:=by
 have rf:tmps[p]?.getD undef=.pointer (some ⟨g,0,none⟩):=by simpa using hp
 have jT:tmps.getD u undef=tmps[u]?.getD undef:=by simp
 rw[jT];simp[results,h,rf,asAddr,run_loadVar_row w g _ 88 _ _ _ hg Tryz.underlying88 rfl (by rw[infoTh];rfl),thV]
def ThOfPost (w:W8)(r:Option Th)(en:Ending)(w':W8):Prop:=Below w.heap.size w w'/\en=.returned (.tuple #[thV (r.getD ({ data:=#[] },[])),.bool r.isSome])
theorem thof_any (w:W8)(base:Nat)(A:PAtm)(a:O8)(c:Nat)(h:w.ownsRow base 191 1 (.slice a A.ts.length c) A.ts.length (A.ts.map termV))(h4:A.ts.length<=4):
  Calls Tryz.prog 65 #[.agg #[.string A.p,.slice a A.ts.length c]] w (ThOfPost w (thOf A)):=by
 have H:=hide h;clear h;have a1:=asVar_yes;have a2:=asName_yes;have a3:=asName_no;go_enter Tryz.func65,Tryz.ntmps65;go_upto_region 2 with fail;generalize hw0:World.alloc (World.alloc (World.alloc w _) _) _=w0;have k0:Below w.heap.size w w0:=by
  rw[<-hw0];exact (((Below.refl w.heap.size w).alloc L9 _).alloc (by simp) _).alloc (by simp only[World.size_alloc];omega) _
 have x1:w0.heap[w.heap.size]?=some (.cells #[.string A.p,.slice a A.ts.length c] 79 (0,0)):=by
  rw[<-hw0,Below.heap_alloc _ _ _ (by simp only[World.size_alloc];omega),Below.heap_alloc _ _ _ (by simp)];exact heap_alloc_new w _
 have x2:w0.heap[w.heap.size+1]?=some (.cells (aq ⟨{ data:=#[] },[]⟩).toArray 88 (0,0)):=by
  rw[<-hw0,Below.heap_alloc _ _ _ (by simp)];have:=heap_alloc_new (w.alloc (.cells #[.string A.p,.slice a A.ts.length c] 79)) (.cells (aq ⟨{ data:=#[] },[]⟩).toArray 88);rw[World.size_alloc] at this;exact this
 have x3:w0.heap[w.heap.size+1+1]?=some (.cells (aq ⟨A.p,[]⟩).toArray 88 (0,0)):=by
  rw[<-hw0];have:=heap_alloc_new ((w.alloc (.cells #[.string A.p,.slice a A.ts.length c] 79)).alloc (.cells (aq ⟨{ data:=#[] },[]⟩).toArray 88)) (.cells (aq ⟨A.p,[]⟩).toArray 88);rw[World.size_alloc,World.size_alloc] at this;exact this
 have s0:w.heap.size+1+1+1=w0.heap.size:=by rw[<-hw0];simp
 have ee:=own_block (ad H) (λ g e=>k0.block g ((ad H).lt g e).2);have HG:=hide (λ g (e1:(Value.slice a A.ts.length c).ownBlock=some g)=>((ad H).lt g e1).2);clear hw0 H;have fH:=hide s0;have qJ:=hide x3;have oF:=hide x2;have na:=hide ee;have cq:=hide k0;obtain⟨p1,-⟩:=block_cells x1 1;simp only[List.getElem?_toArray,List.getElem?_cons_zero,List.getElem?_cons_succ] at p1;clear x1 x2 x3 ee k0 s0;go_wp2_with fail
 go_loopg [15] A.ts.length (λ gg i wr=>∃ (k:Nat) (L:List B8),k<=A.ts.length/\gg=A.ts.length-k/\i=.int .i64 k/\L=(A.ts.take k).map (·.2)/\(A.ts.take k).any (·.1)=false/\wr.heap[w.heap.size+1+1]?=some (.cells (aq ⟨A.p,L⟩).toArray 88 (0,0))/\Kept [w.heap.size+1+1] w0 wr)
 exact⟨0,[],Nat.zero_le _,rfl,rfl,rfl,rfl,ad qJ,Kept.refl _ _⟩
 case round=>
  obtain⟨k,L,hk,fM,rfl,hL,oO,hx,cV⟩:=hrel;have ik:L.length=k:=by rw[hL];simp;omega
  have sY:=ad fH;have lu:=hide (show Below w.heap.size w wr from ⟨cV.os.trans (ad cq).os,cV.tape.trans (ad cq).tape,cV.output.trans (ad cq).output,Nat.le_trans (ad cq).size cV.size,λ i hi=>(cV.block i (by omega) (by simp;omega)).trans ((ad cq).block i hi)⟩);have HX:=hide hx;have gw:=hide cV;have HL:=hide hL;have p8:=hide ik;have AV:=hide oO;have qc:=hide ((cV.block (w.heap.size+1) (by omega) (by simp)).trans (ad oF))
  by_cases aN:k<A.ts.length
  ·obtain⟨g,rfl,nB,dG,dx,hc⟩:=termsAt (ad na) k aN;have eP:=ad HG g rfl;have gD:wr.cell? ⟨g,k,none⟩=some (termV A.ts[k]):=((ad gw).cell (p:=⟨g,k,none⟩) nB (by simp;omega)).trans hc;obtain⟨dV,Fx⟩:=block_cells hx (1+k);replace dV:wr.cell? ⟨w.heap.size+1+1,1+k,none⟩=some (.string (nth4 L k)):=by
    rw[dV,List.getElem?_toArray];exact thCells_name ⟨A.p,L⟩ (by omega)
   have gW:(k:Int)<A.ts.length:=(by omega);have jq:(1+k:Int)<5:=(by omega);clear hc sY hx cV hL ik oO
   cases hv:A.ts[k].1 with
   | false=>
    have nA:wr.cell? ⟨g,k,none⟩=some (.iface 193 (.string A.ts[k].2)):=(by rw[gD];unfold termV;rw[hv];rfl);have HV:=hide hv;clear gD hv;go_wp2_with fail;go_roundg (A.ts.length-(k+1))
    case measure=>omega
    case rel=>
     have:=fill_set (ad HX) (by rw[ad p8];omega) A.ts[k].2;rw[ad p8] at this;refine⟨k+1,L++[A.ts[k].2],by omega,rfl,by go_num,?_,?_,this,(ad gw).setCell (by simp) _⟩
     ·rw[List.take_succ_eq_append_getElem aN,List.map_append,ad HL];rfl
     ·rw[List.take_succ_eq_append_getElem aN,List.any_append,ad AV];simp[ad HV]
   | true=>
    have nA:wr.cell? ⟨g,k,none⟩=some (.iface 130 (.string A.ts[k].2)):=(by rw[gD];unfold termV;rw[hv];rfl);have HE:=hide (show thOf A=none by unfold thOf;rw[if_pos (List.any_eq_true.2 ⟨_,List.getElem_mem aN,hv⟩)]);clear gD hv;go_wp2_with (first | (refine wpList_store_row rfl 88 _ _ rfl _ _ rfl rfl _ _ (ad qc) (by rw[infoTh];rfl) rfl (thCells_one ({ data:=#[] },[])) ?_) | fail);refine bodyPost_ret (v:=.tuple #[thV ({ data:=#[] },[]),.bool false]) (results_th Tryz.results65 _ _ _ _ rfl (setRow_heap _ _ _ _ _ _ (ad qc))) rfl ?_;rw[ad HE];exact⟨below_setRow (ad lu) (by omega) _,rfl⟩
  ·have HE:=hide (show thOf A=some (A.p,L) by unfold thOf;rw[List.take_of_length_le (by omega)] at hL oO;rw[oO,hL];rfl);clear sY hx cV hL ik oO;go_wp2_with (first | (refine wpList_load_row rfl 88 _ rfl _ rfl _ _ _ _ (ad HX) Tryz.underlying88 rfl (by rw[infoTh];rfl) ?_) | (refine wpList_store_row rfl 88 _ _ rfl _ _ rfl rfl _ _ (ad qc) (by rw[infoTh];rfl) rfl (thCells_one _) ?_) | fail);refine bodyPost_ret (v:=.tuple #[thV (A.p,L),.bool true]) (results_th Tryz.results65 _ _ _ _ rfl (setRow_heap _ _ _ _ _ _ (ad qc))) rfl ?_;rw[ad HE];exact⟨below_setRow (ad lu) (by omega) _,rfl⟩
end
section
open Go.RowKit Go.Maps
attribute [local go_sem ↓] to_tLoad to_tStore to_tAlloc thV_cells
attribute [local go_sem] tStore_new run_tAlloc
def thingS (ps:P9)(s:B8):Option Th:=(askedS ps s).bind thOf
theorem TV.result {fn:Func}{p u:Tmp}(h:fn.results=#[.cell p 88,.tmp u]){w:W8}{g:Nat}{t:Th}(hg:TV w g t)(tmps:Array Value)(hp:tmps.getD p undef=.pointer (some ⟨g,0,none⟩)):(results fn tmps).run Tryz.prog w=.ok (.tuple #[thV t,tmps.getD u undef]) w:=results_th h tmps w g t hp hg
theorem readthing_any (w:W8)(s:B8)(tb n:Nat)(ps:P9)(S:B8->Nat)(h:SMap Tryz.prog 9 w tb n (stV ps S))(hs:s.size<=2000000):
  Calls Tryz.prog 41 #[.string s,.map (some tb)] w (ThOfPost w (thingS ps s)):=by
 have fZ:=h.lt;have k0:Below w.heap.size w (w.alloc (.cells (aq ({ data:=#[] },[])).toArray 88)):=B9.alloc L9 _;have HA:=hide (readasked_any (w.alloc (.cells (aq ({ data:=#[] },[])).toArray 88)) s tb n ps S (h.block (k0.block tb fZ)) hs);have cq:=hide k0;clear h k0;go_enter Tryz.func41,Tryz.ntmps41;go_wp2_with fail;refine (ad HA).mono ?_;rintro e w1 ⟨aT,hp⟩;have ir:w.heap.size+1<=w1.heap.size:=by have:=aT.size;simpa using this
 have fA:Below w.heap.size w w1:=(ad cq).trans (aT.mono (by simp));have fY:TV w1 w.heap.size ({ data:=#[] },[]):=(aT.block _ (by simp)).trans (heap_alloc_new w _)
 cases hP:askedS ps s with
 | none=>
  rw[hP] at hp;subst hp;have HN:=hide (show thingS ps s=none by unfold thingS;rw[hP];rfl);have iF:TV (w1.alloc (.cells #[.string { data:=#[] },.slice none 0 0] 79)) w.heap.size ({ data:=#[] },[]):=fY.alloc _;have dj:(tStore (.pointer (some ⟨w.heap.size,0,none⟩)) (.agg #[.string { data:=#[] },.string { data:=#[] },.string { data:=#[] },.string { data:=#[] },.string { data:=#[] }])).run Tryz.prog (w1.alloc (.cells #[.string { data:=#[] },.slice none 0 0] 79))=.ok () ((w1.alloc (.cells #[.string { data:=#[] },.slice none 0 0] 79)).setRow w.heap.size (aq ({ data:=#[] },[])).toArray):=iF.store ({ data:=#[] },[]);have Bu:=hide iF;have HB:=hide (fA.alloc fA.size (.cells #[.string { data:=#[] },.slice none 0 0] 79));have hz:=run_tZero;clear hP fY aT fA iF;go_wp2_with fail;refine bodyPost_ret (v:=.tuple #[thV ({ data:=#[] },[]),.bool false]) (TV.result Tryz.results41 (setRow_heap _ _ _ _ _ _ (ad Bu)) _ rfl) rfl ?_;rw[ad HN];exact⟨below_setRow (ad HB) L9 _,rfl⟩
 | some A=>
  rw[hP] at hp;obtain⟨a,c,rfl,aE⟩:=hp;obtain⟨hsz,h4⟩:A.p.size<=s.size/\A.ts.length<=4:=by
   unfold askedS at hP
   split at hP
   ·cases hP
   ·rename_i A' hA
    split at hP
    ·cases hP;exact pask_size hA
    ·cases hP
  have xj:=hide (show thingS ps s=thOf A by unfold thingS;rw[hP];rfl);have HO:=hide (thof_any (w1.alloc (.cells #[.string A.p,.slice a A.ts.length c] 79)) _ A a c (aE.alloc _) h4);have fu:=fA.alloc fA.size (.cells #[.string A.p,.slice a A.ts.length c] 79);have zk:TV (w1.alloc (.cells #[.string A.p,.slice a A.ts.length c] 79)) w.heap.size ({ data:=#[] },[]):=fY.alloc _;have rF:=hide fu;have Ic:=hide zk;clear hP fY aT fA aE fu zk;generalize thOf A=R at *;go_wp2_with fail;refine (ad HO).mono ?_;rintro e w2 ⟨aU,rfl⟩;have fc:TV w2 w.heap.size ({ data:=#[] },[]):=(ad Ic).below aU;have dj:=fc.store (R.getD ({ data:=#[] },[]));have rO:=hide fc;have ep:=hide ((ad rF).trans (aU.mono (ad rF).size));clear aU fc;go_wp2_with fail;refine bodyPost_ret (v:=.tuple #[thV (R.getD ({ data:=#[] },[])),.bool R.isSome]) (TV.result Tryz.results41 (setRow_heap _ _ _ _ _ _ (ad rO)) _ rfl) rfl ?_;rw[ad xj];exact⟨below_setRow (ad ep) L9 _,rfl⟩
def a8 (ps:P9)(S:B8->Nat)(K:List (Th × Nat))(t:Th):Nat:=if (numOf ps t.1).isSome then (if (ay K t).isSome then S t.1 else S t.1+1) else 0
theorem whole_any (w:W8)(tb n kb:Nat)(ps:P9)(S:B8->Nat)(K:List (Th × Nat))(t:Th)(h:SMap Tryz.prog 9 w tb n (stV ps S))(hm:aM w kb K)(ht:ThOk t)(hS:S t.1<=1000000):
  Calls Tryz.prog 66 #[.map (some tb),.map (some kb),thV t] w λ e w'=>e=.returned (.int .i64 (a8 ps S K t:Nat))/\Below w.heap.size w w':=by
 have fZ:=h.lt;have du:=hm.lt;have k0:Below w.heap.size w (w.alloc (.cells (aq t).toArray 88)):=B9.alloc L9 _;have vN:=h.block (k0.block tb fZ);have q0:(w.alloc (.cells (aq t).toArray 88)).cell? ⟨w.heap.size,0,none⟩=some (.string t.1):=(block_cells (TV.new w t) 0).1;have pe:t.1.size<=maxLen:=by have:=ht.pd;unfold maxLen;simp only[Th.p] at this;omega
 have HM:=hide hm;have cq:=hide k0;obtain⟨ct,eM⟩:∃ ct,ct=(aq t).toArray:=⟨_,rfl⟩;have fw:=hide eM;unfold thV;rw[<-eM] at q0 vN cq ⊢;clear h hm k0 eM
 cases hn:numOf ps t.1 with
 | none=>
  have HE:=hide (show a8 ps S K t=0 by unfold a8;rw[hn];rfl);have hu:(stV ps S t.1).getD (.agg #[.string { data:=#[] },.int .i64 0,.int .i64 0])=.agg #[.string { data:=#[] },.int .i64 0,.int .i64 0]:=by unfold stV;rw[hn];rfl
  have hc:(stV ps S t.1).isSome=false:=by unfold stV;rw[hn];rfl
  clear hn;go_enter Tryz.func66,Tryz.ntmps66;go_wp2_with (at_lookup;refine wp_look_ok _ rfl _ _ 73 rfl 9 185 Tryz.underlying9 Tryz.underlying73 (Tryz.zeroValue185 _) tb n (stV ps S) rfl vN t.1 rfl pe _ hu _ hc ?_);go_ret;exact⟨by rw[ad HE];rfl,(ad cq).alloc (ad cq).size _⟩
 | some m=>
  have hu:(stV ps S t.1).getD (.agg #[.string { data:=#[] },.int .i64 0,.int .i64 0])=.agg #[.string t.1,.int .i64 (S t.1),.int .i64 m]:=by unfold stV;rw[hn];rfl
  have hc:(stV ps S t.1).isSome=true:=by unfold stV;rw[hn];rfl
  have HW:=hide (show a8 ps S K t=if (ay K t).isSome then S t.1 else S t.1+1 by unfold a8;rw[hn];rfl);have bB:Below w.heap.size w ((w.alloc (.cells ct 88)).alloc (.cells #[.string t.1,.int .i64 (S t.1),.int .i64 m] 185)):=(ad cq).alloc (ad cq).size _;have tB:(tLoad (.pointer (some ⟨w.heap.size,0,none⟩))).run Tryz.prog ((w.alloc (.cells ct 88)).alloc (.cells #[.string t.1,.int .i64 (S t.1),.int .i64 m] 185))=.ok (thV t) ((w.alloc (.cells ct 88)).alloc (.cells #[.string t.1,.int .i64 (S t.1),.int .i64 m] 185)):=by rw[ad fw];exact ((TV.new w t).alloc _).load
  have lB:=((ad HM).block (bB.block kb du)).look ht Tryz.underlying83;have zR:=hide bB;clear hn bB
  cases hf:(ay K t).isSome with
  | true=>
   have HE:=hide (show a8 ps S K t=S t.1 by rw[ad HW,hf];rfl);rw[hf] at lB;clear hf;go_enter Tryz.func66,Tryz.ntmps66;go_wp2_with (at_lookup;refine wp_look_ok _ rfl _ _ 73 rfl 9 185 Tryz.underlying9 Tryz.underlying73 (Tryz.zeroValue185 _) tb n (stV ps S) rfl vN t.1 rfl pe _ hu _ hc ?_);go_ret;exact⟨by rw[ad HE];rfl,ad zR⟩
  | false=>
   have HE:=hide (show a8 ps S K t=S t.1+1 by rw[ad HW,hf];rfl);rw[hf] at lB;clear hf;go_enter Tryz.func66,Tryz.ntmps66;go_wp2_with (at_lookup;refine wp_look_ok _ rfl _ _ 73 rfl 9 185 Tryz.underlying9 Tryz.underlying73 (Tryz.zeroValue185 _) tb n (stV ps S) rfl vN t.1 rfl pe _ hu _ hc ?_);go_ret;exact⟨by rw[ad HE];simp,ad zR⟩
end
end Go.Proofs.YtldkpahaocjdpaaGreat
