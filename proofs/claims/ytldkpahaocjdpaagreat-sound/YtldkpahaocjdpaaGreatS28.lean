/-
  The reference's Model.
-/
import Derived.Deep.Upon
import Derived.Test.YtldkpahaocjdpaaGreatS27
import Derived.Calls
set_option maxHeartbeats 16000000
set_option maxRecDepth 1000000
namespace Go.Proofs.YtldkpahaocjdpaaGreat
section
open Go.RowKit
variable {w:W8}
theorem row_newsN {base:Nat}{e:TypeId}{size g n cap:Nat}{xs:V8}(h:w.ownsRow base e size (.slice (some ⟨g,0,none⟩) n cap) n xs):∀ j u,xs[j]?=some u->w.cell? ((⟨g,0,none⟩:Addr).add j)=some u:=by
 intro j u hj;have hl:xs.length=n*size:=h.1;have bS:j<xs.length:=(List.getElem?_eq_some_iff.1 hj).1;rcases h.2 with⟨h1,_⟩ | ⟨g',oO,cur,hv,hb,hg,dB,dx,fi,ht⟩
 ·cases h1
 ·injection hv with h1 h2 h3
  injection h1 with h1
  injection h1 with h1
  subst h1;have:=h.cellAt j (by omega);unfold Addr.add
  split <;> simp_all
theorem wpList_append_none {P:Program}{ops:Array Oper}{rest:List Oper}{o:Oper}{a:Act}{Q:Exit->Act->W8->Prop}(Ct:o.guard=none)(s x:Operand)(t:TypeId)(ho:o.op=.call { callee:=.builtin .append,args:=#[s,x],argTypes:=#[t,t] })(v xv:Value)(hs:a.eval s=v)(hx:a.eval x=xv)(hr:∀ ty,(Builtin.append_ #[t,t] ty #[v,xv]).run P w=.ok v w)(h:wpList P ops Q rest (a.put o.dst v) w):wpList P ops Q (o::rest) a w:=
 wpList_plain Ct λ _ hK=>by
  unfold Oper.wp execOp;simp only[ho,resolve,invoke,builtin,Sem.run_bind,Sem.run_pure,Result.andThen_ok,List.map_toArray,List.map_cons,List.map_nil,hs,hx,hr];exact hK _ _ h
end
section
structure RulesRel (ps:P9)(rs:List RRule)(rp:List PR):Prop where
 fwd:∀ R∈rs,∃ r∈rp,dO R r
 bwd:∀ r∈rp,∃ R∈rs,dO R r
 dg:∀ r∈rp,bu ps r
end
section
open Go.RowKit
def askAtom (s:B8):RAtom:=⟨(tok s 0).text,(atomRest s 0 (-1)).1,false,(tok s 0).at_,0⟩
def askEnd (s:B8):Bool:=decide ((atomRest s 0 (-1)).2.2<0)&&(tok s (atomRest s 0 (-1)).2.1).kind==46
def askOk (ps:P9)(s:B8):Bool:=askEnd s&&meetB ps (tok s 0).text (atomRest s 0 (-1)).1.length
end
section
open Go.RowKit
def paskS (s:B8):Option PAtm:=
 match patomS s 0 with
 | .no _=>none
 | .yes p pd ts _=>if (ae s p).1=0 then some ⟨pd,ts⟩ else none
def AskedPost (w:W8)(r:Option PAtm)(e:Ending)(w':W8):Prop:=
 Below w.heap.size w w'/\match r with
 | none=>e=.returned (.tuple #[.agg #[.string { data:=#[] },.slice none 0 0],.bool false])
 | some A=>∃ a c,e=.returned (.tuple #[.agg #[.string A.p,.slice a A.ts.length c],.bool true])/\w'.ownsRow w.heap.size 191 1 (.slice a A.ts.length c) A.ts.length (A.ts.map termV)
theorem a_start {w w1:W8}{s:B8}(aX:Below (w.alloc (Obj.cells #[.string { data:=#[] },.slice none 0 0] 79)).heap.size (w.alloc (Obj.cells #[.string { data:=#[] },.slice none 0 0] 79)) w1):
  dN (w1.alloc (Obj.cells #[.string s,.int .i64 (ae s 0).1,.int .i64 (ae s 0).2.1,.int .i64 (ae s 0).2.2,.int .i64 0,.slice none 0 0] 163)) w1.heap.size s 0 0 (.slice none 0 0):=by
 have hz:=aX.size;simp at hz;refine⟨by simp,?_,?_,?_,?_,?_,?_,?_⟩
 all_goals first | (rw[World.cell?_alloc_at _ _ _ _ rfl];rfl) | (intro o;rw[World.frozen?_alloc_at _ _ _ _ rfl];done) | skip
theorem rask_any (w:W8)(s:B8)(hs:s.size<=2000000):
  Calls Tryz.prog 57 #[.string s] w (AskedPost w (paskS s)):=by
 have dZ:s.size<=maxLen:=by unfold maxLen;omega
 go_enter Tryz.func57,Tryz.ntmps57;go_wp2_with fail;refine (scan_any' s 0 (Nat.zero_le _) dZ _).mono ?_;rintro e w1 ⟨rfl,aX⟩;have cD:=aX.size;have dj:=a_start (s:=s) aX;have gm:w1.heap[w.heap.size]?=some (.cells #[.string { data:=#[] },.slice none 0 0] 79 (0,0)):=by rw[aX.block _ (by simp)];exact heap_alloc_new w _
 have fJ:Below w.heap.size w w1:=(B9.alloc L9 _).trans (aX.mono (by simp));have HB:=hide fJ;have HR:=hide gm;have gP:=hide dj;clear aX fJ gm;simp at cD;obtain⟨bS,c0,c1,c2,c3,c4,c5,fz⟩:=dj;clear fz;go_wp2_with fail;refine (patom_any _ w1.heap.size s 0 0 (.slice none 0 0) false (ae s 0).2.1 [] (ad gP) ⟨World.ownsRow_nil _ _ _ _,by simp⟩ (by simp) (Nat.zero_le _) hs).mono ?_;intro e w2 hp;clear bS c0 c1 c2 c3 c4 c5;have ue:=(ad HB).alloc (B:=w.heap.size) (by omega) (Obj.cells #[.string s,.int .i64 (ae s 0).1,.int .i64 (ae s 0).2.1,.int .i64 (ae s 0).2.2,.int .i64 0,.slice none 0 0] 163);have vP:=(Below.heap_alloc w1 (Obj.cells #[.string s,.int .i64 (ae s 0).1,.int .i64 (ae s 0).2.1,.int .i64 (ae s 0).2.2,.int .i64 0,.slice none 0 0] 163) w.heap.size (by omega)).trans (ad HR)
 cases hP:patomS s 0 with
 | no p=>
  rw[hP] at hp;obtain⟨rfl,cN,fj⟩:=hp;have cd:=cN.size;simp at cd;have HN:=hide (show paskS s=none by unfold paskS;rw[hP]);have aY:=below_kept ue cN (by simp;omega) (by simp;omega);have nK:=(cN.block w.heap.size (by simp;omega) (by simp;omega)).trans vP;have iG:=(Below.heap_alloc w2 (Obj.cells #[.string { data:=#[] },.slice none 0 0] 79) w.heap.size (by omega)).trans nK;obtain⟨r0,f0⟩:=block_cells iG 0;obtain⟨r1,f1⟩:=block_cells iG 1;have eA:=hide aY;clear cN fj ue vP aY nK hP gP HR HB iG;go_wp2_with fail;obtain⟨q0,q1⟩:=set2' r0 r1 (.string { data:=#[] }) (.slice none 0 0);refine bodyPost_ret (v:=.tuple #[.agg #[.string { data:=#[] },.slice none 0 0],.bool false]) (by simp[results,Tryz.results57,go_sem,q0,q1]) rfl ?_;rw[ad HN];exact⟨below_kept ((ad eA).alloc (by omega) _) (ra_set _ w.heap.size _ _) (by simp;omega) (by simp),rfl⟩
 | yes p pd ts pl=>
  rw[hP] at hp;obtain⟨tv,gz,rfl,cN,fj,eG,jV,I2⟩:=hp;obtain⟨ta,tc,rfl⟩:=own_slice jV;have cd:=cN.size;simp at cd;have aY:=below_kept ue cN (by simp;omega) (by simp[Value.ownBlock];omega);have nK:=(cN.block w.heap.size (by simp;omega) (by simp[Value.ownBlock];omega)).trans vP;obtain⟨bS,c0,c1,c2,c3,c4,c5,fz⟩:=fj.kept ((Kept.refl [] w2).alloc (Obj.cells #[.string pd,.slice ta ts.length tc] 79)) (by simp);have ks:=ax (base':=w.heap.size) jV (by simp;omega);have jQ:∀ g,(Value.slice ta ts.length tc).ownBlock=some g->g≠w.heap.size:=λ g hg e=>by
   have:=own_notT jV (e:=79) (by decide) g (by simpa using hg);subst e;exact this _ _ nK
  have iG:=(Below.heap_alloc w2 (Obj.cells #[.string pd,.slice ta ts.length tc] 79) w.heap.size (by omega)).trans nK;obtain⟨r0,f0⟩:=block_cells iG 0;obtain⟨r1,f1⟩:=block_cells iG 1;have eA:=hide aY;have HT:=hide ks;have tG:=hide jQ;clear cN fj ue vP aY nK gP HR HB eG jV I2 fz ks jQ iG
  by_cases h0:(ae s p).1=0
  ·have HN:=hide (show paskS s=some ⟨pd,ts⟩ by unfold paskS;rw[hP];exact if_pos h0);have BM:((ae s p).1 != 0)=false:=(by simp[h0]);clear h0 hP;go_wp2_with fail;obtain⟨q0,q1⟩:=set2' r0 r1 (.string pd) (.slice ta ts.length tc);refine bodyPost_ret (v:=.tuple #[.agg #[.string pd,.slice ta ts.length tc],.bool true]) (by simp[results,Tryz.results57,go_sem,q0,q1]) rfl ?_;rw[ad HN];exact⟨below_kept ((ad eA).alloc (by omega) _) (ra_set _ w.heap.size _ _) (by simp;omega) (by simp),ta,tc,rfl,ownsRow_apart ((ad HT).alloc _) (ra_set _ w.heap.size _ _) (ad tG)⟩
  ·have HN:=hide (show paskS s=none by unfold paskS;rw[hP];exact if_neg h0);have BM:((ae s p).1 != 0)=true:=(by simp[h0]);clear h0 hP;go_wp2_with fail;obtain⟨q0,q1⟩:=set2' r0 r1 (.string { data:=#[] }) (.slice none 0 0);refine bodyPost_ret (v:=.tuple #[.agg #[.string { data:=#[] },.slice none 0 0],.bool false]) (by simp[results,Tryz.results57,go_sem,q0,q1]) rfl ?_;rw[ad HN];exact⟨below_kept ((ad eA).alloc (by omega) _) (ra_set _ w.heap.size _ _) (by simp;omega) (by simp),rfl⟩
end
section
open Go.RowKit Go.Maps
def askedS (ps:P9)(s:B8):Option PAtm:=match paskS s with
 | none=>none
 | some A=>if suitsB ps A then some A else none
theorem pask_size {s:B8}{A:PAtm}(h:paskS s=some A):A.p.size<=s.size/\A.ts.length<=4:=by
 unfold paskS at h
 split at h
 ·cases h
 ·rename_i p pd ts pl hp
  split at h
  ·cases h;exact patom_ok hp
  ·cases h
theorem readasked_any (w:W8)(s:B8)(tb n:Nat)(ps:P9)(S:B8->Nat)(h:SMap Tryz.prog 9 w tb n (stV ps S))(hs:s.size<=2000000):
  Calls Tryz.prog 37 #[.string s,.map (some tb)] w (AskedPost w (askedS ps s)):=by
 have gq:=h.lt;have HM:=hide h;clear h;go_enter Tryz.func37,Tryz.ntmps37;go_wp2_with fail;refine (rask_any _ s hs).mono ?_;rintro e w1 ⟨aX,hp⟩;have cD:=aX.size;have gm:w1.heap[w.heap.size]?=some (.cells #[.string { data:=#[] },.slice none 0 0] 79 (0,0)):=by rw[aX.block _ (by simp)];exact heap_alloc_new w _
 have fJ:Below w.heap.size w w1:=(B9.alloc L9 _).trans (aX.mono (by simp));have eY:=(ad HM).block (fJ.block tb gq);have HB:=hide fJ;simp at cD;clear aX fJ
 cases hP:paskS s with
 | none=>
  rw[hP] at hp;subst hp;have HN:=hide (show askedS ps s=none by unfold askedS;rw[hP]);have iG:=(Below.heap_alloc w1 (Obj.cells #[.string { data:=#[] },.slice none 0 0] 79) w.heap.size (by omega)).trans gm;obtain⟨r0,f0⟩:=block_cells iG 0;obtain⟨r1,f1⟩:=block_cells iG 1;clear hP eY gm iG;go_wp2_with fail;obtain⟨q0,q1⟩:=set2' r0 r1 (.string { data:=#[] }) (.slice none 0 0);refine bodyPost_ret (v:=.tuple #[.agg #[.string { data:=#[] },.slice none 0 0],.bool false]) (by simp[results,Tryz.results37,go_sem,q0,q1]) rfl ?_;rw[ad HN];exact⟨below_kept ((ad HB).alloc (by omega) _) (ra_set _ w.heap.size _ _) (by simp;omega) (by simp),rfl⟩
 | some A=>
  rw[hP] at hp;obtain⟨a,c,rfl,aF⟩:=hp;obtain⟨hsz,h4⟩:=pask_size hP;have jQ:∀ g,(Value.slice a A.ts.length c).ownBlock=some g->g≠w.heap.size:=λ g hg e=>by
   have:=aF.lt g hg;simp at this;omega
  have HT:=hide (ax (base':=w.heap.size) aF (by simp));have tG:=hide jQ;have HP:=hide hP;have eG:=eY.block (Below.heap_alloc w1 (Obj.cells #[.string A.p,.slice a A.ts.length c] 79) tb (by omega));have iG:=(Below.heap_alloc w1 (Obj.cells #[.string A.p,.slice a A.ts.length c] 79) w.heap.size (by omega)).trans gm;have vs:=hide eG;have Bl:=hide iG;clear hP eY eG aF jQ gm iG HM;go_wp2_with fail;refine (suits_any _ tb n ps S A a c (ad vs) (by unfold maxLen;omega)).mono ?_;rintro e w2 ⟨rfl,aY⟩;have cd:=aY.size;simp at cd;have fg:=(aY.block w.heap.size (by simp;omega)).trans (ad Bl);have gY:=(aY.block w1.heap.size (by simp)).trans (heap_alloc_new w1 _);have eA:=hide (((ad HB).alloc (by omega) _).trans (aY.mono (by simp;omega)));have tO:=hide (own_below ((ad HT).alloc _) aY (λ g e=>by have:=((ad HT).lt g e).2;simp;omega));obtain⟨r0,f0⟩:=block_cells fg 0;obtain⟨r1,f1⟩:=block_cells fg 1;obtain⟨a0,g0⟩:=block_cells gY 0;obtain⟨a1,g1⟩:=block_cells gY 1;clear aY fg gY
  cases hS:suitsB ps A with
  | false=>
   have HN:=hide (show askedS ps s=none by unfold askedS;rw[ad HP];simp[hS]);clear hS;go_wp2_with fail;obtain⟨q0,q1⟩:=set2' r0 r1 (.string { data:=#[] }) (.slice none 0 0);refine bodyPost_ret (v:=.tuple #[.agg #[.string { data:=#[] },.slice none 0 0],.bool false]) (by simp[results,Tryz.results37,go_sem,q0,q1]) rfl ?_;rw[ad HN];exact⟨below_kept (ad eA) (ra_set _ w.heap.size _ _) (by omega) (by simp),rfl⟩
  | true=>
   have HN:=hide (show askedS ps s=some A by unfold askedS;rw[ad HP];simp[hS]);clear hS;go_wp2_with fail;obtain⟨q0,q1⟩:=set2' r0 r1 (.string A.p) (.slice a A.ts.length c);refine bodyPost_ret (v:=.tuple #[.agg #[.string A.p,.slice a A.ts.length c],.bool true]) (by simp[results,Tryz.results37,go_sem,q0,q1]) rfl ?_;rw[ad HN];exact⟨below_kept (ad eA) (ra_set _ w.heap.size _ _) (by omega) (by simp),a,c,rfl,ownsRow_apart (ad tO) (ra_set _ w.heap.size _ _) (ad tG)⟩
end
section
open Go.RowKit Go.Maps
inductive PQOut (w:W8)(rs:List PR)(ps:P9)(s:B8)(limit:Int)(w':W8):Ending->Prop
 | arg:cB limit=false->PQOut w rs ps s limit w' (.returned (.tuple #[.slice none 0 0,.int .i64 8]))
 | ask:cB limit=true->askedS ps s=none->PQOut w rs ps s limit w' (.returned (.tuple #[.slice none 0 0,.int .i64 6]))
 | fh {A:PAtm} {S:B8->Nat} {m:Nat}:cB limit=true->askedS ps s=some A->ValidN (rs.map (·.R)) S->LowN (rs.map (·.R)) S->IsCount ps S m->PStrat rs S limit.toNat m 0 [] none->PQOut w rs ps s limit w' (.returned (.tuple #[.slice none 0 0,.int .i64 7]))
 | yes {A:PAtm} {S:B8->Nat} {m:Nat} {K:List (Th × Nat)} {zs:List B8} {a:O8} {c:Nat}:cB limit=true->askedS ps s=some A->ValidN (rs.map (·.R)) S->LowN (rs.map (·.R)) S->IsCount ps S m->PStrat rs S limit.toNat m 0 [] (some K)->(K.map (·.1)).Nodup->zs.Perm ((K.filter (hitB A)).map λ p=>thText p.1)->w'.ownsRow w.heap.size 9 1 (.slice a zs.length c) zs.length ((sortT zs).map encStr)->PQOut w rs ps s limit w' (.returned (.tuple #[.slice a zs.length c,.int .i64 0]))
theorem limit_of {l:Int}(h:cB l=true):1<=l/\l<=50:=by unfold cB at h;simpa using h
theorem bQ.iZ {w w':W8}{n base:Nat}{rv:Value}{rs:List PR}(h:bQ w base rv rs)(k:Below n w w')(hn:w.heap.size<=n):bQ w' base rv rs:=
 h.da (B:=[]) ⟨k.os,k.tape,k.output,k.size,λ i hi _=>k.block i (by omega)⟩ (by simp)
theorem pquery_any (w:W8)(base b:Nat)(rs:List PR)(ps:P9)(s:B8)(limit:Int)(TI:Th->Prop)(hs:s.size<=2000000)(h:ProgIn w base b rs)(iH:rs.length<=30)(cQ:∀ r∈rs,r.bs.length<=3)(eR:∀ r∈rs,r.R.pd.size<=800)(j9:∀ r∈rs,∀ x∈r.bs,x.1.pd.size<=800)(kn:AgreeL ((rs.map (·.R)).flatMap bg) [])(gQ:meetL ((rs.map (·.R)).flatMap bg) []=ps)(dQ:ps.length<=1000)(ak:∀ r∈rs,(∃ n,numOf ps r.R.pd=some n)/\∀ x∈r.bs,∃ n,numOf ps x.1.pd=some n)(f0:B8->Nat)(jN:ValidN (rs.map (·.R)) f0)(je:∀ k,f0 k<=1000)(o7:dE rs TI)(E2:∀ t,TI t->(atomT t.1 (thTerms t)).length<=1000000000):
  Calls Tryz.prog 20 #[.pointer (some ⟨b,0,none⟩),.string s,.int .i64 limit] w λ e w'=>PQOut w rs ps s limit w' e/\Below w.heap.size w w':=by
 obtain⟨a,c,hb,jL,hr⟩:=h;have jb:b<w.heap.size:=(Array.getElem?_eq_some_iff.1 hb).1;obtain⟨x0,_⟩:=block_cells hb 0;have HR:=hide hr;have HB:=hide hb;have qc:=hide o7;have H3:=hide E2;have rR:=hide (of_any w base a c rs ps hr iH cQ eR j9 kn gQ dQ ak f0 jN je);have qD:=hide (show ∀ r∈rs,r.R.pd.size<=800/\(numOf ps r.R.pd).isSome=true from λ r hr=>⟨eR r hr,by obtain⟨n,e⟩:=(ak r hr).1;rw[e];rfl⟩);have wF:=hide jN;have tu:=hide je;clear hr cQ eR j9 kn gQ dQ ak jN je o7 E2;go_enter Tryz.func20,Tryz.ntmps20;go_wp2_with fail;refine (maybe_any w limit).mono ?_;rintro e w1 ⟨rfl,hw⟩;have hw:=hw.symm;subst hw
 cases hL:cB limit with
 | false=>
  have HL:=hide hL;clear hL;go_wp2_with fail
  go_ret2
  exact⟨.arg (ad HL),Below.refl _ _⟩
 | true=>
  obtain⟨l1,Kj⟩:=limit_of hL;obtain⟨lim,rfl⟩:∃ n:Nat,limit=n:=⟨limit.toNat,by omega⟩;have HL:=hide hL;clear hL;go_wp2_with fail;refine (plist_any _ b _ a rs.length c rfl x0).mono ?_;rintro e w2 ⟨rfl,hw⟩;have hw:=hw.symm;subst hw;go_wp2_with fail;refine (ad rR).mono ?_;clear rR;rintro e w2 ⟨rfl,cd,aY,S,n,hm,hn,fN,aZ⟩;have HS:=hide (show ∀ k,(numOf ps k).isSome=true->S k<=1000000 from λ k _=>by have:=aZ f0 (ad wF) k;have:=ad tu k;omega);have HV:=hide fN;have iK:=hide aZ;have HM:=hide hm;have eA:=hide aY;clear fN aZ hm aY x0;go_wp2_with fail;refine (readasked_any w2 s _ n ps S (ad HM) hs).mono ?_;rintro e w3 ⟨cQ,hp⟩;have pX:=cQ.size;have iC:=(ad eA).trans (cQ.mono (by omega));have mi:=(iC.block b jb).trans (ad HB);have ew:=(ad HM).block (cQ.block _ cd);have iG:=(ad HR).iZ iC L9
  cases hP:askedS ps s with
  | none=>
   rw[hP] at hp;subst hp;have HP:=hide hP;have il:=hide (iC.alloc (by omega) (.cells #[.string { data:=#[] },.slice none 0 0] 79));clear hP iC mi ew iG cQ;go_wp2_with fail
   go_ret2
   exact⟨.ask (ad HL) (ad HP),ad il⟩
  | some A=>
   rw[hP] at hp;obtain⟨aa,ac,rfl,aF⟩:=hp;have bP:=iC.alloc (by omega) (.cells #[.string A.p,.slice aa A.ts.length ac] 79);have kc:=(Below.heap_alloc w3 (.cells #[.string A.p,.slice aa A.ts.length ac] 79) b (by omega)).trans mi;have ju:=ew.block (Below.heap_alloc w3 (.cells #[.string A.p,.slice aa A.ts.length ac] 79) w.heap.size (by omega));have fg:=iG.below (B9.alloc L9 (.cells #[.string A.p,.slice aa A.ts.length ac] 79));have sL:=aF.alloc (.cells #[.string A.p,.slice aa A.ts.length ac] 79);have oX:=heap_alloc_new w3 (.cells #[.string A.p,.slice aa A.ts.length ac] 79);obtain⟨JM,h4⟩:A.p.size<=s.size/\A.ts.length<=4:=by
    unfold askedS at hP
    split at hP
    ·cases hP
    ·rename_i A' hA
     split at hP
     ·cases hP;exact pask_size hA
     ·cases hP
   have ly:(w3.alloc (.cells #[.string A.p,.slice aa A.ts.length ac] 79)).heap.size=w3.heap.size+1:=(by simp);have HP:=hide hP;have eC:=hide bP;have qC:=hide kc;have zN:=hide ju;have oe:=hide fg;have wY:=hide sL;have AO:=hide oX;have BD:=hide ly;clear hP iC mi ew iG cQ bP kc ju fg sL oX aF ly;go_wp2_with fail;generalize (w3.alloc (.cells #[.string A.p,.slice aa A.ts.length ac] 79))=w4 at *;obtain⟨x0,_⟩:=block_cells (ad qC) 0;refine (plist_any _ b _ a rs.length c rfl x0).mono ?_;rintro e w5 ⟨rfl,hw⟩;have hw:=hw.symm;subst hw;clear x0;go_wp2_with fail;have ly:=ad BD;refine (foll_any w4 base a c rs w.heap.size n ps S lim TI (ad oe) (by omega) (ad zN) (ad HS) (by omega) (ad qD) (ad qc) (by omega)).mono ?_;rintro e w5 ⟨m,r,lf,iu,eO,cC,eJ⟩;have gx:=(ad eC).trans (eO.mono (by omega));have jz:=(eO.block w3.heap.size (by omega)).trans (ad AO);have pM:=own_below (ad wY) eO (λ g e=>((ad wY).lt g e).2)
   cases r with
   | none=>
    have he:=cC rfl;subst he;have iP:=hide gx;have HX:=hide (And.intro lf iu);clear cC eJ lf iu gx jz pM eO ly;go_wp2_with fail
    go_ret2
    exact⟨.fh (ad HL) (ad HP) (ad HV) (ad iK) (ad HX).1 (ad HX).2,ad iP⟩
   | some K=>
    obtain⟨kb,rfl,vJ,cA,BT,xM⟩:=eJ K rfl;have u3:=eO.size;obtain⟨y0,_⟩:=block_cells jz 0;obtain⟨y1,_⟩:=block_cells jz 1;have iP:=hide gx;have HX:=hide (And.intro lf iu);have kJ:=hide cA;have Bn:=hide pM;have wN:=hide xM;clear cC eJ lf iu gx jz pM eO cA xM ly;go_wp2_with fail;refine (matching_any w5 kb w2.heap.size A aa ac K (ad kJ) (ad Bn) h4 (by omega) (λ p hp=>ad H3 _ (ad wN p hp))).mono ?_;rintro e w6 ⟨zs,az,cz,rfl,dA,sM,eE⟩;have HZ:=hide (PQOut.yes (limit:=(lim:Int)) (ad HL) (ad HP) (ad HV) (ad iK) (ad HX).1 (ad HX).2 (ad kJ).nodup dA (ax (base':=w.heap.size) sM (ad iP).size));have nY:=hide ((ad iP).trans (eE.mono (ad iP).size));clear dA sM eE;go_wp2_with fail
    go_ret2
    exact⟨ad HZ,ad nY⟩
end
section
theorem num_meetL:∀ (L ps:P9),AgreeL L ps->(∀ k n,numOf ps k=some n->numOf (meetL L ps) k=some n)/\∀ x∈L,numOf (meetL L ps) x.1=some x.2
 | [],ps,_=>⟨λ _ _ h=>h,by simp⟩
 | x::r,ps,h=>by
  obtain⟨h1,h2⟩:=h;obtain⟨i1,i2⟩:=num_meetL r (meetP ps x.1 x.2) h2;rw[meetL];have hx:numOf (meetP ps x.1 x.2) x.1=some x.2:=by rw[numOf_meet h1,if_pos rfl]
  refine⟨λ k n hk=>i1 k n ?_,λ y hy=>?_⟩
  ·rw[numOf_meet h1]
   by_cases e:k=x.1
   ·rw[if_pos e];rw[meetB_num] at h1;rw[e] at hk;rw[hk] at h1;have h3:n=x.2:=(by simpa using h1);rw[h3]
   ·rw[if_neg e];exact hk
  ·rcases List.mem_cons.1 hy with rfl | hy
   ·exact i1 _ _ hx
   ·exact i2 y hy
theorem said_of {body:List RAtom}:∀ (ts:List RTerm),looseI body ts<0->∀ t∈ts,t.isVar=true->saidB t.text body=true
 | [],_,t,ht,_=>by cases ht
 | u::r,h,t,ht,hv=>by
  rw[looseI] at h
  split at h
  ·omega
  ·rename_i c;rcases List.mem_cons.1 ht with rfl | ht
   ·simp only[hv,Bool.true_and,Bool.not_eq_true',Bool.not_eq_false] at c;exact c
   ·exact said_of r h t ht hv
theorem loose_body {body:List RAtom}:∀ (l:List RAtom),looseBody body l<0->∀ A∈l,A.no=true->looseI body A.aW<0
 | [],_,A,hA,_=>by cases hA
 | B::r,h,A,hA,hn=>by
  rw[looseBody] at h
  by_cases c:0<=(if B.no then looseI body B.aW else -1)
  ·rw[if_pos c] at h
   by_cases hb:B.no=true
   ·rw[if_pos hb] at c;omega
   ·rw[if_neg hb] at c;omega
  ·rw[if_neg c] at h;rcases List.mem_cons.1 hA with rfl | hA
   ·rw[if_pos hn] at c;omega
   ·exact loose_body r h A hA hn
theorem unsafe_rule:∀ (rs:List RRule),unsafeI rs<0->∀ R∈rs,looseI R.body R.head.aW<0/\looseBody R.body R.body<0
 | [],_,R,hR=>by cases hR
 | Q::r,h,R,hR=>by
  rw[unsafeI] at h
  split at h
  ·omega
  ·rename_i c;rcases List.mem_cons.1 hR with rfl | hR
   ·unfold looseRule at c
    split at c
    ·omega
    ·constructor <;> omega
   ·exact unsafe_rule r h R hR
theorem said_mem {body:List RAtom}{v:B8}(h:saidB v body=true):∃ a∈posB body,((true,v):PTerm)∈a.ts:=by
 unfold saidB at h;obtain⟨A,hA,h⟩:=List.any_eq_true.1 h;unfold saidA at h;simp only[Bool.and_eq_true,List.any_eq_true] at h;obtain⟨hn,u,hu,hx⟩:=h;unfold kf at hx;simp only[Bool.and_eq_true] at hx;have e:u.text=v:=aN.1 hx.2;refine⟨pa A,List.mem_map.2 ⟨A,List.mem_filter.2 ⟨hA,hn⟩,rfl⟩,List.mem_map.2 ⟨u,hu,?_⟩⟩;unfold dH;rw[hx.1,e]
variable {s:B8}
theorem safe_of (h:(refLoad s).1=true):unsafeI (parsed s).1<0:=by
 unfold refLoad at h
 by_cases c0:800<s.size
 ·rw[if_pos c0] at h;cases h
 rw[if_neg c0] at h
 by_cases c1:0<=(parsed s).2.2
 ·rw[if_pos c1] at h;cases h
 rw[if_neg c1] at h
 by_cases c2:0<=(aq s).1
 ·rw[if_pos c2] at h;cases h
 rw[if_neg c2] at h
 by_cases c3:0<=unsafeI (parsed s).1
 ·rw[if_pos c3] at h;cases h
 omega
theorem rules_rel (h:(refLoad s).1=true){rp:List PR}(jD:rp.map (·.R)=(pparsed s).2.2.1)(cK:∀ r∈rp,r.bs.map (·.1)=r.R.body):RulesRel (aq s).2 (parsed s).1 rp:=by
 have g:=good_of h;have FP:=g.rules;have sN:=unsafe_rule _ (safe_of h);have jf:∀ x∈(pparsed s).2.2.1.flatMap bg,numOf (aq s).2 x.1=some x.2:=by
  have:=(num_meetL _ _ g.agree).2;rw[g.met] at this;exact this
 have ye:∀ r∈rp,∃ R∈(parsed s).1,dO R r:=λ r hr=>by
  have:r.R∈(parsed s).1.map pruleOf:=by rw[<-FP,<-jD];exact List.mem_map.2 ⟨r,hr,rfl⟩
  obtain⟨R,hR,e⟩:=List.mem_map.1 this;exact⟨R,hR,e.symm,cK r hr⟩
 refine⟨λ R hR=>?_,ye,λ r hr=>?_⟩
 ·have:pruleOf R∈rp.map (·.R):=by rw[jD,FP];exact List.mem_map.2 ⟨R,hR,rfl⟩
  obtain⟨r,hr,e⟩:=List.mem_map.1 this;exact⟨r,hr,e,cK r hr⟩
 ·obtain⟨R,hR,hrel⟩:=ye r hr;have ak:r.R∈(pparsed s).2.2.1:=by rw[<-jD];exact List.mem_map.2 ⟨r,hr,rfl⟩
  have hw:=pparsed_word s r.R ak;have hb:=g.body r.R ak;have nG:∀ x∈r.bs,x.1∈r.R.body:=λ x hx=>by rw[<-cK r hr];exact List.mem_map.2 ⟨x,hx,rfl⟩
  refine⟨?_,⟨hw.1,jf (r.R.pd,r.R.ts.length) (List.mem_flatMap.2 ⟨r.R,ak,by simp[bg]⟩)⟩,λ x hx=>⟨hw.2 _ (nG x hx),jf (x.1.pd,x.1.ts.length) (List.mem_flatMap.2 ⟨r.R,ak,?_⟩)⟩,λ t ht hv=>?_,λ x hx t ht hv=>?_⟩
  ·rw[<-cK r hr,List.length_map] at hb;exact hb
  ·simp only[bg,List.mem_cons,List.mem_map];exact .inr ⟨x.1,nG x hx,rfl⟩
  ·rw[hrel.hd] at ht;obtain⟨u,hu,rfl⟩:=List.mem_map.1 ht;have uR:u.isVar=true:=hv;have:=said_mem (said_of _ (sN R hR).1 u hu uR);rw[hrel.pos];unfold dH;rw[uR];exact this
  ·rw[hrel.neg] at hx;obtain⟨A,hA,rfl⟩:=List.mem_map.1 hx;obtain⟨hA,hn⟩:=List.mem_filter.1 hA;obtain⟨u,hu,rfl⟩:=List.mem_map.1 ht;have uR:u.isVar=true:=hv;have:=said_mem (said_of _ (loose_body _ (sN R hR).2 A hA hn) u hu uR);rw[hrel.pos];unfold dH;rw[uR];exact this
theorem pask_eq (q:B8):paskS q=if askEnd q then some (pa (askAtom q)) else none:=by
 have h:=atom_eq q 0 (-1) (by decide) (Nat.zero_le _);unfold paskS askEnd
 cases hP:patomS q 0 with
 | no r=>
  rw[hP] at h;have h':(atomRest q 0 (-1)).2.2=((ae q r).2.1:Int):=h;rw[h',if_neg];simp;intro h;omega
 | yes p pd ts pl=>
  rw[hP] at h;obtain⟨h1,h2,h3,_,h5⟩:=h;rw[h1];have K:=kinds q p h5;have e:(⟨pd,ts⟩:PAtm)=pa (askAtom q):=by rw[h2,h3];rfl
  simp only
  by_cases c:(tok q p).kind=46
  ·rw[if_pos (K.k0.2 c),if_pos (by simp[c]),e]
  ·rw[if_neg (λ h=>c (K.k0.1 h)),if_neg (by simp[c])]
theorem pask_word {q:B8}{A:PAtm}(h:paskS q=some A):AtomW A.p A.ts:=by
 unfold paskS at h
 split at h
 ·cases h
 ·rename_i p pd ts pl hp
  split at h
  ·cases h;exact dX hp
  ·cases h
theorem suits_meet (ps:P9)(A:PAtm):suitsB ps A=meetB ps A.p A.ts.length:=by
 unfold suitsB
 cases hn:numOf ps A.p with
 | none=>exact (by rw[meetB_num,hn]:meetB ps A.p A.ts.length=true) ▸ rfl
 | some m=>
  by_cases e:m=A.ts.length
  ·have:meetB ps A.p A.ts.length=true:=by rw[meetB_num,hn,e];simp
   rw[this];simp[e]
  ·have:¬ meetB ps A.p A.ts.length=true:=by rw[meetB_num,hn];simpa using e
   simp[e,this]
theorem asked_eq (ps:P9)(q:B8):askedS ps q=if askOk ps q then some (pa (askAtom q)) else none:=by
 unfold askedS askOk;rw[pask_eq]
 by_cases c:askEnd q=true
 ·rw[if_pos c,c];simp only[Bool.true_and];rw[suits_meet];have:(pa (askAtom q)).ts.length=(atomRest q 0 (-1)).1.length:=by simp[pa,askAtom]
  rw[this];rfl
 ·rw[if_neg c];have:askEnd q=false:=by simpa using c
  rw[this];simp
end
section
def lexB:List Nat->List Nat->Bool
 | [],[]=>false
 | [],_::_=>true
 | _::_,[]=>false
 | a::x,b::y=>if a<b then true else if b<a then false else lexB x y
theorem gO:∀ x:List Nat,lexB x x=false
 | []=>rfl
 | a::x=>by rw[lexB,if_neg (Nat.lt_irrefl a),if_neg (Nat.lt_irrefl a)];exact gO x
theorem lexB_trans:∀ {x y z:List Nat},lexB x y=true->lexB y z=true->lexB x z=true
 | [],[],_,h,_=>by cases h
 | [],_::_,[],_,h=>by cases h
 | [],_::_,_::_,_,_=>rfl
 | _::_,[],_,h,_=>by cases h
 | _::_,_::_,[],_,h=>by cases h
 | a::x,b::y,c::z,h,k=>by
  rw[lexB] at h k ⊢
  by_cases h1:a<b
  ·by_cases h2:b<c
   ·rw[if_pos (by omega)]
   ·rw[if_neg h2] at k
    by_cases h3:c<b
    ·rw[if_pos h3] at k;cases k
    ·rw[if_pos (by omega)]
  ·rw[if_neg h1] at h
   by_cases h4:b<a
   ·rw[if_pos h4] at h;cases h
   ·rw[if_neg h4] at h;have:a=b:=by omega
    subst this
    by_cases h2:a<c
    ·rw[if_pos h2]
    ·rw[if_neg h2] at k ⊢
     by_cases h3:c<a
     ·rw[if_pos h3] at k;cases k
     ·rw[if_neg h3] at k ⊢;exact lexB_trans h k
theorem lexB_eq:∀ {x y:List Nat},lexB x y=false->lexB y x=false->x=y
 | [],[],_,_=>rfl
 | [],_::_,h,_=>by cases h
 | _::_,[],_,h=>by cases h
 | a::x,b::y,h,k=>by
  rw[lexB] at h k
  by_cases h1:a<b
  ·rw[if_pos h1] at h;cases h
  ·by_cases h2:b<a
   ·rw[if_pos h2] at k;cases k
   ·rw[if_neg h1,if_neg h2] at h;rw[if_neg h2,if_neg h1] at k;rw[lexB_eq h k,show a=b by omega]
def cmpN (x y:Nat):Int:=if x<y then -1 else if y<x then 1 else 0
def lexC:List Nat->List Nat->Int
 | [],[]=>0
 | [],_::_=>-1
 | _::_,[]=>1
 | a::x,b::y=>if cmpN a b=0 then lexC x y else cmpN a b
theorem lexC_neg:∀ x y:List Nat,lexC x y<0↔lexB x y=true
 | [],[]=>by simp[lexC,lexB]
 | [],_::_=>by simp[lexC,lexB]
 | _::_,[]=>by simp[lexC,lexB]
 | a::x,b::y=>by
  have ih:=lexC_neg x y;rw[lexC,lexB];unfold cmpN
  by_cases h1:a<b
  ·simp[h1]
  ·by_cases h2:b<a
   ·simp[h1,h2]
   ·simp only[if_neg h1,if_neg h2,if_true];exact ih
end
section
def SameKeys (K N:List (Th × Nat)):Prop:=∀ t,(∃ n,(t,n)∈K)↔∃ n,(t,n)∈N
theorem isSome_look (K:List (Th × Nat))(t:Th):(ay K t).isSome=true↔∃ n,(t,n)∈K:=by
 constructor
 ·intro h;obtain⟨n,hn⟩:=Option.isSome_iff_exists.1 h;exact⟨n,bq hn⟩
 ·rintro⟨n,hn⟩
  cases h:ay K t with
  | some _=>rfl
  | none=>exact absurd hn (lookN_none h n)
variable {K N:List (Th × Nat)}
theorem SameKeys.look (h:SameKeys K N)(t:Th):(ay K t).isSome=(ay N t).isSome:=by
 rw[Bool.eq_iff_iff,isSome_look,isSome_look];exact h t
theorem SameKeys.jl {K N:List (Th × Nat)}(h:SameKeys K N):∀ (pos:List PAtm) (e x:aB),x∈pmatches K pos e->x∈pmatches N pos e
 | [],e,x,hx=>hx
 | a::r,e,x,hx=>by
  rw[pmatches] at hx ⊢;obtain⟨p,hp,hx⟩:=List.mem_flatMap.1 hx;obtain⟨n,hn⟩:=(h p.1).1 ⟨p.2,hp⟩;refine List.mem_flatMap.2 ⟨_,hn,?_⟩
  cases hm:aH e a p.1 with
  | none=>rw[hm] at hx;cases hx
  | some e1=>rw[hm] at hx;exact h.jl r e1 x hx
theorem SameKeys.symm (h:SameKeys K N):SameKeys N K:=λ t=>(h t).symm
theorem SameKeys.ways (h:SameKeys K N)(neg pos:List PAtm)(e x:aB):x∈pways K neg pos e↔x∈pways N neg pos e:=by
 have hd:deniedB K neg x=deniedB N neg x:=by
  unfold deniedB;have:(λ a:PAtm=>(ay K (aC x a)).isSome)=λ a=>(ay N (aC x a)).isSome:=funext λ a=>h.look _
  rw[this]
 unfold pways;rw[List.mem_filter,List.mem_filter,hd];exact and_congr_left λ _=>⟨h.jl pos e x,h.symm.jl pos e x⟩
end
section
structure gD (N:List (Th × Nat))(rp:List PR)(t:Th)(i:Nat)(row:List Nat):Prop where
 low:∀ j (h:j<rp.length),j<i->rowsTo N rp[j] t=[]
 lt:i<rp.length
 mem:row∈rowsTo N rp[i] t
 least:∀ va∈rowsTo N rp[i] t,lexB va row=false
theorem gD.uniq {N:List (Th × Nat)}{rp:List PR}{t:Th}{i j:Nat}{x y:List Nat}(h:gD N rp t i x)(k:gD N rp t j y):i=j/\x=y:=by
 have e:i=j:=by
  rcases Nat.lt_trichotomy i j with h1 | h1 | h1
  ·have:=h.mem;rw[k.low i h.lt h1] at this;cases this
  ·exact h1
  ·have:=k.mem;rw[h.low j k.lt h1] at this;cases this
 subst e;exact⟨rfl,lexB_eq (k.least _ h.mem) (h.least _ k.mem)⟩
end
end Go.Proofs.YtldkpahaocjdpaaGreat
