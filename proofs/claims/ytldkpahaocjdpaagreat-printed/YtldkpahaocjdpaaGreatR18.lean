/-
  The program's cycle and Fault.
-/
import Derived.Test.YtldkpahaocjdpaaGreatR17
set_option maxHeartbeats 16000000
set_option maxRecDepth 1000000
namespace Go.Proofs.YtldkpahaocjdpaaGreat
section
open Go.RowKit Go.Maps
def headAt (rs:List PRule)(n:Nat):B8:=match rs[n]? with | some R=>R.pd | none=>{ data:=#[] }
noncomputable def cycM (rs:List PRule)(M:PMen):Bool:=M.neg&&(M.pd.toList==(headAt rs M.num).toList||hangsP (edgesP rs) M.pd (headAt rs M.num))
noncomputable def cycleP (rs:List PRule):List PMen->Int
 | []=>-1
 | M::r=>if cycM rs M then (M.start:Int) else cycleP rs r
variable {rs:List PRule}
theorem cycleP_step {ms:List (PMen × Value)}{k:Nat}(h:k<ms.length):cycleP rs ((ms.map (·.1)).drop k)=if cycM rs ms[k].1 then (ms[k].1.start:Int) else cycleP rs ((ms.map (·.1)).drop (k+1)):=by
 rw[List.drop_eq_getElem_cons (by simpa using h),cycleP];simp
theorem edges_size (h:∀ R∈rs,∀ l∈R.body,l.pd.size<=800):∀ e∈edgesP rs,e.2.size<=800:=by
 intro e he;obtain⟨R,hR,he⟩:=List.mem_flatMap.1 he;obtain⟨l,hl,rfl⟩:=List.mem_map.1 he;exact h R hR l hl
theorem edges_len (h:∀ R∈rs,R.body.length<=3):(edgesP rs).length<=3*rs.length:=by
 induction rs with
 | nil=>simp[edgesP]
 | cons R r ih=>
  have h1:=ih (λ x hx=>h x (List.mem_cons_of_mem _ hx));have h2:=h R List.mem_cons_self;have e:edgesP (R::r)=edgesB R.pd R.body++edgesP r:=by simp[edgesP]
  rw[e,List.length_append,List.length_cons];simp only[edgesB,List.length_map];omega
structure Few (rs:List PR)(ms:List (PMen × Value)):Prop where
 r30:rs.length<=30
 zF:ms.length<=1000
 b3:∀ r∈rs,r.bs.length<=3
 rpd:∀ r∈rs,r.R.pd.size<=800
 vW:∀ R∈rs.map (·.R),∀ l∈R.body,l.pd.size<=800
 KD:∀ x∈ms,x.1.pd.size<=800
 KF:∀ x∈ms,x.1.num<rs.length/\x.1.ts.length<=4
theorem cycle_p_any (w:W8)(base:Nat)(ar:O8)(cr:Nat)(rs:List PR)(am:O8)(cm:Nat)(ms:List (PMen × Value))(h:bR w base (.slice ar rs.length cr) rs)(h':bL w base (.slice am ms.length cm) ms)(hf:Few rs ms):
  Calls Tryz.prog 77 #[.agg #[.slice ar rs.length cr,.slice am ms.length cm]] w λ e w'=>e=found (cycleP (rs.map (·.R)) (ms.map (·.1)))/\Below w.heap.size w w':=by
 obtain⟨rh,yP,cE,Dj,CU,C6,C8⟩:=hf;have IS:=edges_size CU;have IT:(edgesP (rs.map (·.R))).length<=1000:=by
  have:=edges_len (rs:=rs.map (·.R)) (λ R hR=>by
   obtain⟨r,hr,rfl⟩:=List.mem_map.1 hR;have h1:=cE r hr;have h2:=(h.each r hr).eq
   rw[<-h2];simpa using h1)
  simp at this;omega
 have h0:=dU.start h h';have Dk:=own_max h.row;unfold maxLen at Dk;have Fb:=h0.rules;obtain⟨x1,ov⟩:=block_cells h0.box 1;clear h h';go_enter Tryz.func77,Tryz.ntmps77;go_wp2_with fail;refine (links_any _ base ar cr rs Fb Dj cE rh).mono ?_;rintro e w1 ⟨rfl,aT,ir,V,aN⟩;have h1:=h0.next aT;obtain⟨y1,DY⟩:=block_cells h1.box 1;rw[World.size_alloc] at aN ir ⊢;clear h0 Fb x1 ov aT;go_wp2_with fail
 go_loopg [15] ms.length (λ gg i wr=>∃ k:Nat,k<=ms.length/\gg=ms.length-k/\i=.int .i64 k/\dU w base (.slice ar rs.length cr) (.slice am ms.length cm) rs ms wr/\Lk (w.heap.size+1) (edgesP (rs.map (·.R))).length (edgesP (rs.map (·.R))) V wr/\cycleP (rs.map (·.R)) (ms.map (·.1))=cycleP (rs.map (·.R)) ((ms.map (·.1)).drop k))
 exact⟨0,Nat.zero_le _,rfl,rfl,h1,aN,rfl⟩
 case round=>
  clear h1 aN y1 DY ir;obtain⟨k,hk,fM,rfl,hinv,aN,bj⟩:=hrel;have HF:=hide bj;clear bj
  by_cases hlkk:k<ms.length
  ·have bK:=hide ((ad HF).trans (cycleP_step hlkk));obtain⟨g,cap,hv,iC,dp,dG,dx,hc⟩:=row_at men_len hinv.eh.row k hlkk;injection hv with h1 h2 h3
   subst h1 h3;obtain⟨cy,fJ,gU⟩:=own_slice (hinv.eh.each _ (List.getElem_mem hlkk));have q0:=hc 0 (by omega);have q1:=hc 1 (by omega);have q2:=hc 2 (by omega);have q3:=hc 3 (by omega);have q4:=hc 4 (by omega);have q5:=hc 5 (by omega);have q6:=hc 6 (by omega);have q7:=hc 7 (by omega);have q8:=hc 8 (by omega);have q9:=hc 9 (by omega);simp only[PMen.cells,gU,Nat.add_zero,List.getElem?_cons_zero,List.getElem?_cons_succ] at q0 q1 q2 q3 q4 q5 q6 q7 q8 q9;obtain⟨je,jh⟩:=C8 _ (List.getElem_mem hlkk);obtain⟨gr,oJ,nM,oS,o5,pn,oY,fL⟩:=row_at pr_len hinv.rules.row ms[k].1.num je;injection nM with h4 h5 h6
   subst h4 h6;have r0:=fL 0 (by omega);simp only[PR.cells,Nat.add_zero,List.getElem?_cons_zero] at r0;obtain⟨x0,ou⟩:=block_cells hinv.box 0;have bA:=(Below.refl wr.heap.size wr).alloc L9 (.cells #[.int .i64 ms[k].1.num,.bool ms[k].1.neg,.string ms[k].1.pd,.slice cy ms[k].1.ts.length fJ,.int .i64 ms[k].1.start,.int .i64 ms[k].1.place,.int .i64 (ms[k].1.pl 0),.int .i64 (ms[k].1.pl 1),.int .i64 (ms[k].1.pl 2),.int .i64 (ms[k].1.pl 3)] 221);have hI:=hinv.next bA;have hL:=aN.below bA;have nC:headAt (rs.map (·.R)) ms[k].1.num=rs[ms[k].1.num].R.pd:=by
    unfold headAt;rw[List.getElem?_map,List.getElem?_eq_getElem je];rfl
   have mJ:=C6 _ (List.getElem_mem hlkk);have hsz:=hinv.sz;have HI:=hide hI;clear hc fL HF hinv aN hI gU bA;have yv:cycM (rs.map (·.R)) ms[k].1=(ms[k].1.neg&&(ms[k].1.pd.toList==rs[ms[k].1.num].R.pd.toList||hangsP (edgesP (rs.map (·.R))) ms[k].1.pd rs[ms[k].1.num].R.pd)):=(by unfold cycM;rw[nC]);rw[yv] at bK;clear nC yv
   cases eH:ms[k].1.neg with
   | false=>
    rw[eH] at bK q1 HI;have dE:=hide (show cycleP (rs.map (·.R)) (ms.map (·.1))=cycleP (rs.map (·.R)) ((ms.map (·.1)).drop (k+1)) from ad bK);rw[eH] at hL;have HL:=hide hL;clear bK eH hL;go_wp2_with fail;go_roundg (ms.length-(k+1));exact⟨k+1,by omega,rfl,by go_num,ad HI,ad HL,ad dE⟩;omega
   | true=>
    rw[eH] at bK q1 HI hL;have HN:=hide eH;clear eH
    cases heq:ms[k].1.pd.toList==rs[ms[k].1.num].R.pd.toList with
    | true=>
     rw[heq] at bK;have dE:=hide (show cycleP (rs.map (·.R)) (ms.map (·.1))=(ms[k].1.start:Int) from ad bK);clear bK hL;go_wp2_with fail
     go_ret2
     refine⟨?_,(ad HI).below⟩;rw[ad dE];unfold found;rw[if_pos (by omega)];simp
    | false=>
     rw[heq] at bK;go_wp2_with fail;refine (hangs_p_any _ (w.heap.size+1) _ (edgesP (rs.map (·.R))) V ms[k].1.pd rs[ms[k].1.num].R.pd hL IT IS mJ).mono ?_;rintro e w2 ⟨rfl,aU⟩;have bZ:=aU.size;rw[World.size_alloc] at bZ;have jB:(wr.alloc (.cells #[.int .i64 ms[k].1.num,.bool true,.string ms[k].1.pd,.slice cy ms[k].1.ts.length fJ,.int .i64 ms[k].1.start,.int .i64 ms[k].1.place,.int .i64 (ms[k].1.pl 0),.int .i64 (ms[k].1.pl 1),.int .i64 (ms[k].1.pl 2),.int .i64 (ms[k].1.pl 3)] 221)).heap[wr.heap.size]?=_:=heap_alloc_new wr _;have kY:=(aU.block wr.heap.size (by simp)).trans jB;obtain⟨z4,KK⟩:=block_cells kY 4;have fG:=hide ((ad HI).next aU);have p7:=hide (hL.below aU);clear q0 q1 q2 q3 q4 q5 q6 q7 q8 q9 r0 x0 ou hL HI jB kY
     cases hh:hangsP (edgesP (rs.map (·.R))) ms[k].1.pd rs[ms[k].1.num].R.pd with
     | true=>
      rw[hh] at bK;have dE:=hide (show cycleP (rs.map (·.R)) (ms.map (·.1))=(ms[k].1.start:Int) from ad bK);clear bK hh;go_wp2_with fail
      go_ret2
      refine⟨?_,(ad fG).below⟩;rw[ad dE];unfold found;rw[if_pos (by omega)];simp
     | false=>
      rw[hh] at bK;have dE:=hide (show cycleP (rs.map (·.R)) (ms.map (·.1))=cycleP (rs.map (·.R)) ((ms.map (·.1)).drop (k+1)) from ad bK);clear bK hh z4 KK;go_wp2_with fail;go_roundg (ms.length-(k+1));exact⟨k+1,by omega,rfl,by go_num,ad fG,ad p7,ad dE⟩;omega
  ·have bK:=hide (show cycleP (rs.map (·.R)) (ms.map (·.1))=-1 by rw[ad HF,List.drop_of_length_le (by simp;omega)];rfl);have HI:=hide hinv;clear HF hinv aN;go_wp2_with fail
   go_ret2
   exact⟨by rw[ad bK];rfl,(ad HI).below⟩
end
section
theorem pterms_len (s:B8)(f:Nat):∀ {p:Nat} {l:List (Bool × B8)} {pl:Nat->Nat},(ptermsS s f p l pl).2.2.1.length<=l.length+f:=by
 induction f with
 | zero=>intro p l pl;simp[ptermsS]
 | succ f ih=>
  intro p l pl;rw[ptermsS]
  split
  ·split
   ·refine Nat.le_trans ih ?_;first | (simp;done) | (simp;omega)
   ·first | (simp;done) | (simp;omega)
  ·first | (simp;done) | (simp;omega)
theorem patom_ok {s:B8}{p q:Nat}{pd:B8}{ts:List (Bool × B8)}{pl:Nat->Nat}(h:patomS s p=.yes q pd ts pl):pd.size<=s.size/\ts.length<=4:=by
 unfold patomS at h
 by_cases c1:(ae s p).1=2
 ·rw[if_pos c1] at h
  by_cases c2:(ae s (ae s p).2.2).1=5
  ·rw[if_pos c2] at h
   by_cases c3:(ptermsS s 4 (ae s (ae s p).2.2).2.2 [] (λ _=>0)).1=true
   ·rw[if_pos c3] at h;injection h with h1 h2 h3 h4
    subst h2 h3;refine⟨ga s p,?_⟩;have:=pterms_len s 4 (p:=(ae s (ae s p).2.2).2.2) (l:=[]) (pl:=λ _=>0);simpa using this
   ·rw[if_neg c3] at h;cases h
  ·rw[if_neg c2] at h;injection h with h1 h2 h3 h4
   subst h2 h3;exact⟨ga s p,by simp⟩
 ·rw[if_neg c1] at h;cases h
def OkM (s:B8)(M:PMen):Prop:=M.pd.size<=s.size/\M.ts.length<=4
def OkL (s:B8)(L:PLit):Prop:=L.pd.size<=s.size
def OkR (s:B8)(R:PRule):Prop:=R.pd.size<=s.size/\R.body.length<=3/\∀ l∈R.body,OkL s l
theorem pbody_ok (s:B8)(num f:Nat):∀ {p:Nat} {l:List PLit} {ms:List PMen},(∀ x∈l,OkL s x)->(∀ M∈ms,OkM s M)->(pbodyS s num f p l ms).2.2.1.length<=l.length+f/\(∀ x∈(pbodyS s num f p l ms).2.2.1,OkL s x)/\(∀ M∈(pbodyS s num f p l ms).2.2.2,OkM s M):=by
 induction f with
 | zero=>intro p l ms hl hm;exact⟨by simp[pbodyS],hl,hm⟩
 | succ f ih=>
  intro p l ms hl hm;rw[pbodyS]
  cases hr:patomS s (rtake s p 4) with
  | no q=>exact⟨by simp,hl,hm⟩
  | yes q pd ts pl=>
   obtain⟨o1,o2⟩:=patom_ok hr;have mE:∀ x∈l++[cJ s p pd ts],OkL s x:=λ x hx=>by
    rcases List.mem_append.1 hx with hx | hx
    ·exact hl x hx
    ·simp at hx;subst hx;exact o1
   have lY:∀ M∈ms++[cK s num p pd ts pl],OkM s M:=λ x hx=>by
    rcases List.mem_append.1 hx with hx | hx
    ·exact hm x hx
    ·simp at hx;subst hx;exact⟨o1,o2⟩
   simp only
   split
   ·obtain⟨a,b,c⟩:=ih (p:=(ae s q).2.2) mE lY;refine⟨Nat.le_trans a ?_,b,c⟩
    first | (simp;done) | (simp;omega)
   ·exact⟨by first | (simp;done) | (simp;omega),mE,lY⟩
variable {ms:List PMen}
theorem prule_ok (s:B8)(num p:Nat)(hm:∀ M∈ms,OkM s M):OkR s (pruleS s num p ms).2.2.1/\∀ M∈(pruleS s num p ms).2.2.2,OkM s M:=by
 unfold pruleS
 cases hr:patomS s p with
 | no q=>exact⟨⟨Nat.zero_le _,by simp,by simp⟩,hm⟩
 | yes q pd ts pl=>
  obtain⟨o1,o2⟩:=patom_ok hr;have lY:∀ M∈ms++[dc s num p pd ts pl],OkM s M:=λ x hx=>by
   rcases List.mem_append.1 hx with hx | hx
   ·exact hm x hx
   ·simp at hx;subst hx;exact⟨o1,o2⟩
  simp only
  split
  ·exact⟨⟨o1,by simp,by simp⟩,lY⟩
  ·split
   ·obtain⟨a,b,c⟩:=pbody_ok s num 3 (p:=(ae s q).2.2) (l:=[]) (by simp) lY;exact⟨⟨o1,by simpa using a,b⟩,c⟩
   ·exact⟨⟨o1,by simp,by simp⟩,lY⟩
theorem prules_ok (s:B8)(f:Nat):∀ {p:Nat} {rs:List PRule} {ms:List PMen},(∀ R∈rs,OkR s R)->(∀ M∈ms,OkM s M)->(∀ R∈(prulesS s f p rs ms).2.2.1,OkR s R)/\(∀ M∈(prulesS s f p rs ms).2.2.2,OkM s M):=by
 induction f with
 | zero=>intro p rs ms hr hm;exact⟨hr,hm⟩
 | succ f ih=>
  intro p rs ms hr hm;obtain⟨o1,o2⟩:=prule_ok s rs.length p hm;rw[prulesS]
  split
  ·exact⟨hr,hm⟩
  ·split
   ·exact⟨hr,hm⟩
   ·split
    ·refine ih (λ R hR=>?_) o2;rcases List.mem_append.1 hR with hR | hR
     ·exact hr R hR
     ·simp at hR;subst hR;exact o1
    ·exact⟨hr,o2⟩
theorem text_num {n:Nat}{rs:List RRule}(h:bO n rs ms):∀ M∈ms,n<=M.num/\M.num<n+rs.length:=by
 induction h with
 | nil n=>simp
 | cons h t ih=>
  intro M hM;rcases List.mem_append.1 hM with hM | hM
  ·obtain⟨q,_,q2,q3⟩:=h;rw[<-q2] at hM;obtain⟨x,hx,rfl⟩:=List.mem_map.1 hM;have:=(q3 x hx).num;simp;omega
  ·have:=ih M hM;simp;omega
theorem pparsed_ok (s:B8)(hs:s.size<=800)(h:(pparsed s).1=true):(∀ R∈(pparsed s).2.2.1,R.pd.size<=800/\R.body.length<=3/\∀ l∈R.body,l.pd.size<=800)/\(∀ M∈(pparsed s).2.2.2,M.pd.size<=800/\M.ts.length<=4/\M.num<(pparsed s).2.2.1.length):=by
 obtain⟨o1,o2⟩:=prules_ok s 31 (p:=0) (rs:=[]) (ms:=[]) (by simp) (by simp);obtain⟨_,e2,e3⟩:=(parsed_eq s).1 h;refine⟨λ R hR=>?_,λ M hM=>?_⟩
 ·obtain⟨a,b,c⟩:=o1 R hR;exact⟨Nat.le_trans a hs,b,λ l hl=>Nat.le_trans (c l hl) hs⟩
 ·obtain⟨a,b⟩:=o2 M hM;have:=(text_num e3 M hM).2;rw[e2];exact⟨Nat.le_trans a hs,b,by simpa using this⟩
end
section
open Go.RowKit Go.Maps
noncomputable def faultP (rs:List PRule)(ms:List PMen):Int × Int:=
 if 0<=parity ms [] then (3,parity ms []) else if 0<=unboundI rs ms then (4,unboundI rs ms) else if 0<=cycleP rs ms then (5,cycleP rs ms) else (0,0)
theorem fault_any (w:W8)(base:Nat)(ar:O8)(cr:Nat)(rs:List PR)(am:O8)(cm:Nat)(ms:List (PMen × Value))(h:bR w base (.slice ar rs.length cr) rs)(h':bL w base (.slice am ms.length cm) ms)(hf:Few rs ms):
  Calls Tryz.prog 46 #[.agg #[.slice ar rs.length cr,.slice am ms.length cm]] w λ e w'=>e=.returned (.tuple #[.int .i64 (faultP (rs.map (·.R)) (ms.map (·.1))).1,.int .i64 (faultP (rs.map (·.R)) (ms.map (·.1))).2])/\Below w.heap.size w w':=by
 have h0:=dU.start h h';have hF:faultP (rs.map (·.R)) (ms.map (·.1))=_:=faultP.eq_1 (rs.map (·.R)) (ms.map (·.1));have HF:=hide hF;clear h h' hF;go_enter Tryz.func46,Tryz.ntmps46;go_wp2_with fail;refine (parity_any _ base ar rs.length cr am cm ms h0.eh hf.zF hf.KD).mono ?_;rintro e w1 ⟨he,aT⟩;have h1:=h0.next aT;obtain⟨x0,ou⟩:=block_cells h1.box 0;obtain⟨x1,ov⟩:=block_cells h1.box 1;have uQ:=h1.sz;clear h0 aT
 by_cases c1:0<=parity (ms.map (·.1)) []
 ·have fS:=hide ((ad HF).trans (if_pos c1));have iE:e=.returned (.tuple #[.int .i64 (parity (ms.map (·.1)) []),.bool true]):=by rw[he];unfold found;rw[if_pos c1];simp[c1]
  subst iE;have HB:=hide h1.below;clear HF he c1 h1;go_wp2_with fail
  go_ret2
  exact⟨by rw[ad fS];rfl,ad HB⟩
 ·have fS:=hide ((ad HF).trans (if_neg c1));have iE:e=.returned (.tuple #[.int .i64 0,.bool false]):=by rw[he];unfold found;rw[if_neg c1];simp[c1]
  subst iE;clear HF he c1;go_wp2_with fail;refine (unbound_any _ base ar cr rs am cm ms h1.rules h1.eh hf.zF hf.KF (λ r hr=>by have:=hf.b3 r hr;omega)).mono ?_;rintro e w2 ⟨he,aU⟩;have h2:=h1.next aU;clear h1 aU x0 x1 ou ov;obtain⟨x0,ou⟩:=block_cells h2.box 0;obtain⟨x1,ov⟩:=block_cells h2.box 1;have nK:=h2.sz
  by_cases c2:0<=unboundI (rs.map (·.R)) (ms.map (·.1))
  ·have bK:=hide ((ad fS).trans (if_pos c2));have iE:e=.returned (.tuple #[.int .i64 (unboundI (rs.map (·.R)) (ms.map (·.1))),.bool true]):=(by rw[he];unfold found;rw[if_pos c2];simp[c2]);subst iE;have HB:=hide h2.below;clear fS he c2 h2;go_wp2_with fail
   go_ret2
   exact⟨by rw[ad bK];rfl,ad HB⟩
  ·have bK:=hide ((ad fS).trans (if_neg c2));have iE:e=.returned (.tuple #[.int .i64 0,.bool false]):=(by rw[he];unfold found;rw[if_neg c2];simp[c2]);subst iE;clear fS he c2;go_wp2_with fail;refine (cycle_p_any _ base ar cr rs am cm ms h2.rules h2.eh hf).mono ?_;rintro e w3 ⟨he,cE⟩;have h3:=h2.next cE;have HB:=hide h3.below;clear h2 cE x0 x1 ou ov h3
   by_cases c3:0<=cycleP (rs.map (·.R)) (ms.map (·.1))
   ·have dE:=hide ((ad bK).trans (if_pos c3));have iE:e=.returned (.tuple #[.int .i64 (cycleP (rs.map (·.R)) (ms.map (·.1))),.bool true]):=(by rw[he];unfold found;rw[if_pos c3];simp[c3]);subst iE;clear bK he c3;go_wp2_with fail
    go_ret2
    exact⟨by rw[ad dE];rfl,ad HB⟩
   ·have dE:=hide ((ad bK).trans (if_neg c3));have iE:e=.returned (.tuple #[.int .i64 0,.bool false]):=(by rw[he];unfold found;rw[if_neg c3];simp[c3]);subst iE;clear bK he c3;go_wp2_with fail
    go_ret2
    exact⟨by rw[ad dE];rfl,ad HB⟩
noncomputable def pload (s:B8):Bool × Int × Int:=
 if 800<s.size then (false,1,0)
 else if (pparsed s).1=false then (false,2,(ae s (pparsed s).2.1).2.1)
 else if (faultP (pparsed s).2.2.1 (pparsed s).2.2.2).1≠0 then (false,(faultP (pparsed s).2.2.1 (pparsed s).2.2.2).1,(faultP (pparsed s).2.2.1 (pparsed s).2.2.2).2)
 else (true,0,0)
def ProgIn (w:W8)(base b:Nat)(rs:List PR):Prop:=∃ (a:O8) (c:Nat),w.heap[b]?=some (.cells #[.slice a rs.length c] 106 (0,0))/\base<=b/\bR w base (.slice a rs.length c) rs
def LoadPost (w:W8)(P:Bool × Int × Int)(rules:List PRule)(e:Ending)(w':W8):Prop:=
 Below w.heap.size w w'/\(P.1=false->e=.returned (.tuple #[.pointer none,.int .i64 P.2.1,.int .i64 P.2.2])) /\
 (P.1=true->∃ (b:Nat) (rs:List PR),e=.returned (.tuple #[.pointer (some ⟨b,0,none⟩),.int .i64 P.2.1,.int .i64 P.2.2])/\ProgIn w' w.heap.size b rs/\rs.map (·.R)=rules)
theorem pload_any (w:W8)(s:B8)(hs:s.size<=maxLen):
  Calls Tryz.prog 30 #[.string s] w (LoadPost w (pload s) (pparsed s).2.2.1):=by
 have hP:pload s=_:=pload.eq_1 s;have HP:=hide hP;clear hP;unfold maxLen at hs
 by_cases c0:800<s.size
 ·have II:800<(s.size:Int):=by omega
  have vw:=hide ((ad HP).trans (if_pos c0));clear HP c0;go_enter Tryz.func30,Tryz.ntmps30;go_wp2_with fail
  go_ret3
  rw[ad vw];exact⟨Below.refl _ _,λ _=>rfl,λ e=>by cases e⟩
 ·have II:¬ 800<(s.size:Int):=by omega
  have vw:=hide ((ad HP).trans (if_neg c0));have qo:s.size<=800:=by omega
  clear HP c0;go_enter Tryz.func30,Tryz.ntmps30;go_wp2_with fail;refine (prules_any _ s (by omega)).mono ?_;rintro e w1 ⟨aT,cP,eJ⟩
  cases c1:(pparsed s).1 with
  | false=>
   have iT:=hide ((ad vw).trans (if_pos c1));have he:=cP c1;subst he;clear cP eJ vw c1;go_wp2_with fail
   go_ret3
   rw[ad iT];exact⟨aT.alloc aT.size _,λ _=>rfl,λ e=>by cases e⟩
  | true=>
   have iT:=hide ((ad vw).trans (if_neg (by rw[c1];decide)));obtain⟨a,n,c,a',n',c',rs,ms,rfl,hR,vR,hM,eX,rh,yP⟩:=eJ c1;obtain⟨ar,cr,uW⟩:=own_slice hR.row;obtain⟨am,cm,Kb⟩:=own_slice hM.row;injection uW with h1 h2 h3
   injection Kb with h4 h5 h6
   subst h1 h2 h3 h4 h5 h6;obtain⟨o1,o2⟩:=pparsed_ok s qo c1;rw[<-vR] at o1 o2;rw[<-eX] at o2;rw[<-vR,<-eX] at iT;have p9:=hide vR;have hf:Few rs ms:=by
    refine⟨rh,by omega,λ r hr=>?_,λ r hr=>(o1 _ (List.mem_map_of_mem hr)).1,λ R hR l hl=>(o1 R hR).2.2 l hl,λ x hx=>(o2 _ (List.mem_map_of_mem hx)).1,λ x hx=>?_⟩
    ·have h1:=(o1 _ (List.mem_map_of_mem hr)).2.1;have h2:=(hR.each r hr).eq;rw[<-h2] at h1;simpa using h1
    ·obtain⟨_,h2,h3⟩:=o2 _ (List.mem_map_of_mem hx);exact⟨by simpa using h3,h2⟩
   have kA:=(Below.refl w1.heap.size w1).alloc L9 (.cells #[.slice a rs.length c,.slice a' ms.length c'] 100);have xS:=hR.below kA;have E0:=hM.below kA;have da:(w1.alloc (.cells #[.slice a rs.length c,.slice a' ms.length c'] 100)).heap[w1.heap.size]?=_:=heap_alloc_new w1 _;have bq:=aT.size;have fu:=aT.trans (kA.mono bq);clear cP eJ vw c1 hR hM vR eX o1 o2 kA;go_wp2_with fail;refine (fault_any _ w.heap.size a c rs a' c' ms xS E0 hf).mono ?_;rintro e w2 ⟨rfl,aU⟩;have bZ:=aU.size;rw[World.size_alloc] at bZ;have IZ:=xS.below aU;have eW:=(aU.block w1.heap.size (by simp)).trans da;have mx:=fu.trans (aU.mono (by simp;omega));obtain⟨x0,ou⟩:=block_cells eW 0;clear xS E0 da eW aU fu
   by_cases c2:(faultP (rs.map (·.R)) (ms.map (·.1))).1≠0
   ·have IJ:((faultP (rs.map (·.R)) (ms.map (·.1))).1 != 0)=true:=(by simpa using c2);have nX:=hide ((ad iT).trans (if_pos c2));clear iT c2;go_wp2_with fail
    go_ret3
    rw[ad nX];exact⟨mx,λ _=>rfl,λ e=>by cases e⟩
   ·have IJ:((faultP (rs.map (·.R)) (ms.map (·.1))).1 != 0)=false:=(by simpa using c2);have nX:=hide ((ad iT).trans (if_neg c2));clear iT c2;go_wp2_with fail
    go_ret3
    rw[ad nX];have kB:=(Below.refl w2.heap.size w2).alloc L9 (.cells #[.slice a rs.length c] 106);exact⟨mx.trans (kB.mono (by omega)),λ e=>(by cases e),λ _=>⟨w2.heap.size,rs,rfl,⟨a,c,heap_alloc_new w2 _,by omega,IZ.below kB⟩,ad p9⟩⟩
end
section
variable {ms:List PMen} {rs:List RRule} {n:Nat}
theorem text_flat (h:bO n rs ms):∃ Q:List (RAtom × PMen),Q.map (·.1)=rs.flatMap RRule.atoms/\Q.map (·.2)=ms/\∀ x∈Q,∃ i,MenRel i x.1 x.2:=by
 induction h with
 | nil n=>exact⟨[],rfl,rfl,by simp⟩
 | cons h t ih=>
  obtain⟨q,q1,q2,q3⟩:=h;obtain⟨Q,Q1,Q2,Q3⟩:=ih;refine⟨q++Q,by simp[q1,Q1],by simp[q2,Q2],λ x hx=>?_⟩;rcases List.mem_append.1 hx with hx | hx
  ·exact⟨_,q3 x hx⟩
  ·exact Q3 x hx
theorem parity_eq:∀ (Q:List (RAtom × PMen)) (ps:P9),(∀ x∈Q,∃ i,MenRel i x.1 x.2)->parity (Q.map (·.2)) ps=(meetAll (Q.map (·.1)) ps).1
 | [],ps,_=>rfl
 | x::r,ps,h=>by
  obtain⟨i,hx⟩:=h x List.mem_cons_self;have ih:=λ AQ=>parity_eq r AQ (λ y hy=>h y (List.mem_cons_of_mem _ hy))
  have e1:x.2.ts.length=x.1.aS.length:=by rw[hx.ts];simp
  simp only[List.map_cons,parity,meetAll];rw[hx.pd,e1,ih,hx.place]
  split <;> rfl
def firstI {α:Type}(F:α->Int):List α->Int
 | []=>-1
 | x::r=>if 0<=F x then F x else firstI F r
theorem first_append {α:Type}(F:α->Int)(b:List α):∀ (a:List α),firstI F (a++b)=if 0<=firstI F a then firstI F a else firstI F b
 | []=>by simp[firstI]
 | x::r=>by
  rw[List.cons_append,firstI,firstI,first_append F b r]
  by_cases h:0<=F x
  ·simp[h]
  ·simp[h]
theorem text_first (h:bO n rs ms)(F:PMen->Int)(G:RRule->Int):(∀ i R ms',rs[i]?=some R->jY (n+i) R.atoms ms'->firstI F ms'=G R)->firstI F ms=firstI G rs:=by
 induction h with
 | nil n=>intro _;rfl
 | @cons n R rs ms ms' h t ih=>
  intro hG;have h1:=hG 0 R ms rfl h
  have h2:=ih (λ i R' ms'' hi hm=>hG (i+1) R' ms'' (by simpa using hi) (by
   have e:n+(i+1)=n+1+i:=by omega
   rw[e];exact hm))
  rw[first_append,h1,h2,firstI]
theorem men_first {i:Nat}{l:List RAtom}(h:jY i l ms)(F:PMen->Int)(G:RAtom->Int)(hG:∀ A∈l,∀ M,MenRel i A M->F M=G A):firstI F ms=firstI G l:=by
 obtain⟨q,rfl,rfl,q3⟩:=h
 induction q with
 | nil=>rfl
 | cons x r ih=>
  have h1:=hG x.1 (by simp) x.2 (q3 x List.mem_cons_self);have h2:=ih (λ A hA M hM=>hG A (List.mem_cons_of_mem _ hA) M hM) (λ y hy=>q3 y (List.mem_cons_of_mem _ hy));simp only[List.map_cons,firstI,h1,h2]
theorem has_eq (v:B8)(l:List RTerm):hasV v (l.map dI)=l.any (j6 v):=by
 unfold hasV;rw[List.any_map];rfl
theorem binds_eq (v:B8)(body:List RAtom):bindsV v (body.map cI)=saidB v body:=by
 unfold bindsV saidB
 induction body with
 | nil=>rfl
 | cons A r ih=>
  rw[List.map_cons,List.filter_cons,List.any_cons,<-ih]
  cases hn:A.no with
  | true=>simp[cI,hn,saidA]
  | false=>simp[cI,hn,saidA,has_eq]
theorem loose_eq (body:List RAtom)(pl:Nat->Nat):∀ (l:List RTerm) (k:Nat),(∀ i (h:i<l.length),pl (k+i)=(l[i]).at_)->(match looseIx (body.map cI) (l.map dI) k with | some i=>(pl i:Int) | none=>-1)=looseI body l
 | [],k,_=>rfl
 | t::r,k,h=>by
  have ih:=loose_eq body pl r (k+1) (λ i hi=>by
   have:=h (i+1) (by simpa using hi)
   rw[show k+1+i=k+(i+1) by omega,this];simp)
  simp only[List.map_cons,looseIx,looseI];rw[show (dI t).1=t.isVar from rfl,show (dI t).2=t.text from rfl,binds_eq]
  by_cases hc:(t.isVar&&!saidB t.text body)=true
  ·rw[if_pos hc,if_pos hc];have:=h 0 (by simp);simp only[Nat.add_zero,List.getElem_cons_zero] at this;simp only[this]
  ·rw[if_neg hc,if_neg hc];exact ih
theorem loose_pos {body:List RAtom}{A:RAtom}(hA:A∈body)(hn:A.no=false):looseI body A.aS=-1:=by
 have key:∀ l:List RTerm,(∀ t∈l,t∈A.aS)->looseI body l=-1:=by
  intro l
  induction l with
  | nil=>intro _;rfl
  | cons t r ih=>
   intro h;rw[looseI,if_neg,ih (λ u hu=>h u (List.mem_cons_of_mem _ hu))]
   cases hv:t.isVar with
   | false=>simp
   | true=>
    have hs:saidB t.text body=true:=by
     unfold saidB;rw[List.any_eq_true];refine⟨A,hA,?_⟩;unfold saidA;rw[hn];simp only[Bool.not_false,Bool.true_and];rw[List.any_eq_true];exact⟨t,h t List.mem_cons_self,by simp[j6,hv]⟩
    simp[hs]
 exact key A.aS (λ t h=>h)
theorem looseBody_first (body:List RAtom):∀ l:List RAtom,(∀ A∈l,A∈body)->looseBody body l=firstI (λ A=>looseI body A.aS) l
 | [],_=>rfl
 | A::r,h=>by
  rw[looseBody,firstI,<-looseBody_first body r (λ B hB=>h B (List.mem_cons_of_mem _ hB))]
  cases hn:A.no with
  | true=>simp
  | false=>
   rw[loose_pos (h A List.mem_cons_self) hn];simp
theorem unsafe_first:∀ rs:List RRule,unsafeI rs=firstI looseRule rs
 | []=>rfl
 | R::r=>by rw[unsafeI,firstI,unsafe_first r]
def unbF (rs:List PRule)(M:PMen):Int:=match looseIx (bodyAt rs M.num) M.ts 0 with | some i=>(M.pl i:Int) | none=>-1
theorem unbound_first (rs:List PRule):∀ ms:List PMen,unboundI rs ms=firstI (unbF rs) ms
 | []=>rfl
 | M::r=>by
  rw[unboundI,firstI,<-unbound_first rs r];unfold unbF
  cases looseIx (bodyAt rs M.num) M.ts 0 with
  | none=>simp
  | some i=>simp
theorem unbound_eq (h:bO 0 rs ms):unboundI (rs.map pruleOf) ms=unsafeI rs:=by
 rw[unbound_first,unsafe_first];refine text_first h _ _ (λ i R ms' hi hm=>?_);rw[Nat.zero_add] at hm;have hb:bodyAt (rs.map pruleOf) i=R.body.map cI:=by
  unfold bodyAt;rw[List.getElem?_map,hi];rfl
 rw[men_first hm (unbF (rs.map pruleOf)) (λ A=>looseI R.body A.aS) (λ A _ M hM=>?_)]
 ·unfold RRule.atoms looseRule;rw[firstI,looseBody_first R.body R.body (λ A hA=>hA)]
 ·unfold unbF;rw[hM.num,hb,hM.ts];exact loose_eq R.body M.pl A.aS 0 (λ i hi=>by rw[Nat.zero_add];exact hM.pl i hi)
theorem ix_name (nm:B8):∀ (l:P9) (k:Nat),0<=ixFrom nm l k->(l.getD (ixFrom nm l k-k).toNat (nm,0)).1=nm
 | [],k,h=>by simp[ixFrom] at h
 | x::r,k,h=>by
  unfold ixFrom at h ⊢
  by_cases hx:(x.1.toList==nm.toList)=true
  ·rw[if_pos hx];simp;exact aW.1 hx
  ·rw[if_neg hx] at h ⊢;have ih:=ix_name nm r (k+1) h;have:=(ix_lt nm r (k+1) h).1;have e:(ixFrom nm r (k+1)-(k:Int)).toNat=(ixFrom nm r (k+1)-((k+1:Nat):Int)).toNat+1:=(by omega);rw[e];simpa using ih
def nmOf (ps:P9)(i:Nat):B8:=(ps.getD i ({ data:=#[] },0)).1
variable {ps:P9}
theorem nm_ix {x:B8}(h:0<=predIx ps x):nmOf ps (ixOf ps x)=x:=by
 have h1:=ix_name x ps 0 h;have bP:=predIx_lt h;unfold nmOf ixOf;rw[show ixFrom x ps 0=predIx ps x from rfl] at h1;simp only[Int.natCast_zero,Int.sub_zero] at h1;rw[List.getD_eq_getElem?_getD,List.getElem?_eq_getElem bP] at h1 ⊢;simpa using h1
variable {a b:B8}
theorem ix_same (ha:0<=predIx ps a)(hb:0<=predIx ps b):(predIx ps a==predIx ps b)=(a.toList==b.toList):=by
 rw[Bool.eq_iff_iff]
 constructor
 ·intro h;have h1:predIx ps a=predIx ps b:=by simpa using h
  have h2:=nm_ix ha;rw[show ixOf ps a=ixOf ps b by unfold ixOf;rw[h1],nm_ix hb] at h2;rw[h2];simp
 ·intro h;rw[aW.1 h];simp
theorem mem_edges {x y:B8}:(x,y)∈edgesP (rs.map pruleOf)↔∃ R∈rs,∃ A∈R.body,x=R.head.pred/\y=A.pred:=by
 unfold edgesP edgesB
 constructor
 ·intro h;obtain⟨P,hP,h⟩:=List.mem_flatMap.1 h;obtain⟨R,hR,rfl⟩:=List.mem_map.1 hP;obtain⟨L,hL,h⟩:=List.mem_map.1 h;obtain⟨A,hA,rfl⟩:=List.mem_map.1 hL;injection h with h1 h2
  exact⟨R,hR,A,hA,h1.symm,h2.symm⟩
 ·rintro⟨R,hR,A,hA,rfl,rfl⟩;exact List.mem_flatMap.2 ⟨pruleOf R,List.mem_map_of_mem hR,List.mem_map.2 ⟨cI A,List.mem_map_of_mem hA,rfl⟩⟩
theorem edgesR_sound {ps:P9}{h:Nat}:∀ (l:List RAtom) {M:Nat->Nat->Bool} {a b:Nat},edgesR ps h l M a b=true->M a b=true\/(a=h/\∃ A∈l,b=ixOf ps A.pred)
 | [],M,a,b,hm=>.inl hm
 | A::r,M,a,b,hm=>by
  rcases edgesR_sound r hm with h1 | ⟨h1,B,hB,h2⟩
  ·unfold upd at h1;simp at h1;rcases h1 with⟨h1,h2⟩ | h1
   ·exact .inr ⟨h1,A,List.mem_cons_self,h2⟩
   ·exact .inl h1
  ·exact .inr ⟨h1,B,List.mem_cons_of_mem _ hB,h2⟩
theorem edges_sound {ps:P9}:∀ (l:List RRule) {M:Nat->Nat->Bool} {a b:Nat},edges ps l M a b=true->M a b=true\/∃ R∈l,a=ixOf ps R.head.pred/\∃ A∈R.body,b=ixOf ps A.pred
 | [],M,a,b,hm=>.inl hm
 | R::r,M,a,b,hm=>by
  rcases edges_sound r hm with h1 | ⟨R',hR,h1⟩
  ·rcases edgesR_sound R.body h1 with h2 | ⟨h2,A,hA,h3⟩
   ·exact .inl h2
   ·exact .inr ⟨R,List.mem_cons_self,h2,A,hA,h3⟩
  ·exact .inr ⟨R',List.mem_cons_of_mem _ hR,h1⟩
theorem fwM_sound (P:Nat->Nat->Prop)(hP:∀ a b c,P a b->P b c->P a c)(n:Nat):∀ (d m:Nat) (M:Nat->Nat->Bool),n-m=d->(∀ a b,M a b=true->P a b)->∀ a b,fwM n M m a b=true->P a b:=by
 intro d
 induction d with
 | zero=>
  intro m M hd hM a b h;rw[fwM_end (by omega)] at h;exact hM a b h
 | succ d ih=>
  intro m M hd hM a b h;rw[fwM_go (by omega)] at h;refine ih (m+1) _ (by omega) (λ x y km=>?_) a b h;rw[fwI_eq n m (n-0) 0 M rfl] at km;simp at km;rcases km with h1 | h1
  ·exact hM x y h1
  ·exact hP x m y (hM x m h1.1.2) (hM m y h1.2)
theorem reach_trans {E:List Edge}{c:B8}(h:Reach E a b)(t:Reach E b c):Reach E a c:=by
 induction t with
 | one h1=>exact .next h h1
 | next _ h1 ih=>exact .next ih h1
theorem hangs_eq (bh:AllIn ps (rs.flatMap RRule.atoms))(ha:0<=predIx ps a)(hb:0<=predIx ps b):hangsP (edgesP (rs.map pruleOf)) a b=hangsM ps rs (ixOf ps a) (ixOf ps b):=by
 have yE:∀ R∈rs,0<=predIx ps R.head.pred:=λ R hR=>bh _ (List.mem_flatMap.2 ⟨R,hR,List.mem_cons_self⟩)
 have jb:∀ R∈rs,∀ A∈R.body,0<=predIx ps A.pred:=λ R hR A hA=>bh _ (List.mem_flatMap.2 ⟨R,hR,List.mem_cons_of_mem _ hA⟩)
 rw[Bool.eq_iff_iff];unfold hangsP;simp only[decide_eq_true_eq]
 constructor
 ·intro h;have key:∀ y,Reach (edgesP (rs.map pruleOf)) a y->hangsM ps rs (ixOf ps a) (ixOf ps y)=true/\0<=predIx ps y:=by
   intro y hy
   induction hy with
   | one h1=>
    obtain⟨R,hR,A,hA,rfl,rfl⟩:=mem_edges.1 h1;exact⟨fW hR hA,jb R hR A hA⟩
   | next t h1 ih=>
    obtain⟨R,hR,A,hA,rfl,rfl⟩:=mem_edges.1 h1;exact⟨hangs_trans (predIx_lt ha) (predIx_lt ih.2) (predIx_lt (jb R hR A hA)) ih.1 (fW hR hA),jb R hR A hA⟩
  exact (key b h).1
 ·intro h;have:=fwM_sound (λ i j=>Reach (edgesP (rs.map pruleOf)) (nmOf ps i) (nmOf ps j)) (λ _ _ _=>reach_trans) ps.length ps.length 0 (edges ps rs (λ _ _=>false)) rfl (λ i j hij=>?_) _ _ h
  ·rw[nm_ix ha,nm_ix hb] at this;exact this
  ·rcases edges_sound rs hij with h1 | ⟨R,hR,rfl,A,hA,rfl⟩
   ·cases h1
   ·simp only[nm_ix (yE R hR),nm_ix (jb R hR A hA)];exact .one (mem_edges.2 ⟨R,hR,A,hA,rfl,rfl⟩)
theorem cycBody_first (ps:P9)(H:Nat->Nat->Bool)(hd:B8):∀ l:List RAtom,cycBody ps H hd l=firstI (λ A=>if cycB ps H hd A then (A.sf:Int) else -1) l
 | []=>rfl
 | A::r=>by
  rw[cycBody,firstI,<-cycBody_first ps H hd r]
  by_cases h:cycB ps H hd A=true
  ·simp[h]
  ·simp[h]
theorem cycleI_first (ps:P9)(H:Nat->Nat->Bool):∀ rs:List RRule,cycleI ps H rs=firstI (λ R=>cycBody ps H R.head.pred R.body) rs
 | []=>rfl
 | R::r=>by rw[cycleI,firstI,cycleI_first ps H r]
theorem cycleP_first (rs:List PRule):∀ ms:List PMen,cycleP rs ms=firstI (λ M=>if cycM rs M then (M.start:Int) else -1) ms
 | []=>rfl
 | M::r=>by
  rw[cycleP,firstI,<-cycleP_first rs r]
  by_cases h:cycM rs M=true
  ·simp[h]
  ·simp[h]
theorem cycle_eq (h:bO 0 rs ms)(bh:AllIn ps (rs.flatMap RRule.atoms))(cP:∀ R∈rs,R.head.no=false):cycleP (rs.map pruleOf) ms=cycleI ps (hangsM ps rs) rs:=by
 rw[cycleP_first,cycleI_first];refine text_first h _ _ (λ i R ms' hi hm=>?_);rw[Nat.zero_add] at hm;have hR:R∈rs:=List.mem_of_getElem? hi;have hh:headAt (rs.map pruleOf) i=R.head.pred:=by
  unfold headAt;rw[List.getElem?_map,hi];rfl
 have hp:=bh R.head (List.mem_flatMap.2 ⟨R,hR,List.mem_cons_self⟩);rw[men_first hm _ (λ A=>if cycB ps (hangsM ps rs) R.head.pred A then (A.sf:Int) else -1) (λ A hA M hM=>?_)]
 ·unfold RRule.atoms;rw[firstI,cycBody_first];have:cycB ps (hangsM ps rs) R.head.pred R.head=false:=by unfold cycB;rw[cP R hR];rfl
  simp[this]
 ·have ze:=bh A (List.mem_flatMap.2 ⟨R,hR,hA⟩);have e:cycM (rs.map pruleOf) M=cycB ps (hangsM ps rs) R.head.pred A:=by
   unfold cycM cycB;rw[hM.num,hh,hM.neg,hM.pd,hangs_eq bh ze hp,ix_same ze hp]
  simp only[e]
  by_cases hc:cycB ps (hangsM ps rs) R.head.pred A=true
  ·rw[if_pos hc,if_pos hc];have:A.no=true:=by unfold cycB at hc;simp at hc;exact hc.1
   rw[hM.start this]
  ·rw[if_neg hc,if_neg hc]
theorem rules_head {s:B8}(f:Nat):∀ {p:Nat} {bd:Int} {l:List RRule},(∀ R∈l,R.head.no=false)->∀ R∈(rulesS s f p bd l).1,R.head.no=false:=by
 induction f with
 | zero=>intro p bd l h;exact h
 | succ f ih=>
  intro p bd l h;rw[rulesS]
  split
  ·refine ih (λ R hR=>?_);rcases List.mem_append.1 hR with hR | hR
   ·exact h R hR
   ·simp at hR;subst hR;rfl
  ·exact h
theorem load_eq (s:B8):pload s=refLoad s:=by
 unfold pload refLoad
 by_cases c0:800<s.size
 ·rw[if_pos c0,if_pos c0]
 ·rw[if_neg c0,if_neg c0]
  cases c1:(pparsed s).1 with
  | false=>
   have h:=(parsed_eq s).2 c1;rw[if_pos rfl,h,if_pos (by omega)]
  | true=>
   obtain⟨h1,h2,h3⟩:=(parsed_eq s).1 c1;rw[if_neg (show ¬ (true=false) by decide),h1,if_neg (show ¬ ((0:Int)<=-1) by decide),h2];obtain⟨Q,Q1,Q2,Q3⟩:=text_flat h3;have ea:parity (pparsed s).2.2.2 []=(aj s).1:=by
    unfold aj;rw[<-Q1,<-Q2];exact parity_eq Q [] Q3
   have eu:=unbound_eq h3;unfold faultP;rw[ea,eu]
   by_cases c2:0<=(aj s).1
   ·simp[c2]
   ·have bh:AllIn (aj s).2 ((parsed s).1.flatMap RRule.atoms):=allIn_of_meet _ c2;have ec:=cycle_eq h3 bh (rules_head 31 (by simp));rw[ec];rw[if_neg c2,if_neg c2]
    by_cases c3:0<=unsafeI (parsed s).1
    ·simp[c3]
    ·rw[if_neg c3,if_neg c3]
     by_cases c4:0<=cycleI (aj s).2 (hangsM (aj s).2 (parsed s).1) (parsed s).1
     ·simp[c4]
     ·simp[c4]
end
end Go.Proofs.YtldkpahaocjdpaaGreat
