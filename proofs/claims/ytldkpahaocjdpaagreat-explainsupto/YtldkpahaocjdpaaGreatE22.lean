/-
  The program's firstLoose and unbound: the first variable that its rule does not bind.
-/
import Derived.Test.YtldkpahaocjdpaaGreatE21
set_option maxHeartbeats 16000000
set_option maxRecDepth 1000000
namespace Go.Proofs.YtldkpahaocjdpaaGreat
section
open Go.RowKit
def vL (ls:List vK):List (Bool × B8)->Nat->Option Nat
 | [],_=>none
 | t::r,k=>if t.1&&!zjk t.2 ls then some k else vL ls r (k+1)
def z9q (x:Option Nat):Ending:=.returned (.tuple #[.int .i64 (x.getD 0),.bool x.isSome])
variable {k:Nat}
theorem zrw {ls:List vK}{ts:List (Bool × B8)}(h:k<ts.length):vL ls (ts.drop k) k=if ts[k].1&&!zjk ts[k].2 ls then some k else vL ls (ts.drop (k+1)) (k+1):=by
 rw[List.drop_eq_getElem_cons h,vL]
theorem zue (w:W8)(base:Nat)(pd jk:B8)(a:O8)(c:Nat)(ts:List (Bool × B8))(ah:O8)(nh ch:Nat)(ab:O8)(cb:Nat)(ls:List (vK × Value))(ht:w.ownsRow base 191 1 (.slice a ts.length c) ts.length (xH ts))(h:iL w base (.slice ab ls.length cb) ls)(hl:ls.length<=1000):
  Calls Tryz.prog 118 #[.agg #[.string pd,.slice a ts.length c],.agg #[.string jk,.slice ah nh ch,.slice ab ls.length cb]] w λ e w'=>e=z9q (vL (ls.map (·.1)) ts 0)/\Below w.heap.size w w':=by
 have lN:=yU ht;unfold maxLen at lN;have b1:=((Below.refl w.heap.size w).alloc L9 (.cells #[.string pd,.slice a ts.length c] 79)).alloc (by simp) (.cells #[.string jk,.slice ah nh ch,.slice ab ls.length cb] 123);have fu:((w.alloc (.cells #[.string pd,.slice a ts.length c] 79)).alloc (.cells #[.string jk,.slice ah nh ch,.slice ab ls.length cb] 123)).heap[w.heap.size+1]?=some (.cells #[.string jk,.slice ah nh ch,.slice ab ls.length cb] 123 (0,0)):=by
  have:=heap_alloc_new (w.alloc (.cells #[.string pd,.slice a ts.length c] 79)) (.cells #[.string jk,.slice ah nh ch,.slice ab ls.length cb] 123);rw[World.size_alloc] at this;exact this
 have h1:=h.below b1;have pG:=zJ ht b1 (λ g e=>(ht.lt g e).2);clear h ht;have TC:=zei;have Kh:=zjj;have Dg:=zdl;go_enter Tryz.func118,Tryz.ntmps118;go_wp2_with fail
 go_loopg [13] ts.length (λ gg i wr=>∃ k:Nat,k<=ts.length/\gg=ts.length-k/\i=.int .i64 k/\iL wr base (.slice ab ls.length cb) ls/\wr.ownsRow base 191 1 (.slice a ts.length c) ts.length (xH ts)/\Below w.heap.size w wr/\w.heap.size+1<wr.heap.size/\wr.heap[w.heap.size+1]?=some (.cells #[.string jk,.slice ah nh ch,.slice ab ls.length cb] 123 (0,0))/\vL (ls.map (·.1)) ts 0=vL (ls.map (·.1)) (ts.drop k) k)
 exact⟨0,Nat.zero_le _,rfl,rfl,h1,pG,b1,by simp,fu,rfl⟩
 case round=>
  clear h1 pG b1 fu;obtain⟨k,hk,eD,rfl,hL,hT,hB,hz,hr,aE⟩:=hrel;have HF:=zC aE;clear aE
  by_cases aF:k<ts.length
  ·obtain⟨g,cap,hv,iF,aZ,bO,bQ,hc⟩:=zmd hT k aF;injection hv with h1 h2 h3
   subst h1 h3;have aC:=zC ((zA HF).trans (zrw aF));clear HF
   cases hb:ts[k].1 with
   | true=>
    rw[hb] at hc;unfold zec at hc;rw[if_pos rfl] at hc;obtain⟨r0,f0⟩:=zB hr 0;obtain⟨r1,f1⟩:=zB hr 1;obtain⟨r2,f2⟩:=zB hr 2;have HR:=zC hr;clear hr;go_wp2_with fail;refine (z1g wr base jk ts[k].2 ah nh ch ab cb ls hL hl).mono ?_;rintro e w2 ⟨rfl,aK⟩;have bg:=aK.size
    cases hq:zjk ts[k].2 (ls.map (·.1)) with
    | false=>
     have aO:=zC (show vL (ls.map (·.1)) ts 0=some k by rw[zA aC,hb,hq];rfl);clear aC hb hq r0 r1 r2 f0 f1 f2;go_wp2_with fail
     go_ret2
     exact⟨by rw[zA aO];rfl,hB.trans (aK.mono (by omega))⟩
    | true=>
     have aO:=zC (show vL (ls.map (·.1)) ts 0=vL (ls.map (·.1)) (ts.drop (k+1)) (k+1) by rw[zA aC,hb,hq];rfl);have HL:=zC (hL.below aK);have HT:=zC (zJ hT aK (λ g e=>(hT.lt g e).2));have wZ:=zC ((aK.block _ hz).trans (zA HR));clear aC hb hq r0 r1 r2 f0 f1 f2 hL hT HR;go_wp2_with fail;go_roundg (ts.length-(k+1));exact⟨k+1,by omega,rfl,by go_num,zA HL,zA HT,hB.trans (aK.mono (by omega)),by omega,zA wZ,zA aO⟩;omega
   | false=>
    rw[hb] at hc;unfold zec at hc;rw[if_neg (by decide)] at hc;have aO:=zC (show vL (ls.map (·.1)) ts 0=vL (ls.map (·.1)) (ts.drop (k+1)) (k+1) by rw[zA aC,hb];rfl);have HL:=zC hL;have HT:=zC hT;have wZ:=zC hr;clear aC hb hL hT hr;go_wp2_with fail;go_roundg (ts.length-(k+1));exact⟨k+1,by omega,rfl,by go_num,zA HL,zA HT,hB,hz,zA wZ,zA aO⟩;omega
  ·have aC:=zC (show vL (ls.map (·.1)) ts 0=none by rw[zA HF,List.drop_of_length_le (by omega)];rfl);clear HF hL hT hr;go_wp2_with fail
   go_ret2
   exact⟨by rw[zA aC];rfl,hB⟩
def zjl (rs:List vY)(n:Nat):List vK:=match rs[n]? with | some R=>R.body | none=>[]
def jR (rs:List vY):List xU->Int
 | []=>-1
 | M::r=>match vL (zjl rs M.num) M.ts 0 with | some i=>(M.pl i:Int) | none=>jR rs r
variable {ms:List (xU × Value)}
theorem zqc {rs:List vY}(h:k<ms.length):jR rs ((ms.map (·.1)).drop k)=match vL (zjl rs ms[k].1.num) ms[k].1.ts 0 with | some i=>(ms[k].1.pl i:Int) | none=>jR rs ((ms.map (·.1)).drop (k+1)):=by
 rw[List.drop_eq_getElem_cons (by simpa using h),jR];simp
theorem zwi {ls:List vK}:∀ {ts:List (Bool × B8)} {k i:Nat},vL ls ts k=some i->i<k+ts.length
 | [],k,i,h=>by simp[vL] at h
 | t::r,k,i,h=>by
  unfold vL at h
  split at h
  ·injection h with h;subst h;simp
  ·have:=zwi h;simp;omega
theorem uh.below {w w':W8}{base:Nat}{r:PR}(h:uh w base r)(hb:Below w.heap.size w w'):uh w' base r:=
 ⟨zJ h.hd hb (λ g e=>(h.hd.lt g e).2),h.bo.below hb,h.eq⟩
theorem iq.below {w w':W8}{base:Nat}{rv:Value}{rs:List PR}(h:iq w base rv rs)(hb:Below w.heap.size w w'):iq w' base rv rs:=
 ⟨zJ h.row hb (λ g e=>(h.row.lt g e).2),λ r hr=>(h.each r hr).below hb⟩
theorem zsm (r:PR):r.cells.length=3:=rfl
structure BR (w:W8)(base:Nat)(rv mv:Value)(rs:List PR)(ms:List (xU × Value))(wr:W8):Prop where
 rules:iq wr base rv rs
 eK:ey wr base mv ms
 box:wr.heap[w.heap.size]?=some (.cells #[rv,mv] 100 (0,0))
 below:Below w.heap.size w wr
 sz:w.heap.size<wr.heap.size
variable {rs:List PR} {rv mv:Value} {base:Nat} {w:W8}
theorem BR.next {wr w1:W8}(h:BR w base rv mv rs ms wr)(hb:Below wr.heap.size wr w1):BR w base rv mv rs ms w1:=
 have hs:=h.sz;have sg:=hb.size
 ⟨h.rules.below hb,h.eK.below hb,(hb.block _ hs).trans h.box,h.below.trans (hb.mono (by omega)),by omega⟩
theorem BR.start (h:iq w base rv rs)(h':ey w base mv ms):BR w base rv mv rs ms (w.alloc (.cells #[rv,mv] 100)):=
 have b1:=(Below.refl w.heap.size w).alloc L9 (.cells #[rv,mv] 100)
 ⟨h.below b1,h'.below b1,heap_alloc_new w _,b1,by simp⟩
end
section
open Go.RowKit
theorem iL.drew {w:W8}{base:Nat}{bv:Value}{ls:List (vK × Value)}(h:iL w base bv ls):iL w.drew base bv ls:=⟨h.row.drew,λ x hx=>(h.each x hx).drew⟩
theorem zve (w:W8)(base:Nat)(ar:O8)(cr:Nat)(rs:List PR)(am:O8)(cm:Nat)(ms:List (xU × Value))(h:iq w base (.slice ar rs.length cr) rs)(h':ey w base (.slice am ms.length cm) ms)(hl:ms.length<=1000)(hn:∀ x∈ms,x.1.num<rs.length/\x.1.ts.length<=4)(cI:∀ r∈rs,r.bs.length<=1000):
  Calls Tryz.prog 76 #[.agg #[.slice ar rs.length cr,.slice am ms.length cm]] w λ e w'=>e=zi4 (jR (rs.map (·.R)) (ms.map (·.1)))/\Below w.heap.size w w':=by
 have h0:=BR.start h h';have QS:=yU h.row;unfold maxLen at QS;clear h h';go_enter Tryz.func76,Tryz.ntmps76;go_wp2_with fail
 go_loopg [11] ms.length (λ gg i wr=>∃ k:Nat,k<=ms.length/\gg=ms.length-k/\i=.int .i64 k/\BR w base (.slice ar rs.length cr) (.slice am ms.length cm) rs ms wr/\jR (rs.map (·.R)) (ms.map (·.1))=jR (rs.map (·.R)) ((ms.map (·.1)).drop k))
 exact⟨0,Nat.zero_le _,rfl,rfl,h0,rfl⟩
 case round=>
  clear h0;obtain⟨k,hk,eD,rfl,hinv,aE⟩:=hrel;have HF:=zC aE;clear aE
  by_cases aF:k<ms.length
  ·have aC:=zC ((zA HF).trans (zqc aF));obtain⟨g,cap,hv,iF,aZ,bO,bQ,hc⟩:=vX zul hinv.eK.row k aF;injection hv with h1 h2 h3
   subst h1 h3;obtain⟨br,dL,fo⟩:=zD (hinv.eK.each _ (List.getElem_mem aF));have q0:=hc 0 (by omega);have q1:=hc 1 (by omega);have q2:=hc 2 (by omega);have q3:=hc 3 (by omega);have q4:=hc 4 (by omega);have q5:=hc 5 (by omega);have q6:=hc 6 (by omega);have q7:=hc 7 (by omega);have q8:=hc 8 (by omega);have q9:=hc 9 (by omega);simp only[xU.cells,fo,Nat.add_zero,List.getElem?_cons_zero,List.getElem?_cons_succ] at q0 q1 q2 q3 q4 q5 q6 q7 q8 q9;obtain⟨lC,pH⟩:=hn _ (List.getElem_mem aF);obtain⟨gr,dz,AS,CX,C6,De,C2,nk⟩:=vX zsm hinv.rules.row ms[k].1.num lC;injection AS with h4 h5 h6
   subst h4 h6;have ax:=hinv.rules.each _ (List.getElem_mem lC);obtain⟨ah,ch,zn⟩:=zD ax.hd;obtain⟨ab,cb,mu⟩:=zD ax.bo.row;have r0:=nk 0 (by omega);have r1:=nk 1 (by omega);have r2:=nk 2 (by omega);simp only[PR.cells,zn,mu,Nat.add_zero,List.getElem?_cons_zero,List.getElem?_cons_succ] at r0 r1 r2;obtain⟨x0,uE⟩:=zB hinv.box 0;have bA:=(Below.refl wr.heap.size wr).alloc L9 (.cells #[.int .i64 ms[k].1.num,.bool ms[k].1.neg,.string ms[k].1.pd,.slice br ms[k].1.ts.length dL,.int .i64 ms[k].1.start,.int .i64 ms[k].1.place,.int .i64 (ms[k].1.pl 0),.int .i64 (ms[k].1.pl 1),.int .i64 (ms[k].1.pl 2),.int .i64 (ms[k].1.pl 3)] 221);have hI:=hinv.next bA;have pD:(wr.alloc (.cells #[.int .i64 ms[k].1.num,.bool ms[k].1.neg,.string ms[k].1.pd,.slice br ms[k].1.ts.length dL,.int .i64 ms[k].1.start,.int .i64 ms[k].1.place,.int .i64 (ms[k].1.pl 0),.int .i64 (ms[k].1.pl 1),.int .i64 (ms[k].1.pl 2),.int .i64 (ms[k].1.pl 3)] 221)).heap[wr.heap.size]?=_:=heap_alloc_new wr _;have iG:zjl (rs.map (·.R)) ms[k].1.num=rs[ms[k].1.num].bs.map (·.1):=by
    unfold zjl;rw[List.getElem?_map,List.getElem?_eq_getElem lC];exact ax.eq.symm
   rw[iG] at aC;have Ii:=hI.eK.each _ (List.getElem_mem aF);rw[fo] at Ii;have Pt:=(hI.rules.each _ (List.getElem_mem lC)).bo;rw[mu] at Pt;have HC:=zC (λ (W:W8) (hW:Below (wr.alloc (.cells #[.int .i64 ms[k].1.num,.bool ms[k].1.neg,.string ms[k].1.pd,.slice br ms[k].1.ts.length dL,.int .i64 ms[k].1.start,.int .i64 ms[k].1.place,.int .i64 (ms[k].1.pl 0),.int .i64 (ms[k].1.pl 1),.int .i64 (ms[k].1.pl 2),.int .i64 (ms[k].1.pl 3)] 221)).heap.size (wr.alloc (.cells #[.int .i64 ms[k].1.num,.bool ms[k].1.neg,.string ms[k].1.pd,.slice br ms[k].1.ts.length dL,.int .i64 ms[k].1.start,.int .i64 ms[k].1.place,.int .i64 (ms[k].1.pl 0),.int .i64 (ms[k].1.pl 1),.int .i64 (ms[k].1.pl 2),.int .i64 (ms[k].1.pl 3)] 221)) W)=>(And.intro (hI.next hW) ((hW.block wr.heap.size (by simp)).trans pD)));have dK:=cI _ (List.getElem_mem lC);have Jw:=zC Ii.drew;have BY:=zC Pt.drew;have bj:=hinv.sz;clear hc nk HF hinv hI fo ax zn mu iG pD Ii Pt bA;go_wp2_with fail;go_upto_region 4 with fail
   go_cut [6,7] (λ v6 v7 wc=>v6=.int .i64 ((vL (rs[ms[k].1.num].bs.map (·.1)) ms[k].1.ts 0).getD 0)/\v7=.bool (vL (rs[ms[k].1.num].bs.map (·.1)) ms[k].1.ts 0).isSome/\BR w base (.slice (some ⟨gr,0,none⟩) rs.length cr) (.slice (some ⟨g,0,none⟩) ms.length cm) rs ms wc/\wc.heap[wr.heap.size]?=some (.cells #[.int .i64 ms[k].1.num,.bool ms[k].1.neg,.string ms[k].1.pd,.slice br ms[k].1.ts.length dL,.int .i64 ms[k].1.start,.int .i64 ms[k].1.place,.int .i64 (ms[k].1.pl 0),.int .i64 (ms[k].1.pl 1),.int .i64 (ms[k].1.pl 2),.int .i64 (ms[k].1.pl 3)] 221 (0,0)))
   case first=>
    go_region_with (go_at_call 118;refine (zue _ base ms[k].1.pd rs[ms[k].1.num].R.pd br dL ms[k].1.ts ah rs[ms[k].1.num].R.ts.length ch ab cb rs[ms[k].1.num].bs (zA Jw) (zA BY) dK).mono ?_;rintro e w2 ⟨he,aK⟩;unfold z9q at he;subst he)
    all_goals
     go_wp2_with fail;go_meet
     case rel=>exact⟨rfl,rfl,(zA HC w2 (Below.lr aK)).1,(zA HC w2 (Below.lr aK)).2⟩
   case rest=>
    obtain⟨rfl,rfl,dG,qy⟩:=hcut;have eA:=zC dG;have te:=dG.sz;clear dG q0 q1 q2 q3 q4 q5 q6 q7 q8 q9 r0 r1 r2 x0 uE HC Jw BY
    cases hx:vL (rs[ms[k].1.num].bs.map (·.1)) ms[k].1.ts 0 with
    | none=>
     rw[hx] at aC;clear hx;have aO:=zC (zA aC);clear aC;go_wp2_with fail;go_roundg (ms.length-(k+1));exact⟨k+1,by omega,rfl,by go_num,zA eA,zA aO⟩;omega
    | some i=>
     have hi4:i<4:=(by have:=zwi hx;omega);rw[hx] at aC;clear hx;have Cc:i=0\/i=1\/i=2\/i=3:=(by omega);have y6:=(zB qy 6).1;have y7:=(zB qy 7).1;have y8:=(zB qy 8).1;have y9:=(zB qy 9).1;have hF:jR (rs.map (·.R)) (ms.map (·.1))=(ms[k].1.pl i:Int):=zA aC;have aO:=zC hF;clear aC hF qy;rcases Cc with rfl | rfl | rfl | rfl
     all_goals
      go_wp2_with fail
      go_ret2
      refine⟨?_,(zA eA).below⟩;rw[zA aO];unfold zi4;rw[if_pos (by omega)];simp
  ·have aC:=zC (show jR (rs.map (·.R)) (ms.map (·.1))=-1 by rw[zA HF,List.drop_of_length_le (by simp;omega)];rfl);have HI:=zC hinv;clear HF hinv;go_wp2_with fail
   go_ret2
   exact⟨by rw[zA aC];rfl,(zA HI).below⟩
end
section
open Go.RowKit Go.Maps
abbrev zhv:=B8 × B8
def tgt (E:List zhv)(p:B8):List B8:=(E.filter λ e=>e.1.toList==p.toList).map (·.2)
def pO (l:List B8):V8:=l.map Value.string
def zgq (pd:B8)(l:List vK):List zhv:=l.map λ x=>(pd,x.pd)
def jA (rs:List vY):List zhv:=rs.flatMap λ R=>zgq R.pd R.body
theorem z8z (E:List zhv)(p q:B8):tgt (E++[(p,q)]) p=tgt E p++[q]:=by
 simp[tgt]
variable {p q:B8} {E:List zhv}
theorem zs7 {x:B8}(h:x≠p):tgt (E++[(p,q)]) x=tgt E x:=by
 have h1:¬ p.toList=x.toList:=λ e=>h (xO.1 (by simpa using e.symm))
 simp[tgt,h1]
theorem ycg (E:List zhv)(p:B8):(tgt E p).length<=E.length:=by
 simp only[tgt,List.length_map];exact List.length_filter_le _ _
structure Lk (b n:Nat)(E:List zhv)(V:B8->Option Value)(wr:W8):Prop where
 map:dE Tryz.prog 9 wr b n V
 rows:∀ p v,V p=some v->wr.ownsRow (b+1) 9 1 v (tgt E p).length (pO (tgt E p))
 Rk:∀ p,V p=none->tgt E p=[]
 apart:∀ p q v u,V p=some v->V q=some u->p≠q->v.ownBlock=none\/v.ownBlock≠u.ownBlock
variable {wr:W8} {V:B8->Option Value} {b n:Nat}
theorem Lk.below {w1:W8}(h:Lk b n E V wr)(hb:Below wr.heap.size wr w1):Lk b n E V w1:=
 ⟨h.map.block (hb.block _ h.map.lt),λ p v hv=>zJ (h.rows p v hv) hb (λ g e=>((h.rows p v hv).lt g e).2),h.Rk,h.apart⟩
theorem Lk.at_ (h:Lk b n E V wr)(p:B8):wr.ownsRow (b+1) 9 1 ((V p).getD (.slice none 0 0)) (tgt E p).length (pO (tgt E p)):=by
 cases hv:V p with
 | none=>rw[h.Rk p hv];exact World.ownsRow_nil _ _ _ _
 | some v=>exact h.rows p v hv
theorem Lk.put {w5 w6:W8}(h:Lk b n E V wr){v':Value}(hg:wr.grownBy w5 ((V p).getD (.slice none 0 0)).ownBlock)
  (ay:w5.ownsRow (b+1) 9 1 v' ((tgt E p).length+1) (pO (tgt E p)++[.string q])) (Qk:v'.ownBlock=((V p).getD (.slice none 0 0)).ownBlock\/v'.ownBlock=some wr.heap.size)
  (dI:dE Tryz.prog 9 w6 b (n+1) (z0b V p v')) (sN:w5.grownBy w6 (some b)):
  Lk b (n+1) (E++[(p,q)]) (z0b V p v') w6/\zK (b::((V p).getD (.slice none 0 0)).ownBlock.toList) wr w6:=by
 have hu:=h.at_ p;have bF:∀ x v,V x=some v->x≠p->v.ownBlock=none\/v.ownBlock≠((V p).getD (.slice none 0 0)).ownBlock:=λ x v hv hx=>by
  cases hp:V p with
  | none=>cases v.ownBlock <;> simp[Value.ownBlock]
  | some u=>exact h.apart x p v u hv hp hx
 have bc:∀ {v:Value} {m:Nat} {xs:V8},w5.ownsRow (b+1) 9 1 v m xs->w6.ownsRow (b+1) 9 1 v m xs:=λ {v m xs} hv=>zZ hv (λ g e=>sN.block g ((hv.lt g e).2) (by have:=(hv.lt g e).1;simp;omega))
 have bX:∀ x v,V x=some v->x≠p->v.ownBlock=none\/v.ownBlock≠v'.ownBlock:=λ x v hv hx=>by
  rcases Qk with h1 | h1
  ·rw[h1];exact bF x v hv hx
  ·cases nI:v.ownBlock with
   | none=>exact .inl rfl
   | some g=>
    refine .inr (λ e=>?_);rw[h1] at e;injection e with e
    have:=((h.rows x v hv).lt g nI).2;omega
 refine⟨⟨dI,λ x v hv=>?_,λ x hx=>?_,λ x y v u hv mj EL=>?_⟩,?_⟩
 ·by_cases e:x=p
  ·subst e;rw[zbc] at hv;injection hv with hv
   subst hv;rw[z8z];have:=bc ay;simpa[pO] using this
  ·rw[qB e] at hv;rw[zs7 e];exact bc ((h.rows x v hv).kept hg (bF x v hv e))
 ·by_cases e:x=p
  ·subst e;rw[zbc] at hx;cases hx
  ·rw[qB e] at hx;rw[zs7 e];exact h.Rk x hx
 ·by_cases e:x=p
  ·subst e;rw[zbc] at hv;injection hv with hv
   subst hv;have UK:y≠x:=λ e=>EL e.symm
   rw[qB UK] at mj;rcases bX y u mj UK with h1 | h1
   ·cases hb:v'.ownBlock with
    | none=>exact .inl rfl
    | some g=>exact .inr (by rw[h1];simp)
   ·exact .inr (λ e=>h1 e.symm)
  ·rw[qB e] at hv
   by_cases e2:y=p
   ·subst e2;rw[zbc] at mj;injection mj with mj
    subst mj;exact bX x v hv e
   ·rw[qB e2] at mj;exact h.apart x y v u hv mj EL
 ·have hz:=hg.size;have UL:=sN.size;refine⟨sN.os.trans hg.os,sN.tape.trans hg.tape,sN.output.trans hg.output,by omega,λ k hk hn=>?_⟩;rw[sN.block k (by omega) (by simp at hn ⊢;omega),hg.block k hk (λ e=>hn (by simp[<-e]))]
theorem z8t (w1:W8)(o:Obj)(x:B8)(j:Nat)(u:Value)(h:([Value.string x]:V8)[j]?=some u):((w1.alloc o).alloc (Obj.cells #[.string x] 9)).cell? ((⟨w1.heap.size+1,0,none⟩:Addr).add j)=some u:=by
 have e:(⟨w1.heap.size+1,0,none⟩:Addr).add j=⟨w1.heap.size+1,j,none⟩:=by unfold Addr.add;split <;> simp_all
 rw[e,World.cell?_alloc_at _ _ _ _ (by simp)];simpa using h
theorem z44 (x:B8):∀ u∈([Value.string x]:V8),u.oneCell'=true:=by
 intro u hu;simp at hu;subst hu;rfl
def Est (rs:List PR)(k:Nat)(pd:B8)(ls:List (vK × Value))(j:Nat):List zhv:=jA ((rs.map (·.R)).take k)++zgq pd ((ls.map (·.1)).take j)
theorem zk6 (l:List vY)(R:vY):jA (l++[R])=jA l++zgq R.pd R.body:=by simp[jA]
variable {k:Nat} {rs:List PR}
theorem zjd (h:k<rs.length):(rs.map (·.R)).take (k+1)=(rs.map (·.R)).take k++[rs[k].R]:=by
 rw[List.take_succ_eq_append_getElem (by simpa using h)];simp
variable {j:Nat}
theorem zx8 (h:k<rs.length)(he:rs[k].bs.map (·.1)=rs[k].R.body)(hj:rs[k].bs.length<=j):Est rs k rs[k].R.pd rs[k].bs j=jA ((rs.map (·.R)).take (k+1)):=by
 unfold Est;rw[zjd h,zk6,List.take_of_length_le (l:=rs[k].bs.map (·.1)) (by simpa using hj),he]
theorem z60 {pd:B8}{ls:List (vK × Value)}(hj:j<ls.length):Est rs k pd ls (j+1)=Est rs k pd ls j++[(pd,ls[j].1.pd)]:=by
 unfold Est;rw[List.take_succ_eq_append_getElem (by simpa using hj)];simp[zgq]
theorem z26 (w:W8)(base:Nat)(ar:O8)(cr:Nat)(rs:List PR)(h:iq w base (.slice ar rs.length cr) rs)(jk:∀ r∈rs,r.R.pd.size<=800)(cI:∀ r∈rs,r.bs.length<=3)(Dj:rs.length<=30):
  Calls Tryz.prog 119 #[.slice ar rs.length cr] w λ e w'=>e=.returned (.map (some w.heap.size))/\Below w.heap.size w w'/\w.heap.size<w'.heap.size/\∃ V,Lk w.heap.size (jA (rs.map (·.R))).length (jA (rs.map (·.R))) V w':=by
 have nx:=@run_makeMap Tryz.prog;obtain⟨i0,hi,bL,aY,bg⟩:=info_parts zf9;have h0:Lk w.heap.size 0 [] (λ _=>none) (w.alloc (.map #[] 0)):=⟨dE.made _ _ w,λ _ _ hv=>(by cases hv),λ _ _=>rfl,λ _ _ _ _ hv=>(by cases hv)⟩;have b0:Below w.heap.size w (w.alloc (.map #[] 0)):=B9.alloc L9 _;have hE:∀ k,k<=rs.length->(jA ((rs.map (·.R)).take k)).length<=3*k:=by
  intro k
  induction k with
  | zero=>intro _;simp[jA]
  | succ k ih=>
   intro hk;rw[zjd (by omega),zk6];have h1:=ih (by omega);have h2:=cI _ (List.getElem_mem (show k<rs.length by omega));have h3:=(h.each _ (List.getElem_mem (show k<rs.length by omega))).eq;have h4:rs[k].R.body.length=rs[k].bs.length:=(by rw[<-h3];simp);simp only[List.length_append,zgq,List.length_map];omega
 have HE:=zC hE;have HR:=zC h;clear h hE;go_enter Tryz.func119,Tryz.ntmps119;go_wp2_with fail
 go_loopg [12] rs.length (λ gg i wr=>∃ (k:Nat) (V:B8->Option Value),k<=rs.length/\gg=rs.length-k/\i=.int .i64 k/\Below w.heap.size w wr/\w.heap.size<wr.heap.size/\Lk w.heap.size (jA ((rs.map (·.R)).take k)).length (jA ((rs.map (·.R)).take k)) V wr)
 exact⟨0,_,Nat.zero_le _,rfl,rfl,b0,by simp,h0⟩
 case round=>
  clear h0 b0;obtain⟨k,V,hk,eD,rfl,hB,bj,Ap⟩:=hrel
  by_cases aF:k<rs.length
  ·have CN:=(zA HR).below hB;obtain⟨gr,dz,AS,CX,C6,De,C2,nk⟩:=vX zsm CN.row k aF;injection AS with h4 h5 h6
   subst h4 h6;have ax:=CN.each _ (List.getElem_mem aF);have F5:=(zA HR).each _ (List.getElem_mem aF);obtain⟨ah,ch,zn⟩:=zD ax.hd;obtain⟨ab,cb,mu⟩:=zD ax.bo.row;have r0:=nk 0 (by omega);have r1:=nk 1 (by omega);have r2:=nk 2 (by omega);simp only[PR.cells,zn,mu,Nat.add_zero,List.getElem?_cons_zero,List.getElem?_cons_succ] at r0 r1 r2;have bA:=(Below.refl wr.heap.size wr).alloc L9 (.cells #[.string rs[k].R.pd,.slice ah rs[k].R.ts.length ch,.slice ab rs[k].bs.length cb] 123);have Ch:(wr.alloc (.cells #[.string rs[k].R.pd,.slice ah rs[k].R.ts.length ch,.slice ab rs[k].bs.length cb] 123)).heap[wr.heap.size]?=_:=heap_alloc_new wr _;have gz:=hB.trans (bA.mono (by omega));have rW:=Ap.below bA;have iz:=F5.bo;rw[mu] at iz;have I0:=zC iz;have VK:=zC F5.eq;have dK:=cI _ (List.getElem_mem aF);have ft:=jk _ (List.getElem_mem aF);have dF:rs[k].R.pd.size<=maxLen:=(by unfold maxLen;omega);have hlen:=zA HE k hk;have Ti:Lk w.heap.size (Est rs k rs[k].R.pd rs[k].bs 0).length (Est rs k rs[k].R.pd rs[k].bs 0) V (wr.alloc (.cells #[.string rs[k].R.pd,.slice ah rs[k].R.ts.length ch,.slice ab rs[k].bs.length cb] 123)):=by
    have:Est rs k rs[k].R.pd rs[k].bs 0=jA ((rs.map (·.R)).take k):=by simp[Est,zgq]
    rw[this];exact rW
   have Em:(Est rs k rs[k].R.pd rs[k].bs 0).length<=3*k+0:=(by simpa[Est,zgq] using hlen);clear nk ax F5 zn mu rW CN iz Ap bA hlen;generalize ia:wr.heap.size=n1 at *;go_wp2_with fail
   go_loopg [19] rs[k].bs.length (λ gg2 j wj=>∃ (jj:Nat) (V:B8->Option Value),jj<=rs[k].bs.length/\gg2=rs[k].bs.length-jj/\j=.int .i64 jj/\Below w.heap.size w wj/\n1<wj.heap.size/\wj.heap[n1]?=some (.cells #[.string rs[k].R.pd,.slice ah rs[k].R.ts.length ch,.slice ab rs[k].bs.length cb] 123 (0,0))/\Lk w.heap.size (Est rs k rs[k].R.pd rs[k].bs jj).length (Est rs k rs[k].R.pd rs[k].bs jj) V wj/\(Est rs k rs[k].R.pd rs[k].bs jj).length<=3*k+jj)
   exact⟨0,V,Nat.zero_le _,rfl,rfl,gz,by simp[ia],Ch,Ti,Em⟩
   case round=>
    clear Ti Em gz Ch r0 r1 r2 hB;obtain⟨j,V,hj,xj,rfl,hB,te,Ch,hL,hlen⟩:=hrel
    by_cases fp:j<rs[k].bs.length
    ·have eo:=(zA I0).below hB;obtain⟨g,cap,hv,iF,aZ,bO,bQ,hc⟩:=vX zwx eo.row j fp;injection hv with h1 h2 h3
     subst h1 h3;obtain⟨br,dL,fo⟩:=zD (eo.each _ (List.getElem_mem fp));have q0:=hc 0 (by omega);have q1:=hc 1 (by omega);have q2:=hc 2 (by omega);simp only[vK.cells,fo,Nat.add_zero,List.getElem?_cons_zero,List.getElem?_cons_succ] at q0 q1 q2;obtain⟨c0,f0⟩:=zB Ch 0;have bA:=((Below.refl wr.heap.size wr).alloc L9 (.cells #[.bool rs[k].bs[j].1.neg,.string rs[k].bs[j].1.pd,.slice br rs[k].bs[j].1.ts.length dL] 183)).alloc (by simp) (.cells #[.string rs[k].bs[j].1.pd] 9);have SM:=(Below.refl wr.heap.size wr).alloc L9 (.cells #[.bool rs[k].bs[j].1.neg,.string rs[k].bs[j].1.pd,.slice br rs[k].bs[j].1.ts.length dL] 183);have dI:=(hL.below SM).map;have Ps:=hL.below bA;have hu:=Ps.at_ rs[k].R.pd;obtain⟨au,cu,Ef⟩:=zD hu;have rk:=ycg (Est rs k rs[k].R.pd rs[k].bs j) rs[k].R.pd;have mj:=hu;rw[Ef] at mj;have Hs:=zC Ps;have Ff:=zC (z60 (rs:=rs) (k:=k) (pd:=rs[k].R.pd) fp);have AE:=(bA.block n1 te).trans Ch;have MH:=zC AE;have yh:=zC bA;have WK:=zC (yH mj (e:=123) (by decide));have SA:=zC (λ g e=>(mj.lt g e).1);clear hc fo hL Ps hu Ch AE bA SM eo;go_wp2_with (first | (at_lookup;refine zfw _ rfl _ _ 224 rfl 9 33 Tryz.underlying9 Tryz.underlying224 (Tryz.zeroValue33 _) w.heap.size (Est rs k rs[k].R.pd rs[k].bs j).length V rfl dI rs[k].R.pd rfl dF _ Ef ?_) | (at_builtin;refine wpList_append_own_at _ rfl _ _ 33 rfl (w.heap.size+1) 9 i0 _ 1 16 Tryz.underlying33 hi bL aY bg rfl (by decide) _ _ _ rfl mj ⟨wr.heap.size+1,0,none⟩ 1 1 [.string rs[k].bs[j].1.pd] rfl rfl (z8t wr _ _) (z44 _) (by unfold maxLen;omega) (by omega) (by simp;omega) ?_));intro v5 w5 aq aU hnil5 hloc5;obtain⟨a5,eH,rfl⟩:=zD aq;rw[<-Ef] at aU hloc5;have LQ:=aU.size;have Av:dE Tryz.prog 9 w5 w.heap.size (Est rs k rs[k].R.pd rs[k].bs j).length V:=(zA Hs).map.block (aU.block _ (zA Hs).map.lt (λ e=>by rw[Ef] at e;have:=zA SA _ e.symm;omega));have CD:=zC aq;have Fj:=zC aU;have Cs:=zC hloc5;clear aq aU hnil5 hloc5 dI mj
     go_wp2_with (at_mapUpdate;refine zox _ rfl _ _ _ 224 rfl 9 33 Tryz.underlying9 Tryz.underlying224 w.heap.size (Est rs k rs[k].R.pd rs[k].bs j).length V rfl Av (by unfold maxLen;omega) rs[k].R.pd _ (by rfl) (by rfl) dF ?_);intro w6 Ep sN;obtain⟨Tj,J6⟩:=(zA Hs).put (q:=rs[k].bs[j].1.pd) (zA Fj) (zA CD) (by simpa using zA Cs) Ep sN;rw[Ef] at J6
     have uz:=yK (zA MH) J6 (λ x hx=>by
      rcases List.mem_cons.1 hx with rfl | hx
      ·exact .inl (by omega)
      ·exact .inr (zA WK x hx))
     have mr:Below w.heap.size w w6:=zY (hB.trans ((zA yh).mono (by omega))) J6 (by simp;omega) (λ x hx=>by
      rcases List.mem_cons.1 hx with rfl | hx
      ·omega
      ·have:=zA SA x (by simpa using hx);omega)
     have UL:=J6.size;simp at UL;have V7:=zC Tj;have Wz:=zC uz;clear Tj J6 uz Ep sN Av Fj CD Cs;go_wp2_with fail;go_roundg (rs[k].bs.length-(j+1));exact⟨j+1,_,by omega,rfl,by go_num,mr,by omega,zA Wz,by rw[zA Ff,List.length_append];exact zA V7,by rw[zA Ff];simp;omega⟩;omega
    ·have wW:=zC (zx8 aF (zA VK) (j:=j) (by omega));have HL:=zC hL;clear hL Ch;go_wp2_with fail;go_roundg (rs.length-(k+1));exact⟨k+1,V,by omega,rfl,by go_num,hB,by omega,by rw[<-zA wW];exact zA HL⟩;omega
  ·have e:(rs.map (·.R)).take k=rs.map (·.R):=List.take_of_length_le (by simp;omega);rw[e] at Ap;have HL:=zC Ap;clear Ap e;go_wp2_with fail;go_ret;exact⟨rfl,hB,bj,V,zA HL⟩
end
end Go.Proofs.YtldkpahaocjdpaaGreat
