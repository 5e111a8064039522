/-
  The program's firstLoose and unbound: the first variable that its rule does not bind.
-/
import Derived.Test.YtldkpahaocjdpaaGreatD13
import Derived.Maps.AppendAt
set_option maxHeartbeats 16000000
set_option maxRecDepth 1000000
namespace Go.Proofs.YtldkpahaocjdpaaGreat
section
open Go.RowKit
def xH (ls:List yX):List (Bool × B8)->Nat->Option Nat
 | [],_=>none
 | t::r,k=>if t.1&&!zeo t.2 ls then some k else xH ls r (k+1)
def z85 (x:Option Nat):Ending:=.returned (.tuple #[.int .i64 (x.getD 0),.bool x.isSome])
variable {k:Nat}
theorem zrn {ls:List yX}{ts:List (Bool × B8)}(h:k<ts.length):xH ls (ts.drop k) k=if ts[k].1&&!zeo ts[k].2 ls then some k else xH ls (ts.drop (k+1)) (k+1):=by
 rw[List.drop_eq_getElem_cons h,xH]
theorem zt1 (w:W8)(base:Nat)(pd eN:B8)(a:O8)(c:Nat)(ts:List (Bool × B8))(ah:O8)(nh ch:Nat)(ab:O8)(cb:Nat)(ls:List (yX × Value))(ht:w.ownsRow base 191 1 (.slice a ts.length c) ts.length (yP ts))(h:aK w base (.slice ab ls.length cb) ls)(hl:ls.length<=1000):
  Calls Tryz.prog 118 #[.agg #[.string pd,.slice a ts.length c],.agg #[.string eN,.slice ah nh ch,.slice ab ls.length cb]] w λ e w'=>e=z85 (xH (ls.map (·.1)) ts 0)/\Below w.heap.size w w':=by
 have gl:=vV ht;unfold maxLen at gl;have b1:=((Below.refl w.heap.size w).alloc L9 (.cells #[.string pd,.slice a ts.length c] 79)).alloc (by simp) (.cells #[.string eN,.slice ah nh ch,.slice ab ls.length cb] 123);have ee:((w.alloc (.cells #[.string pd,.slice a ts.length c] 79)).alloc (.cells #[.string eN,.slice ah nh ch,.slice ab ls.length cb] 123)).heap[w.heap.size+1]?=some (.cells #[.string eN,.slice ah nh ch,.slice ab ls.length cb] 123 (0,0)):=by
  have:=heap_alloc_new (w.alloc (.cells #[.string pd,.slice a ts.length c] 79)) (.cells #[.string eN,.slice ah nh ch,.slice ab ls.length cb] 123);rw[World.size_alloc] at this;exact this
 have h1:=h.below b1;have iN:=zG ht b1 (λ g e=>(ht.lt g e).2);clear h ht;have Fi:=zdm;have ya:=zje;have LU:=zck;go_enter Tryz.func118,Tryz.ntmps118;go_wp2_with fail
 go_loopg [13] ts.length (λ gg i wr=>∃ k:Nat,k<=ts.length/\gg=ts.length-k/\i=.int .i64 k/\aK wr base (.slice ab ls.length cb) ls/\wr.ownsRow base 191 1 (.slice a ts.length c) ts.length (yP ts)/\Below w.heap.size w wr/\w.heap.size+1<wr.heap.size/\wr.heap[w.heap.size+1]?=some (.cells #[.string eN,.slice ah nh ch,.slice ab ls.length cb] 123 (0,0))/\xH (ls.map (·.1)) ts 0=xH (ls.map (·.1)) (ts.drop k) k)
 exact⟨0,Nat.zero_le _,rfl,rfl,h1,iN,b1,by simp,ee,rfl⟩
 case round=>
  clear h1 iN b1 ee;obtain⟨k,hk,fM,rfl,hL,hT,hB,hz,hr,bj⟩:=hrel;have HF:=zC bj;clear bj
  by_cases aN:k<ts.length
  ·obtain⟨g,cap,hv,iC,dp,dG,dx,hc⟩:=zlo hT k aN;injection hv with h1 h2 h3
   subst h1 h3;have bK:=zC ((zA HF).trans (zrn aN));clear HF
   cases hb:ts[k].1 with
   | true=>
    rw[hb] at hc;unfold zdg at hc;rw[if_pos rfl] at hc;obtain⟨r0,f0⟩:=zB hr 0;obtain⟨r1,f1⟩:=zB hr 1;obtain⟨r2,f2⟩:=zB hr 2;have HR:=zC hr;clear hr;go_wp2_with fail;refine (z0k wr base eN ts[k].2 ah nh ch ab cb ls hL hl).mono ?_;rintro e w2 ⟨rfl,aU⟩;have bZ:=aU.size
    cases hq:zeo ts[k].2 (ls.map (·.1)) with
    | false=>
     have dE:=zC (show xH (ls.map (·.1)) ts 0=some k by rw[zA bK,hb,hq];rfl);clear bK hb hq r0 r1 r2 f0 f1 f2;go_wp2_with fail
     go_ret2
     exact⟨by rw[zA dE];rfl,hB.trans (aU.mono (by omega))⟩
    | true=>
     have dE:=zC (show xH (ls.map (·.1)) ts 0=xH (ls.map (·.1)) (ts.drop (k+1)) (k+1) by rw[zA bK,hb,hq];rfl);have HL:=zC (hL.below aU);have HT:=zC (zG hT aU (λ g e=>(hT.lt g e).2));have lR:=zC ((aU.block _ hz).trans (zA HR));clear bK hb hq r0 r1 r2 f0 f1 f2 hL hT HR;go_wp2_with fail;go_roundg (ts.length-(k+1));exact⟨k+1,by omega,rfl,by go_num,zA HL,zA HT,hB.trans (aU.mono (by omega)),by omega,zA lR,zA dE⟩;omega
   | false=>
    rw[hb] at hc;unfold zdg at hc;rw[if_neg (by decide)] at hc;have dE:=zC (show xH (ls.map (·.1)) ts 0=xH (ls.map (·.1)) (ts.drop (k+1)) (k+1) by rw[zA bK,hb];rfl);have HL:=zC hL;have HT:=zC hT;have lR:=zC hr;clear bK hb hL hT hr;go_wp2_with fail;go_roundg (ts.length-(k+1));exact⟨k+1,by omega,rfl,by go_num,zA HL,zA HT,hB,hz,zA lR,zA dE⟩;omega
  ·have bK:=zC (show xH (ls.map (·.1)) ts 0=none by rw[zA HF,List.drop_of_length_le (by omega)];rfl);clear HF hL hT hr;go_wp2_with fail
   go_ret2
   exact⟨by rw[zA bK];rfl,hB⟩
def zep (rs:List yG)(n:Nat):List yX:=match rs[n]? with | some R=>R.body | none=>[]
def vI (rs:List yG):List yU->Int
 | []=>-1
 | M::r=>match xH (zep rs M.num) M.ts 0 with | some i=>(M.pl i:Int) | none=>vI rs r
variable {ms:List (yU × Value)}
theorem zp8 {rs:List yG}(h:k<ms.length):vI rs ((ms.map (·.1)).drop k)=match xH (zep rs ms[k].1.num) ms[k].1.ts 0 with | some i=>(ms[k].1.pl i:Int) | none=>vI rs ((ms.map (·.1)).drop (k+1)):=by
 rw[List.drop_eq_getElem_cons (by simpa using h),vI];simp
theorem zv7 {ls:List yX}:∀ {ts:List (Bool × B8)} {k i:Nat},xH ls ts k=some i->i<k+ts.length
 | [],k,i,h=>by simp[xH] at h
 | t::r,k,i,h=>by
  unfold xH at h
  split at h
  ·injection h with h;subst h;simp
  ·have:=zv7 h;simp;omega
theorem bL.below {w w':W8}{base:Nat}{r:PR}(h:bL w base r)(hb:Below w.heap.size w w'):bL w' base r:=
 ⟨zG h.hd hb (λ g e=>(h.hd.lt g e).2),h.bo.below hb,h.eq⟩
theorem aD.below {w w':W8}{base:Nat}{rv:Value}{rs:List PR}(h:aD w base rv rs)(hb:Below w.heap.size w w'):aD w' base rv rs:=
 ⟨zG h.row hb (λ g e=>(h.row.lt g e).2),λ r hr=>(h.each r hr).below hb⟩
theorem znq (r:PR):r.cells.length=3:=rfl
structure ga (w:W8)(base:Nat)(rv mv:Value)(rs:List PR)(ms:List (yU × Value))(wr:W8):Prop where
 rules:aD wr base rv rs
 eh:aC wr base mv ms
 box:wr.heap[w.heap.size]?=some (.cells #[rv,mv] 100 (0,0))
 below:Below w.heap.size w wr
 sz:w.heap.size<wr.heap.size
variable {rs:List PR} {rv mv:Value} {base:Nat} {w:W8}
theorem ga.next {wr w1:W8}(h:ga w base rv mv rs ms wr)(hb:Below wr.heap.size wr w1):ga w base rv mv rs ms w1:=
 have hs:=h.sz;have js:=hb.size
 ⟨h.rules.below hb,h.eh.below hb,(hb.block _ hs).trans h.box,h.below.trans (hb.mono (by omega)),by omega⟩
theorem ga.start (h:aD w base rv rs)(h':aC w base mv ms):ga w base rv mv rs ms (w.alloc (.cells #[rv,mv] 100)):=
 have b1:=(Below.refl w.heap.size w).alloc L9 (.cells #[rv,mv] 100)
 ⟨h.below b1,h'.below b1,heap_alloc_new w _,b1,by simp⟩
end
section
open Go.RowKit
theorem aK.drew {w:W8}{base:Nat}{bv:Value}{ls:List (yX × Value)}(h:aK w base bv ls):aK w.drew base bv ls:=⟨h.row.drew,λ x hx=>(h.each x hx).drew⟩
theorem zuz (w:W8)(base:Nat)(ar:O8)(cr:Nat)(rs:List PR)(am:O8)(cm:Nat)(ms:List (yU × Value))(h:aD w base (.slice ar rs.length cr) rs)(h':aC w base (.slice am ms.length cm) ms)(hl:ms.length<=1000)(hn:∀ x∈ms,x.1.num<rs.length/\x.1.ts.length<=4)(cE:∀ r∈rs,r.bs.length<=1000):
  Calls Tryz.prog 76 #[.agg #[.slice ar rs.length cr,.slice am ms.length cm]] w λ e w'=>e=zij (vI (rs.map (·.R)) (ms.map (·.1)))/\Below w.heap.size w w':=by
 have h0:=ga.start h h';have Dk:=vV h.row;unfold maxLen at Dk;clear h h';go_enter Tryz.func76,Tryz.ntmps76;go_wp2_with fail
 go_loopg [11] ms.length (λ gg i wr=>∃ k:Nat,k<=ms.length/\gg=ms.length-k/\i=.int .i64 k/\ga w base (.slice ar rs.length cr) (.slice am ms.length cm) rs ms wr/\vI (rs.map (·.R)) (ms.map (·.1))=vI (rs.map (·.R)) ((ms.map (·.1)).drop k))
 exact⟨0,Nat.zero_le _,rfl,rfl,h0,rfl⟩
 case round=>
  clear h0;obtain⟨k,hk,fM,rfl,hinv,bj⟩:=hrel;have HF:=zC bj;clear bj
  by_cases aN:k<ms.length
  ·have bK:=zC ((zA HF).trans (zp8 aN));obtain⟨g,cap,hv,iC,dp,dG,dx,hc⟩:=vL zt5 hinv.eh.row k aN;injection hv with h1 h2 h3
   subst h1 h3;obtain⟨ag,fJ,gU⟩:=zE (hinv.eh.each _ (List.getElem_mem aN));have q0:=hc 0 (by omega);have q1:=hc 1 (by omega);have q2:=hc 2 (by omega);have q3:=hc 3 (by omega);have q4:=hc 4 (by omega);have q5:=hc 5 (by omega);have q6:=hc 6 (by omega);have q7:=hc 7 (by omega);have q8:=hc 8 (by omega);have q9:=hc 9 (by omega);simp only[yU.cells,gU,Nat.add_zero,List.getElem?_cons_zero,List.getElem?_cons_succ] at q0 q1 q2 q3 q4 q5 q6 q7 q8 q9;obtain⟨je,jh⟩:=hn _ (List.getElem_mem aN);obtain⟨gr,oJ,nM,oS,o5,pn,oY,fL⟩:=vL znq hinv.rules.row ms[k].1.num je;injection nM with h4 h5 h6
   subst h4 h6;have ak:=hinv.rules.each _ (List.getElem_mem je);obtain⟨ah,ch,nz⟩:=zE ak.hd;obtain⟨ab,cb,iB⟩:=zE ak.bo.row;have r0:=fL 0 (by omega);have r1:=fL 1 (by omega);have r2:=fL 2 (by omega);simp only[PR.cells,nz,iB,Nat.add_zero,List.getElem?_cons_zero,List.getElem?_cons_succ] at r0 r1 r2;obtain⟨x0,ou⟩:=zB hinv.box 0;have bA:=(Below.refl wr.heap.size wr).alloc L9 (.cells #[.int .i64 ms[k].1.num,.bool ms[k].1.neg,.string ms[k].1.pd,.slice ag ms[k].1.ts.length fJ,.int .i64 ms[k].1.start,.int .i64 ms[k].1.place,.int .i64 (ms[k].1.pl 0),.int .i64 (ms[k].1.pl 1),.int .i64 (ms[k].1.pl 2),.int .i64 (ms[k].1.pl 3)] 221);have hI:=hinv.next bA;have bE:(wr.alloc (.cells #[.int .i64 ms[k].1.num,.bool ms[k].1.neg,.string ms[k].1.pd,.slice ag ms[k].1.ts.length fJ,.int .i64 ms[k].1.start,.int .i64 ms[k].1.place,.int .i64 (ms[k].1.pl 0),.int .i64 (ms[k].1.pl 1),.int .i64 (ms[k].1.pl 2),.int .i64 (ms[k].1.pl 3)] 221)).heap[wr.heap.size]?=_:=heap_alloc_new wr _;have jb:zep (rs.map (·.R)) ms[k].1.num=rs[ms[k].1.num].bs.map (·.1):=by
    unfold zep;rw[List.getElem?_map,List.getElem?_eq_getElem je];exact ak.eq.symm
   rw[jb] at bK;have sc:=hI.eh.each _ (List.getElem_mem aN);rw[gU] at sc;have Ca:=(hI.rules.each _ (List.getElem_mem je)).bo;rw[iB] at Ca;have HC:=zC (λ (W:W8) (hW:Below (wr.alloc (.cells #[.int .i64 ms[k].1.num,.bool ms[k].1.neg,.string ms[k].1.pd,.slice ag ms[k].1.ts.length fJ,.int .i64 ms[k].1.start,.int .i64 ms[k].1.place,.int .i64 (ms[k].1.pl 0),.int .i64 (ms[k].1.pl 1),.int .i64 (ms[k].1.pl 2),.int .i64 (ms[k].1.pl 3)] 221)).heap.size (wr.alloc (.cells #[.int .i64 ms[k].1.num,.bool ms[k].1.neg,.string ms[k].1.pd,.slice ag ms[k].1.ts.length fJ,.int .i64 ms[k].1.start,.int .i64 ms[k].1.place,.int .i64 (ms[k].1.pl 0),.int .i64 (ms[k].1.pl 1),.int .i64 (ms[k].1.pl 2),.int .i64 (ms[k].1.pl 3)] 221)) W)=>(And.intro (hI.next hW) ((hW.block wr.heap.size (by simp)).trans bE)));have ja:=cE _ (List.getElem_mem je);have xn:=zC sc.drew;have p8:=zC Ca.drew;have hsz:=hinv.sz;clear hc fL HF hinv hI gU ak nz iB jb bE sc Ca bA;go_wp2_with fail;go_upto_region 4 with fail
   go_cut [6,7] (λ v6 v7 wc=>v6=.int .i64 ((xH (rs[ms[k].1.num].bs.map (·.1)) ms[k].1.ts 0).getD 0)/\v7=.bool (xH (rs[ms[k].1.num].bs.map (·.1)) ms[k].1.ts 0).isSome/\ga w base (.slice (some ⟨gr,0,none⟩) rs.length cr) (.slice (some ⟨g,0,none⟩) ms.length cm) rs ms wc/\wc.heap[wr.heap.size]?=some (.cells #[.int .i64 ms[k].1.num,.bool ms[k].1.neg,.string ms[k].1.pd,.slice ag ms[k].1.ts.length fJ,.int .i64 ms[k].1.start,.int .i64 ms[k].1.place,.int .i64 (ms[k].1.pl 0),.int .i64 (ms[k].1.pl 1),.int .i64 (ms[k].1.pl 2),.int .i64 (ms[k].1.pl 3)] 221 (0,0)))
   case first=>
    go_region_with (go_at_call 118;refine (zt1 _ base ms[k].1.pd rs[ms[k].1.num].R.pd ag fJ ms[k].1.ts ah rs[ms[k].1.num].R.ts.length ch ab cb rs[ms[k].1.num].bs (zA xn) (zA p8) ja).mono ?_;rintro e w2 ⟨he,aU⟩;unfold z85 at he;subst he)
    all_goals
     go_wp2_with fail;go_meet
     case rel=>exact⟨rfl,rfl,(zA HC w2 (Below.gR aU)).1,(zA HC w2 (Below.gR aU)).2⟩
   case rest=>
    obtain⟨rfl,rfl,dw,kY⟩:=hcut;have fG:=zC dw;have nK:=dw.sz;clear dw q0 q1 q2 q3 q4 q5 q6 q7 q8 q9 r0 r1 r2 x0 ou HC xn p8
    cases hx:xH (rs[ms[k].1.num].bs.map (·.1)) ms[k].1.ts 0 with
    | none=>
     rw[hx] at bK;clear hx;have dE:=zC (zA bK);clear bK;go_wp2_with fail;go_roundg (ms.length-(k+1));exact⟨k+1,by omega,rfl,by go_num,zA fG,zA dE⟩;omega
    | some i=>
     have hi4:i<4:=(by have:=zv7 hx;omega);rw[hx] at bK;clear hx;have LD:i=0\/i=1\/i=2\/i=3:=(by omega);have y6:=(zB kY 6).1;have y7:=(zB kY 7).1;have y8:=(zB kY 8).1;have y9:=(zB kY 9).1;have hF:vI (rs.map (·.R)) (ms.map (·.1))=(ms[k].1.pl i:Int):=zA bK;have dE:=zC hF;clear bK hF kY;rcases LD with rfl | rfl | rfl | rfl
     all_goals
      go_wp2_with fail
      go_ret2
      refine⟨?_,(zA fG).below⟩;rw[zA dE];unfold zij;rw[if_pos (by omega)];simp
  ·have bK:=zC (show vI (rs.map (·.R)) (ms.map (·.1))=-1 by rw[zA HF,List.drop_of_length_le (by simp;omega)];rfl);have HI:=zC hinv;clear HF hinv;go_wp2_with fail
   go_ret2
   exact⟨by rw[zA bK];rfl,(zA HI).below⟩
end
section
open Go.RowKit Go.Maps
abbrev zha:=B8 × B8
def tgt (E:List zha)(p:B8):List B8:=(E.filter λ e=>e.1.toList==p.toList).map (·.2)
def dI (l:List B8):V8:=l.map Value.string
def zgb (pd:B8)(l:List yX):List zha:=l.map λ x=>(pd,x.pd)
def xS (rs:List yG):List zha:=rs.flatMap λ R=>zgb R.pd R.body
theorem z8b (E:List zha)(p q:B8):tgt (E++[(p,q)]) p=tgt E p++[q]:=by
 simp[tgt]
variable {p q:B8} {E:List zha}
theorem zs0 {x:B8}(h:x≠p):tgt (E++[(p,q)]) x=tgt E x:=by
 have h1:¬ p.toList=x.toList:=λ e=>h (zU.1 (by simpa using e.symm))
 simp[tgt,h1]
theorem ybn (E:List zha)(p:B8):(tgt E p).length<=E.length:=by
 simp only[tgt,List.length_map];exact List.length_filter_le _ _
structure Lk (b n:Nat)(E:List zha)(V:B8->Option Value)(wr:W8):Prop where
 map:qS Tryz.prog 9 wr b n V
 rows:∀ p v,V p=some v->wr.ownsRow (b+1) 9 1 v (tgt E p).length (dI (tgt E p))
 DK:∀ p,V p=none->tgt E p=[]
 apart:∀ p q v u,V p=some v->V q=some u->p≠q->v.ownBlock=none\/v.ownBlock≠u.ownBlock
variable {wr:W8} {V:B8->Option Value} {b n:Nat}
theorem Lk.below {w1:W8}(h:Lk b n E V wr)(hb:Below wr.heap.size wr w1):Lk b n E V w1:=
 ⟨h.map.block (hb.block _ h.map.lt),λ p v hv=>zG (h.rows p v hv) hb (λ g e=>((h.rows p v hv).lt g e).2),h.DK,h.apart⟩
theorem Lk.at_ (h:Lk b n E V wr)(p:B8):wr.ownsRow (b+1) 9 1 ((V p).getD (.slice none 0 0)) (tgt E p).length (dI (tgt E p)):=by
 cases hv:V p with
 | none=>rw[h.DK p hv];exact World.ownsRow_nil _ _ _ _
 | some v=>exact h.rows p v hv
theorem Lk.put {w5 w6:W8}(h:Lk b n E V wr){v':Value}(hg:wr.grownBy w5 ((V p).getD (.slice none 0 0)).ownBlock)
  (aI:w5.ownsRow (b+1) 9 1 v' ((tgt E p).length+1) (dI (tgt E p)++[.string q])) (CT:v'.ownBlock=((V p).getD (.slice none 0 0)).ownBlock\/v'.ownBlock=some wr.heap.size)
  (cA:qS Tryz.prog 9 w6 b (n+1) (zzi V p v')) (lF:w5.grownBy w6 (some b)):
  Lk b (n+1) (E++[(p,q)]) (zzi V p v') w6/\yC (b::((V p).getD (.slice none 0 0)).ownBlock.toList) wr w6:=by
 have hu:=h.at_ p;have bG:∀ x v,V x=some v->x≠p->v.ownBlock=none\/v.ownBlock≠((V p).getD (.slice none 0 0)).ownBlock:=λ x v hv hx=>by
  cases hp:V p with
  | none=>cases v.ownBlock <;> simp[Value.ownBlock]
  | some u=>exact h.apart x p v u hv hp hx
 have aX:∀ {v:Value} {m:Nat} {xs:V8},w5.ownsRow (b+1) 9 1 v m xs->w6.ownsRow (b+1) 9 1 v m xs:=λ {v m xs} hv=>zP hv (λ g e=>lF.block g ((hv.lt g e).2) (by have:=(hv.lt g e).1;simp;omega))
 have eQ:∀ x v,V x=some v->x≠p->v.ownBlock=none\/v.ownBlock≠v'.ownBlock:=λ x v hv hx=>by
  rcases CT with h1 | h1
  ·rw[h1];exact bG x v hv hx
  ·cases hvb:v.ownBlock with
   | none=>exact .inl rfl
   | some g=>
    refine .inr (λ e=>?_);rw[h1] at e;injection e with e
    have:=((h.rows x v hv).lt g hvb).2;omega
 refine⟨⟨cA,λ x v hv=>?_,λ x hx=>?_,λ x y v u hv cC km=>?_⟩,?_⟩
 ·by_cases e:x=p
  ·subst e;rw[zal] at hv;injection hv with hv
   subst hv;rw[z8b];have:=aX aI;simpa[dI] using this
  ·rw[jR e] at hv;rw[zs0 e];exact aX ((h.rows x v hv).kept hg (bG x v hv e))
 ·by_cases e:x=p
  ·subst e;rw[zal] at hx;cases hx
  ·rw[jR e] at hx;rw[zs0 e];exact h.DK x hx
 ·by_cases e:x=p
  ·subst e;rw[zal] at hv;injection hv with hv
   subst hv;have Gm:y≠x:=λ e=>km e.symm
   rw[jR Gm] at cC;rcases eQ y u cC Gm with h1 | h1
   ·cases hb:v'.ownBlock with
    | none=>exact .inl rfl
    | some g=>exact .inr (by rw[h1];simp)
   ·exact .inr (λ e=>h1 e.symm)
  ·rw[jR e] at hv
   by_cases e2:y=p
   ·subst e2;rw[zal] at cC;injection cC with cC
    subst cC;exact eQ x v hv e
   ·rw[jR e2] at cC;exact h.apart x y v u hv cC km
 ·have hz:=hg.size;have Gn:=lF.size;refine⟨lF.os.trans hg.os,lF.tape.trans hg.tape,lF.output.trans hg.output,by omega,λ k hk hn=>?_⟩;rw[lF.block k (by omega) (by simp at hn ⊢;omega),hg.block k hk (λ e=>hn (by simp[<-e]))]
theorem z7x (w1:W8)(o:Obj)(x:B8)(j:Nat)(u:Value)(h:([Value.string x]:V8)[j]?=some u):((w1.alloc o).alloc (Obj.cells #[.string x] 9)).cell? ((⟨w1.heap.size+1,0,none⟩:Addr).add j)=some u:=by
 have e:(⟨w1.heap.size+1,0,none⟩:Addr).add j=⟨w1.heap.size+1,j,none⟩:=by unfold Addr.add;split <;> simp_all
 rw[e,World.cell?_alloc_at _ _ _ _ (by simp)];simpa using h
theorem zuu (x:B8):∀ u∈([Value.string x]:V8),u.oneCell'=true:=by
 intro u hu;simp at hu;subst hu;rfl
def Est (rs:List PR)(k:Nat)(pd:B8)(ls:List (yX × Value))(j:Nat):List zha:=xS ((rs.map (·.R)).take k)++zgb pd ((ls.map (·.1)).take j)
theorem zkz (l:List yG)(R:yG):xS (l++[R])=xS l++zgb R.pd R.body:=by simp[xS]
variable {k:Nat} {rs:List PR}
theorem zi2 (h:k<rs.length):(rs.map (·.R)).take (k+1)=(rs.map (·.R)).take k++[rs[k].R]:=by
 rw[List.take_succ_eq_append_getElem (by simpa using h)];simp
variable {j:Nat}
theorem zxo (h:k<rs.length)(he:rs[k].bs.map (·.1)=rs[k].R.body)(hj:rs[k].bs.length<=j):Est rs k rs[k].R.pd rs[k].bs j=xS ((rs.map (·.R)).take (k+1)):=by
 unfold Est;rw[zi2 h,zkz,List.take_of_length_le (l:=rs[k].bs.map (·.1)) (by simpa using hj),he]
theorem z56 {pd:B8}{ls:List (yX × Value)}(hj:j<ls.length):Est rs k pd ls (j+1)=Est rs k pd ls j++[(pd,ls[j].1.pd)]:=by
 unfold Est;rw[List.take_succ_eq_append_getElem (by simpa using hj)];simp[zgb]
theorem z1u (w:W8)(base:Nat)(ar:O8)(cr:Nat)(rs:List PR)(h:aD w base (.slice ar rs.length cr) rs)(eN:∀ r∈rs,r.R.pd.size<=800)(cE:∀ r∈rs,r.bs.length<=3)(rh:rs.length<=30):
  Calls Tryz.prog 119 #[.slice ar rs.length cr] w λ e w'=>e=.returned (.map (some w.heap.size))/\Below w.heap.size w w'/\w.heap.size<w'.heap.size/\∃ V,Lk w.heap.size (xS (rs.map (·.R))).length (xS (rs.map (·.R))) V w':=by
 have bD:=@run_makeMap Tryz.prog;obtain⟨i0,hi,dK,cB,bZ⟩:=info_parts zbq;have h0:Lk w.heap.size 0 [] (λ _=>none) (w.alloc (.map #[] 0)):=⟨qS.made _ _ w,λ _ _ hv=>(by cases hv),λ _ _=>rfl,λ _ _ _ _ hv=>(by cases hv)⟩;have b0:Below w.heap.size w (w.alloc (.map #[] 0)):=B9.alloc L9 _;have hE:∀ k,k<=rs.length->(xS ((rs.map (·.R)).take k)).length<=3*k:=by
  intro k
  induction k with
  | zero=>intro _;simp[xS]
  | succ k ih=>
   intro hk;rw[zi2 (by omega),zkz];have h1:=ih (by omega);have h2:=cE _ (List.getElem_mem (show k<rs.length by omega));have h3:=(h.each _ (List.getElem_mem (show k<rs.length by omega))).eq;have h4:rs[k].R.body.length=rs[k].bs.length:=(by rw[<-h3];simp);simp only[List.length_append,zgb,List.length_map];omega
 have HE:=zC hE;have HR:=zC h;clear h hE;go_enter Tryz.func119,Tryz.ntmps119;go_wp2_with fail
 go_loopg [12] rs.length (λ gg i wr=>∃ (k:Nat) (V:B8->Option Value),k<=rs.length/\gg=rs.length-k/\i=.int .i64 k/\Below w.heap.size w wr/\w.heap.size<wr.heap.size/\Lk w.heap.size (xS ((rs.map (·.R)).take k)).length (xS ((rs.map (·.R)).take k)) V wr)
 exact⟨0,_,Nat.zero_le _,rfl,rfl,b0,by simp,h0⟩
 case round=>
  clear h0 b0;obtain⟨k,V,hk,fM,rfl,hB,hsz,ph⟩:=hrel
  by_cases aN:k<rs.length
  ·have jw:=(zA HR).below hB;obtain⟨gr,oJ,nM,oS,o5,pn,oY,fL⟩:=vL znq jw.row k aN;injection nM with h4 h5 h6
   subst h4 h6;have ak:=jw.each _ (List.getElem_mem aN);have uu:=(zA HR).each _ (List.getElem_mem aN);obtain⟨ah,ch,nz⟩:=zE ak.hd;obtain⟨ab,cb,iB⟩:=zE ak.bo.row;have r0:=fL 0 (by omega);have r1:=fL 1 (by omega);have r2:=fL 2 (by omega);simp only[PR.cells,nz,iB,Nat.add_zero,List.getElem?_cons_zero,List.getElem?_cons_succ] at r0 r1 r2;have bA:=(Below.refl wr.heap.size wr).alloc L9 (.cells #[.string rs[k].R.pd,.slice ah rs[k].R.ts.length ch,.slice ab rs[k].bs.length cb] 123);have ot:(wr.alloc (.cells #[.string rs[k].R.pd,.slice ah rs[k].R.ts.length ch,.slice ab rs[k].bs.length cb] 123)).heap[wr.heap.size]?=_:=heap_alloc_new wr _;have gS:=hB.trans (bA.mono (by omega));have qh:=ph.below bA;have eL:=uu.bo;rw[iB] at eL;have rG:=zC eL;have G7:=zC uu.eq;have ja:=cE _ (List.getElem_mem aN);have mJ:=eN _ (List.getElem_mem aN);have du:rs[k].R.pd.size<=maxLen:=(by unfold maxLen;omega);have hlen:=zA HE k hk;have EY:Lk w.heap.size (Est rs k rs[k].R.pd rs[k].bs 0).length (Est rs k rs[k].R.pd rs[k].bs 0) V (wr.alloc (.cells #[.string rs[k].R.pd,.slice ah rs[k].R.ts.length ch,.slice ab rs[k].bs.length cb] 123)):=by
    have:Est rs k rs[k].R.pd rs[k].bs 0=xS ((rs.map (·.R)).take k):=by simp[Est,zgb]
    rw[this];exact qh
   have su:(Est rs k rs[k].R.pd rs[k].bs 0).length<=3*k+0:=(by simpa[Est,zgb] using hlen);clear fL ak uu nz iB qh jw eL ph bA hlen;generalize lH:wr.heap.size=n1 at *;go_wp2_with fail
   go_loopg [19] rs[k].bs.length (λ gg2 j wj=>∃ (jj:Nat) (V:B8->Option Value),jj<=rs[k].bs.length/\gg2=rs[k].bs.length-jj/\j=.int .i64 jj/\Below w.heap.size w wj/\n1<wj.heap.size/\wj.heap[n1]?=some (.cells #[.string rs[k].R.pd,.slice ah rs[k].R.ts.length ch,.slice ab rs[k].bs.length cb] 123 (0,0))/\Lk w.heap.size (Est rs k rs[k].R.pd rs[k].bs jj).length (Est rs k rs[k].R.pd rs[k].bs jj) V wj/\(Est rs k rs[k].R.pd rs[k].bs jj).length<=3*k+jj)
   exact⟨0,V,Nat.zero_le _,rfl,rfl,gS,by simp[lH],ot,EY,su⟩
   case round=>
    clear EY su gS ot r0 r1 r2 hB;obtain⟨j,V,hj,uo,rfl,hB,nK,ot,hL,hlen⟩:=hrel
    by_cases ij:j<rs[k].bs.length
    ·have ei:=(zA rG).below hB;obtain⟨g,cap,hv,iC,dp,dG,dx,hc⟩:=vL zwj ei.row j ij;injection hv with h1 h2 h3
     subst h1 h3;obtain⟨ag,fJ,gU⟩:=zE (ei.each _ (List.getElem_mem ij));have q0:=hc 0 (by omega);have q1:=hc 1 (by omega);have q2:=hc 2 (by omega);simp only[yX.cells,gU,Nat.add_zero,List.getElem?_cons_zero,List.getElem?_cons_succ] at q0 q1 q2;obtain⟨c0,f0⟩:=zB ot 0;have bA:=((Below.refl wr.heap.size wr).alloc L9 (.cells #[.bool rs[k].bs[j].1.neg,.string rs[k].bs[j].1.pd,.slice ag rs[k].bs[j].1.ts.length fJ] 183)).alloc (by simp) (.cells #[.string rs[k].bs[j].1.pd] 9);have EE:=(Below.refl wr.heap.size wr).alloc L9 (.cells #[.bool rs[k].bs[j].1.neg,.string rs[k].bs[j].1.pd,.slice ag rs[k].bs[j].1.ts.length fJ] 183);have cA:=(hL.below EE).map;have B6:=hL.below bA;have hu:=B6.at_ rs[k].R.pd;obtain⟨au,cu,sj⟩:=zE hu;have fZ:=ybn (Est rs k rs[k].R.pd rs[k].bs j) rs[k].R.pd;have cC:=hu;rw[sj] at cC;have p7:=zC B6;have tr:=zC (z56 (rs:=rs) (k:=k) (pd:=rs[k].R.pd) ij);have pA:=(bA.block n1 nK).trans ot;have Ie:=zC pA;have rF:=zC bA;have Im:=zC (vH cC (e:=123) (by decide));have Ex:=zC (λ g e=>(cC.lt g e).1);clear hc gU hL B6 hu ot pA bA EE ei;go_wp2_with (first | (at_lookup;refine zcr _ rfl _ _ 224 rfl 9 33 Tryz.underlying9 Tryz.underlying224 (Tryz.zeroValue33 _) w.heap.size (Est rs k rs[k].R.pd rs[k].bs j).length V rfl cA rs[k].R.pd rfl du _ sj ?_) | (at_builtin;refine wpList_append_own_at _ rfl _ _ 33 rfl (w.heap.size+1) 9 i0 _ 1 16 Tryz.underlying33 hi dK cB bZ rfl (by decide) _ _ _ rfl cC ⟨wr.heap.size+1,0,none⟩ 1 1 [.string rs[k].bs[j].1.pd] rfl rfl (z7x wr _ _) (zuu _) (by unfold maxLen;omega) (by omega) (by simp;omega) ?_));intro v5 w5 hown5 dz hnil5 hloc5;obtain⟨a5,gz,rfl⟩:=zE hown5;rw[<-sj] at dz hloc5;have u6:=dz.size;have kJ:qS Tryz.prog 9 w5 w.heap.size (Est rs k rs[k].R.pd rs[k].bs j).length V:=(zA p7).map.block (dz.block _ (zA p7).map.lt (λ e=>by rw[sj] at e;have:=zA Ex _ e.symm;omega));have mY:=zC hown5;have br:=zC dz;have D2:=zC hloc5;clear hown5 dz hnil5 hloc5 cA cC
     go_wp2_with (at_mapUpdate;refine zn7 _ rfl _ _ _ 224 rfl 9 33 Tryz.underlying9 Tryz.underlying224 w.heap.size (Est rs k rs[k].R.pd rs[k].bs j).length V rfl kJ (by unfold maxLen;omega) rs[k].R.pd _ (by rfl) (by rfl) du ?_);intro w6 pj lF;obtain⟨EZ,Ll⟩:=(zA p7).put (q:=rs[k].bs[j].1.pd) (zA br) (zA mY) (by simpa using zA D2) pj lF;rw[sj] at Ll
     have mL:=yS (zA Ie) Ll (λ x hx=>by
      rcases List.mem_cons.1 hx with rfl | hx
      ·exact .inl (by omega)
      ·exact .inr (zA Im x hx))
     have iL:Below w.heap.size w w6:=yE (hB.trans ((zA rF).mono (by omega))) Ll (by simp;omega) (λ x hx=>by
      rcases List.mem_cons.1 hx with rfl | hx
      ·omega
      ·have:=zA Ex x (by simpa using hx);omega)
     have Gn:=Ll.size;simp at Gn;have Hj:=zC EZ;have Ib:=zC mL;clear EZ Ll mL pj lF kJ br mY D2;go_wp2_with fail;go_roundg (rs[k].bs.length-(j+1));exact⟨j+1,_,by omega,rfl,by go_num,iL,by omega,zA Ib,by rw[zA tr,List.length_append];exact zA Hj,by rw[zA tr];simp;omega⟩;omega
    ·have oC:=zC (zxo aN (zA G7) (j:=j) (by omega));have HL:=zC hL;clear hL ot;go_wp2_with fail;go_roundg (rs.length-(k+1));exact⟨k+1,V,by omega,rfl,by go_num,hB,by omega,by rw[<-zA oC];exact zA HL⟩;omega
  ·have e:(rs.map (·.R)).take k=rs.map (·.R):=List.take_of_length_le (by simp;omega);rw[e] at ph;have HL:=zC ph;clear ph e;go_wp2_with fail;go_ret;exact⟨rfl,hB,hsz,V,zA HL⟩
end
end Go.Proofs.YtldkpahaocjdpaaGreat
