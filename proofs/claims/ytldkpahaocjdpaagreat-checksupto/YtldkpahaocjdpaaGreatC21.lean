/-
  The program's firstLoose and unbound: the first variable that its rule does not bind.
-/
import Derived.Test.YtldkpahaocjdpaaGreatC20
import Derived.Maps.AppendAt
set_option maxHeartbeats 16000000
set_option maxRecDepth 1000000
namespace Go.Proofs.YtldkpahaocjdpaaGreat
section
open Go.RowKit
def vH (ls:List vJ):List (Bool × B8)->Nat->Option Nat
 | [],_=>none
 | t::r,k=>if t.1&&!zig t.2 ls then some k else vH ls r (k+1)
def z52 (x:Option Nat):Ending:=.returned (.tuple #[.int .i64 (x.getD 0),.bool x.isSome])
variable {k:Nat}
theorem zpm {ls:List vJ}{ts:List (Bool × B8)}(h:k<ts.length):vH ls (ts.drop k) k=if ts[k].1&&!zig ts[k].2 ls then some k else vH ls (ts.drop (k+1)) (k+1):=by
 rw[List.drop_eq_getElem_cons h,vH]
theorem zrv (w:W8)(base:Nat)(pd nS:B8)(a:O8)(c:Nat)(ts:List (Bool × B8))(ah:O8)(nh ch:Nat)(ab:O8)(cb:Nat)(ls:List (vJ × Value))(ht:w.ownsRow base 191 1 (.slice a ts.length c) ts.length (vI ts))(h:mj w base (.slice ab ls.length cb) ls)(hl:ls.length<=1000):
  Calls Tryz.prog 118 #[.agg #[.string pd,.slice a ts.length c],.agg #[.string nS,.slice ah nh ch,.slice ab ls.length cb]] w λ e w'=>e=z52 (vH (ls.map (·.1)) ts 0)/\Below w.heap.size w w':=by
 have mU:=yN ht;unfold maxLen at mU;have b1:=((Below.refl w.heap.size w).alloc L9 (.cells #[.string pd,.slice a ts.length c] 79)).alloc (by simp) (.cells #[.string nS,.slice ah nh ch,.slice ab ls.length cb] 123);have pt:((w.alloc (.cells #[.string pd,.slice a ts.length c] 79)).alloc (.cells #[.string nS,.slice ah nh ch,.slice ab ls.length cb] 123)).heap[w.heap.size+1]?=some (.cells #[.string nS,.slice ah nh ch,.slice ab ls.length cb] 123 (0,0)):=by
  have:=heap_alloc_new (w.alloc (.cells #[.string pd,.slice a ts.length c] 79)) (.cells #[.string nS,.slice ah nh ch,.slice ab ls.length cb] 123);rw[World.size_alloc] at this;exact this
 have h1:=h.below b1;have sq:=zH ht b1 (λ g e=>(ht.lt g e).2);clear h ht;have Xc:=zgu;have Nn:=zif;have Ee:=zfe;go_enter Tryz.func118,Tryz.ntmps118;go_wp2_with fail
 go_loopg [13] ts.length (λ gg i wr=>∃ k:Nat,k<=ts.length/\gg=ts.length-k/\i=.int .i64 k/\mj wr base (.slice ab ls.length cb) ls/\wr.ownsRow base 191 1 (.slice a ts.length c) ts.length (vI ts)/\Below w.heap.size w wr/\w.heap.size+1<wr.heap.size/\wr.heap[w.heap.size+1]?=some (.cells #[.string nS,.slice ah nh ch,.slice ab ls.length cb] 123 (0,0))/\vH (ls.map (·.1)) ts 0=vH (ls.map (·.1)) (ts.drop k) k)
 exact⟨0,Nat.zero_le _,rfl,rfl,h1,sq,b1,by simp,pt,rfl⟩
 case round=>
  clear h1 sq b1 pt;obtain⟨k,hk,iZ,rfl,hL,hT,hB,hz,hr,ax⟩:=hrel;have HF:=zC ax;clear ax
  by_cases aE:k<ts.length
  ·obtain⟨g,cap,hv,oN,bR,cZ,da,hc⟩:=zp1 hT k aE;injection hv with h1 h2 h3
   subst h1 h3;have az:=zC ((zA HF).trans (zpm aE));clear HF
   cases hb:ts[k].1 with
   | true=>
    rw[hb] at hc;unfold zhh at hc;rw[if_pos rfl] at hc;obtain⟨r0,f0⟩:=zB hr 0;obtain⟨r1,f1⟩:=zB hr 1;obtain⟨r2,f2⟩:=zB hr 2;have HR:=zC hr;clear hr;go_wp2_with fail;refine (zyj wr base nS ts[k].2 ah nh ch ab cb ls hL hl).mono ?_;rintro e w2 ⟨rfl,aH⟩;have cx:=aH.size
    cases hq:zig ts[k].2 (ls.map (·.1)) with
    | false=>
     have aQ:=zC (show vH (ls.map (·.1)) ts 0=some k by rw[zA az,hb,hq];rfl);clear az hb hq r0 r1 r2 f0 f1 f2;go_wp2_with fail
     go_ret2
     exact⟨by rw[zA aQ];rfl,hB.trans (aH.mono (by omega))⟩
    | true=>
     have aQ:=zC (show vH (ls.map (·.1)) ts 0=vH (ls.map (·.1)) (ts.drop (k+1)) (k+1) by rw[zA az,hb,hq];rfl);have HL:=zC (hL.below aH);have HT:=zC (zH hT aH (λ g e=>(hT.lt g e).2));have OZ:=zC ((aH.block _ hz).trans (zA HR));clear az hb hq r0 r1 r2 f0 f1 f2 hL hT HR;go_wp2_with fail;go_roundg (ts.length-(k+1));exact⟨k+1,by omega,rfl,by go_num,zA HL,zA HT,hB.trans (aH.mono (by omega)),by omega,zA OZ,zA aQ⟩;omega
   | false=>
    rw[hb] at hc;unfold zhh at hc;rw[if_neg (by decide)] at hc;have aQ:=zC (show vH (ls.map (·.1)) ts 0=vH (ls.map (·.1)) (ts.drop (k+1)) (k+1) by rw[zA az,hb];rfl);have HL:=zC hL;have HT:=zC hT;have OZ:=zC hr;clear az hb hL hT hr;go_wp2_with fail;go_roundg (ts.length-(k+1));exact⟨k+1,by omega,rfl,by go_num,zA HL,zA HT,hB,hz,zA OZ,zA aQ⟩;omega
  ·have az:=zC (show vH (ls.map (·.1)) ts 0=none by rw[zA HF,List.drop_of_length_le (by omega)];rfl);clear HF hL hT hr;go_wp2_with fail
   go_ret2
   exact⟨by rw[zA az];rfl,hB⟩
def zih (rs:List vX)(n:Nat):List vJ:=match rs[n]? with | some R=>R.body | none=>[]
def jM (rs:List vX):List xU->Int
 | []=>-1
 | M::r=>match vH (zih rs M.num) M.ts 0 with | some i=>(M.pl i:Int) | none=>jM rs r
variable {ms:List (xU × Value)}
theorem zoc {rs:List vX}(h:k<ms.length):jM rs ((ms.map (·.1)).drop k)=match vH (zih rs ms[k].1.num) ms[k].1.ts 0 with | some i=>(ms[k].1.pl i:Int) | none=>jM rs ((ms.map (·.1)).drop (k+1)):=by
 rw[List.drop_eq_getElem_cons (by simpa using h),jM];simp
theorem ztt {ls:List vJ}:∀ {ts:List (Bool × B8)} {k i:Nat},vH ls ts k=some i->i<k+ts.length
 | [],k,i,h=>by simp[vH] at h
 | t::r,k,i,h=>by
  unfold vH at h
  split at h
  ·injection h with h;subst h;simp
  ·have:=ztt h;simp;omega
theorem sL.below {w w':W8}{base:Nat}{r:PR}(h:sL w base r)(hb:Below w.heap.size w w'):sL w' base r:=
 ⟨zH h.hd hb (λ g e=>(h.hd.lt g e).2),h.bo.below hb,h.eq⟩
theorem l8.below {w w':W8}{base:Nat}{rv:Value}{rs:List PR}(h:l8 w base rv rs)(hb:Below w.heap.size w w'):l8 w' base rv rs:=
 ⟨zH h.row hb (λ g e=>(h.row.lt g e).2),λ r hr=>(h.each r hr).below hb⟩
theorem zly (r:PR):r.cells.length=3:=rfl
structure CO (w:W8)(base:Nat)(rv mv:Value)(rs:List PR)(ms:List (xU × Value))(wr:W8):Prop where
 rules:l8 wr base rv rs
 iY:iQ wr base mv ms
 box:wr.heap[w.heap.size]?=some (.cells #[rv,mv] 100 (0,0))
 below:Below w.heap.size w wr
 sz:w.heap.size<wr.heap.size
variable {rs:List PR} {rv mv:Value} {base:Nat} {w:W8}
theorem CO.next {wr w1:W8}(h:CO w base rv mv rs ms wr)(hb:Below wr.heap.size wr w1):CO w base rv mv rs ms w1:=
 have hs:=h.sz;have L5:=hb.size
 ⟨h.rules.below hb,h.iY.below hb,(hb.block _ hs).trans h.box,h.below.trans (hb.mono (by omega)),by omega⟩
theorem CO.start (h:l8 w base rv rs)(h':iQ w base mv ms):CO w base rv mv rs ms (w.alloc (.cells #[rv,mv] 100)):=
 have b1:=(Below.refl w.heap.size w).alloc L9 (.cells #[rv,mv] 100)
 ⟨h.below b1,h'.below b1,heap_alloc_new w _,b1,by simp⟩
end
section
open Go.RowKit
theorem mj.drew {w:W8}{base:Nat}{bv:Value}{ls:List (vJ × Value)}(h:mj w base bv ls):mj w.drew base bv ls:=⟨h.row.drew,λ x hx=>(h.each x hx).drew⟩
theorem zst (w:W8)(base:Nat)(ar:O8)(cr:Nat)(rs:List PR)(am:O8)(cm:Nat)(ms:List (xU × Value))(h:l8 w base (.slice ar rs.length cr) rs)(h':iQ w base (.slice am ms.length cm) ms)(hl:ms.length<=1000)(hn:∀ x∈ms,x.1.num<rs.length/\x.1.ts.length<=4)(eG:∀ r∈rs,r.bs.length<=1000):
  Calls Tryz.prog 76 #[.agg #[.slice ar rs.length cr,.slice am ms.length cm]] w λ e w'=>e=zhy (jM (rs.map (·.R)) (ms.map (·.1)))/\Below w.heap.size w w':=by
 have h0:=CO.start h h';have Ad:=yN h.row;unfold maxLen at Ad;clear h h';go_enter Tryz.func76,Tryz.ntmps76;go_wp2_with fail
 go_loopg [11] ms.length (λ gg i wr=>∃ k:Nat,k<=ms.length/\gg=ms.length-k/\i=.int .i64 k/\CO w base (.slice ar rs.length cr) (.slice am ms.length cm) rs ms wr/\jM (rs.map (·.R)) (ms.map (·.1))=jM (rs.map (·.R)) ((ms.map (·.1)).drop k))
 exact⟨0,Nat.zero_le _,rfl,rfl,h0,rfl⟩
 case round=>
  clear h0;obtain⟨k,hk,iZ,rfl,hinv,ax⟩:=hrel;have HF:=zC ax;clear ax
  by_cases aE:k<ms.length
  ·have az:=zC ((zA HF).trans (zoc aE));obtain⟨g,cap,hv,oN,bR,cZ,da,hc⟩:=vU zr2 hinv.iY.row k aE;injection hv with h1 h2 h3
   subst h1 h3;obtain⟨bp,fw,km⟩:=zD (hinv.iY.each _ (List.getElem_mem aE));have q0:=hc 0 (by omega);have q1:=hc 1 (by omega);have q2:=hc 2 (by omega);have q3:=hc 3 (by omega);have q4:=hc 4 (by omega);have q5:=hc 5 (by omega);have q6:=hc 6 (by omega);have q7:=hc 7 (by omega);have q8:=hc 8 (by omega);have q9:=hc 9 (by omega);simp only[xU.cells,km,Nat.add_zero,List.getElem?_cons_zero,List.getElem?_cons_succ] at q0 q1 q2 q3 q4 q5 q6 q7 q8 q9;obtain⟨pn,NP⟩:=hn _ (List.getElem_mem aE);obtain⟨gr,eR,rh,Bt,BJ,B0,BB,lP⟩:=vU zly hinv.rules.row ms[k].1.num pn;injection rh with h4 h5 h6
   subst h4 h6;have ay:=hinv.rules.each _ (List.getElem_mem pn);obtain⟨ah,ch,zn⟩:=zD ay.hd;obtain⟨ab,cb,nx⟩:=zD ay.bo.row;have r0:=lP 0 (by omega);have r1:=lP 1 (by omega);have r2:=lP 2 (by omega);simp only[PR.cells,zn,nx,Nat.add_zero,List.getElem?_cons_zero,List.getElem?_cons_succ] at r0 r1 r2;obtain⟨x0,AR⟩:=zB hinv.box 0;have bA:=(Below.refl wr.heap.size wr).alloc L9 (.cells #[.int .i64 ms[k].1.num,.bool ms[k].1.neg,.string ms[k].1.pd,.slice bp ms[k].1.ts.length fw,.int .i64 ms[k].1.start,.int .i64 ms[k].1.place,.int .i64 (ms[k].1.pl 0),.int .i64 (ms[k].1.pl 1),.int .i64 (ms[k].1.pl 2),.int .i64 (ms[k].1.pl 3)] 221);have hI:=hinv.next bA;have tL:(wr.alloc (.cells #[.int .i64 ms[k].1.num,.bool ms[k].1.neg,.string ms[k].1.pd,.slice bp ms[k].1.ts.length fw,.int .i64 ms[k].1.start,.int .i64 ms[k].1.place,.int .i64 (ms[k].1.pl 0),.int .i64 (ms[k].1.pl 1),.int .i64 (ms[k].1.pl 2),.int .i64 (ms[k].1.pl 3)] 221)).heap[wr.heap.size]?=_:=heap_alloc_new wr _;have lO:zih (rs.map (·.R)) ms[k].1.num=rs[ms[k].1.num].bs.map (·.1):=by
    unfold zih;rw[List.getElem?_map,List.getElem?_eq_getElem pn];exact ay.eq.symm
   rw[lO] at az;have AB:=hI.iY.each _ (List.getElem_mem aE);rw[km] at AB;have PM:=(hI.rules.each _ (List.getElem_mem pn)).bo;rw[nx] at PM;have HC:=zC (λ (W:W8) (hW:Below (wr.alloc (.cells #[.int .i64 ms[k].1.num,.bool ms[k].1.neg,.string ms[k].1.pd,.slice bp ms[k].1.ts.length fw,.int .i64 ms[k].1.start,.int .i64 ms[k].1.place,.int .i64 (ms[k].1.pl 0),.int .i64 (ms[k].1.pl 1),.int .i64 (ms[k].1.pl 2),.int .i64 (ms[k].1.pl 3)] 221)).heap.size (wr.alloc (.cells #[.int .i64 ms[k].1.num,.bool ms[k].1.neg,.string ms[k].1.pd,.slice bp ms[k].1.ts.length fw,.int .i64 ms[k].1.start,.int .i64 ms[k].1.place,.int .i64 (ms[k].1.pl 0),.int .i64 (ms[k].1.pl 1),.int .i64 (ms[k].1.pl 2),.int .i64 (ms[k].1.pl 3)] 221)) W)=>(And.intro (hI.next hW) ((hW.block wr.heap.size (by simp)).trans tL)));have eK:=eG _ (List.getElem_mem pn);have Bb:=zC AB.drew;have C1:=zC PM.drew;have aT:=hinv.sz;clear hc lP HF hinv hI km ay zn nx lO tL AB PM bA;go_wp2_with fail;go_upto_region 4 with fail
   go_cut [6,7] (λ v6 v7 wc=>v6=.int .i64 ((vH (rs[ms[k].1.num].bs.map (·.1)) ms[k].1.ts 0).getD 0)/\v7=.bool (vH (rs[ms[k].1.num].bs.map (·.1)) ms[k].1.ts 0).isSome/\CO w base (.slice (some ⟨gr,0,none⟩) rs.length cr) (.slice (some ⟨g,0,none⟩) ms.length cm) rs ms wc/\wc.heap[wr.heap.size]?=some (.cells #[.int .i64 ms[k].1.num,.bool ms[k].1.neg,.string ms[k].1.pd,.slice bp ms[k].1.ts.length fw,.int .i64 ms[k].1.start,.int .i64 ms[k].1.place,.int .i64 (ms[k].1.pl 0),.int .i64 (ms[k].1.pl 1),.int .i64 (ms[k].1.pl 2),.int .i64 (ms[k].1.pl 3)] 221 (0,0)))
   case first=>
    go_region_with (go_at_call 118;refine (zrv _ base ms[k].1.pd rs[ms[k].1.num].R.pd bp fw ms[k].1.ts ah rs[ms[k].1.num].R.ts.length ch ab cb rs[ms[k].1.num].bs (zA Bb) (zA C1) eK).mono ?_;rintro e w2 ⟨he,aH⟩;unfold z52 at he;subst he)
    all_goals
     go_wp2_with fail;go_meet
     case rel=>exact⟨rfl,rfl,(zA HC w2 (Below.nw aH)).1,(zA HC w2 (Below.nw aH)).2⟩
   case rest=>
    obtain⟨rfl,rfl,dj,tM⟩:=hcut;have iR:=zC dj;have vs:=dj.sz;clear dj q0 q1 q2 q3 q4 q5 q6 q7 q8 q9 r0 r1 r2 x0 AR HC Bb C1
    cases hx:vH (rs[ms[k].1.num].bs.map (·.1)) ms[k].1.ts 0 with
    | none=>
     rw[hx] at az;clear hx;have aQ:=zC (zA az);clear az;go_wp2_with fail;go_roundg (ms.length-(k+1));exact⟨k+1,by omega,rfl,by go_num,zA iR,zA aQ⟩;omega
    | some i=>
     have hi4:i<4:=(by have:=ztt hx;omega);rw[hx] at az;clear hx;have rF:i=0\/i=1\/i=2\/i=3:=(by omega);have y6:=(zB tM 6).1;have y7:=(zB tM 7).1;have y8:=(zB tM 8).1;have y9:=(zB tM 9).1;have hF:jM (rs.map (·.R)) (ms.map (·.1))=(ms[k].1.pl i:Int):=zA az;have aQ:=zC hF;clear az hF tM;rcases rF with rfl | rfl | rfl | rfl
     all_goals
      go_wp2_with fail
      go_ret2
      refine⟨?_,(zA iR).below⟩;rw[zA aQ];unfold zhy;rw[if_pos (by omega)];simp
  ·have az:=zC (show jM (rs.map (·.R)) (ms.map (·.1))=-1 by rw[zA HF,List.drop_of_length_le (by simp;omega)];rfl);have HI:=zC hinv;clear HF hinv;go_wp2_with fail
   go_ret2
   exact⟨by rw[zA az];rfl,(zA HI).below⟩
end
section
open Go.RowKit Go.Maps
abbrev zgp:=B8 × B8
def tgt (E:List zgp)(p:B8):List B8:=(E.filter λ e=>e.1.toList==p.toList).map (·.2)
def tk (l:List B8):V8:=l.map Value.string
def zff (pd:B8)(l:List vJ):List zgp:=l.map λ x=>(pd,x.pd)
def vY (rs:List vX):List zgp:=rs.flatMap λ R=>zff R.pd R.body
theorem z5j (E:List zgp)(p q:B8):tgt (E++[(p,q)]) p=tgt E p++[q]:=by
 simp[tgt]
variable {p q:B8} {E:List zgp}
theorem zqz {x:B8}(h:x≠p):tgt (E++[(p,q)]) x=tgt E x:=by
 have h1:¬ p.toList=x.toList:=λ e=>h (vO.1 (by simpa using e.symm))
 simp[tgt,h1]
theorem z8g (E:List zgp)(p:B8):(tgt E p).length<=E.length:=by
 simp only[tgt,List.length_map];exact List.length_filter_le _ _
structure Lk (b n:Nat)(E:List zgp)(V:B8->Option Value)(wr:W8):Prop where
 map:fD Tryz.prog 9 wr b n V
 rows:∀ p v,V p=some v->wr.ownsRow (b+1) 9 1 v (tgt E p).length (tk (tgt E p))
 RJ:∀ p,V p=none->tgt E p=[]
 apart:∀ p q v u,V p=some v->V q=some u->p≠q->v.ownBlock=none\/v.ownBlock≠u.ownBlock
variable {wr:W8} {V:B8->Option Value} {b n:Nat}
theorem Lk.below {w1:W8}(h:Lk b n E V wr)(hb:Below wr.heap.size wr w1):Lk b n E V w1:=
 ⟨h.map.block (hb.block _ h.map.lt),λ p v hv=>zH (h.rows p v hv) hb (λ g e=>((h.rows p v hv).lt g e).2),h.RJ,h.apart⟩
theorem Lk.at_ (h:Lk b n E V wr)(p:B8):wr.ownsRow (b+1) 9 1 ((V p).getD (.slice none 0 0)) (tgt E p).length (tk (tgt E p)):=by
 cases hv:V p with
 | none=>rw[h.RJ p hv];exact World.ownsRow_nil _ _ _ _
 | some v=>exact h.rows p v hv
theorem Lk.put {w5 w6:W8}(h:Lk b n E V wr){v':Value}(hg:wr.grownBy w5 ((V p).getD (.slice none 0 0)).ownBlock)
  (aC:w5.ownsRow (b+1) 9 1 v' ((tgt E p).length+1) (tk (tgt E p)++[.string q])) (Qz:v'.ownBlock=((V p).getD (.slice none 0 0)).ownBlock\/v'.ownBlock=some wr.heap.size)
  (eV:fD Tryz.prog 9 w6 b (n+1) (zxk V p v')) (na:w5.grownBy w6 (some b)):
  Lk b (n+1) (E++[(p,q)]) (zxk V p v') w6/\zN (b::((V p).getD (.slice none 0 0)).ownBlock.toList) wr w6:=by
 have hu:=h.at_ p;have eI:∀ x v,V x=some v->x≠p->v.ownBlock=none\/v.ownBlock≠((V p).getD (.slice none 0 0)).ownBlock:=λ x v hv hx=>by
  cases hp:V p with
  | none=>cases v.ownBlock <;> simp[Value.ownBlock]
  | some u=>exact h.apart x p v u hv hp hx
 have cC:∀ {v:Value} {m:Nat} {xs:V8},w5.ownsRow (b+1) 9 1 v m xs->w6.ownsRow (b+1) 9 1 v m xs:=λ {v m xs} hv=>xI hv (λ g e=>na.block g ((hv.lt g e).2) (by have:=(hv.lt g e).1;simp;omega))
 have ij:∀ x v,V x=some v->x≠p->v.ownBlock=none\/v.ownBlock≠v'.ownBlock:=λ x v hv hx=>by
  rcases Qz with h1 | h1
  ·rw[h1];exact eI x v hv hx
  ·cases oe:v.ownBlock with
   | none=>exact .inl rfl
   | some g=>
    refine .inr (λ e=>?_);rw[h1] at e;injection e with e
    have:=((h.rows x v hv).lt g oe).2;omega
 refine⟨⟨eV,λ x v hv=>?_,λ x hx=>?_,λ x y v u hv nH yo=>?_⟩,?_⟩
 ·by_cases e:x=p
  ·subst e;rw[zav] at hv;injection hv with hv
   subst hv;rw[z5j];have:=cC aC;simpa[tk] using this
  ·rw[jW e] at hv;rw[zqz e];exact cC ((h.rows x v hv).kept hg (eI x v hv e))
 ·by_cases e:x=p
  ·subst e;rw[zav] at hx;cases hx
  ·rw[jW e] at hx;rw[zqz e];exact h.RJ x hx
 ·by_cases e:x=p
  ·subst e;rw[zav] at hv;injection hv with hv
   subst hv;have UR:y≠x:=λ e=>yo e.symm
   rw[jW UR] at nH;rcases ij y u nH UR with h1 | h1
   ·cases hb:v'.ownBlock with
    | none=>exact .inl rfl
    | some g=>exact .inr (by rw[h1];simp)
   ·exact .inr (λ e=>h1 e.symm)
  ·rw[jW e] at hv
   by_cases e2:y=p
   ·subst e2;rw[zav] at nH;injection nH with nH
    subst nH;exact ij x v hv e
   ·rw[jW e2] at nH;exact h.apart x y v u hv nH yo
 ·have hz:=hg.size;have UT:=na.size;refine⟨na.os.trans hg.os,na.tape.trans hg.tape,na.output.trans hg.output,by omega,λ k hk hn=>?_⟩;rw[na.block k (by omega) (by simp at hn ⊢;omega),hg.block k hk (λ e=>hn (by simp[<-e]))]
theorem z49 (w1:W8)(o:Obj)(x:B8)(j:Nat)(u:Value)(h:([Value.string x]:V8)[j]?=some u):((w1.alloc o).alloc (Obj.cells #[.string x] 9)).cell? ((⟨w1.heap.size+1,0,none⟩:Addr).add j)=some u:=by
 have e:(⟨w1.heap.size+1,0,none⟩:Addr).add j=⟨w1.heap.size+1,j,none⟩:=by unfold Addr.add;split <;> simp_all
 rw[e,World.cell?_alloc_at _ _ _ _ (by simp)];simpa using h
theorem z1o (x:B8):∀ u∈([Value.string x]:V8),u.oneCell'=true:=by
 intro u hu;simp at hu;subst hu;rfl
def Est (rs:List PR)(k:Nat)(pd:B8)(ls:List (vJ × Value))(j:Nat):List zgp:=vY ((rs.map (·.R)).take k)++zff pd ((ls.map (·.1)).take j)
theorem zjy (l:List vX)(R:vX):vY (l++[R])=vY l++zff R.pd R.body:=by simp[vY]
variable {k:Nat} {rs:List PR}
theorem zh7 (h:k<rs.length):(rs.map (·.R)).take (k+1)=(rs.map (·.R)).take k++[rs[k].R]:=by
 rw[List.take_succ_eq_append_getElem (by simpa using h)];simp
variable {j:Nat}
theorem zvi (h:k<rs.length)(he:rs[k].bs.map (·.1)=rs[k].R.body)(hj:rs[k].bs.length<=j):Est rs k rs[k].R.pd rs[k].bs j=vY ((rs.map (·.R)).take (k+1)):=by
 unfold Est;rw[zh7 h,zjy,List.take_of_length_le (l:=rs[k].bs.map (·.1)) (by simpa using hj),he]
theorem z3i {pd:B8}{ls:List (vJ × Value)}(hj:j<ls.length):Est rs k pd ls (j+1)=Est rs k pd ls j++[(pd,ls[j].1.pd)]:=by
 unfold Est;rw[List.take_succ_eq_append_getElem (by simpa using hj)];simp[zff]
theorem zzu (w:W8)(base:Nat)(ar:O8)(cr:Nat)(rs:List PR)(h:l8 w base (.slice ar rs.length cr) rs)(nS:∀ r∈rs,r.R.pd.size<=800)(eG:∀ r∈rs,r.bs.length<=3)(Ej:rs.length<=30):
  Calls Tryz.prog 119 #[.slice ar rs.length cr] w λ e w'=>e=.returned (.map (some w.heap.size))/\Below w.heap.size w w'/\w.heap.size<w'.heap.size/\∃ V,Lk w.heap.size (vY (rs.map (·.R))).length (vY (rs.map (·.R))) V w':=by
 have uB:=@run_makeMap Tryz.prog;obtain⟨i0,hi,cQ,cz,cx⟩:=info_parts zew;have h0:Lk w.heap.size 0 [] (λ _=>none) (w.alloc (.map #[] 0)):=⟨fD.made _ _ w,λ _ _ hv=>(by cases hv),λ _ _=>rfl,λ _ _ _ _ hv=>(by cases hv)⟩;have b0:Below w.heap.size w (w.alloc (.map #[] 0)):=B9.alloc L9 _;have hE:∀ k,k<=rs.length->(vY ((rs.map (·.R)).take k)).length<=3*k:=by
  intro k
  induction k with
  | zero=>intro _;simp[vY]
  | succ k ih=>
   intro hk;rw[zh7 (by omega),zjy];have h1:=ih (by omega);have h2:=eG _ (List.getElem_mem (show k<rs.length by omega));have h3:=(h.each _ (List.getElem_mem (show k<rs.length by omega))).eq;have h4:rs[k].R.body.length=rs[k].bs.length:=(by rw[<-h3];simp);simp only[List.length_append,zff,List.length_map];omega
 have HE:=zC hE;have HR:=zC h;clear h hE;go_enter Tryz.func119,Tryz.ntmps119;go_wp2_with fail
 go_loopg [12] rs.length (λ gg i wr=>∃ (k:Nat) (V:B8->Option Value),k<=rs.length/\gg=rs.length-k/\i=.int .i64 k/\Below w.heap.size w wr/\w.heap.size<wr.heap.size/\Lk w.heap.size (vY ((rs.map (·.R)).take k)).length (vY ((rs.map (·.R)).take k)) V wr)
 exact⟨0,_,Nat.zero_le _,rfl,rfl,b0,by simp,h0⟩
 case round=>
  clear h0 b0;obtain⟨k,V,hk,iZ,rfl,hB,aT,BU⟩:=hrel
  by_cases aE:k<rs.length
  ·have D3:=(zA HR).below hB;obtain⟨gr,eR,rh,Bt,BJ,B0,BB,lP⟩:=vU zly D3.row k aE;injection rh with h4 h5 h6
   subst h4 h6;have ay:=D3.each _ (List.getElem_mem aE);have GM:=(zA HR).each _ (List.getElem_mem aE);obtain⟨ah,ch,zn⟩:=zD ay.hd;obtain⟨ab,cb,nx⟩:=zD ay.bo.row;have r0:=lP 0 (by omega);have r1:=lP 1 (by omega);have r2:=lP 2 (by omega);simp only[PR.cells,zn,nx,Nat.add_zero,List.getElem?_cons_zero,List.getElem?_cons_succ] at r0 r1 r2;have bA:=(Below.refl wr.heap.size wr).alloc L9 (.cells #[.string rs[k].R.pd,.slice ah rs[k].R.ts.length ch,.slice ab rs[k].bs.length cb] 123);have AN:(wr.alloc (.cells #[.string rs[k].R.pd,.slice ah rs[k].R.ts.length ch,.slice ab rs[k].bs.length cb] 123)).heap[wr.heap.size]?=_:=heap_alloc_new wr _;have oM:=hB.trans (bA.mono (by omega));have yd:=BU.below bA;have gX:=GM.bo;rw[nx] at gX;have CW:=zC gX;have A6:=zC GM.eq;have eK:=eG _ (List.getElem_mem aE);have kx:=nS _ (List.getElem_mem aE);have eU:rs[k].R.pd.size<=maxLen:=(by unfold maxLen;omega);have hlen:=zA HE k hk;have Tq:Lk w.heap.size (Est rs k rs[k].R.pd rs[k].bs 0).length (Est rs k rs[k].R.pd rs[k].bs 0) V (wr.alloc (.cells #[.string rs[k].R.pd,.slice ah rs[k].R.ts.length ch,.slice ab rs[k].bs.length cb] 123)):=by
    have:Est rs k rs[k].R.pd rs[k].bs 0=vY ((rs.map (·.R)).take k):=by simp[Est,zff]
    rw[this];exact yd
   have Fp:(Est rs k rs[k].R.pd rs[k].bs 0).length<=3*k+0:=(by simpa[Est,zff] using hlen);clear lP ay GM zn nx yd D3 gX BU bA hlen;generalize tN:wr.heap.size=n1 at *;go_wp2_with fail
   go_loopg [19] rs[k].bs.length (λ gg2 j wj=>∃ (jj:Nat) (V:B8->Option Value),jj<=rs[k].bs.length/\gg2=rs[k].bs.length-jj/\j=.int .i64 jj/\Below w.heap.size w wj/\n1<wj.heap.size/\wj.heap[n1]?=some (.cells #[.string rs[k].R.pd,.slice ah rs[k].R.ts.length ch,.slice ab rs[k].bs.length cb] 123 (0,0))/\Lk w.heap.size (Est rs k rs[k].R.pd rs[k].bs jj).length (Est rs k rs[k].R.pd rs[k].bs jj) V wj/\(Est rs k rs[k].R.pd rs[k].bs jj).length<=3*k+jj)
   exact⟨0,V,Nat.zero_le _,rfl,rfl,oM,by simp[tN],AN,Tq,Fp⟩
   case round=>
    clear Tq Fp oM AN r0 r1 r2 hB;obtain⟨j,V,hj,BI,rfl,hB,vs,AN,hL,hlen⟩:=hrel
    by_cases ig:j<rs[k].bs.length
    ·have pc:=(zA CW).below hB;obtain⟨g,cap,hv,oN,bR,cZ,da,hc⟩:=vU zt7 pc.row j ig;injection hv with h1 h2 h3
     subst h1 h3;obtain⟨bp,fw,km⟩:=zD (pc.each _ (List.getElem_mem ig));have q0:=hc 0 (by omega);have q1:=hc 1 (by omega);have q2:=hc 2 (by omega);simp only[vJ.cells,km,Nat.add_zero,List.getElem?_cons_zero,List.getElem?_cons_succ] at q0 q1 q2;obtain⟨c0,f0⟩:=zB AN 0;have bA:=((Below.refl wr.heap.size wr).alloc L9 (.cells #[.bool rs[k].bs[j].1.neg,.string rs[k].bs[j].1.pd,.slice bp rs[k].bs[j].1.ts.length fw] 183)).alloc (by simp) (.cells #[.string rs[k].bs[j].1.pd] 9);have S5:=(Below.refl wr.heap.size wr).alloc L9 (.cells #[.bool rs[k].bs[j].1.neg,.string rs[k].bs[j].1.pd,.slice bp rs[k].bs[j].1.ts.length fw] 183);have eV:=(hL.below S5).map;have PK:=hL.below bA;have hu:=PK.at_ rs[k].R.pd;obtain⟨au,cu,Fa⟩:=zD hu;have vu:=z8g (Est rs k rs[k].R.pd rs[k].bs j) rs[k].R.pd;have nH:=hu;rw[Fa] at nH;have JP:=zC PK;have Dx:=zC (z3i (rs:=rs) (k:=k) (pd:=rs[k].R.pd) ig);have Cc:=(bA.block n1 vs).trans AN;have Wa:=zC Cc;have tq:=zC bA;have Wk:=zC (yP nH (e:=123) (by decide));have SU:=zC (λ g e=>(nH.lt g e).1);clear hc km hL PK hu AN Cc bA S5 pc;go_wp2_with (first | (at_lookup;refine zgk _ rfl _ _ 224 rfl 9 33 Tryz.underlying9 Tryz.underlying224 (Tryz.zeroValue33 _) w.heap.size (Est rs k rs[k].R.pd rs[k].bs j).length V rfl eV rs[k].R.pd rfl eU _ Fa ?_) | (at_builtin;refine wpList_append_own_at _ rfl _ _ 33 rfl (w.heap.size+1) 9 i0 _ 1 16 Tryz.underlying33 hi cQ cz cx rfl (by decide) _ _ _ rfl nH ⟨wr.heap.size+1,0,none⟩ 1 1 [.string rs[k].bs[j].1.pd] rfl rfl (z49 wr _ _) (z1o _) (by unfold maxLen;omega) (by omega) (by simp;omega) ?_));intro v5 w5 aj aU hnil5 hloc5;obtain⟨a5,ie,rfl⟩:=zD aj;rw[<-Fa] at aU hloc5;have US:=aU.size;have zz:fD Tryz.prog 9 w5 w.heap.size (Est rs k rs[k].R.pd rs[k].bs j).length V:=(zA JP).map.block (aU.block _ (zA JP).map.lt (λ e=>by rw[Fa] at e;have:=zA SU _ e.symm;omega));have zb:=zC aj;have uO:=zC aU;have Iv:=zC hloc5;clear aj aU hnil5 hloc5 eV nH
     go_wp2_with (at_mapUpdate;refine zme _ rfl _ _ _ 224 rfl 9 33 Tryz.underlying9 Tryz.underlying224 w.heap.size (Est rs k rs[k].R.pd rs[k].bs j).length V rfl zz (by unfold maxLen;omega) rs[k].R.pd _ (by rfl) (by rfl) eU ?_);intro w6 LC na;obtain⟨Tr,Kz⟩:=(zA JP).put (q:=rs[k].bs[j].1.pd) (zA uO) (zA zb) (by simpa using zA Iv) LC na;rw[Fa] at Kz
     have yj:=yX (zA Wa) Kz (λ x hx=>by
      rcases List.mem_cons.1 hx with rfl | hx
      ·exact .inl (by omega)
      ·exact .inr (zA Wk x hx))
     have WZ:Below w.heap.size w w6:=zY (hB.trans ((zA tq).mono (by omega))) Kz (by simp;omega) (λ x hx=>by
      rcases List.mem_cons.1 hx with rfl | hx
      ·omega
      ·have:=zA SU x (by simpa using hx);omega)
     have UT:=Kz.size;simp at UT;have VH:=zC Tr;have V7:=zC yj;clear Tr Kz yj LC na zz uO zb Iv;go_wp2_with fail;go_roundg (rs[k].bs.length-(j+1));exact⟨j+1,_,by omega,rfl,by go_num,WZ,by omega,zA V7,by rw[zA Dx,List.length_append];exact zA VH,by rw[zA Dx];simp;omega⟩;omega
    ·have Au:=zC (zvi aE (zA A6) (j:=j) (by omega));have HL:=zC hL;clear hL AN;go_wp2_with fail;go_roundg (rs.length-(k+1));exact⟨k+1,V,by omega,rfl,by go_num,hB,by omega,by rw[<-zA Au];exact zA HL⟩;omega
  ·have e:(rs.map (·.R)).take k=rs.map (·.R):=List.take_of_length_le (by simp;omega);rw[e] at BU;have HL:=zC BU;clear BU e;go_wp2_with fail;go_ret;exact⟨rfl,hB,aT,V,zA HL⟩
end
end Go.Proofs.YtldkpahaocjdpaaGreat
