/-
  The program's firstLoose and unbound: the first variable that its rule does not bind.
-/
import Derived.Test.YtldkpahaocjdpaaGreatE16
import Derived.Maps.AppendAt
set_option maxHeartbeats 16000000
set_option maxRecDepth 1000000
namespace Go.Proofs.YtldkpahaocjdpaaGreat
section
open Go.RowKit
def vL (ls:List vK):List (Bool × B8)->Nat->Option Nat
 | [],_=>none
 | t::r,k=>if t.1&&!zjl t.2 ls then some k else vL ls r (k+1)
def z9o (x:Option Nat):Ending:=.returned (.tuple #[.int .i64 (x.getD 0),.bool x.isSome])
variable {k:Nat}
theorem zs6 {ls:List vK}{ts:List (Bool × B8)}(h:k<ts.length):vL ls (ts.drop k) k=if ts[k].1&&!zjl ts[k].2 ls then some k else vL ls (ts.drop (k+1)) (k+1):=by
 rw[List.drop_eq_getElem_cons h,vL]
theorem zuw (w:W8)(base:Nat)(pd iU:B8)(a:O8)(c:Nat)(ts:List (Bool × B8))(ah:O8)(nh ch:Nat)(ab:O8)(cb:Nat)(ls:List (vK × Value))(ht:w.ownsRow base 191 1 (.slice a ts.length c) ts.length (xI ts))(h:iK w base (.slice ab ls.length cb) ls)(hl:ls.length<=1000):
  Calls Tryz.prog 118 #[.agg #[.string pd,.slice a ts.length c],.agg #[.string iU,.slice ah nh ch,.slice ab ls.length cb]] w λ e w'=>e=z9o (vL (ls.map (·.1)) ts 0)/\Below w.heap.size w w':=by
 have lN:=yU ht;unfold maxLen at lN;have b1:=((Below.refl w.heap.size w).alloc L9 (.cells #[.string pd,.slice a ts.length c] 79)).alloc (by simp) (.cells #[.string iU,.slice ah nh ch,.slice ab ls.length cb] 123);have fq:((w.alloc (.cells #[.string pd,.slice a ts.length c] 79)).alloc (.cells #[.string iU,.slice ah nh ch,.slice ab ls.length cb] 123)).heap[w.heap.size+1]?=some (.cells #[.string iU,.slice ah nh ch,.slice ab ls.length cb] 123 (0,0)):=by
  have:=heap_alloc_new (w.alloc (.cells #[.string pd,.slice a ts.length c] 79)) (.cells #[.string iU,.slice ah nh ch,.slice ab ls.length cb] 123);rw[World.size_alloc] at this;exact this
 have h1:=h.below b1;have pM:=zJ ht b1 (λ g e=>(ht.lt g e).2);clear h ht;have Tv:=zes;have Kd:=zju;have CH:=zdl;go_enter Tryz.func118,Tryz.ntmps118;go_wp2_with fail
 go_loopg [13] ts.length (λ gg i wr=>∃ k:Nat,k<=ts.length/\gg=ts.length-k/\i=.int .i64 k/\iK wr base (.slice ab ls.length cb) ls/\wr.ownsRow base 191 1 (.slice a ts.length c) ts.length (xI ts)/\Below w.heap.size w wr/\w.heap.size+1<wr.heap.size/\wr.heap[w.heap.size+1]?=some (.cells #[.string iU,.slice ah nh ch,.slice ab ls.length cb] 123 (0,0))/\vL (ls.map (·.1)) ts 0=vL (ls.map (·.1)) (ts.drop k) k)
 exact⟨0,Nat.zero_le _,rfl,rfl,h1,pM,b1,by simp,fq,rfl⟩
 case round=>
  clear h1 pM b1 fq;obtain⟨k,hk,eA,rfl,hL,hT,hB,hz,hr,aE⟩:=hrel;have HF:=zC aE;clear aE
  by_cases aF:k<ts.length
  ·obtain⟨g,cap,hv,iG,aZ,bO,bP,hc⟩:=zmk hT k aF;injection hv with h1 h2 h3
   subst h1 h3;have aC:=zC ((zA HF).trans (zs6 aF));clear HF
   cases hb:ts[k].1 with
   | true=>
    rw[hb] at hc;unfold zeb at hc;rw[if_pos rfl] at hc;obtain⟨r0,f0⟩:=zB hr 0;obtain⟨r1,f1⟩:=zB hr 1;obtain⟨r2,f2⟩:=zB hr 2;have HR:=zC hr;clear hr;go_wp2_with fail;refine (z02 wr base iU ts[k].2 ah nh ch ab cb ls hL hl).mono ?_;rintro e w2 ⟨rfl,aK⟩;have bf:=aK.size
    cases hq:zjl ts[k].2 (ls.map (·.1)) with
    | false=>
     have aP:=zC (show vL (ls.map (·.1)) ts 0=some k by rw[zA aC,hb,hq];rfl);clear aC hb hq r0 r1 r2 f0 f1 f2;go_wp2_with fail
     go_ret2
     exact⟨by rw[zA aP];rfl,hB.trans (aK.mono (by omega))⟩
    | true=>
     have aP:=zC (show vL (ls.map (·.1)) ts 0=vL (ls.map (·.1)) (ts.drop (k+1)) (k+1) by rw[zA aC,hb,hq];rfl);have HL:=zC (hL.below aK);have HT:=zC (zJ hT aK (λ g e=>(hT.lt g e).2));have xd:=zC ((aK.block _ hz).trans (zA HR));clear aC hb hq r0 r1 r2 f0 f1 f2 hL hT HR;go_wp2_with fail;go_roundg (ts.length-(k+1));exact⟨k+1,by omega,rfl,by go_num,zA HL,zA HT,hB.trans (aK.mono (by omega)),by omega,zA xd,zA aP⟩;omega
   | false=>
    rw[hb] at hc;unfold zeb at hc;rw[if_neg (by decide)] at hc;have aP:=zC (show vL (ls.map (·.1)) ts 0=vL (ls.map (·.1)) (ts.drop (k+1)) (k+1) by rw[zA aC,hb];rfl);have HL:=zC hL;have HT:=zC hT;have xd:=zC hr;clear aC hb hL hT hr;go_wp2_with fail;go_roundg (ts.length-(k+1));exact⟨k+1,by omega,rfl,by go_num,zA HL,zA HT,hB,hz,zA xd,zA aP⟩;omega
  ·have aC:=zC (show vL (ls.map (·.1)) ts 0=none by rw[zA HF,List.drop_of_length_le (by omega)];rfl);clear HF hL hT hr;go_wp2_with fail
   go_ret2
   exact⟨by rw[zA aC];rfl,hB⟩
def zj0 (rs:List vY)(n:Nat):List vK:=match rs[n]? with | some R=>R.body | none=>[]
def jQ (rs:List vY):List xU->Int
 | []=>-1
 | M::r=>match vL (zj0 rs M.num) M.ts 0 with | some i=>(M.pl i:Int) | none=>jQ rs r
variable {ms:List (xU × Value)}
theorem zo6 {rs:List vY}(h:k<ms.length):jQ rs ((ms.map (·.1)).drop k)=match vL (zj0 rs ms[k].1.num) ms[k].1.ts 0 with | some i=>(ms[k].1.pl i:Int) | none=>jQ rs ((ms.map (·.1)).drop (k+1)):=by
 rw[List.drop_eq_getElem_cons (by simpa using h),jQ];simp
theorem zwg {ls:List vK}:∀ {ts:List (Bool × B8)} {k i:Nat},vL ls ts k=some i->i<k+ts.length
 | [],k,i,h=>by simp[vL] at h
 | t::r,k,i,h=>by
  unfold vL at h
  split at h
  ·injection h with h;subst h;simp
  ·have:=zwg h;simp;omega
theorem sM.below {w w':W8}{base:Nat}{r:PR}(h:sM w base r)(hb:Below w.heap.size w w'):sM w' base r:=
 ⟨zJ h.hd hb (λ g e=>(h.hd.lt g e).2),h.bo.below hb,h.eq⟩
theorem ig.below {w w':W8}{base:Nat}{rv:Value}{rs:List PR}(h:ig w base rv rs)(hb:Below w.heap.size w w'):ig w' base rv rs:=
 ⟨zJ h.row hb (λ g e=>(h.row.lt g e).2),λ r hr=>(h.each r hr).below hb⟩
theorem zq3 (r:PR):r.cells.length=3:=rfl
structure zv (w:W8)(base:Nat)(rv mv:Value)(rs:List PR)(ms:List (xU × Value))(wr:W8):Prop where
 rules:ig wr base rv rs
 eK:ew wr base mv ms
 box:wr.heap[w.heap.size]?=some (.cells #[rv,mv] 100 (0,0))
 below:Below w.heap.size w wr
 sz:w.heap.size<wr.heap.size
variable {rs:List PR} {rv mv:Value} {base:Nat} {w:W8}
theorem zv.next {wr w1:W8}(h:zv w base rv mv rs ms wr)(hb:Below wr.heap.size wr w1):zv w base rv mv rs ms w1:=
 have hs:=h.sz;have sk:=hb.size
 ⟨h.rules.below hb,h.eK.below hb,(hb.block _ hs).trans h.box,h.below.trans (hb.mono (by omega)),by omega⟩
theorem zv.start (h:ig w base rv rs)(h':ew w base mv ms):zv w base rv mv rs ms (w.alloc (.cells #[rv,mv] 100)):=
 have b1:=(Below.refl w.heap.size w).alloc L9 (.cells #[rv,mv] 100)
 ⟨h.below b1,h'.below b1,heap_alloc_new w _,b1,by simp⟩
end
section
open Go.RowKit
theorem iK.drew {w:W8}{base:Nat}{bv:Value}{ls:List (vK × Value)}(h:iK w base bv ls):iK w.drew base bv ls:=⟨h.row.drew,λ x hx=>(h.each x hx).drew⟩
theorem zuz (w:W8)(base:Nat)(ar:O8)(cr:Nat)(rs:List PR)(am:O8)(cm:Nat)(ms:List (xU × Value))(h:ig w base (.slice ar rs.length cr) rs)(h':ew w base (.slice am ms.length cm) ms)(hl:ms.length<=1000)(hn:∀ x∈ms,x.1.num<rs.length/\x.1.ts.length<=4)(cI:∀ r∈rs,r.bs.length<=1000):
  Calls Tryz.prog 76 #[.agg #[.slice ar rs.length cr,.slice am ms.length cm]] w λ e w'=>e=zix (jQ (rs.map (·.R)) (ms.map (·.1)))/\Below w.heap.size w w':=by
 have h0:=zv.start h h';have OR:=yU h.row;unfold maxLen at OR;clear h h';go_enter Tryz.func76,Tryz.ntmps76;go_wp2_with fail
 go_loopg [11] ms.length (λ gg i wr=>∃ k:Nat,k<=ms.length/\gg=ms.length-k/\i=.int .i64 k/\zv w base (.slice ar rs.length cr) (.slice am ms.length cm) rs ms wr/\jQ (rs.map (·.R)) (ms.map (·.1))=jQ (rs.map (·.R)) ((ms.map (·.1)).drop k))
 exact⟨0,Nat.zero_le _,rfl,rfl,h0,rfl⟩
 case round=>
  clear h0;obtain⟨k,hk,eA,rfl,hinv,aE⟩:=hrel;have HF:=zC aE;clear aE
  by_cases aF:k<ms.length
  ·have aC:=zC ((zA HF).trans (zo6 aF));obtain⟨g,cap,hv,iG,aZ,bO,bP,hc⟩:=vU zu4 hinv.eK.row k aF;injection hv with h1 h2 h3
   subst h1 h3;obtain⟨br,dL,fp⟩:=zD (hinv.eK.each _ (List.getElem_mem aF));have q0:=hc 0 (by omega);have q1:=hc 1 (by omega);have q2:=hc 2 (by omega);have q3:=hc 3 (by omega);have q4:=hc 4 (by omega);have q5:=hc 5 (by omega);have q6:=hc 6 (by omega);have q7:=hc 7 (by omega);have q8:=hc 8 (by omega);have q9:=hc 9 (by omega);simp only[xU.cells,fp,Nat.add_zero,List.getElem?_cons_zero,List.getElem?_cons_succ] at q0 q1 q2 q3 q4 q5 q6 q7 q8 q9;obtain⟨ly,pG⟩:=hn _ (List.getElem_mem aF);obtain⟨gr,dA,BO,CW,Cu,Dz,Cr,nk⟩:=vU zq3 hinv.rules.row ms[k].1.num ly;injection BO with h4 h5 h6
   subst h4 h6;have ax:=hinv.rules.each _ (List.getElem_mem ly);obtain⟨ah,ch,Bk⟩:=zD ax.hd;obtain⟨ab,cb,my⟩:=zD ax.bo.row;have r0:=nk 0 (by omega);have r1:=nk 1 (by omega);have r2:=nk 2 (by omega);simp only[PR.cells,Bk,my,Nat.add_zero,List.getElem?_cons_zero,List.getElem?_cons_succ] at r0 r1 r2;obtain⟨x0,uu⟩:=zB hinv.box 0;have bA:=(Below.refl wr.heap.size wr).alloc L9 (.cells #[.int .i64 ms[k].1.num,.bool ms[k].1.neg,.string ms[k].1.pd,.slice br ms[k].1.ts.length dL,.int .i64 ms[k].1.start,.int .i64 ms[k].1.place,.int .i64 (ms[k].1.pl 0),.int .i64 (ms[k].1.pl 1),.int .i64 (ms[k].1.pl 2),.int .i64 (ms[k].1.pl 3)] 221);have hI:=hinv.next bA;have pK:(wr.alloc (.cells #[.int .i64 ms[k].1.num,.bool ms[k].1.neg,.string ms[k].1.pd,.slice br ms[k].1.ts.length dL,.int .i64 ms[k].1.start,.int .i64 ms[k].1.place,.int .i64 (ms[k].1.pl 0),.int .i64 (ms[k].1.pl 1),.int .i64 (ms[k].1.pl 2),.int .i64 (ms[k].1.pl 3)] 221)).heap[wr.heap.size]?=_:=heap_alloc_new wr _;have iJ:zj0 (rs.map (·.R)) ms[k].1.num=rs[ms[k].1.num].bs.map (·.1):=by
    unfold zj0;rw[List.getElem?_map,List.getElem?_eq_getElem ly];exact ax.eq.symm
   rw[iJ] at aC;have Ix:=hI.eK.each _ (List.getElem_mem aF);rw[fp] at Ix;have PH:=(hI.rules.each _ (List.getElem_mem ly)).bo;rw[my] at PH;have HC:=zC (λ (W:W8) (hW:Below (wr.alloc (.cells #[.int .i64 ms[k].1.num,.bool ms[k].1.neg,.string ms[k].1.pd,.slice br ms[k].1.ts.length dL,.int .i64 ms[k].1.start,.int .i64 ms[k].1.place,.int .i64 (ms[k].1.pl 0),.int .i64 (ms[k].1.pl 1),.int .i64 (ms[k].1.pl 2),.int .i64 (ms[k].1.pl 3)] 221)).heap.size (wr.alloc (.cells #[.int .i64 ms[k].1.num,.bool ms[k].1.neg,.string ms[k].1.pd,.slice br ms[k].1.ts.length dL,.int .i64 ms[k].1.start,.int .i64 ms[k].1.place,.int .i64 (ms[k].1.pl 0),.int .i64 (ms[k].1.pl 1),.int .i64 (ms[k].1.pl 2),.int .i64 (ms[k].1.pl 3)] 221)) W)=>(And.intro (hI.next hW) ((hW.block wr.heap.size (by simp)).trans pK)));have dK:=cI _ (List.getElem_mem ly);have IS:=zC Ix.drew;have Cp:=zC PH.drew;have bj:=hinv.sz;clear hc nk HF hinv hI fp ax Bk my iJ pK Ix PH bA;go_wp2_with fail;go_upto_region 4 with fail
   go_cut [6,7] (λ v6 v7 wc=>v6=.int .i64 ((vL (rs[ms[k].1.num].bs.map (·.1)) ms[k].1.ts 0).getD 0)/\v7=.bool (vL (rs[ms[k].1.num].bs.map (·.1)) ms[k].1.ts 0).isSome/\zv w base (.slice (some ⟨gr,0,none⟩) rs.length cr) (.slice (some ⟨g,0,none⟩) ms.length cm) rs ms wc/\wc.heap[wr.heap.size]?=some (.cells #[.int .i64 ms[k].1.num,.bool ms[k].1.neg,.string ms[k].1.pd,.slice br ms[k].1.ts.length dL,.int .i64 ms[k].1.start,.int .i64 ms[k].1.place,.int .i64 (ms[k].1.pl 0),.int .i64 (ms[k].1.pl 1),.int .i64 (ms[k].1.pl 2),.int .i64 (ms[k].1.pl 3)] 221 (0,0)))
   case first=>
    go_region_with (go_at_call 118;refine (zuw _ base ms[k].1.pd rs[ms[k].1.num].R.pd br dL ms[k].1.ts ah rs[ms[k].1.num].R.ts.length ch ab cb rs[ms[k].1.num].bs (zA IS) (zA Cp) dK).mono ?_;rintro e w2 ⟨he,aK⟩;unfold z9o at he;subst he)
    all_goals
     go_wp2_with fail;go_meet
     case rel=>exact⟨rfl,rfl,(zA HC w2 (Below.lr aK)).1,(zA HC w2 (Below.lr aK)).2⟩
   case rest=>
    obtain⟨rfl,rfl,dI,re⟩:=hcut;have eC:=zC dI;have sx:=dI.sz;clear dI q0 q1 q2 q3 q4 q5 q6 q7 q8 q9 r0 r1 r2 x0 uu HC IS Cp
    cases hx:vL (rs[ms[k].1.num].bs.map (·.1)) ms[k].1.ts 0 with
    | none=>
     rw[hx] at aC;clear hx;have aP:=zC (zA aC);clear aC;go_wp2_with fail;go_roundg (ms.length-(k+1));exact⟨k+1,by omega,rfl,by go_num,zA eC,zA aP⟩;omega
    | some i=>
     have hi4:i<4:=(by have:=zwg hx;omega);rw[hx] at aC;clear hx;have Cc:i=0\/i=1\/i=2\/i=3:=(by omega);have y6:=(zB re 6).1;have y7:=(zB re 7).1;have y8:=(zB re 8).1;have y9:=(zB re 9).1;have hF:jQ (rs.map (·.R)) (ms.map (·.1))=(ms[k].1.pl i:Int):=zA aC;have aP:=zC hF;clear aC hF re;rcases Cc with rfl | rfl | rfl | rfl
     all_goals
      go_wp2_with fail
      go_ret2
      refine⟨?_,(zA eC).below⟩;rw[zA aP];unfold zix;rw[if_pos (by omega)];simp
  ·have aC:=zC (show jQ (rs.map (·.R)) (ms.map (·.1))=-1 by rw[zA HF,List.drop_of_length_le (by simp;omega)];rfl);have HI:=zC hinv;clear HF hinv;go_wp2_with fail
   go_ret2
   exact⟨by rw[zA aC];rfl,(zA HI).below⟩
end
section
open Go.RowKit Go.Maps
abbrev zh6:=B8 × B8
def tgt (E:List zh6)(p:B8):List B8:=(E.filter λ e=>e.1.toList==p.toList).map (·.2)
def py (l:List B8):V8:=l.map Value.string
def zgs (pd:B8)(l:List vK):List zh6:=l.map λ x=>(pd,x.pd)
def jA (rs:List vY):List zh6:=rs.flatMap λ R=>zgs R.pd R.body
theorem z8b (E:List zh6)(p q:B8):tgt (E++[(p,q)]) p=tgt E p++[q]:=by
 simp[tgt]
variable {p q:B8} {E:List zh6}
theorem zr4 {x:B8}(h:x≠p):tgt (E++[(p,q)]) x=tgt E x:=by
 have h1:¬ p.toList=x.toList:=λ e=>h (xO.1 (by simpa using e.symm))
 simp[tgt,h1]
theorem ycd (E:List zh6)(p:B8):(tgt E p).length<=E.length:=by
 simp only[tgt,List.length_map];exact List.length_filter_le _ _
structure Lk (b n:Nat)(E:List zh6)(V:B8->Option Value)(wr:W8):Prop where
 map:dE Tryz.prog 9 wr b n V
 rows:∀ p v,V p=some v->wr.ownsRow (b+1) 9 1 v (tgt E p).length (py (tgt E p))
 QR:∀ p,V p=none->tgt E p=[]
 apart:∀ p q v u,V p=some v->V q=some u->p≠q->v.ownBlock=none\/v.ownBlock≠u.ownBlock
variable {wr:W8} {V:B8->Option Value} {b n:Nat}
theorem Lk.below {w1:W8}(h:Lk b n E V wr)(hb:Below wr.heap.size wr w1):Lk b n E V w1:=
 ⟨h.map.block (hb.block _ h.map.lt),λ p v hv=>zJ (h.rows p v hv) hb (λ g e=>((h.rows p v hv).lt g e).2),h.QR,h.apart⟩
theorem Lk.at_ (h:Lk b n E V wr)(p:B8):wr.ownsRow (b+1) 9 1 ((V p).getD (.slice none 0 0)) (tgt E p).length (py (tgt E p)):=by
 cases hv:V p with
 | none=>rw[h.QR p hv];exact World.ownsRow_nil _ _ _ _
 | some v=>exact h.rows p v hv
theorem Lk.put {w5 w6:W8}(h:Lk b n E V wr){v':Value}(hg:wr.grownBy w5 ((V p).getD (.slice none 0 0)).ownBlock)
  (ay:w5.ownsRow (b+1) 9 1 v' ((tgt E p).length+1) (py (tgt E p)++[.string q])) (N6:v'.ownBlock=((V p).getD (.slice none 0 0)).ownBlock\/v'.ownBlock=some wr.heap.size)
  (dH:dE Tryz.prog 9 w6 b (n+1) (z0b V p v')) (sZ:w5.grownBy w6 (some b)):
  Lk b (n+1) (E++[(p,q)]) (z0b V p v') w6/\zK (b::((V p).getD (.slice none 0 0)).ownBlock.toList) wr w6:=by
 have hu:=h.at_ p;have bF:∀ x v,V x=some v->x≠p->v.ownBlock=none\/v.ownBlock≠((V p).getD (.slice none 0 0)).ownBlock:=λ x v hv hx=>by
  cases hp:V p with
  | none=>cases v.ownBlock <;> simp[Value.ownBlock]
  | some u=>exact h.apart x p v u hv hp hx
 have bc:∀ {v:Value} {m:Nat} {xs:V8},w5.ownsRow (b+1) 9 1 v m xs->w6.ownsRow (b+1) 9 1 v m xs:=λ {v m xs} hv=>zZ hv (λ g e=>sZ.block g ((hv.lt g e).2) (by have:=(hv.lt g e).1;simp;omega))
 have bX:∀ x v,V x=some v->x≠p->v.ownBlock=none\/v.ownBlock≠v'.ownBlock:=λ x v hv hx=>by
  rcases N6 with h1 | h1
  ·rw[h1];exact bF x v hv hx
  ·cases nG:v.ownBlock with
   | none=>exact .inl rfl
   | some g=>
    refine .inr (λ e=>?_);rw[h1] at e;injection e with e
    have:=((h.rows x v hv).lt g nG).2;omega
 refine⟨⟨dH,λ x v hv=>?_,λ x hx=>?_,λ x y v u hv lU D7=>?_⟩,?_⟩
 ·by_cases e:x=p
  ·subst e;rw[za4] at hv;injection hv with hv
   subst hv;rw[z8b];have:=bc ay;simpa[py] using this
  ·rw[qC e] at hv;rw[zr4 e];exact bc ((h.rows x v hv).kept hg (bF x v hv e))
 ·by_cases e:x=p
  ·subst e;rw[za4] at hx;cases hx
  ·rw[qC e] at hx;rw[zr4 e];exact h.QR x hx
 ·by_cases e:x=p
  ·subst e;rw[za4] at hv;injection hv with hv
   subst hv;have TT:y≠x:=λ e=>D7 e.symm
   rw[qC TT] at lU;rcases bX y u lU TT with h1 | h1
   ·cases hb:v'.ownBlock with
    | none=>exact .inl rfl
    | some g=>exact .inr (by rw[h1];simp)
   ·exact .inr (λ e=>h1 e.symm)
  ·rw[qC e] at hv
   by_cases e2:y=p
   ·subst e2;rw[za4] at lU;injection lU with lU
    subst lU;exact bX x v hv e
   ·rw[qC e2] at lU;exact h.apart x y v u hv lU D7
 ·have hz:=hg.size;have Vp:=sZ.size;refine⟨sZ.os.trans hg.os,sZ.tape.trans hg.tape,sZ.output.trans hg.output,by omega,λ k hk hn=>?_⟩;rw[sZ.block k (by omega) (by simp at hn ⊢;omega),hg.block k hk (λ e=>hn (by simp[<-e]))]
theorem z7r (w1:W8)(o:Obj)(x:B8)(j:Nat)(u:Value)(h:([Value.string x]:V8)[j]?=some u):((w1.alloc o).alloc (Obj.cells #[.string x] 9)).cell? ((⟨w1.heap.size+1,0,none⟩:Addr).add j)=some u:=by
 have e:(⟨w1.heap.size+1,0,none⟩:Addr).add j=⟨w1.heap.size+1,j,none⟩:=by unfold Addr.add;split <;> simp_all
 rw[e,World.cell?_alloc_at _ _ _ _ (by simp)];simpa using h
theorem z2e (x:B8):∀ u∈([Value.string x]:V8),u.oneCell'=true:=by
 intro u hu;simp at hu;subst hu;rfl
def Est (rs:List PR)(k:Nat)(pd:B8)(ls:List (vK × Value))(j:Nat):List zh6:=jA ((rs.map (·.R)).take k)++zgs pd ((ls.map (·.1)).take j)
theorem zlv (l:List vY)(R:vY):jA (l++[R])=jA l++zgs R.pd R.body:=by simp[jA]
variable {k:Nat} {rs:List PR}
theorem zi1 (h:k<rs.length):(rs.map (·.R)).take (k+1)=(rs.map (·.R)).take k++[rs[k].R]:=by
 rw[List.take_succ_eq_append_getElem (by simpa using h)];simp
variable {j:Nat}
theorem zx1 (h:k<rs.length)(he:rs[k].bs.map (·.1)=rs[k].R.body)(hj:rs[k].bs.length<=j):Est rs k rs[k].R.pd rs[k].bs j=jA ((rs.map (·.R)).take (k+1)):=by
 unfold Est;rw[zi1 h,zlv,List.take_of_length_le (l:=rs[k].bs.map (·.1)) (by simpa using hj),he]
theorem z8y {pd:B8}{ls:List (vK × Value)}(hj:j<ls.length):Est rs k pd ls (j+1)=Est rs k pd ls j++[(pd,ls[j].1.pd)]:=by
 unfold Est;rw[List.take_succ_eq_append_getElem (by simpa using hj)];simp[zgs]
theorem z2v (w:W8)(base:Nat)(ar:O8)(cr:Nat)(rs:List PR)(h:ig w base (.slice ar rs.length cr) rs)(iU:∀ r∈rs,r.R.pd.size<=800)(cI:∀ r∈rs,r.bs.length<=3)(DD:rs.length<=30):
  Calls Tryz.prog 119 #[.slice ar rs.length cr] w λ e w'=>e=.returned (.map (some w.heap.size))/\Below w.heap.size w w'/\w.heap.size<w'.heap.size/\∃ V,Lk w.heap.size (jA (rs.map (·.R))).length (jA (rs.map (·.R))) V w':=by
 have np:=@run_makeMap Tryz.prog;obtain⟨i0,hi,bL,aY,bf⟩:=info_parts zf5;have h0:Lk w.heap.size 0 [] (λ _=>none) (w.alloc (.map #[] 0)):=⟨dE.made _ _ w,λ _ _ hv=>(by cases hv),λ _ _=>rfl,λ _ _ _ _ hv=>(by cases hv)⟩;have b0:Below w.heap.size w (w.alloc (.map #[] 0)):=B9.alloc L9 _;have hE:∀ k,k<=rs.length->(jA ((rs.map (·.R)).take k)).length<=3*k:=by
  intro k
  induction k with
  | zero=>intro _;simp[jA]
  | succ k ih=>
   intro hk;rw[zi1 (by omega),zlv];have h1:=ih (by omega);have h2:=cI _ (List.getElem_mem (show k<rs.length by omega));have h3:=(h.each _ (List.getElem_mem (show k<rs.length by omega))).eq;have h4:rs[k].R.body.length=rs[k].bs.length:=(by rw[<-h3];simp);simp only[List.length_append,zgs,List.length_map];omega
 have HE:=zC hE;have HR:=zC h;clear h hE;go_enter Tryz.func119,Tryz.ntmps119;go_wp2_with fail
 go_loopg [12] rs.length (λ gg i wr=>∃ (k:Nat) (V:B8->Option Value),k<=rs.length/\gg=rs.length-k/\i=.int .i64 k/\Below w.heap.size w wr/\w.heap.size<wr.heap.size/\Lk w.heap.size (jA ((rs.map (·.R)).take k)).length (jA ((rs.map (·.R)).take k)) V wr)
 exact⟨0,_,Nat.zero_le _,rfl,rfl,b0,by simp,h0⟩
 case round=>
  clear h0 b0;obtain⟨k,V,hk,eA,rfl,hB,bj,Bj⟩:=hrel
  by_cases aF:k<rs.length
  ·have C9:=(zA HR).below hB;obtain⟨gr,dA,BO,CW,Cu,Dz,Cr,nk⟩:=vU zq3 C9.row k aF;injection BO with h4 h5 h6
   subst h4 h6;have ax:=C9.each _ (List.getElem_mem aF);have GJ:=(zA HR).each _ (List.getElem_mem aF);obtain⟨ah,ch,Bk⟩:=zD ax.hd;obtain⟨ab,cb,my⟩:=zD ax.bo.row;have r0:=nk 0 (by omega);have r1:=nk 1 (by omega);have r2:=nk 2 (by omega);simp only[PR.cells,Bk,my,Nat.add_zero,List.getElem?_cons_zero,List.getElem?_cons_succ] at r0 r1 r2;have bA:=(Below.refl wr.heap.size wr).alloc L9 (.cells #[.string rs[k].R.pd,.slice ah rs[k].R.ts.length ch,.slice ab rs[k].bs.length cb] 123);have Cj:(wr.alloc (.cells #[.string rs[k].R.pd,.slice ah rs[k].R.ts.length ch,.slice ab rs[k].bs.length cb] 123)).heap[wr.heap.size]?=_:=heap_alloc_new wr _;have gA:=hB.trans (bA.mono (by omega));have sg:=Bj.below bA;have iu:=GJ.bo;rw[my] at iu;have KN:=zC iu;have Wh:=zC GJ.eq;have dK:=cI _ (List.getElem_mem aF);have fl:=iU _ (List.getElem_mem aF);have dF:rs[k].R.pd.size<=maxLen:=(by unfold maxLen;omega);have hlen:=zA HE k hk;have UX:Lk w.heap.size (Est rs k rs[k].R.pd rs[k].bs 0).length (Est rs k rs[k].R.pd rs[k].bs 0) V (wr.alloc (.cells #[.string rs[k].R.pd,.slice ah rs[k].R.ts.length ch,.slice ab rs[k].bs.length cb] 123)):=by
    have:Est rs k rs[k].R.pd rs[k].bs 0=jA ((rs.map (·.R)).take k):=by simp[Est,zgs]
    rw[this];exact sg
   have EU:(Est rs k rs[k].R.pd rs[k].bs 0).length<=3*k+0:=(by simpa[Est,zgs] using hlen);clear nk ax GJ Bk my sg C9 iu Bj bA hlen;generalize gW:wr.heap.size=n1 at *;go_wp2_with fail
   go_loopg [19] rs[k].bs.length (λ gg2 j wj=>∃ (jj:Nat) (V:B8->Option Value),jj<=rs[k].bs.length/\gg2=rs[k].bs.length-jj/\j=.int .i64 jj/\Below w.heap.size w wj/\n1<wj.heap.size/\wj.heap[n1]?=some (.cells #[.string rs[k].R.pd,.slice ah rs[k].R.ts.length ch,.slice ab rs[k].bs.length cb] 123 (0,0))/\Lk w.heap.size (Est rs k rs[k].R.pd rs[k].bs jj).length (Est rs k rs[k].R.pd rs[k].bs jj) V wj/\(Est rs k rs[k].R.pd rs[k].bs jj).length<=3*k+jj)
   exact⟨0,V,Nat.zero_le _,rfl,rfl,gA,by simp[gW],Cj,UX,EU⟩
   case round=>
    clear UX EU gA Cj r0 r1 r2 hB;obtain⟨j,V,hj,xu,rfl,hB,sx,Cj,hL,hlen⟩:=hrel
    by_cases fu:j<rs[k].bs.length
    ·have eo:=(zA KN).below hB;obtain⟨g,cap,hv,iG,aZ,bO,bP,hc⟩:=vU zxo eo.row j fu;injection hv with h1 h2 h3
     subst h1 h3;obtain⟨br,dL,fp⟩:=zD (eo.each _ (List.getElem_mem fu));have q0:=hc 0 (by omega);have q1:=hc 1 (by omega);have q2:=hc 2 (by omega);simp only[vK.cells,fp,Nat.add_zero,List.getElem?_cons_zero,List.getElem?_cons_succ] at q0 q1 q2;obtain⟨c0,f0⟩:=zB Cj 0;have bA:=((Below.refl wr.heap.size wr).alloc L9 (.cells #[.bool rs[k].bs[j].1.neg,.string rs[k].bs[j].1.pd,.slice br rs[k].bs[j].1.ts.length dL] 183)).alloc (by simp) (.cells #[.string rs[k].bs[j].1.pd] 9);have T3:=(Below.refl wr.heap.size wr).alloc L9 (.cells #[.bool rs[k].bs[j].1.neg,.string rs[k].bs[j].1.pd,.slice br rs[k].bs[j].1.ts.length dL] 183);have dH:=(hL.below T3).map;have Ot:=hL.below bA;have hu:=Ot.at_ rs[k].R.pd;obtain⟨au,cu,Eh⟩:=zD hu;have rE:=ycd (Est rs k rs[k].R.pd rs[k].bs j) rs[k].R.pd;have lU:=hu;rw[Eh] at lU;have IC:=zC Ot;have Hj:=zC (z8y (rs:=rs) (k:=k) (pd:=rs[k].R.pd) fu);have Ae:=(bA.block n1 sx).trans Cj;have MA:=zC Ae;have AJ:=zC bA;have Yw:=zC (yH lU (e:=123) (by decide));have U5:=zC (λ g e=>(lU.lt g e).1);clear hc fp hL Ot hu Cj Ae bA T3 eo;go_wp2_with (first | (at_lookup;refine zfk _ rfl _ _ 224 rfl 9 33 Tryz.underlying9 Tryz.underlying224 (Tryz.zeroValue33 _) w.heap.size (Est rs k rs[k].R.pd rs[k].bs j).length V rfl dH rs[k].R.pd rfl dF _ Eh ?_) | (at_builtin;refine wpList_append_own_at _ rfl _ _ 33 rfl (w.heap.size+1) 9 i0 _ 1 16 Tryz.underlying33 hi bL aY bf rfl (by decide) _ _ _ rfl lU ⟨wr.heap.size+1,0,none⟩ 1 1 [.string rs[k].bs[j].1.pd] rfl rfl (z7r wr _ _) (z2e _) (by unfold maxLen;omega) (by omega) (by simp;omega) ?_));intro v5 w5 aq aU hnil5 hloc5;obtain⟨a5,eI,rfl⟩:=zD aq;rw[<-Eh] at aU hloc5;have I3:=aU.size;have BQ:dE Tryz.prog 9 w5 w.heap.size (Est rs k rs[k].R.pd rs[k].bs j).length V:=(zA IC).map.block (aU.block _ (zA IC).map.lt (λ e=>by rw[Eh] at e;have:=zA U5 _ e.symm;omega));have CC:=zC aq;have FB:=zC aU;have CJ:=zC hloc5;clear aq aU hnil5 hloc5 dH lU
     go_wp2_with (at_mapUpdate;refine znz _ rfl _ _ _ 224 rfl 9 33 Tryz.underlying9 Tryz.underlying224 w.heap.size (Est rs k rs[k].R.pd rs[k].bs j).length V rfl BQ (by unfold maxLen;omega) rs[k].R.pd _ (by rfl) (by rfl) dF ?_);intro w6 Ee sZ;obtain⟨Sg,Kb⟩:=(zA IC).put (q:=rs[k].bs[j].1.pd) (zA FB) (zA CC) (by simpa using zA CJ) Ee sZ;rw[Eh] at Kb
     have uG:=yL (zA MA) Kb (λ x hx=>by
      rcases List.mem_cons.1 hx with rfl | hx
      ·exact .inl (by omega)
      ·exact .inr (zA Yw x hx))
     have mz:Below w.heap.size w w6:=zY (hB.trans ((zA AJ).mono (by omega))) Kb (by simp;omega) (λ x hx=>by
      rcases List.mem_cons.1 hx with rfl | hx
      ·omega
      ·have:=zA U5 x (by simpa using hx);omega)
     have Vp:=Kb.size;simp at Vp;have VB:=zC Sg;have W6:=zC uG;clear Sg Kb uG Ee sZ BQ FB CC CJ;go_wp2_with fail;go_roundg (rs[k].bs.length-(j+1));exact⟨j+1,_,by omega,rfl,by go_num,mz,by omega,zA W6,by rw[zA Hj,List.length_append];exact zA VB,by rw[zA Hj];simp;omega⟩;omega
    ·have xa:=zC (zx1 aF (zA Wh) (j:=j) (by omega));have HL:=zC hL;clear hL Cj;go_wp2_with fail;go_roundg (rs.length-(k+1));exact⟨k+1,V,by omega,rfl,by go_num,hB,by omega,by rw[<-zA xa];exact zA HL⟩;omega
  ·have e:(rs.map (·.R)).take k=rs.map (·.R):=List.take_of_length_le (by simp;omega);rw[e] at Bj;have HL:=zC Bj;clear Bj e;go_wp2_with fail;go_ret;exact⟨rfl,hB,bj,V,zA HL⟩
end
end Go.Proofs.YtldkpahaocjdpaaGreat
