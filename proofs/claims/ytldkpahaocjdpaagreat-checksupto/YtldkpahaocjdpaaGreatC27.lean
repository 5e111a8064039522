/-
  The reference's text of an atom, and its Print: the very bytes that the program writes.
-/
import Derived.Test.YtldkpahaocjdpaaGreatC26
import Derived.Laws.Concat
import Derived.StillTailTactics
import Derived.KernelRfl
set_option maxHeartbeats 16000000
set_option maxRecDepth 1000000
namespace Go.Proofs.YtldkpahaocjdpaaGreat
section
open Go.RowKit
theorem zjx (a b:B8)(h:a.size+b.size<=2000000000)(w:W8):(Op.stringOp .add a b).run Tryz.prog w=.ok (.string (a++b)) w:=run_string_add_sum w a b (by omega)
theorem z9e (c:UInt8):(ByteArray.mk #[c]).size=1:=rfl
theorem MI (a b:B8):(a++b).data.toList=a.data.toList++b.data.toList:=by simp
theorem ztc (a b:B8):(a++b).size=a.size+b.size:=by simp[ByteArray.size_append]
def xS (A:zL):List UInt8:=zhu A.pred (A.ae.map gZ)
theorem zqi {l:List xK}{k:Nat}(h:k<l.length):vG ((l.map gZ).drop k) k=(if k=0 then 40 else 44)::(l[k].text.data.toList++vG ((l.map gZ).drop (k+1)) (k+1)):=by
 rw[List.drop_eq_getElem_cons (by simpa using h),vG];simp[gZ]
theorem zqj (w:W8)(base:Nat)(A:zL)(a:O8)(c:Nat)(h:w.ownsRow base 317 3 (.slice a A.ae.length c) A.ae.length (cellsOf A.ae))(hlen:(xS A).length<=1000000000):
  Calls Tryz.prog 134 #[.agg #[.string A.pred,.slice a A.ae.length c,.bool A.no,.int .i64 A.at_,.int .i64 A.ak]] w λ e w'=>∃ s:B8,e=.returned (.string s)/\s.data.toList=xS A/\Below w.heap.size w w':=by
 have mU:=yN h;unfold maxLen at mU;have b8:=qR A.pred;have bA:=(Below.refl w.heap.size w).alloc L9 (.cells #[.string A.pred,.slice a A.ae.length c,.bool A.no,.int .i64 A.at_,.int .i64 A.ak] 243);have h0:=zH h bA (λ g e=>(h.lt g e).2);have e0:(xS A).length=A.pred.size+((vG (A.ae.map gZ) 0).length+(if A.ae.length=0 then ([]:List UInt8) else [41]).length):=by simp[xS,zhu,b8]
 have HE:=zC (show xS A=A.pred.data.toList++(vG (A.ae.map gZ) 0++if A.ae.length=0 then [] else [41]) by simp[xS,zhu]);clear h;go_enter Tryz.func134,Tryz.ntmps134;go_wp2_with fail
 go_loop [3,4] (λ v i=>∃ (k:Nat) (s:B8),k<=A.ae.length/\v=.string s/\i=.int .i64 k/\s.data.toList++vG ((A.ae.map gZ).drop k) k=A.pred.data.toList++vG (A.ae.map gZ) 0) (λ _ i=>A.ae.length-(intOf i).toNat)
 exact⟨0,A.pred,Nat.zero_le _,rfl,rfl,rfl⟩
 case round=>
  obtain⟨k,s,hk,rfl,rfl,hm⟩:=hrel;have bh:=congrArg List.length hm;simp only[List.length_append,b8,qR] at bh
  by_cases aE:k<A.ae.length
  ·have fy:=zqi aE;rw[fy] at hm bh;simp only[List.length_cons,List.length_append,qR] at bh;have HM:=zC hm;clear hm fy;obtain⟨g,cap,hv,oN,bR,cZ,da,q0,q1,q2⟩:=zaa h0 k aE;injection hv with i1 i2 i3
   subst i1 i3
   cases k with
   | zero=>
    have c1:=zjx s { data:=#[40] } (by rw[z9e];omega);have c2:=zjx (s++{ data:=#[40] }) A.ae[0].text (by rw[ztc,z9e];omega);go_wp2_with fail
    go_round
    case rel=>exact⟨0+1,_,by omega,rfl,by go_num,by rw[MI,MI];have:=zA HM;simpa using this⟩
    case measure=>simp[intOf];omega
   | succ k=>
    have iW:(((k+1:Nat):Int)==0)=false:=(by simp;omega);have c1:=zjx s { data:=#[44] } (by rw[z9e];omega);have c2:=zjx (s++{ data:=#[44] }) A.ae[k+1].text (by rw[ztc,z9e];omega);go_wp2_with fail
    go_round
    case rel=>exact⟨k+1+1,_,by omega,rfl,by go_num,by rw[MI,MI];have:=zA HM;simpa using this⟩
    case measure=>simp[intOf];omega
  ·have hd:(A.ae.map gZ).drop k=[]:=List.drop_of_length_le (by simp;omega);rw[hd] at hm bh;simp only[vG,List.append_nil,List.length_nil] at hm bh;have HM:=zC hm;clear hm hd
   by_cases hn:A.ae.length=0
   ·have QN:¬ (0<(A.ae.length:Int)):=(by omega);have A4:=zC (show xS A=A.pred.data.toList++vG (A.ae.map gZ) 0 by rw[zA HE,if_pos hn];simp);clear HE hn;go_wp2_with fail;go_ret;exact⟨s,rfl,by rw[zA HM,zA A4],bA⟩
   ·have QN:0<(A.ae.length:Int):=(by omega);have A4:=zC (show xS A=A.pred.data.toList++vG (A.ae.map gZ) 0++[41] by rw[zA HE,if_neg hn];simp);rw[if_neg hn,show ([41]:List UInt8).length=1 from rfl] at e0;have c1:=zjx s { data:=#[41] } (by rw[z9e];omega);clear HE hn;go_wp2_with fail;go_ret;exact⟨_,rfl,by rw[MI,zA HM,zA A4],bA⟩
theorem zbw (w:W8)(base:Nat)(A:zL)(a:O8)(c:Nat)(no:Bool)(x y:Nat)(h:w.ownsRow base 317 3 (.slice a A.ae.length c) A.ae.length (cellsOf A.ae))(hlen:(xS A).length<=1000000000):
  Calls Tryz.prog 134 #[.agg #[.string A.pred,.slice a A.ae.length c,.bool no,.int .i64 x,.int .i64 y]] w λ e w'=>∃ s:B8,e=.returned (.string s)/\s.data.toList=xS A/\Below w.heap.size w w':=
 zqj w base ⟨A.pred,A.ae,no,x,y⟩ a c h hlen
end
section
open Go.RowKit
theorem zb9 {P:Program}{id:Nat}{Q:Exit->Act->W8->Prop}{a:Act}{w:W8}{l:List Oper}(n:Nat)(hm:P.follows .mixedOrders=true)(hB:Region.lexTailB .any l.toArray n=true)
  (h:∀ W,W=w.drew->wpStill P l.toArray W (λ a'=>wpList P l.toArray Q (l.drop n) a' W) (l.take n) a):(Code.region id l.toArray true).wp P Q a w:=wp_region_still_tail n hm hB (h _ rfl)
theorem z0b:Tryz.prog.follows .mixedOrders=true:=by kernel_rfl
end
section
open Go.RowKit
abbrev Env:=List (B8 × B8)
def ziw:Env->B8->B8
 | [],_=>{ data:=#[] }
 | x::r,n=>if x.1.toList==n.toList then x.2 else ziw r n
def qY (e:Env)(t:xK):B8:=if t.isVar then ziw e t.text else t.text
variable {k:Nat} {e:Env}
theorem zvl {n:B8}(h:k<e.length):ziw (e.drop k) n=if e[k].1.toList==n.toList then e[k].2 else ziw (e.drop (k+1)) n:=by
 rw[List.drop_eq_getElem_cons h];rfl
def jB:Env->List xK->List xK->Option Env
 | e,t::ts,u::us=>if (qY e t).toList==[] then jB (e++[(t.text,u.text)]) ts us else if (qY e t).toList==u.text.toList then jB e ts us else none
 | e,_,_=>some e
def vN (e:Env)(a th:zL):Option Env:=if a.pred.toList==th.pred.toList&&a.ae.length==th.ae.length then jB e a.ae th.ae else none
def ofT (e:Env)(t:xK):xK:=⟨qY e t,false,0⟩
def bf (e:Env)(a:zL):zL:=⟨a.pred,a.ae.map (ofT e),false,0,0⟩
theorem zpr {ts us:List xK}(h:k<ts.length)(h':k<us.length):jB e (ts.drop k) (us.drop k)=if (qY e ts[k]).toList==[] then jB (e++[(ts[k].text,us[k].text)]) (ts.drop (k+1)) (us.drop (k+1)) else if (qY e ts[k]).toList==us[k].text.toList then jB e (ts.drop (k+1)) (us.drop (k+1)) else none:=by
 rw[List.drop_eq_getElem_cons h,List.drop_eq_getElem_cons h'];rfl
structure qL (w:W8)(base:Nat)(e:Env)(nv tv:Value):Prop where
 ns:w.ownsRow base 9 1 nv e.length (e.map λ x=>.string x.1)
 ts:w.ownsRow base 9 1 tv e.length (e.map λ x=>.string x.2)
 nil:e=[]->nv=.slice none 0 0/\tv=.slice none 0 0
variable {nv tv:Value} {base:Nat} {w:W8}
theorem qL.below {w':W8}(h:qL w base e nv tv)(k:Below w.heap.size w w'):qL w' base e nv tv:=⟨zH h.ns k (λ g e=>(h.ns.lt g e).2),zH h.ts k (λ g e=>(h.ts.lt g e).2),h.nil⟩
theorem qL.alloc (h:qL w base e nv tv)(o:Obj):qL (w.alloc o) base e nv tv:=⟨h.ns.alloc _,h.ts.alloc _,h.nil⟩
theorem qL.shape (h:qL w base e nv tv):∃ an cn at_ ct,nv=.slice an e.length cn/\tv=.slice at_ e.length ct:=by
 obtain⟨an,cn,h1⟩:=zD h.ns;obtain⟨at_,ct,h2⟩:=zD h.ts;exact⟨an,cn,at_,ct,h1,h2⟩
def z6u (s:B8)(w:W8):Ending->W8->Prop:=λ e w'=>e=.returned (.string s)/\Below w.heap.size w w'
theorem zl3 (w:W8)(base:Nat)(E:Env)(an fG:O8)(cn ct:Nat)(h:qL w base E (.slice an E.length cn) (.slice fG E.length ct))(text:B8)(v:Bool)(at_:Nat):
  Calls Tryz.prog 197 #[.agg #[.slice an E.length cn,.slice fG E.length ct],.agg #[.string text,.bool v,.int .i64 at_]] w (z6u (qY E ⟨text,v,at_⟩) w):=by
 have kX:=yN h.ns;unfold maxLen at kX;have b0:=((Below.refl w.heap.size w).alloc L9 (.cells #[.slice an E.length cn,.slice fG E.length ct] 258)).alloc (by simp) (.cells #[.string text,.bool v,.int .i64 at_] 317);have x0:((w.alloc (.cells #[.slice an E.length cn,.slice fG E.length ct] 258)).alloc (.cells #[.string text,.bool v,.int .i64 at_] 317)).heap[w.heap.size]?=some (.cells #[.slice an E.length cn,.slice fG E.length ct] 258 (0,0)):=by
  rw[Below.heap_alloc _ _ _ (by simp)];exact heap_alloc_new w _
 have x1:((w.alloc (.cells #[.slice an E.length cn,.slice fG E.length ct] 258)).alloc (.cells #[.string text,.bool v,.int .i64 at_] 317)).heap[w.heap.size+1]?=some (.cells #[.string text,.bool v,.int .i64 at_] 317 (0,0)):=by
  have:=heap_alloc_new (w.alloc (.cells #[.slice an E.length cn,.slice fG E.length ct] 258)) (.cells #[.string text,.bool v,.int .i64 at_] 317);rw[World.size_alloc] at this;exact this
 have h0:=(h.alloc (.cells #[.slice an E.length cn,.slice fG E.length ct] 258)).alloc (.cells #[.string text,.bool v,.int .i64 at_] 317)
 cases v with
 | false=>
  clear h0 h x0 x1;go_enter Tryz.func197,Tryz.ntmps197;go_wp2_with fail;go_ret;exact⟨rfl,b0⟩
 | true=>
  have HF:=zC (show qY E ⟨text,true,at_⟩=ziw E text from rfl);have xo:=zC x0;have EX:=zC x1;have H0:=zC h0;have lh:=zC b0;clear h x0 x1 h0 b0;go_enter Tryz.func197,Tryz.ntmps197;go_wp2_with fail
  go_loopg [5] E.length (λ gg i wr=>∃ k:Nat,k<=E.length/\gg=E.length-k/\i=.int .i64 k/\ziw (E.drop k) text=ziw E text/\Below w.heap.size w wr/\wr.heap[w.heap.size]?=some (.cells #[.slice an E.length cn,.slice fG E.length ct] 258 (0,0))/\wr.heap[w.heap.size+1]?=some (.cells #[.string text,.bool true,.int .i64 at_] 317 (0,0))/\qL wr base E (.slice an E.length cn) (.slice fG E.length ct))
  exact⟨0,Nat.zero_le _,rfl,rfl,rfl,zA lh,zA xo,zA EX,zA H0⟩
  case round=>
   clear lh xo EX H0;obtain⟨k,hk,iZ,rfl,ax,hb,x0,x1,he⟩:=hrel;obtain⟨p0,FL⟩:=zB x0 0;obtain⟨p1,AQ⟩:=zB x0 1;obtain⟨q0,Cw⟩:=zB x1 0;have oK:=zC ax;have xo:=zC x0;have EX:=zC x1;have HB:=zC hb;have HE:=zC he;clear ax x0 x1 hb he FL AQ Cw
   by_cases aE:k<E.length
   ·have jb:(k:Int)<E.length:=(by omega);obtain⟨g1,c1,lB,-,tN,kO,oO⟩:=zar (zA HE).ns (by omega);obtain⟨g2,c2,Eo,-,uC,il,nN⟩:=zar (zA HE).ts (by omega);injection lB with i1 i2 i3
    subst i1 i3;injection Eo with i1 i2 i3
    subst i1 i3;have d1:=oO k aE;have d2:=nN k aE;rw[List.getElem?_map,List.getElem?_eq_getElem aE] at d1 d2;simp only[Option.map_some] at d1 d2;clear oO nN;have HS:=zC (zvl (n:=text) aE);go_wp2_with fail;go_quiet (fail)
    cases hq:E[k].1.toList==text.toList with
    | true=>
     go_wp2_with fail;go_ret;exact⟨by rw[zA HF,<-zA oK,zA HS,if_pos hq];rfl,below_drewN (zA HB) _⟩
    | false=>
     go_wp2_with fail;go_roundg (E.length-(k+1));exact⟨k+1,by omega,rfl,by go_num,by rw[<-zA oK,zA HS,if_neg (by rw[hq];decide)],below_drewN (zA HB) _,zA xo,zA EX,(zA HE).below (below_drewN B9 _)⟩;omega
   ·go_wp2_with fail;go_ret;exact⟨by rw[zA HF,<-zA oK,List.drop_of_length_le (by omega)];rfl,zA HB⟩
end
section
open Go.RowKit
def zi1 (l:List B8):V8:=l.map .string
structure lD (w:W8)(A T:zL)(nv tv av bv:Value)(ns ts:List B8)(eC cR:Value)(wr:W8):Prop where
 below:Below w.heap.size w wr
 b0:wr.heap[w.heap.size]?=some (.cells #[nv,tv] 258 (0,0))
 b1:wr.heap[w.heap.size+1]?=some (.cells #[.string A.pred,av,.bool A.no,.int .i64 A.at_,.int .i64 A.ak] 243 (0,0))
 b2:wr.heap[w.heap.size+1+1]?=some (.cells #[.string T.pred,bv,.bool T.no,.int .i64 T.at_,.int .i64 T.ak] 243 (0,0))
 b3:wr.heap[w.heap.size+1+1+1]?=some (.cells #[.slice none 0 0,.slice none 0 0] 258 (0,0))
 b4:wr.heap[w.heap.size+1+1+1+1]?=some (.cells #[eC,cR] 258 (0,0))
 rn:wr.ownsRow (w.heap.size+5) 9 1 eC ns.length (zi1 ns)
 rt:wr.ownsRow (w.heap.size+5) 9 1 cR ts.length (zi1 ts)
 ne:∀ g,eC.ownBlock=some g->cR.ownBlock≠some g
 nn:ns=[]->eC=.slice none 0 0
 tn:ts=[]->cR=.slice none 0 0
variable {wr w:W8} {ns ts:List B8} {nv tv av bv eC cR:Value} {A T:zL}
theorem lD.lt (h:lD w A T nv tv av bv ns ts eC cR wr):w.heap.size+5<=wr.heap.size:=(Array.getElem?_eq_some_iff.1 h.b4).1
theorem lD.dm {w':W8}(h:lD w A T nv tv av bv ns ts eC cR wr)(k:Below wr.heap.size wr w'):lD w A T nv tv av bv ns ts eC cR w':=by
 have hl:=h.lt;exact⟨h.below.trans (k.mono (by omega)),(k.block _ (by omega)).trans h.b0,(k.block _ (by omega)).trans h.b1,(k.block _ (by omega)).trans h.b2,(k.block _ (by omega)).trans h.b3,(k.block _ (by omega)).trans h.b4,zH h.rn k (λ g e=>(h.rn.lt g e).2),zH h.rt k (λ g e=>(h.rt.lt g e).2),h.ne,h.nn,h.tn⟩
theorem lD.start (w:W8)(A T:zL)(nv tv av bv:Value):lD w A T nv tv av bv [] [] (.slice none 0 0) (.slice none 0 0)
  (((((w.alloc (.cells #[nv,tv] 258)).alloc (.cells #[.string A.pred,av,.bool A.no,.int .i64 A.at_,.int .i64 A.ak] 243)).alloc (.cells #[.string T.pred,bv,.bool T.no,.int .i64 T.at_,.int .i64 T.ak] 243)).alloc (.cells #[.slice none 0 0,.slice none 0 0] 258)).alloc (.cells #[.slice none 0 0,.slice none 0 0] 258)):=by
 refine⟨((((((Below.refl _ w).alloc L9 _).alloc (by simp) _).alloc (by simp;omega) _).alloc (by simp;omega) _).alloc (by simp;omega) _),?_,?_,?_,?_,?_,World.ownsRow_nil _ _ _ _,World.ownsRow_nil _ _ _ _,(λ g e=>by cases e),(λ _=>rfl),(λ _=>rfl)⟩
 ·rw[Below.heap_alloc _ _ _ (by simp <;> omega),Below.heap_alloc _ _ _ (by simp <;> omega),Below.heap_alloc _ _ _ (by simp <;> omega),Below.heap_alloc _ _ _ (by simp)];exact heap_alloc_new w _
 ·rw[Below.heap_alloc _ _ _ (by simp <;> omega),Below.heap_alloc _ _ _ (by simp <;> omega),Below.heap_alloc _ _ _ (by simp)];have:=heap_alloc_new (w.alloc (.cells #[nv,tv] 258)) (.cells #[.string A.pred,av,.bool A.no,.int .i64 A.at_,.int .i64 A.ak] 243);simpa using this
 ·rw[Below.heap_alloc _ _ _ (by simp <;> omega),Below.heap_alloc _ _ _ (by simp)];have:=heap_alloc_new ((w.alloc (.cells #[nv,tv] 258)).alloc (.cells #[.string A.pred,av,.bool A.no,.int .i64 A.at_,.int .i64 A.ak] 243)) (.cells #[.string T.pred,bv,.bool T.no,.int .i64 T.at_,.int .i64 T.ak] 243);simpa using this
 ·rw[Below.heap_alloc _ _ _ (by simp)];have:=heap_alloc_new (((w.alloc (.cells #[nv,tv] 258)).alloc (.cells #[.string A.pred,av,.bool A.no,.int .i64 A.at_,.int .i64 A.ak] 243)).alloc (.cells #[.string T.pred,bv,.bool T.no,.int .i64 T.at_,.int .i64 T.ak] 243)) (.cells #[.slice none 0 0,.slice none 0 0] 258);simpa using this
 ·have:=heap_alloc_new ((((w.alloc (.cells #[nv,tv] 258)).alloc (.cells #[.string A.pred,av,.bool A.no,.int .i64 A.at_,.int .i64 A.ak] 243)).alloc (.cells #[.string T.pred,bv,.bool T.no,.int .i64 T.at_,.int .i64 T.ak] 243)).alloc (.cells #[.slice none 0 0,.slice none 0 0] 258)) (.cells #[.slice none 0 0,.slice none 0 0] 258);simpa using this
theorem zkp (a b:List B8):zi1 (a++b)=zi1 a++zi1 b:=List.map_append
variable {news:List B8} {g cap m:Nat} {W w5:W8}
theorem lD.Ka (h:lD w A T nv tv av bv ns ts eC cR wr)(hW:zN [] wr W)(hg:W.grownBy w5 eC.ownBlock)(hm:news.length=m)(zy:0<m)
  (aC:w5.ownsRow (w.heap.size+5) 9 1 (.slice (some ⟨g,0,none⟩) (ns.length+m) cap) (ns.length+m) (zi1 ns++zi1 news)) (eS:eC.ownBlock=some g\/g=W.heap.size):
  lD w A T nv tv av bv (ns++news) ts (.slice (some ⟨g,0,none⟩) (ns.length+m) cap) cR (w5.setCell ⟨w.heap.size+1+1+1+1,0,none⟩ (.slice (some ⟨g,0,none⟩) (ns.length+m) cap))/\w5.heap[w.heap.size+1+1+1+1]?=some (.cells #[eC,cR] 258 (0,0)):=by
 have hl:=h.lt;have hz:=hW.size;have k5:zN eC.ownBlock.toList wr w5:=(hW.mono (by simp)).trans (zN.aN hg);have kF:∀ b,b<w.heap.size+5->b∉eC.ownBlock.toList:=λ b hb hm=>by have:=(h.rn.lt b (by simpa using hm)).1;omega
 have cP:∀ b,b<w.heap.size+5->w5.heap[b]?=wr.heap[b]?:=λ b hb=>k5.block b (by omega) (kF b hb)
 have kS:∀ b,b≠w.heap.size+1+1+1+1->(w5.setCell ⟨w.heap.size+1+1+1+1,0,none⟩ (.slice (some ⟨g,0,none⟩) (ns.length+m) cap)).heap[b]?=w5.heap[b]?:=λ b hb=>Below.heap_setCell _ _ _ _ (by simpa using hb)
 have Kd:=(cP (w.heap.size+1+1+1+1) (by omega)).trans h.b4;have s5:=k5.size;have Ee:news≠[]:=λ e=>by rw[e] at hm;simp at hm;omega
 refine⟨⟨?_,?_,?_,?_,?_,?_,?_,?_,?_,λ e=>absurd (List.append_eq_nil_iff.1 e).2 Ee,h.tn⟩,Kd⟩
 ·refine⟨k5.os.trans h.below.os,k5.tape.trans h.below.tape,k5.output.trans h.below.output,by simp;omega,λ b hb=>?_⟩;rw[kS b (by omega),cP b (by omega)];exact h.below.block b hb
 ·rw[kS _ (by omega),cP _ (by omega)];exact h.b0
 ·rw[kS _ (by omega),cP _ (by omega)];exact h.b1
 ·rw[kS _ (by omega),cP _ (by omega)];exact h.b2
 ·rw[kS _ (by omega),cP _ (by omega)];exact h.b3
 ·rw[heap_setCell_same _ _ _ _ _ _ Kd];rfl
 ·rw[zkp,List.length_append,hm];exact ownsRow_setCell_below aC (by simp) _
 ·have h1:w5.ownsRow (w.heap.size+5) 9 1 cR ts.length (zi1 ts):=xI h.rt (λ b hb=>k5.block b (h.rt.lt b hb).2 (λ hm=>h.ne b (by simpa using hm) hb));exact ownsRow_setCell_below h1 (by simp) _
 ·intro g' e;have e':g=g':=by simpa[Value.ownBlock] using e
  subst e';rcases eS with h1 | h1
  ·exact h.ne g h1
  ·intro h2;have:=(h.rt.lt g h2).2;omega
theorem lD.Kb (h:lD w A T nv tv av bv ns ts eC cR wr)(hW:zN [] wr W)(hg:W.grownBy w5 cR.ownBlock)(hm:news.length=m)(zy:0<m)
  (aC:w5.ownsRow (w.heap.size+5) 9 1 (.slice (some ⟨g,0,none⟩) (ts.length+m) cap) (ts.length+m) (zi1 ts++zi1 news)) (eS:cR.ownBlock=some g\/g=W.heap.size):
  lD w A T nv tv av bv ns (ts++news) eC (.slice (some ⟨g,0,none⟩) (ts.length+m) cap) (w5.setCell ⟨w.heap.size+1+1+1+1,1,none⟩ (.slice (some ⟨g,0,none⟩) (ts.length+m) cap))/\w5.heap[w.heap.size+1+1+1+1]?=some (.cells #[eC,cR] 258 (0,0)):=by
 have hl:=h.lt;have hz:=hW.size;have k5:zN cR.ownBlock.toList wr w5:=(hW.mono (by simp)).trans (zN.aN hg);have kF:∀ b,b<w.heap.size+5->b∉cR.ownBlock.toList:=λ b hb hm=>by have:=(h.rt.lt b (by simpa using hm)).1;omega
 have cP:∀ b,b<w.heap.size+5->w5.heap[b]?=wr.heap[b]?:=λ b hb=>k5.block b (by omega) (kF b hb)
 have kS:∀ b,b≠w.heap.size+1+1+1+1->(w5.setCell ⟨w.heap.size+1+1+1+1,1,none⟩ (.slice (some ⟨g,0,none⟩) (ts.length+m) cap)).heap[b]?=w5.heap[b]?:=λ b hb=>Below.heap_setCell _ _ _ _ (by simpa using hb)
 have Kd:=(cP (w.heap.size+1+1+1+1) (by omega)).trans h.b4;have s5:=k5.size;have Ee:news≠[]:=λ e=>by rw[e] at hm;simp at hm;omega
 refine⟨⟨?_,?_,?_,?_,?_,?_,?_,?_,?_,h.nn,λ e=>absurd (List.append_eq_nil_iff.1 e).2 Ee⟩,Kd⟩
 ·refine⟨k5.os.trans h.below.os,k5.tape.trans h.below.tape,k5.output.trans h.below.output,by simp;omega,λ b hb=>?_⟩;rw[kS b (by omega),cP b (by omega)];exact h.below.block b hb
 ·rw[kS _ (by omega),cP _ (by omega)];exact h.b0
 ·rw[kS _ (by omega),cP _ (by omega)];exact h.b1
 ·rw[kS _ (by omega),cP _ (by omega)];exact h.b2
 ·rw[kS _ (by omega),cP _ (by omega)];exact h.b3
 ·rw[heap_setCell_same _ _ _ _ _ _ Kd];rfl
 ·have h1:w5.ownsRow (w.heap.size+5) 9 1 eC ns.length (zi1 ns):=xI h.rn (λ b hb=>k5.block b (h.rn.lt b hb).2 (λ hm=>h.ne b hb (by simpa using hm)));exact ownsRow_setCell_below h1 (by simp) _
 ·rw[zkp,List.length_append,hm];exact ownsRow_setCell_below aC (by simp) _
 ·intro g' e e2;have e':g=g':=by simpa[Value.ownBlock] using e2
  subst e';rcases eS with h1 | h1
  ·exact h.ne g e h1
  ·have:=(h.rn.lt g e).2;omega
theorem lD.same (h:lD w A T nv tv av bv ns ts eC cR wr){j:Nat}{v:Value}(hv:(#[eC,cR]:Array Value).setIfInBounds j v=#[eC,cR]):lD w A T nv tv av bv ns ts eC cR (wr.setCell ⟨w.heap.size+1+1+1+1,j,none⟩ v):=by
 have hl:=h.lt;have kS:∀ b,b≠w.heap.size+1+1+1+1->(wr.setCell ⟨w.heap.size+1+1+1+1,j,none⟩ v).heap[b]?=wr.heap[b]?:=λ b hb=>Below.heap_setCell _ _ _ _ (by simpa using hb)
 refine⟨h.below.setCell (by simp;omega) _,?_,?_,?_,?_,?_,?_,?_,h.ne,h.nn,h.tn⟩
 ·rw[kS _ (by omega)];exact h.b0
 ·rw[kS _ (by omega)];exact h.b1
 ·rw[kS _ (by omega)];exact h.b2
 ·rw[kS _ (by omega)];exact h.b3
 ·rw[heap_setCell_same _ _ _ _ _ _ h.b4,hv]
 ·exact ownsRow_setCell_below h.rn (by simp) _
 ·exact ownsRow_setCell_below h.rt (by simp) _
theorem lD.fin (h:lD w A T nv tv av bv ns ts eC cR wr)(u v:Value):Below w.heap.size w ((wr.setCell ⟨w.heap.size+1+1+1,0,none⟩ u).setCell ⟨w.heap.size+1+1+1,1,none⟩ v)/\((wr.setCell ⟨w.heap.size+1+1+1,0,none⟩ u).setCell ⟨w.heap.size+1+1+1,1,none⟩ v).ownsRow w.heap.size 9 1 eC ns.length (zi1 ns)/\((wr.setCell ⟨w.heap.size+1+1+1,0,none⟩ u).setCell ⟨w.heap.size+1+1+1,1,none⟩ v).ownsRow w.heap.size 9 1 cR ts.length (zi1 ts):=
 ⟨(h.below.setCell (by simp;omega) _).setCell (by simp;omega) _,zF (ownsRow_setCell_below (ownsRow_setCell_below h.rn (by simp) _) (by simp) _) (by omega),zF (ownsRow_setCell_below (ownsRow_setCell_below h.rt (by simp) _) (by simp) _) (by omega)⟩
theorem zui {l:List B8}:∀ u∈zi1 l,u.oneCell'=true:=by
 intro u hu;obtain⟨x,_,rfl⟩:=List.mem_map.1 hu;rfl
theorem zn3 {base:Nat}{e:TypeId}{n:Nat}{xs:V8}(h:w.ownsRow base e 1 (.slice (some ⟨g,0,none⟩) n cap) n xs):∀ j u,xs[j]?=some u->w.cell? ((⟨g,0,none⟩:Addr).add j)=some u:=by
 intro j u hj;have hl:xs.length=n*1:=h.1;have aG:j<xs.length:=(List.getElem?_eq_some_iff.1 hj).1;obtain⟨g',c',hv,_,_,_,hc⟩:=zar h (by omega);injection hv with i1 i2 i3
 injection i1 with i1
 injection i1 with i1
 subst i1;have:=hc j (by omega);unfold Addr.add
 split <;> simp_all
end
section
open Go.RowKit
def zgq (w:W8)(nv tv:Value)(r:Option Env):Ending->W8->Prop:=λ e w'=>Below w.heap.size w w'/\(r=none->e=.returned (.tuple #[.agg #[nv,tv],.bool false]))/\(∀ E',r=some E'->∃ eC cR,e=.returned (.tuple #[.agg #[eC,cR],.bool true])/\qL w' w.heap.size E' eC cR)
variable {wr w:W8} {E:Env} {nv tv av bv eC cR:Value} {A T:zL}
theorem lD.env (h:lD w A T nv tv av bv (E.map (·.1)) (E.map (·.2)) eC cR wr):qL wr (w.heap.size+5) E eC cR:=by
 have h1:=h.rn;have h2:=h.rt;simp only[List.length_map,zi1,List.map_map] at h1 h2;exact⟨h1,h2,λ e=>⟨h.nn (by simp[e]),h.tn (by simp[e])⟩⟩
theorem z3z (w:W8)(A T:zL)(an fG aa ba:O8)(n cn ct ca cb:Nat)(eI:(A.pred.toList==T.pred.toList&&A.ae.length==T.ae.length)=false):
  Calls Tryz.prog 139 #[.agg #[.slice an n cn,.slice fG n ct],.agg #[.string A.pred,.slice aa A.ae.length ca,.bool A.no,.int .i64 A.at_,.int .i64 A.ak],.agg #[.string T.pred,.slice ba T.ae.length cb,.bool T.no,.int .i64 T.at_,.int .i64 T.ak]] w (λ e w'=>Below w.heap.size w w'/\e=.returned (.tuple #[.agg #[.slice an n cn,.slice fG n ct],.bool false])):=by
 cases hp:A.pred.toList==T.pred.toList with
 | false=>
  clear eI;go_enter Tryz.func139,Tryz.ntmps139;go_wp2_with fail;refine bodyPost_ret (v:=.tuple #[.agg #[.slice an n cn,.slice fG n ct],.bool false]) (by simp[results,Tryz.results139,go_sem]) rfl ⟨?_,rfl⟩;exact ((((Below.refl _ w).alloc L9 _).alloc (by simp) _).alloc (by simp;omega) _).alloc (by simp;omega) _
 | true=>
  have hl:((A.ae.length:Int)==(T.ae.length:Int))=false:=by
   rw[hp] at eI;simp at eI ⊢;omega
  clear eI;go_enter Tryz.func139,Tryz.ntmps139;go_wp2_with fail;refine bodyPost_ret (v:=.tuple #[.agg #[.slice an n cn,.slice fG n ct],.bool false]) (by simp[results,Tryz.results139,go_sem]) rfl ⟨?_,rfl⟩;exact ((((Below.refl _ w).alloc L9 _).alloc (by simp) _).alloc (by simp;omega) _).alloc (by simp;omega) _
theorem z82 {a b:B8}:(E++[(a,b)]).map (·.1)=E.map (·.1)++[a]/\(E++[(a,b)]).map (·.2)=E.map (·.2)++[b]:=by simp
theorem lD.ret (h:lD w A T nv tv av bv (E.map (·.1)) (E.map (·.2)) eC cR wr)(u v:Value):qL ((wr.setCell ⟨w.heap.size+1+1+1,0,none⟩ u).setCell ⟨w.heap.size+1+1+1,1,none⟩ v) w.heap.size E eC cR:=by
 obtain⟨_,h1,h2⟩:=h.fin u v;simp only[List.length_map,zi1,List.map_map] at h1 h2;exact⟨h1,h2,λ e=>⟨h.nn (by simp[e]),h.tn (by simp[e])⟩⟩
theorem zz6 (w:W8)(base:Nat)(E:Env)(A T:zL)(an fG aa ba:O8)(cn ct ca cb:Nat)(he:qL w base E (.slice an E.length cn) (.slice fG E.length ct))(hA:w.ownsRow base 317 3 (.slice aa A.ae.length ca) A.ae.length (cellsOf A.ae))(hT:w.ownsRow base 317 3 (.slice ba T.ae.length cb) T.ae.length (cellsOf T.ae))(qy:E.length+A.ae.length<=1000)(hp:(A.pred.toList==T.pred.toList)=true)(hl:A.ae.length=T.ae.length):
  Calls Tryz.prog 139 #[.agg #[.slice an E.length cn,.slice fG E.length ct],.agg #[.string A.pred,.slice aa A.ae.length ca,.bool A.no,.int .i64 A.at_,.int .i64 A.ak],.agg #[.string T.pred,.slice ba T.ae.length cb,.bool T.no,.int .i64 T.at_,.int .i64 T.ak]] w (zgq w (.slice an E.length cn) (.slice fG E.length ct) (jB E A.ae T.ae)):=by
 obtain⟨i0,hi,cQ,cz,cx⟩:=info_parts zew;have ji:((A.ae.length:Int)==(T.ae.length:Int))=true:=by simp;omega
 have h0:=lD.start w A T (.slice an E.length cn) (.slice fG E.length ct) (.slice aa A.ae.length ca) (.slice ba T.ae.length cb);have H0:=zC h0;have HE:=zC he;have HA:=zC hA;have HT:=zC hT;have HL:=zC hl;clear h0 he hA hT hl;go_enter Tryz.func139,Tryz.ntmps139;go_upto_region 3 with fail
 go_cut [8] (λ p wc=>p=.pointer (some ⟨w.heap.size+1+1+1+1,0,none⟩)/\lD w A T (.slice an E.length cn) (.slice fG E.length ct) (.slice aa A.ae.length ca) (.slice ba T.ae.length cb) [] [] (.slice none 0 0) (.slice none 0 0) wc)
 case first=>
  go_wp2_with fail;go_meet
  case rel=>exact⟨rfl,zA H0⟩
 case rest=>
 clear H0;obtain⟨rfl,zy⟩:=hcut;obtain⟨p0,FL⟩:=zB zy.b0 0;obtain⟨q0,Cw⟩:=zB zy.b4 0;have MT:=zC zy;have Lx:=zy.lt;clear zy FL;go_upto_region 4 with fail
 go_cut [] (λ wc=>∃ eC,lD w A T (.slice an E.length cn) (.slice fG E.length ct) (.slice aa A.ae.length ca) (.slice ba T.ae.length cb) (E.map (·.1)) [] eC (.slice none 0 0) wc)
 case first=>
  by_cases hE:E=[]
  ·subst hE;obtain⟨e1,e2⟩:=(zA HE).nil rfl;injection e1 with e1 _ e3
   injection e2 with e2 _ e4
   subst e1 e2 e3 e4;go_wp2_with fail;go_meet
   case rel=>exact⟨_,(zA MT).same rfl⟩
  ·have aI:0<E.length:=by
    cases E with
    | nil=>exact absurd rfl hE
    | cons _ _=>simp
   obtain⟨g1,c1,lB,-,-,-,-⟩:=zar (zA HE).ns aI;injection lB with i1 i2 i3
   subst i1 i3;have dJ:=zC (zn3 (zH (zA HE).ns (zA MT).below (λ g e=>((zA HE).ns.lt g e).2)));have iI:=zC (λ (w5:W8) (g cap:Nat) hg aC eS=>lD.Ka (w5:=w5) (g:=g) (cap:=cap) (m:=E.length) (news:=E.map (·.1)) (zA MT) (zN.refl [] _) hg (by simp) aI aC eS);go_wp2_with (at_builtin;go_must (refine wpList_append_lies _ rfl _ _ _ rfl (w.heap.size+5) 9 i0 (.string { data:=#[] }) 1 16 Tryz.underlying33 hi cQ cz cx rfl (by decide) (.slice none 0 0) 0 [] rfl (World.ownsRow_nil _ _ _ _) ⟨g1,0,none⟩ E.length cn (zi1 (E.map (·.1))) rfl (by simp[zi1]) (by simpa[zi1,List.map_map] using zA dJ) zui aI (by unfold maxLen;omega) (by omega) Lx _ rfl ?_;intro g cap w5 aj aU cN hlt5;obtain⟨e1,e2⟩:=zA iI w5 g cap aU aj cN;obtain⟨z0,An⟩:=zB e2 0));go_meet
   case rel=>exact⟨_,by simpa using e1⟩
 case rest=>
 clear MT p0 q0 Cw Lx;obtain⟨nv1,kO⟩:=hcut;obtain⟨a1,c1,rfl⟩:=zD kO.rn;obtain⟨p1,AQ⟩:=zB kO.b0 1;obtain⟨q1,Ez⟩:=zB kO.b4 1;have nZ:=zC kO;have vg:=kO.lt;clear kO AQ;go_upto_region 5 with fail
 go_cut [] (λ wc=>∃ eC cR,lD w A T (.slice an E.length cn) (.slice fG E.length ct) (.slice aa A.ae.length ca) (.slice ba T.ae.length cb) (E.map (·.1)) (E.map (·.2)) eC cR wc)
 case first=>
  by_cases hE:E=[]
  ·subst hE;obtain⟨e1,e2⟩:=(zA HE).nil rfl;injection e1 with e1 _ e3
   injection e2 with e2 _ e4
   subst e1 e2 e3 e4;go_wp2_with fail;go_meet
   case rel=>exact⟨_,_,(zA nZ).same rfl⟩
  ·have aI:0<E.length:=by
    cases E with
    | nil=>exact absurd rfl hE
    | cons _ _=>simp
   obtain⟨g1,M9,lB,-,-,-,-⟩:=zar (zA HE).ts aI;injection lB with i1 i2 i3
   subst i1 i3;have dJ:=zC (zn3 (zH (zA HE).ts (zA nZ).below (λ g e=>((zA HE).ts.lt g e).2)));have iI:=zC (λ (w5:W8) (g cap:Nat) hg aC eS=>lD.Kb (w5:=w5) (g:=g) (cap:=cap) (m:=E.length) (news:=E.map (·.2)) (zA nZ) (zN.refl [] _) hg (by simp) aI aC eS);go_wp2_with (at_builtin;go_must (refine wpList_append_lies _ rfl _ _ _ rfl (w.heap.size+5) 9 i0 (.string { data:=#[] }) 1 16 Tryz.underlying33 hi cQ cz cx rfl (by decide) (.slice none 0 0) 0 [] rfl (World.ownsRow_nil _ _ _ _) ⟨g1,0,none⟩ E.length ct (zi1 (E.map (·.2))) rfl (by simp[zi1]) (by simpa[zi1,List.map_map] using zA dJ) zui aI (by unfold maxLen;omega) (by omega) vg _ rfl ?_;intro g cap w5 aj aU cN hlt5;obtain⟨e1,e2⟩:=zA iI w5 g cap aU aj cN;obtain⟨z0,An⟩:=zB e2 1));go_meet
   case rel=>exact⟨_,_,by simpa using e1⟩
 case rest=>
 clear nZ p1 q1 Ez vg;obtain⟨Y7,Je,il⟩:=hcut;have MU:=zC il;clear il;go_wp2_with fail
 go_loopg [9] A.ae.length (λ gg i wr=>∃ (k:Nat) (E':Env) (eC cR:Value),k<=A.ae.length/\gg=A.ae.length-k/\i=.int .i64 k/\E'.length<=E.length+k/\jB E' (A.ae.drop k) (T.ae.drop k)=jB E A.ae T.ae/\lD w A T (.slice an E.length cn) (.slice fG E.length ct) (.slice aa A.ae.length ca) (.slice ba T.ae.length cb) (E'.map (·.1)) (E'.map (·.2)) eC cR wr)
 exact⟨0,E,Y7,Je,Nat.zero_le _,rfl,rfl,by omega,rfl,zA MU⟩
 case round=>
  clear MU;obtain⟨k,E',eC,cR,hk,iZ,rfl,hE',ax,hm⟩:=hrel;obtain⟨EZ,DT,rfl⟩:=zD hm.rn;obtain⟨uV,Kh,rfl⟩:=zD hm.rt;simp only[List.length_map] at hm;have aG:=hm.lt;obtain⟨p1,AQ⟩:=zB hm.b1 1;obtain⟨r1,Jd⟩:=zB hm.b2 1;obtain⟨o0,Mt⟩:=zB hm.b0 0;obtain⟨o1,Mu⟩:=zB hm.b0 1;obtain⟨q0,Cw⟩:=zB hm.b4 0;obtain⟨q1,Ez⟩:=zB hm.b4 1;obtain⟨t0,RT⟩:=zB hm.b3 0;obtain⟨t1,RU⟩:=zB hm.b3 1;have HM:=zC hm;have HF:=zC ax;clear hm ax AQ Jd Mt Mu
  by_cases aE:k<A.ae.length
  ·have Qt:k<T.ae.length:=(by rw[<-zA HL];exact aE);have eN:=zC ((zA HF).symm.trans (zpr aE Qt));have nC:(k:Int)<A.ae.length:=(by omega);have hkT:(k:Int)<T.ae.length:=(by omega);clear HF;go_wp2_with fail;refine zb9 6 z0b (by kernel_rfl) λ W hW=>?_
   simp only[List.take_succ_cons,List.take_zero,List.drop_succ_cons,List.drop_zero];have mV:Hid (lD w A T (.slice an E.length cn) (.slice fG E.length ct) (.slice aa A.ae.length ca) (.slice ba T.ae.length cb) (E'.map (·.1)) (E'.map (·.2)) (.slice EZ E'.length DT) (.slice uV E'.length Kh) W):=(by rw[hW];exact (zA HM).dm B9.drew);clear hW HM p1 r1 o0 o1 q0 q1 Cw Ez t0 RT t1 RU aG;obtain⟨p1,AQ⟩:=zB (zA mV).b1 1;obtain⟨q0,Cw⟩:=zB (zA mV).b4 0;obtain⟨q1,Ez⟩:=zB (zA mV).b4 1;obtain⟨ga,M9,lB,-,-,cZ,da,d0,d1,d2⟩:=zaa (zH (zA HA) (zA mV).below (λ g e=>((zA HA).lt g e).2)) k aE;injection lB with i1 i2 i3
   subst i1 i3;clear AQ Cw Ez
   repeat still_step
   refine wpStill_nil ?_;clear p1 q0 q1;go_wp2_with fail;refine (zl3 W (w.heap.size+5) E' EZ uV DT Kh (zA mV).env A.ae[k].text A.ae[k].isVar A.ae[k].at_).mono ?_;rintro e w1 ⟨rfl,aM⟩;have nZ:=zC ((zA mV).dm aM);clear mV aM d0 d1 d2;obtain⟨r1,Jd⟩:=zB (zA nZ).b2 1;obtain⟨gb,c2',Eo,-,-,QP,P3,f0,f1,f2⟩:=zaa (zH (zA HT) (zA nZ).below (λ g e=>((zA HT).lt g e).2)) k Qt;injection Eo with i1 i2 i3
   subst i1 i3;clear Jd f1 f2;have Dd:qY E' ⟨A.ae[k].text,A.ae[k].isVar,A.ae[k].at_⟩=qY E' A.ae[k]:=rfl;rw[Dd];clear Dd;generalize qY E' A.ae[k]=x at *
   cases hx:x.toList==[] with
   | true=>
    have PI:=(zA eN).trans (by rw[if_pos hx]);obtain⟨ta,Hm⟩:∃ ta,A.ae[k].text=ta:=⟨_,rfl⟩;obtain⟨tt,Rq⟩:∃ tt,T.ae[k].text=tt:=⟨_,rfl⟩;rw[Hm,Rq] at PI;rw[Rq] at f0;have az:=zC PI;have O7:=zC Hm;clear PI Hm Rq;clear eN;go_upto_region 12 with fail
    go_cut [] (λ wc=>∃ U4,lD w A T (.slice an E.length cn) (.slice fG E.length ct) (.slice (some ⟨ga,0,none⟩) A.ae.length ca) (.slice (some ⟨gb,0,none⟩) T.ae.length cb) (E'.map (·.1)++[ta]) (E'.map (·.2)) U4 (.slice uV E'.length Kh) wc)
    case first=>
     clear r1 f0;obtain⟨p1,AQ⟩:=zB (zA nZ).b1 1;obtain⟨q0,Cw⟩:=zB (zA nZ).b4 0;obtain⟨ga',M9,lB,-,bR,Aa,BA,d0,d1,d2⟩:=zaa (zH (zA HA) (zA nZ).below (λ g e=>((zA HA).lt g e).2)) k aE;injection lB with i1 i2 i3
     injection i1 with i1
     injection i1 with i1
     subst i1 i3;rw[zA O7] at d0;have QD:=(zA nZ).lt;have Fh:ga<w.heap.size:=((zA HA).lt ga rfl).2;have l4:w.heap.size+1+1+1+1<w1.heap.size:=(by omega);have l1:w.heap.size+1<w1.heap.size:=(by omega);have aB:=(zA nZ).rn;simp only[List.length_map] at aB;have iI:=zC (λ (w5:W8) (g cap:Nat) hg aC eS=>lD.Ka (w5:=w5) (W:=(w1.alloc (.cells #[.string ta] 9)).drew) (g:=g) (cap:=cap) (m:=1) (news:=[ta]) (zA nZ) (((zN.refl [] _).alloc _).drew) hg rfl (by decide) aC eS);have ij:=zC (zg5 ((w1.alloc (.cells #[.string ta] 9)).drew) w1.heap.size (.string ta) 9 (heap_alloc_new w1 _));have s1:Hid (((w1.alloc (.cells #[.string ta] 9)).drew).ownsRow (w.heap.size+5) 9 1 (.slice EZ E'.length DT) E'.length (zi1 (E'.map (·.1)))):=zC (aB.alloc _);have s4:Hid (E'.length+1<=maxLen):=(by show _<=_;unfold maxLen;omega);have s5:Hid ((E'.length+1)*16<=140737488355328):=(by show _<=_;omega);have s6:Hid (w.heap.size+5<=((w1.alloc (.cells #[.string ta] 9)).drew).heap.size):=(by show _<=_;simp;omega);have s3:Hid (∀ u∈([.string ta]:V8),u.oneCell'=true):=by show ∀ u∈_,_;intro u hu;simp at hu;subst hu;rfl
     have qz:Hid (∀ w5:W8,((w1.alloc (.cells #[.string ta] 9)).drew).grownBy w5 (Value.slice EZ E'.length DT).ownBlock->w5.cell? ⟨w.heap.size+1,1,none⟩=some (.slice (some ⟨ga,0,none⟩) A.ae.length ca)/\w5.cell? ⟨ga,k*3,none⟩=some (.string ta)):=zC (λ w5 hg=>by
      have kk:=(((zN.refl _ w1).alloc _).drew).grown hg (λ k e=>.inr (show k∈(Value.slice EZ E'.length DT).ownBlock.toList by simp[e]));have kF:∀ b,b<w.heap.size+5->b∉(Value.slice EZ E'.length DT).ownBlock.toList:=λ b hb hm=>by have:=(aB.lt b (by simpa using hm)).1;omega
      exact⟨(kk.cell (p:=⟨w.heap.size+1,1,none⟩) (by simp;omega) (kF (w.heap.size+1) (by omega))).trans p1,(kk.cell (p:=⟨ga,k*3,none⟩) (by simp;omega) (kF ga (by omega))).trans d0⟩)
     clear d1 d2 aB;simp only[List.length_map] at iI;simp only[List.getElem?_toArray,List.getElem?_cons_zero,List.getElem?_cons_succ] at p1 q0
     go_region_law (refine step_append_lies _ rfl (.tmp 62) (.tmp 69) 33 rfl (w.heap.size+5) 9 i0 (.string { data:=#[] }) 1 16 Tryz.underlying33 hi cQ cz cx rfl (by decide) (.slice EZ E'.length DT) E'.length (zi1 (E'.map (·.1))) (by simp[Act.eval]) (zA s1) ⟨w1.heap.size,0,none⟩ 1 1 [.string ta] (by simp[Act.eval]) rfl (zA ij) (zA s3) (by decide) (zA s4) (zA s5) (zA s6) _ rfl ?_;intro g cap w5 aj aU cN hlt5;obtain⟨e1,e2⟩:=zA iI w5 g cap aU aj cN;obtain⟨y1,y2⟩:=zA qz w5 aU;obtain⟨z0,An⟩:=zB e2 0)
     all_goals
      go_wp2_with fail;go_meet
      case rel=>exact⟨_,e1⟩
    case rest=>
     clear nZ r1 f0;obtain⟨U4,kP⟩:=hcut;obtain⟨a3,c3,rfl⟩:=zD kP.rn;obtain⟨q1,Ez⟩:=zB kP.b4 1;have aB:=kP.rt;simp only[List.length_map] at aB;have QD:=kP.lt;have iI:=zC (λ (w5:W8) (g cap:Nat) hg aC eS=>lD.Kb (w5:=w5) (W:=wc.alloc (.cells #[.string tt] 9)) (g:=g) (cap:=cap) (m:=1) (news:=[tt]) kP ((zN.refl [] _).alloc _) hg rfl (by decide) aC eS);simp only[List.length_map] at iI;have ij:=zC (zg5 (wc.alloc (.cells #[.string tt] 9)) wc.heap.size (.string tt) 9 (heap_alloc_new wc _));have HR:=zC aB;clear aB kP;go_wp2_with (at_builtin;go_must (refine wpList_append_lies _ rfl _ _ _ rfl (w.heap.size+5) 9 i0 (.string { data:=#[] }) 1 16 Tryz.underlying33 hi cQ cz cx rfl (by decide) (.slice uV E'.length Kh) E'.length (zi1 (E'.map (·.2))) rfl ((zA HR).alloc _) ⟨wc.heap.size,0,none⟩ 1 1 [.string tt] rfl rfl (zA ij) (by simp[Value.oneCell']) (by decide) (by unfold maxLen;omega) (by omega) (by simp;omega) _ rfl ?_;intro g cap w5 aj aU cN hlt5;obtain⟨e1,e2⟩:=zA iI w5 g cap aU aj cN;obtain⟨z0,An⟩:=zB e2 1));go_roundg (A.ae.length-(k+1));exact⟨k+1,E'++[(ta,tt)],_,_,by omega,rfl,by go_num,by simp;omega,(zA az).symm,by rw[z82.1,z82.2];exact e1⟩;omega
   | false=>
    cases hy:x.toList==T.ae[k].text.toList with
    | true=>
     have az:=zC ((zA eN).trans (by rw[if_neg (by rw[hx];decide),if_pos hy]));clear eN;go_wp2_with fail;go_roundg (A.ae.length-(k+1));exact⟨k+1,E',_,_,by omega,rfl,by go_num,by omega,(zA az).symm,zA nZ⟩;omega
    | false=>
     have az:=zC ((zA eN).trans (by rw[if_neg (by rw[hx];decide),if_neg (by rw[hy];decide)]));obtain⟨o0,Mt⟩:=zB (zA nZ).b0 0;obtain⟨o1,Mu⟩:=zB (zA nZ).b0 1;obtain⟨t0,RT⟩:=zB (zA nZ).b3 0;obtain⟨t1,RU⟩:=zB (zA nZ).b3 1;clear eN Mt Mu;go_wp2_with fail;refine bodyPost_ret (v:=.tuple #[.agg #[.slice an E.length cn,.slice fG E.length ct],.bool false]) (by simp[results,Tryz.results139,go_sem,t0,t1]) rfl ⟨((zA nZ).fin _ _).1,λ _=>rfl,λ E2 h2=>?_⟩;rw[zA az] at h2
     cases h2
  ·have az:=zC (show jB E A.ae T.ae=some E' by rw[<-zA HF,List.drop_of_length_le (by omega)];rfl);clear HF r1 o0 o1 Cw Ez;go_wp2_with fail;refine bodyPost_ret (v:=.tuple #[.agg #[.slice EZ E'.length DT,.slice uV E'.length Kh],.bool true]) (by simp[results,Tryz.results139,go_sem,t0,t1]) rfl ⟨((zA HM).fin _ _).1,λ h2=>?_,λ E2 h2=>⟨_,_,rfl,?_⟩⟩
   ·rw[zA az] at h2;cases h2
   ·rw[zA az] at h2
    cases h2
    exact (zA HM).ret _ _
end
end Go.Proofs.YtldkpahaocjdpaaGreat
