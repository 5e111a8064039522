/-
  The program's writing of rules: writeTerm, writeAtom, writeLiteral, writeRule, Write.
-/
import Derived.Laws.Concat
import Derived.Test.YtldkpahaocjdpaaGreatE27
import Derived.Test.YtldkpahaocjdpaaGreatE23
import Derived.Test.YtldkpahaocjdpaaGreatE17
set_option maxHeartbeats 16000000
set_option maxRecDepth 1000000
namespace Go.Proofs.YtldkpahaocjdpaaGreat
section
open Go.RowKit
def xJ:List (Bool × B8)->Nat->List UInt8
 | [],_=>[]
 | t::r,i=>(if i=0 then 40 else 44)::(t.2.data.toList++xJ r (i+1))
def zau (pd:B8)(ts:List (Bool × B8)):List UInt8:=pd.data.toList++(xJ ts 0++if ts.length=0 then [] else [41])
theorem zva {ts:List (Bool × B8)}{k:Nat}(h:k<ts.length):xJ (ts.drop k) k=(if k=0 then 40 else 44)::(ts[k].2.data.toList++xJ (ts.drop (k+1)) (k+1)):=by
 rw[List.drop_eq_getElem_cons h,xJ]
theorem jI (s:B8):s.data.toList.length=s.size:=by rw[Array.length_toList];rfl
theorem zo3 (W:W8)(v:Value):(Instr.typeAssert (.iface 130 v) 191 193 true).run Tryz.prog W=.ok (.tuple #[.string { data:=#[] },.bool false]) W:=by kernel_rfl
def yc7 (B b:Nat)(w:W8)(l:List UInt8)(e:Ending)(w':W8):Prop:=e=.returned (.tuple #[])/\yd B b l w'/\Below B w w'/\lI w w'/\B<=w'.heap.size
theorem ztg (B b:Nat)(l:List UInt8)(A5:Bool)(s:B8)(w:W8)(h:yd B b l w)(hlen:l.length+s.size<=140737488355328)(hBw:B<=w.heap.size):
  Calls Tryz.prog 168 #[.pointer (some ⟨b,0,none⟩),zec A5 s] w (yc7 B b w (l++s.data.toList)):=by
 have TC:=zei;have Kh:=zo3;have Dg:=zdl;unfold zec
 cases A5 with
 | true=>
  rw[if_pos rfl];go_enter Tryz.func168,Tryz.ntmps168;go_wp2_with fail;refine (zqk B b l s _ h hlen hBw).mono ?_;rintro e w1 ⟨rfl,h1,aL,aW⟩;go_wp2_with fail;go_end0;exact⟨rfl,h1,aL,aW,Nat.le_trans hBw aL.size⟩
 | false=>
  rw[if_neg (by decide)];go_enter Tryz.func168,Tryz.ntmps168;go_wp2_with fail;refine (zqk B b l s _ h hlen hBw).mono ?_;rintro e w1 ⟨rfl,h1,aL,aW⟩;go_wp2_with fail;go_end0;exact⟨rfl,h1,aL,aW,Nat.le_trans hBw aL.size⟩
theorem yd.alloc {B b:Nat}{l:List UInt8}{w:W8}(h:yd B b l w)(o:Obj):yd B b l (w.alloc o):=by
 have key:∀ p,Lib.BuilderAt 155 5 B b p (j3 l) w->Lib.BuilderAt 155 5 B b p (j3 l) (w.alloc o):=by
  rintro p ⟨hB,v,hb,ay,bF⟩;exact⟨hB,v,by rw[Below.heap_alloc _ _ _ (Array.getElem?_eq_some_iff.1 hb).1];exact hb,ay.alloc o,bF⟩
 rcases h with h | h
 ·exact .inl (key _ h)
 ·exact .inr (key _ h)
theorem z5q (B b:Nat)(l:List UInt8)(pd:B8)(a:O8)(c base:Nat)(ts:List (Bool × B8))(w:W8)(h:yd B b l w)(ay:w.ownsRow base 191 1 (.slice a ts.length c) ts.length (xH ts))(hlen:l.length+(zau pd ts).length<=1000000000)(hBw:B<=w.heap.size):
  Calls Tryz.prog 110 #[.pointer (some ⟨b,0,none⟩),.agg #[.string pd,.slice a ts.length c]] w (yc7 B b w (l++zau pd ts)):=by
 have lN:=yU ay;unfold maxLen at lN;have bt:=jI pd;have e0:(zau pd ts).length=pd.size+((xJ ts 0).length+(if ts.length=0 then ([]:List UInt8) else [41]).length):=by simp only[zau,List.length_append,bt]
 have dq:(w.alloc (.cells #[.string pd,.slice a ts.length c] 79)).heap[w.heap.size]?=_:=heap_alloc_new w _;have bA:=(Below.refl w.heap.size w).alloc L9 (.cells #[.string pd,.slice a ts.length c] 79);have kA:=(lI.refl w).alloc (.cells #[.string pd,.slice a ts.length c] 79);have HE:=zC (show l++zau pd ts=l++pd.data.toList++(xJ ts 0++if ts.length=0 then [] else [41]) by simp[zau]);go_enter Tryz.func110,Tryz.ntmps110;go_wp2_with fail;refine (zqk B b l pd _ (h.alloc _) (by omega) (by simp;omega)).mono ?_;rintro e w1 ⟨rfl,h1,aL,aW⟩;have gz:=(bA.mono hBw).trans aL;have qj:=kA.trans aW;have dP:=aW _ _ _ _ dq (by decide) (by decide);have aN:=qj.own ay (by decide) (by decide);have aY:=aL.size;rw[World.size_alloc] at aY;obtain⟨x0,uE⟩:=zB dP 0;obtain⟨x1,mZ⟩:=zB dP 1;have CF:=zC ay;clear dq aL aW bA kA ay h
 by_cases hn:ts.length=0
 ·have Cf:((ts.length:Int)==0)=true:=by simp[hn]
  have pH:ts=[]:=List.length_eq_zero_iff.1 hn;have Cu:=zC (show l++zau pd ts=l++pd.data.toList by rw[zA HE,pH];simp[xJ]);clear HE hn pH;go_wp2_with fail;go_end0;exact⟨rfl,by rw[zA Cu];exact h1,gz,qj,by omega⟩
 ·have Cf:((ts.length:Int)==0)=false:=by simp;exact λ e=>hn (by rw[e];rfl)
  have SZ:(if ts.length=0 then ([]:List UInt8) else [41])=[41]:=if_neg hn;rw[SZ] at e0 HE;have KR:([41]:List UInt8).length=1:=rfl;rw[KR] at e0;clear SZ hn;go_wp2_with fail
  go_loopg [17] ts.length (λ gg i wr=>∃ (k:Nat) (m:List UInt8),k<=ts.length/\gg=ts.length-k/\i=.int .i64 k/\yd B b m wr/\Below B w wr/\lI w wr/\w.heap.size<wr.heap.size/\wr.heap[w.heap.size]?=some (.cells #[.string pd,.slice a ts.length c] 79 (0,0))/\m++xJ (ts.drop k) k=l++pd.data.toList++xJ ts 0)
  exact⟨0,_,Nat.zero_le _,rfl,rfl,h1,gz,qj,by omega,dP,rfl⟩
  case round=>
   clear h1 gz qj dP aN x0 x1 uE mZ;obtain⟨k,m,hk,eD,rfl,h1,gz,qj,bj,dP,hm⟩:=hrel;have bh:=congrArg List.length hm;simp only[List.length_append,bt] at bh
   by_cases aF:k<ts.length
   ·have dJ:=zva aF;have HM:=zC (dJ ▸ hm);rw[dJ] at bh;simp only[List.length_cons,List.length_append,jI] at bh;clear hm dJ;have aN:=qj.own (zA CF) (by decide) (by decide);obtain⟨g,cap,hv,iF,aZ,bO,bQ,hc⟩:=zmd aN k aF;injection hv with i1 i2 i3
    subst i1 i3;obtain⟨A5,tx,het⟩:∃ A5 tx,ts[k]=(A5,tx):=⟨_,_,rfl⟩;have e1:ts[k].1=A5:=(by rw[het]);have e2:ts[k].2=tx:=(by rw[het]);rw[e1,e2] at hc;rw[e2] at HM bh;obtain⟨x1,mZ⟩:=zB dP 1;clear het e1 e2 aN;have sO:zec A5 tx=.iface (if A5 then 130 else 193) (.string tx):=rfl;rw[sO] at hc;have R7:=zC sO;clear sO;generalize hty:(if A5 then 130 else 193)=ty at hc;have Sz:=zC hty;clear hty
    cases k with
    | zero=>
     go_wp2_with fail;refine (zna B b m 40 _ h1 (by omega) (by omega)).mono ?_;rintro e w2 ⟨rfl,h2,aK,bn⟩;have bg:=aK.size;have mM:=bn _ _ _ _ dP (by decide) (by decide);have lu:=gz.trans aK;have ur:=qj.trans bn;clear aK bn dP h1 gz qj x1 mZ;go_wp2_with fail;rw[<-zA Sz,<-zA R7];refine (ztg B b _ A5 tx _ h2 (by simp;omega) (by omega)).mono ?_;rintro e w3 ⟨rfl,h3,cI,eE,A4⟩;have zr:=eE _ _ _ _ mM (by decide) (by decide);have Re:=cI.size;have HR:=zC (And.intro h3 (And.intro (lu.trans cI) (And.intro (ur.trans eE) zr)));clear mM zr h2 h3 cI eE lu ur;go_wp2_with fail;go_roundg (ts.length-(0+1));exact⟨0+1,_,by omega,rfl,by go_num,(zA HR).1,(zA HR).2.1,(zA HR).2.2.1,by omega,(zA HR).2.2.2,by have:=zA HM;simpa using this⟩;omega
    | succ k=>
     have iA:(((k+1:Nat):Int)==0)=false:=(by simp;omega);go_wp2_with fail;refine (zna B b m 44 _ h1 (by omega) (by omega)).mono ?_;rintro e w2 ⟨rfl,h2,aK,bn⟩;have bg:=aK.size;have mM:=bn _ _ _ _ dP (by decide) (by decide);have lu:=gz.trans aK;have ur:=qj.trans bn;clear aK bn dP h1 gz qj x1 mZ;go_wp2_with fail;rw[<-zA Sz,<-zA R7];refine (ztg B b _ A5 tx _ h2 (by simp;omega) (by omega)).mono ?_;rintro e w3 ⟨rfl,h3,cI,eE,A4⟩;have zr:=eE _ _ _ _ mM (by decide) (by decide);have Re:=cI.size;have HR:=zC (And.intro h3 (And.intro (lu.trans cI) (And.intro (ur.trans eE) zr)));clear mM zr h2 h3 cI eE lu ur;go_wp2_with fail;go_roundg (ts.length-(k+1+1));exact⟨k+1+1,_,by omega,rfl,by go_num,(zA HR).1,(zA HR).2.1,(zA HR).2.2.1,by omega,(zA HR).2.2.2,by have:=zA HM;simpa using this⟩;omega
   ·have hd:ts.drop k=[]:=List.drop_of_length_le (by omega);rw[hd] at hm bh;simp only[xJ,List.append_nil,List.length_nil] at hm bh;have HM:=zC hm;clear hm hd;go_wp2_with fail;refine (zna B b m 41 _ h1 (by omega) (by omega)).mono ?_;rintro e w2 ⟨rfl,h2,aK,bn⟩;have bg:=aK.size;have HR:=zC (And.intro h2 (And.intro (gz.trans aK) (qj.trans bn)));clear h1 gz qj h2 aK bn dP;go_wp2_with fail;go_end0;refine⟨rfl,?_,(zA HR).2.1,(zA HR).2.2,by omega⟩;rw[zA HE,<-List.append_assoc,<-zA HM];exact (zA HR).1
end
section
open Go.RowKit
theorem zk4 (a b:B8)(h:a.size+b.size<=2000000000)(w:W8):(Op.stringOp .add a b).run Tryz.prog w=.ok (.string (a++b)) w:=run_string_add_sum w a b (by omega)
theorem ydh (c:UInt8):(ByteArray.mk #[c]).size=1:=rfl
theorem Mm (a b:B8):(a++b).data.toList=a.data.toList++b.data.toList:=by simp
theorem zvx (a b:B8):(a++b).size=a.size+b.size:=by simp[ByteArray.size_append]
def jH (A:zL):List UInt8:=zau A.pred (A.ae.map ed)
theorem zss {l:List xD}{k:Nat}(h:k<l.length):xJ ((l.map ed).drop k) k=(if k=0 then 40 else 44)::(l[k].text.data.toList++xJ ((l.map ed).drop (k+1)) (k+1)):=by
 rw[List.drop_eq_getElem_cons (by simpa using h),xJ];simp[ed]
theorem zst (w:W8)(base:Nat)(A:zL)(a:O8)(c:Nat)(h:w.ownsRow base 317 3 (.slice a A.ae.length c) A.ae.length (cellsOf A.ae))(hlen:(jH A).length<=1000000000):
  Calls Tryz.prog 134 #[.agg #[.string A.pred,.slice a A.ae.length c,.bool A.no,.int .i64 A.at_,.int .i64 A.az]] w λ e w'=>∃ s:B8,e=.returned (.string s)/\s.data.toList=jH A/\Below w.heap.size w w':=by
 have lN:=yU h;unfold maxLen at lN;have bt:=jI A.pred;have bA:=(Below.refl w.heap.size w).alloc L9 (.cells #[.string A.pred,.slice a A.ae.length c,.bool A.no,.int .i64 A.at_,.int .i64 A.az] 243);have h0:=zJ h bA (λ g e=>(h.lt g e).2);have e0:(jH A).length=A.pred.size+((xJ (A.ae.map ed) 0).length+(if A.ae.length=0 then ([]:List UInt8) else [41]).length):=by simp[jH,zau,bt]
 have HE:=zC (show jH A=A.pred.data.toList++(xJ (A.ae.map ed) 0++if A.ae.length=0 then [] else [41]) by simp[jH,zau]);clear h;go_enter Tryz.func134,Tryz.ntmps134;go_wp2_with fail
 go_loop [3,4] (λ v i=>∃ (k:Nat) (s:B8),k<=A.ae.length/\v=.string s/\i=.int .i64 k/\s.data.toList++xJ ((A.ae.map ed).drop k) k=A.pred.data.toList++xJ (A.ae.map ed) 0) (λ _ i=>A.ae.length-(intOf i).toNat)
 exact⟨0,A.pred,Nat.zero_le _,rfl,rfl,rfl⟩
 case round=>
  obtain⟨k,s,hk,rfl,rfl,hm⟩:=hrel;have bh:=congrArg List.length hm;simp only[List.length_append,bt,jI] at bh
  by_cases aF:k<A.ae.length
  ·have dJ:=zss aF;rw[dJ] at hm bh;simp only[List.length_cons,List.length_append,jI] at bh;have HM:=zC hm;clear hm dJ;obtain⟨g,cap,hv,iF,aZ,bO,bQ,q0,q1,q2⟩:=zat h0 k aF;injection hv with i1 i2 i3
   subst i1 i3
   cases k with
   | zero=>
    have c1:=zk4 s { data:=#[40] } (by rw[ydh];omega);have c2:=zk4 (s++{ data:=#[40] }) A.ae[0].text (by rw[zvx,ydh];omega);go_wp2_with fail
    go_round
    case rel=>exact⟨0+1,_,by omega,rfl,by go_num,by rw[Mm,Mm];have:=zA HM;simpa using this⟩
    case measure=>simp[intOf];omega
   | succ k=>
    have iA:(((k+1:Nat):Int)==0)=false:=(by simp;omega);have c1:=zk4 s { data:=#[44] } (by rw[ydh];omega);have c2:=zk4 (s++{ data:=#[44] }) A.ae[k+1].text (by rw[zvx,ydh];omega);go_wp2_with fail
    go_round
    case rel=>exact⟨k+1+1,_,by omega,rfl,by go_num,by rw[Mm,Mm];have:=zA HM;simpa using this⟩
    case measure=>simp[intOf];omega
  ·have hd:(A.ae.map ed).drop k=[]:=List.drop_of_length_le (by simp;omega);rw[hd] at hm bh;simp only[xJ,List.append_nil,List.length_nil] at hm bh;have HM:=zC hm;clear hm hd
   by_cases hn:A.ae.length=0
   ·have Cf:¬ (0<(A.ae.length:Int)):=(by omega);have Cu:=zC (show jH A=A.pred.data.toList++xJ (A.ae.map ed) 0 by rw[zA HE,if_pos hn];simp);clear HE hn;go_wp2_with fail;go_ret;exact⟨s,rfl,by rw[zA HM,zA Cu],bA⟩
   ·have Cf:0<(A.ae.length:Int):=(by omega);have Cu:=zC (show jH A=A.pred.data.toList++xJ (A.ae.map ed) 0++[41] by rw[zA HE,if_neg hn];simp);rw[if_neg hn,show ([41]:List UInt8).length=1 from rfl] at e0;have c1:=zk4 s { data:=#[41] } (by rw[ydh];omega);clear HE hn;go_wp2_with fail;go_ret;exact⟨_,rfl,by rw[Mm,zA HM,zA Cu],bA⟩
theorem zoi (w:W8)(base:Nat)(A:zL)(a:O8)(c:Nat)(no:Bool)(x y:Nat)(h:w.ownsRow base 317 3 (.slice a A.ae.length c) A.ae.length (cellsOf A.ae))(hlen:(jH A).length<=1000000000):
  Calls Tryz.prog 134 #[.agg #[.string A.pred,.slice a A.ae.length c,.bool no,.int .i64 x,.int .i64 y]] w λ e w'=>∃ s:B8,e=.returned (.string s)/\s.data.toList=jH A/\Below w.heap.size w w':=
 zst w base ⟨A.pred,A.ae,no,x,y⟩ a c h hlen
end
section
open Go.RowKit
abbrev Env:=List (B8 × B8)
def zj3:Env->B8->B8
 | [],_=>{ data:=#[] }
 | x::r,n=>if x.1.toList==n.toList then x.2 else zj3 r n
def oh (e:Env)(t:xD):B8:=if t.isVar then zj3 e t.text else t.text
variable {k:Nat} {e:Env}
theorem zyb {n:B8}(h:k<e.length):zj3 (e.drop k) n=if e[k].1.toList==n.toList then e[k].2 else zj3 (e.drop (k+1)) n:=by
 rw[List.drop_eq_getElem_cons h];rfl
def jB:Env->List xD->List xD->Option Env
 | e,t::ts,u::us=>if (oh e t).toList==[] then jB (e++[(t.text,u.text)]) ts us else if (oh e t).toList==u.text.toList then jB e ts us else none
 | e,_,_=>some e
def qA (e:Env)(a th:zL):Option Env:=if a.pred.toList==th.pred.toList&&a.ae.length==th.ae.length then jB e a.ae th.ae else none
def ofT (e:Env)(t:xD):xD:=⟨oh e t,false,0⟩
def fa (e:Env)(a:zL):zL:=⟨a.pred,a.ae.map (ofT e),false,0,0⟩
theorem zrz {ts us:List xD}(h:k<ts.length)(h':k<us.length):jB e (ts.drop k) (us.drop k)=if (oh e ts[k]).toList==[] then jB (e++[(ts[k].text,us[k].text)]) (ts.drop (k+1)) (us.drop (k+1)) else if (oh e ts[k]).toList==us[k].text.toList then jB e (ts.drop (k+1)) (us.drop (k+1)) else none:=by
 rw[List.drop_eq_getElem_cons h,List.drop_eq_getElem_cons h'];rfl
structure om (w:W8)(base:Nat)(e:Env)(nv tv:Value):Prop where
 ns:w.ownsRow base 9 1 nv e.length (e.map λ x=>.string x.1)
 ts:w.ownsRow base 9 1 tv e.length (e.map λ x=>.string x.2)
 nil:e=[]->nv=.slice none 0 0/\tv=.slice none 0 0
variable {nv tv:Value} {base:Nat} {w:W8}
theorem om.below {w':W8}(h:om w base e nv tv)(k:Below w.heap.size w w'):om w' base e nv tv:=⟨zJ h.ns k (λ g e=>(h.ns.lt g e).2),zJ h.ts k (λ g e=>(h.ts.lt g e).2),h.nil⟩
theorem om.alloc (h:om w base e nv tv)(o:Obj):om (w.alloc o) base e nv tv:=⟨h.ns.alloc _,h.ts.alloc _,h.nil⟩
theorem om.shape (h:om w base e nv tv):∃ an cn at_ ct,nv=.slice an e.length cn/\tv=.slice at_ e.length ct:=by
 obtain⟨an,cn,h1⟩:=zD h.ns;obtain⟨at_,ct,h2⟩:=zD h.ts;exact⟨an,cn,at_,ct,h1,h2⟩
def yah (s:B8)(w:W8):Ending->W8->Prop:=λ e w'=>e=.returned (.string s)/\Below w.heap.size w w'
theorem zom (w:W8)(base:Nat)(E:Env)(an fy:O8)(cn ct:Nat)(h:om w base E (.slice an E.length cn) (.slice fy E.length ct))(text:B8)(v:Bool)(at_:Nat):
  Calls Tryz.prog 197 #[.agg #[.slice an E.length cn,.slice fy E.length ct],.agg #[.string text,.bool v,.int .i64 at_]] w (yah (oh E ⟨text,v,at_⟩) w):=by
 have gR:=yU h.ns;unfold maxLen at gR;have b0:=((Below.refl w.heap.size w).alloc L9 (.cells #[.slice an E.length cn,.slice fy E.length ct] 258)).alloc (by simp) (.cells #[.string text,.bool v,.int .i64 at_] 317);have x0:((w.alloc (.cells #[.slice an E.length cn,.slice fy E.length ct] 258)).alloc (.cells #[.string text,.bool v,.int .i64 at_] 317)).heap[w.heap.size]?=some (.cells #[.slice an E.length cn,.slice fy E.length ct] 258 (0,0)):=by
  rw[Below.heap_alloc _ _ _ (by simp)];exact heap_alloc_new w _
 have x1:((w.alloc (.cells #[.slice an E.length cn,.slice fy E.length ct] 258)).alloc (.cells #[.string text,.bool v,.int .i64 at_] 317)).heap[w.heap.size+1]?=some (.cells #[.string text,.bool v,.int .i64 at_] 317 (0,0)):=by
  have:=heap_alloc_new (w.alloc (.cells #[.slice an E.length cn,.slice fy E.length ct] 258)) (.cells #[.string text,.bool v,.int .i64 at_] 317);rw[World.size_alloc] at this;exact this
 have h0:=(h.alloc (.cells #[.slice an E.length cn,.slice fy E.length ct] 258)).alloc (.cells #[.string text,.bool v,.int .i64 at_] 317)
 cases v with
 | false=>
  clear h0 h x0 x1;go_enter Tryz.func197,Tryz.ntmps197;go_wp2_with fail;go_ret;exact⟨rfl,b0⟩
 | true=>
  have HF:=zC (show oh E ⟨text,true,at_⟩=zj3 E text from rfl);have rT:=zC x0;have yp:=zC x1;have H0:=zC h0;have ou:=zC b0;clear h x0 x1 h0 b0;go_enter Tryz.func197,Tryz.ntmps197;go_wp2_with fail
  go_loopg [5] E.length (λ gg i wr=>∃ k:Nat,k<=E.length/\gg=E.length-k/\i=.int .i64 k/\zj3 (E.drop k) text=zj3 E text/\Below w.heap.size w wr/\wr.heap[w.heap.size]?=some (.cells #[.slice an E.length cn,.slice fy E.length ct] 258 (0,0))/\wr.heap[w.heap.size+1]?=some (.cells #[.string text,.bool true,.int .i64 at_] 317 (0,0))/\om wr base E (.slice an E.length cn) (.slice fy E.length ct))
  exact⟨0,Nat.zero_le _,rfl,rfl,rfl,zA ou,zA rT,zA yp,zA H0⟩
  case round=>
   clear ou rT yp H0;obtain⟨k,hk,eD,rfl,aE,hb,x0,x1,he⟩:=hrel;obtain⟨p0,Cj⟩:=zB x0 0;obtain⟨p1,xx⟩:=zB x0 1;obtain⟨q0,Bb⟩:=zB x1 0;have lJ:=zC aE;have rT:=zC x0;have yp:=zC x1;have HB:=zC hb;have HE:=zC he;clear aE x0 x1 hb he Cj xx Bb
   by_cases aF:k<E.length
   ·have kP:(k:Int)<E.length:=(by omega);obtain⟨g1,c1,im,-,ia,dH,va⟩:=zce (zA HE).ns (by omega);obtain⟨g2,c2,Dr,-,oI,dD,nS⟩:=zce (zA HE).ts (by omega);injection im with i1 i2 i3
    subst i1 i3;injection Dr with i1 i2 i3
    subst i1 i3;have d1:=va k aF;have d2:=nS k aF;rw[List.getElem?_map,List.getElem?_eq_getElem aF] at d1 d2;simp only[Option.map_some] at d1 d2;clear va nS;have HS:=zC (zyb (n:=text) aF);go_wp2_with fail;go_quiet (fail)
    cases hq:E[k].1.toList==text.toList with
    | true=>
     go_wp2_with fail;go_ret;exact⟨by rw[zA HF,<-zA lJ,zA HS,if_pos hq];rfl,below_drewN (zA HB) _⟩
    | false=>
     go_wp2_with fail;go_roundg (E.length-(k+1));exact⟨k+1,by omega,rfl,by go_num,by rw[<-zA lJ,zA HS,if_neg (by rw[hq];decide)],below_drewN (zA HB) _,zA rT,zA yp,(zA HE).below (below_drewN B9 _)⟩;omega
   ·go_wp2_with fail;go_ret;exact⟨by rw[zA HF,<-zA lJ,List.drop_of_length_le (by omega)];rfl,zA HB⟩
end
section
open Go.RowKit
def zj9 (l:List B8):V8:=l.map .string
structure iv (w:W8)(A T:zL)(nv tv av bv:Value)(ns ts:List B8)(dv bY:Value)(wr:W8):Prop where
 below:Below w.heap.size w wr
 b0:wr.heap[w.heap.size]?=some (.cells #[nv,tv] 258 (0,0))
 b1:wr.heap[w.heap.size+1]?=some (.cells #[.string A.pred,av,.bool A.no,.int .i64 A.at_,.int .i64 A.az] 243 (0,0))
 b2:wr.heap[w.heap.size+1+1]?=some (.cells #[.string T.pred,bv,.bool T.no,.int .i64 T.at_,.int .i64 T.az] 243 (0,0))
 b3:wr.heap[w.heap.size+1+1+1]?=some (.cells #[.slice none 0 0,.slice none 0 0] 258 (0,0))
 b4:wr.heap[w.heap.size+1+1+1+1]?=some (.cells #[dv,bY] 258 (0,0))
 rn:wr.ownsRow (w.heap.size+5) 9 1 dv ns.length (zj9 ns)
 rt:wr.ownsRow (w.heap.size+5) 9 1 bY ts.length (zj9 ts)
 ne:∀ g,dv.ownBlock=some g->bY.ownBlock≠some g
 nn:ns=[]->dv=.slice none 0 0
 tn:ts=[]->bY=.slice none 0 0
variable {wr w:W8} {ns ts:List B8} {nv tv av bv dv bY:Value} {A T:zL}
theorem iv.lt (h:iv w A T nv tv av bv ns ts dv bY wr):w.heap.size+5<=wr.heap.size:=(Array.getElem?_eq_some_iff.1 h.b4).1
theorem iv.dQ {w':W8}(h:iv w A T nv tv av bv ns ts dv bY wr)(k:Below wr.heap.size wr w'):iv w A T nv tv av bv ns ts dv bY w':=by
 have hl:=h.lt;exact⟨h.below.trans (k.mono (by omega)),(k.block _ (by omega)).trans h.b0,(k.block _ (by omega)).trans h.b1,(k.block _ (by omega)).trans h.b2,(k.block _ (by omega)).trans h.b3,(k.block _ (by omega)).trans h.b4,zJ h.rn k (λ g e=>(h.rn.lt g e).2),zJ h.rt k (λ g e=>(h.rt.lt g e).2),h.ne,h.nn,h.tn⟩
theorem iv.start (w:W8)(A T:zL)(nv tv av bv:Value):iv w A T nv tv av bv [] [] (.slice none 0 0) (.slice none 0 0)
  (((((w.alloc (.cells #[nv,tv] 258)).alloc (.cells #[.string A.pred,av,.bool A.no,.int .i64 A.at_,.int .i64 A.az] 243)).alloc (.cells #[.string T.pred,bv,.bool T.no,.int .i64 T.at_,.int .i64 T.az] 243)).alloc (.cells #[.slice none 0 0,.slice none 0 0] 258)).alloc (.cells #[.slice none 0 0,.slice none 0 0] 258)):=by
 refine⟨((((((Below.refl _ w).alloc L9 _).alloc (by simp) _).alloc (by simp;omega) _).alloc (by simp;omega) _).alloc (by simp;omega) _),?_,?_,?_,?_,?_,World.ownsRow_nil _ _ _ _,World.ownsRow_nil _ _ _ _,(λ g e=>by cases e),(λ _=>rfl),(λ _=>rfl)⟩
 ·rw[Below.heap_alloc _ _ _ (by simp <;> omega),Below.heap_alloc _ _ _ (by simp <;> omega),Below.heap_alloc _ _ _ (by simp <;> omega),Below.heap_alloc _ _ _ (by simp)];exact heap_alloc_new w _
 ·rw[Below.heap_alloc _ _ _ (by simp <;> omega),Below.heap_alloc _ _ _ (by simp <;> omega),Below.heap_alloc _ _ _ (by simp)];have:=heap_alloc_new (w.alloc (.cells #[nv,tv] 258)) (.cells #[.string A.pred,av,.bool A.no,.int .i64 A.at_,.int .i64 A.az] 243);simpa using this
 ·rw[Below.heap_alloc _ _ _ (by simp <;> omega),Below.heap_alloc _ _ _ (by simp)];have:=heap_alloc_new ((w.alloc (.cells #[nv,tv] 258)).alloc (.cells #[.string A.pred,av,.bool A.no,.int .i64 A.at_,.int .i64 A.az] 243)) (.cells #[.string T.pred,bv,.bool T.no,.int .i64 T.at_,.int .i64 T.az] 243);simpa using this
 ·rw[Below.heap_alloc _ _ _ (by simp)];have:=heap_alloc_new (((w.alloc (.cells #[nv,tv] 258)).alloc (.cells #[.string A.pred,av,.bool A.no,.int .i64 A.at_,.int .i64 A.az] 243)).alloc (.cells #[.string T.pred,bv,.bool T.no,.int .i64 T.at_,.int .i64 T.az] 243)) (.cells #[.slice none 0 0,.slice none 0 0] 258);simpa using this
 ·have:=heap_alloc_new ((((w.alloc (.cells #[nv,tv] 258)).alloc (.cells #[.string A.pred,av,.bool A.no,.int .i64 A.at_,.int .i64 A.az] 243)).alloc (.cells #[.string T.pred,bv,.bool T.no,.int .i64 T.at_,.int .i64 T.az] 243)).alloc (.cells #[.slice none 0 0,.slice none 0 0] 258)) (.cells #[.slice none 0 0,.slice none 0 0] 258);simpa using this
theorem zmw (a b:List B8):zj9 (a++b)=zj9 a++zj9 b:=List.map_append
variable {news:List B8} {g cap m:Nat} {W w5:W8}
theorem iv.JJ (h:iv w A T nv tv av bv ns ts dv bY wr)(hW:zK [] wr W)(hg:W.grownBy w5 dv.ownBlock)(hm:news.length=m)(Cd:0<m)
  (ay:w5.ownsRow (w.heap.size+5) 9 1 (.slice (some ⟨g,0,none⟩) (ns.length+m) cap) (ns.length+m) (zj9 ns++zj9 news)) (du:dv.ownBlock=some g\/g=W.heap.size):
  iv w A T nv tv av bv (ns++news) ts (.slice (some ⟨g,0,none⟩) (ns.length+m) cap) bY (w5.setCell ⟨w.heap.size+1+1+1+1,0,none⟩ (.slice (some ⟨g,0,none⟩) (ns.length+m) cap))/\w5.heap[w.heap.size+1+1+1+1]?=some (.cells #[dv,bY] 258 (0,0)):=by
 have hl:=h.lt;have hz:=hW.size;have k5:zK dv.ownBlock.toList wr w5:=(hW.mono (by simp)).trans (zK.aR hg);have eI:∀ b,b<w.heap.size+5->b∉dv.ownBlock.toList:=λ b hb hm=>by have:=(h.rn.lt b (by simpa using hm)).1;omega
 have bp:∀ b,b<w.heap.size+5->w5.heap[b]?=wr.heap[b]?:=λ b hb=>k5.block b (by omega) (eI b hb)
 have kS:∀ b,b≠w.heap.size+1+1+1+1->(w5.setCell ⟨w.heap.size+1+1+1+1,0,none⟩ (.slice (some ⟨g,0,none⟩) (ns.length+m) cap)).heap[b]?=w5.heap[b]?:=λ b hb=>Below.heap_setCell _ _ _ _ (by simpa using hb)
 have JN:=(bp (w.heap.size+1+1+1+1) (by omega)).trans h.b4;have s5:=k5.size;have Dg:news≠[]:=λ e=>by rw[e] at hm;simp at hm;omega
 refine⟨⟨?_,?_,?_,?_,?_,?_,?_,?_,?_,λ e=>absurd (List.append_eq_nil_iff.1 e).2 Dg,h.tn⟩,JN⟩
 ·refine⟨k5.os.trans h.below.os,k5.tape.trans h.below.tape,k5.output.trans h.below.output,by simp;omega,λ b hb=>?_⟩;rw[kS b (by omega),bp b (by omega)];exact h.below.block b hb
 ·rw[kS _ (by omega),bp _ (by omega)];exact h.b0
 ·rw[kS _ (by omega),bp _ (by omega)];exact h.b1
 ·rw[kS _ (by omega),bp _ (by omega)];exact h.b2
 ·rw[kS _ (by omega),bp _ (by omega)];exact h.b3
 ·rw[heap_setCell_same _ _ _ _ _ _ JN];rfl
 ·rw[zmw,List.length_append,hm];exact ownsRow_setCell_below ay (by simp) _
 ·have h1:w5.ownsRow (w.heap.size+5) 9 1 bY ts.length (zj9 ts):=zZ h.rt (λ b hb=>k5.block b (h.rt.lt b hb).2 (λ hm=>h.ne b (by simpa using hm) hb));exact ownsRow_setCell_below h1 (by simp) _
 ·intro g' e;have e':g=g':=by simpa[Value.ownBlock] using e
  subst e';rcases du with h1 | h1
  ·exact h.ne g h1
  ·intro h2;have:=(h.rt.lt g h2).2;omega
theorem iv.JK (h:iv w A T nv tv av bv ns ts dv bY wr)(hW:zK [] wr W)(hg:W.grownBy w5 bY.ownBlock)(hm:news.length=m)(Cd:0<m)
  (ay:w5.ownsRow (w.heap.size+5) 9 1 (.slice (some ⟨g,0,none⟩) (ts.length+m) cap) (ts.length+m) (zj9 ts++zj9 news)) (du:bY.ownBlock=some g\/g=W.heap.size):
  iv w A T nv tv av bv ns (ts++news) dv (.slice (some ⟨g,0,none⟩) (ts.length+m) cap) (w5.setCell ⟨w.heap.size+1+1+1+1,1,none⟩ (.slice (some ⟨g,0,none⟩) (ts.length+m) cap))/\w5.heap[w.heap.size+1+1+1+1]?=some (.cells #[dv,bY] 258 (0,0)):=by
 have hl:=h.lt;have hz:=hW.size;have k5:zK bY.ownBlock.toList wr w5:=(hW.mono (by simp)).trans (zK.aR hg);have eI:∀ b,b<w.heap.size+5->b∉bY.ownBlock.toList:=λ b hb hm=>by have:=(h.rt.lt b (by simpa using hm)).1;omega
 have bp:∀ b,b<w.heap.size+5->w5.heap[b]?=wr.heap[b]?:=λ b hb=>k5.block b (by omega) (eI b hb)
 have kS:∀ b,b≠w.heap.size+1+1+1+1->(w5.setCell ⟨w.heap.size+1+1+1+1,1,none⟩ (.slice (some ⟨g,0,none⟩) (ts.length+m) cap)).heap[b]?=w5.heap[b]?:=λ b hb=>Below.heap_setCell _ _ _ _ (by simpa using hb)
 have JN:=(bp (w.heap.size+1+1+1+1) (by omega)).trans h.b4;have s5:=k5.size;have Dg:news≠[]:=λ e=>by rw[e] at hm;simp at hm;omega
 refine⟨⟨?_,?_,?_,?_,?_,?_,?_,?_,?_,h.nn,λ e=>absurd (List.append_eq_nil_iff.1 e).2 Dg⟩,JN⟩
 ·refine⟨k5.os.trans h.below.os,k5.tape.trans h.below.tape,k5.output.trans h.below.output,by simp;omega,λ b hb=>?_⟩;rw[kS b (by omega),bp b (by omega)];exact h.below.block b hb
 ·rw[kS _ (by omega),bp _ (by omega)];exact h.b0
 ·rw[kS _ (by omega),bp _ (by omega)];exact h.b1
 ·rw[kS _ (by omega),bp _ (by omega)];exact h.b2
 ·rw[kS _ (by omega),bp _ (by omega)];exact h.b3
 ·rw[heap_setCell_same _ _ _ _ _ _ JN];rfl
 ·have h1:w5.ownsRow (w.heap.size+5) 9 1 dv ns.length (zj9 ns):=zZ h.rn (λ b hb=>k5.block b (h.rn.lt b hb).2 (λ hm=>h.ne b hb (by simpa using hm)));exact ownsRow_setCell_below h1 (by simp) _
 ·rw[zmw,List.length_append,hm];exact ownsRow_setCell_below ay (by simp) _
 ·intro g' e e2;have e':g=g':=by simpa[Value.ownBlock] using e2
  subst e';rcases du with h1 | h1
  ·exact h.ne g e h1
  ·have:=(h.rn.lt g e).2;omega
theorem iv.same (h:iv w A T nv tv av bv ns ts dv bY wr){j:Nat}{v:Value}(hv:(#[dv,bY]:Array Value).setIfInBounds j v=#[dv,bY]):iv w A T nv tv av bv ns ts dv bY (wr.setCell ⟨w.heap.size+1+1+1+1,j,none⟩ v):=by
 have hl:=h.lt;have kS:∀ b,b≠w.heap.size+1+1+1+1->(wr.setCell ⟨w.heap.size+1+1+1+1,j,none⟩ v).heap[b]?=wr.heap[b]?:=λ b hb=>Below.heap_setCell _ _ _ _ (by simpa using hb)
 refine⟨h.below.setCell (by simp;omega) _,?_,?_,?_,?_,?_,?_,?_,h.ne,h.nn,h.tn⟩
 ·rw[kS _ (by omega)];exact h.b0
 ·rw[kS _ (by omega)];exact h.b1
 ·rw[kS _ (by omega)];exact h.b2
 ·rw[kS _ (by omega)];exact h.b3
 ·rw[heap_setCell_same _ _ _ _ _ _ h.b4,hv]
 ·exact ownsRow_setCell_below h.rn (by simp) _
 ·exact ownsRow_setCell_below h.rt (by simp) _
theorem iv.fin (h:iv w A T nv tv av bv ns ts dv bY wr)(u v:Value):Below w.heap.size w ((wr.setCell ⟨w.heap.size+1+1+1,0,none⟩ u).setCell ⟨w.heap.size+1+1+1,1,none⟩ v)/\((wr.setCell ⟨w.heap.size+1+1+1,0,none⟩ u).setCell ⟨w.heap.size+1+1+1,1,none⟩ v).ownsRow w.heap.size 9 1 dv ns.length (zj9 ns)/\((wr.setCell ⟨w.heap.size+1+1+1,0,none⟩ u).setCell ⟨w.heap.size+1+1+1,1,none⟩ v).ownsRow w.heap.size 9 1 bY ts.length (zj9 ts):=
 ⟨(h.below.setCell (by simp;omega) _).setCell (by simp;omega) _,zG (ownsRow_setCell_below (ownsRow_setCell_below h.rn (by simp) _) (by simp) _) (by omega),zG (ownsRow_setCell_below (ownsRow_setCell_below h.rt (by simp) _) (by simp) _) (by omega)⟩
theorem zw8 {l:List B8}:∀ u∈zj9 l,u.oneCell'=true:=by
 intro u hu;obtain⟨x,_,rfl⟩:=List.mem_map.1 hu;rfl
theorem zp2 {base:Nat}{e:TypeId}{n:Nat}{xs:V8}(h:w.ownsRow base e 1 (.slice (some ⟨g,0,none⟩) n cap) n xs):∀ j u,xs[j]?=some u->w.cell? ((⟨g,0,none⟩:Addr).add j)=some u:=by
 intro j u hj;have hl:xs.length=n*1:=h.1;have aH:j<xs.length:=(List.getElem?_eq_some_iff.1 hj).1;obtain⟨g',c',hv,_,_,_,hc⟩:=zce h (by omega);injection hv with i1 i2 i3
 injection i1 with i1
 injection i1 with i1
 subst i1;have:=hc j (by omega);unfold Addr.add
 split <;> simp_all
end
section
open Go.RowKit Go.Maps
attribute [local go_sem ↓] zbb qQ qP qO
attribute [local go_sem] jY jX
theorem zru {L:List (Th × Nat)}{t:Th}(h:∀ n,(t,n)∉L):yS L t=none:=by
 cases hl:yS L t with
 | none=>rfl
 | some n=>exact absurd (jV hl) (h n)
structure z9a (w:W8)(db sb rb:Nat)(D S:List (Th × Nat))(Lf:Th->Prop)(S1:List (Th × Nat))(eC:Nat)(wr:W8):Prop where
 rg:so wr sb rb S Lf eC
 m:qR wr db (D++S1)
 mem:∀ p,p∈S1↔p∈S/\¬ Lf p.1
 len:S1.length+eC<=S.length
 k:zK [db] w wr
def z58 (w:W8)(db:Nat)(D S:List (Th × Nat))(en:Ending)(w':W8):Prop:=(∃ v,en=.returned v)/\zK [db] w w'/\∃ S',qR w' db (D++S')/\(∀ p,p∈S'↔p∈S)/\S'.length<=S.length
theorem z6v (w:W8)(db sb:Nat)(D S:List (Th × Nat))(hd:qR w db D)(hs:qR w sb S)(bF:db≠sb)(KB:∀ p∈S,yS D p.1=none)(hl:D.length+S.length<=1000000):
  Calls Tryz.prog 100 #[.map (some db),.map (some sb)] w (z58 w db D S):=by
 have HD:=zC hd;have HS:=zC hs;have Ob:=zC KB;have hdl:=hd.lt;have EC:=hs.lt;clear hd KB;go_enter Tryz.func100,Tryz.ntmps100;go_wp2_with (first | (at_range;refine znb _ rfl _ 83 rfl Tryz.underlying83 sb S rfl hs ?_;intro w1 hrg1 jg sg) | go_in)
 try go_frame
 have h0:z9a w db sb w.heap.size D S (λ _=>True) [] S.length w1:=by
  refine⟨hrg1,by rw[List.append_nil];exact (zA HD).kept jg (by simp),λ p=>⟨λ h=>absurd h List.not_mem_nil,λ h=>absurd trivial h.2⟩,by simp,⟨jg.os,jg.tape,jg.output,jg.size,λ j hj _=>jg.block j hj (by simp)⟩⟩
 clear hrg1 jg sg hs
 go_loopg [] S.length (λ gg wr=>∃ (Lf:Th->Prop) (S1:List (Th × Nat)),z9a w db sb w.heap.size D S Lf S1 gg wr)
 exact⟨_,_,h0⟩
 case round=>
  clear h0;obtain⟨Lf,S1,ax⟩:=hrel;have oL:=ax.rg;have bT:=zC ax;clear ax;go_wp2_with (first | (at_next;refine zqi _ rfl _ rfl sb w.heap.size S Lf gk rfl oL ?_ ?_) | go_in)
  ·intro dj;have Ct:=zC dj;clear dj oL;go_wp2_with fail;go_end0;have ax:=zA bT;exact⟨⟨_,rfl⟩,ax.k,S1,ax.m,λ p=>⟨λ h=>((ax.mem p).1 h).1,λ h=>(ax.mem p).2 ⟨h,zA Ct p.1.1 p.1.2 p.2 h⟩⟩,by have:=ax.len;omega⟩
  ·intro tp tts n w2 cnt2 nz qx hrg2 gn fL sj hen2;generalize ((tp,tts):Th)=t at *;have ax:=zA bT;have dF:=ax.k.size;have hT:zdu t:=ax.rg.map.ok _ nz;have dD:qR w2 db (D++S1):=ax.m.kept fL (by simp;omega);have aX:yS (D++S1) t=none:=zru λ m hm=>by
    rcases List.mem_append.1 hm with hm | hm
    ·exact qV (zA Ob _ nz) m hm
    ·exact ((ax.mem _).1 hm).2 qx
   have jl:zjw (D++S1) t n=D++(S1++[(t,n)]):=(by unfold zjw;rw[aX,List.append_assoc];rfl);have hlen:=ax.len;have HT:=zC hT;have sF:=zC hrg2;have VS:=zC fL;have OH:=zC jl;have oy:=zC nz;have V9:=zC qx;have wU:=zC (dD.alloc (.cells (zV t).toArray 88));have mA:=(TV.new w2 t).load;have hZ:(D++S1).length<maxLen:=(by unfold maxLen;rw[List.length_append];omega);clear sj oL hrg2 fL dD aX jl nz qx ax hT;go_wp2_with (at_mapUpdate;refine z50 _ rfl _ _ _ 83 rfl Tryz.underlying83 db (D++S1) rfl (zA wU) hZ t n rfl rfl (zA HT) ?_;intro w3 fq vq);rw[zA OH] at fq;have yn:=zC fq;have Jt:=zC vq;clear fq vq mA hen2;go_wp2_with fail;go_roundg cnt2
   case measure=>omega
   case rel=>
    have ax:=zA bT;have g2:=zA VS;have g3:=(zA Jt).grown;have gk0:w.heap.size<=wr.heap.size:=dF;refine⟨λ x=>Lf x/\¬ x=t,S1++[(t,n)],⟨?_,zA yn,λ p=>?_,by rw[List.length_append];simp;omega,?_⟩⟩
    ·have r2:=zA sF;refine r2.blocks ?_ ?_
     ·rw[g3.block sb (by have:=r2.map.lt;simp;omega) (by simp;omega),Below.heap_alloc _ _ _ r2.map.lt]
     ·rw[g3.block w.heap.size (by have:=r2.lt;simp;omega) (by simp;omega),Below.heap_alloc _ _ _ r2.lt]
    ·rw[List.mem_append,ax.mem]
     constructor
     ·rintro (⟨h1,h2⟩ | h1)
      ·exact⟨h1,λ h=>h2 h.1⟩
      ·rw[List.mem_singleton.1 h1];exact⟨zA oy,λ h=>h.2 rfl⟩
     ·rintro⟨h1,h2⟩
      by_cases e:p.1=t
      ·right
       have h3:=za5 (ax.rg.map.nodup) h1;have h4:=za5 (ax.rg.map.nodup) (zA oy);have e1:p.2=n:=by
        have:yS S p.1=some n:=by rw[e];exact h4
        exact Option.some.inj (h3.symm.trans this)
       rw[List.mem_singleton,<-e,<-e1]
      ·left
       exact⟨h1,λ h=>h2 ⟨h,e⟩⟩
    ·have k2:zK [db] w w2:=ax.k.grown g2 (λ i e=>by cases e;left;omega);exact (k2.alloc _).grown g3 (λ i e=>by cases e;right;simp)
end
section
open Go.RowKit Go.Maps
def DN (w w':W8):Prop:=∀ (b:Nat) (cs:Array Value) (t:TypeId) (fr:Nat × Nat),w.heap[b]?=some (Obj.cells cs t fr)->w'.heap[b]?=some (Obj.cells cs t fr)
variable {base:Nat} {w w':W8}
theorem DN.row (h:DN w w'){e:TypeId}{size:Nat}{v:Value}{n:Nat}{xs:V8}(hr:w.ownsRow base e size v n xs):w'.ownsRow base e size v n xs:=by
 refine zZ hr λ g hg=>?_
 rcases hr.2 with⟨h0,_⟩ | ⟨g',cap,cur,rfl,hb,nE,_⟩
 ·rw[h0] at hg;cases hg
 ·have e:g'=g:=by simpa[Value.ownBlock] using hg
  subst e;exact (h _ _ _ _ nE).trans nE.symm
theorem DN.Rj (h:DN w w'){bv:Value}{ls:List (vK × Value)}(hr:iL w base bv ls):iL w' base bv ls:=⟨h.row hr.row,λ x hx=>h.row (hr.each x hx)⟩
variable {rs:List PR}
theorem DN.Rs (h:DN w w'){rv:Value}(hr:iq w base rv rs):iq w' base rv rs:=⟨h.row hr.row,λ r hm=>⟨h.row (hr.each r hm).hd,h.Rj (hr.each r hm).bo,(hr.each r hm).eq⟩⟩
variable {K:List (Th × Nat)}
theorem DN.DD {kb:Nat}(hm:qR w kb K)(k:zK [kb] w w'):DN w w':=λ b cs t fr hb=>by
 refine (k.block b (Array.getElem?_eq_some_iff.1 hb).1 ?_).trans hb;simp only[List.mem_singleton];rintro rfl;obtain⟨es,c,h⟩:=hm.isMap;rw[hb] at h;cases h
inductive zgn (rs:List PR)(limit:Nat):Nat->List (Th × Nat)->Option (List (Th × Nat))->Prop
 | fG {h:Nat} {K:List (Th × Nat)} (L:List Th):L.Nodup->(∀ t∈L,ztm rs K t)->limit<K.length+L.length->zgn rs limit h K none
 | done {h:Nat} {K:List (Th × Nat)}:(∀ t,¬ ztm rs K t)->zgn rs limit h K (some K)
 | more {h:Nat} {K L:List (Th × Nat)} {r:Option (List (Th × Nat))}:L≠[]->(L.map (·.1)).Nodup->(∀ p∈L,p.2=h)->(∀ t,(∃ n,(t,n)∈L)↔ztm rs K t)->K.length+L.length<=limit->zgn rs limit (h+1) (K++L) r->zgn rs limit h K r
def DP (rs:List PR)(TI:Th->Prop):Prop:=∀ K:List (Th × Nat),(∀ p∈K,TI p.1)->∀ r∈rs,z9i K r/\∀ e∈yD K (yP r.bs) [],TI (xV e (gw r))
theorem DP.new {TI:Th->Prop}(h:DP rs TI)(hK:∀ p∈K,TI p.1){t:Th}(ht:ztm rs K t):TI t:=by
 obtain⟨_,r,hr,e,he,rfl⟩:=ht;exact (h K hK r hr).2 e (List.mem_filter.1 he).1
structure z0g (w:W8)(kb base:Nat)(rv:Value)(rs:List PR)(limit:Nat)(TI:Th->Prop)(K0:List (Th × Nat))(n:Nat)(K:List (Th × Nat))(wr:W8):Prop where
 m:qR wr kb K
 ti:∀ p∈K,TI p.1
 len:K.length<=limit
 k:zK [kb] w wr
 n0:1<=n
 n1:n<=K.length+1
 rel:∀ r,zgn rs limit n K r->zgn rs limit 1 K0 r
def z0h (w:W8)(kb:Nat)(rs:List PR)(limit:Nat)(TI:Th->Prop)(K:List (Th × Nat))(en:Ending)(w':W8):Prop:=
 ∃ r,zgn rs limit 1 K r/\en=.returned (.bool r.isSome)/\zK [kb] w w'/\∀ K',r=some K'->qR w' kb K'/\(∀ p∈K',TI p.1)/\K'.length<=limit
theorem z1q (w:W8)(kb base:Nat)(ar:O8)(cr:Nat)(rs:List PR)(limit:Nat)(TI:Th->Prop)(K:List (Th × Nat))(hm:qR w kb K)(hr:iq w base (.slice ar rs.length cr) rs)(nT:DP rs TI)(Uu:∀ p∈K,TI p.1)(hK:K.length<=limit)(hl:limit<=50):
  Calls Tryz.prog 60 #[.map (some kb),.slice ar rs.length cr,.int .i64 (limit:Nat)] w (z0h w kb rs limit TI K):=by
 have HM:=zC hm;have HR:=zC hr;have Hq:=zC nT;have h0:z0g w kb base (.slice ar rs.length cr) rs limit TI K 1 K w:=⟨hm,Uu,hK,zK.refl _ _,Nat.le_refl _,by omega,λ _ h=>h⟩;have H0:=zC h0;have dF:=hm.lt;clear hm hr nT Uu hK h0;go_enter Tryz.func60,Tryz.ntmps60;go_wp2_with fail
 go_loopg [7] (limit+1-K.length) (λ gg hv wr=>∃ (n:Nat) (K':List (Th × Nat)),gg=limit+1-K'.length/\hv=.int .i64 (n:Nat)/\z0g w kb base (.slice ar rs.length cr) rs limit TI K n K' wr)
 exact⟨1,K,rfl,rfl,zA H0⟩
 case round=>
  clear H0;obtain⟨n,K',eD,rfl,ax⟩:=hrel;have sP:=ax.len;have ia:=ax.n1;have HN:=zC (z7q wr kb base ar cr rs K' n limit ax.m ((DN.DD (zA HM) ax.k).Rs (zA HR)) (λ r hr=>(zA Hq K' ax.ti r hr).1) ax.len hl);have bT:=zC ax;clear ax;have wV:=zC (λ (w1:W8) (aL:Below wr.heap.size wr w1)=>(zA bT).m.block (aL.block kb (zA bT).m.lt));have Yj:=(zA bT).m.lt;go_wp2_with fail;refine (zA HN).mono ?_;rintro en w1 ⟨aL,⟨fb,L,rfl,me,K4,hh,bX,hlen⟩ | ⟨rfl,L,mT,eY,AB⟩⟩
  ·have nG:=K4.len Tryz.underlying83;have VG:=zC (z6v w1 kb fb K' L (zA wV w1 aL) K4 (by omega) (λ p hp=>((bX p.1).1 (by rw[za5 K4.nodup hp];rfl)).1) (by omega));have fN:=zC aL;have HH:=zC hh;have pT:=zC bX;have We:=zC K4;have dY:=aL.size;clear aL hh bX K4
   cases hL:L with
   | nil=>
    subst hL;go_wp2_with fail;go_ret;have ax:=zA bT;exact⟨some K',ax.rel _ (.done λ t ht=>by have:=(zA pT t).2 ht;cases this),rfl,ax.k.ak (zA fN),λ K2 e=>by cases e;exact⟨zA wV w1 (zA fN),ax.ti,ax.len⟩⟩
   | cons p tl=>
    have hz:(L.length:Int)≠0:=(by rw[hL];simp;omega);have aJ:0<L.length:=(by rw[hL];simp);clear hL;go_wp2_with (go_at_call 100;refine (zA VG).mono ?_;rintro en w2 ⟨⟨v2,rfl⟩,bn,S',dD,sj,lh⟩;have wR:=zC bn;have wU:=zC dD;have DY:=zC sj;clear bn dD sj);have mh:0<S'.length:=by
     cases hS:S' with
     | nil=>
      exfalso
      cases hL:L with
      | nil=>rw[hL] at aJ;simp at aJ
      | cons q tl=>have:=(zA DY q).2 (by rw[hL];exact List.mem_cons_self);rw[hS] at this;cases this
     | cons q tl=>simp
    have bX:∀ t,(∃ m,(t,m)∈S')↔ztm rs K' t:=λ t=>by
     rw[<-zA pT t]
     constructor
     ·rintro⟨m,hm⟩;rw[za5 (zA We).nodup ((zA DY _).1 hm)];rfl
     ·intro h;obtain⟨m,hm⟩:=Option.isSome_iff_exists.1 h;exact⟨m,(zA DY _).2 (jV hm)⟩
    go_roundg (limit+1-(K'++S').length)
    case measure=>rw[List.length_append];omega
    case rel=>
     have ax:=zA bT;refine⟨n+1,K'++S',rfl,by go_num,zA wU,λ q hq=>?_,by rw[List.length_append];omega,(ax.k.ak (zA fN)).trans (zA wR),by omega,by rw[List.length_append];omega,λ r hr=>ax.rel r (.more (λ e=>by rw[e] at mh;simp at mh) (by have mT:=(zA wU).nodup;rw[List.map_append,List.nodup_append] at mT;exact mT.2.1) (λ q hq=>zA HH q ((zA DY q).1 hq)) bX (by omega) hr)⟩;rcases List.mem_append.1 hq with hq | hq
     ·exact ax.ti q hq
     ·exact (zA Hq).new ax.ti ((bX q.1).1 ⟨q.2,hq⟩)
  ·have fN:=zC aL;clear aL;go_wp2_with fail;go_ret;have ax:=zA bT;exact⟨none,ax.rel _ (.fG L mT eY AB),rfl,ax.k.ak (zA fN),λ K2 e=>by cases e⟩
end
section
open Go.RowKit Go.Maps
attribute [local go_sem ↓] zbb qQ qP qO
attribute [local go_sem] jY jX
theorem z09 (w:W8)(base:Nat)(pd:B8)(a:O8)(c:Nat)(ts:List (Bool × B8))(h:w.ownsRow base 191 1 (.slice a ts.length c) ts.length (xH ts))(hlen:(zau pd ts).length<=1000000000):
  Calls Tryz.prog 102 #[.agg #[.string pd,.slice a ts.length c]] w λ e w'=>e=.returned (.string ⟨(zau pd ts).toArray⟩)/\Below w.heap.size w w':=by
 have b1:=(Below.refl w.heap.size w).alloc L9 (.cells #[.string pd,.slice a ts.length c] 79);have h0:yd (w.heap.size+1) (w.heap.size+1) [] ((w.alloc (.cells #[.string pd,.slice a ts.length c] 79)).alloc (.cells #[.pointer none,.slice none 0 0] 155)):=by
  have:=Lib.fresh_isBuilder 155 5 (w.alloc (.cells #[.string pd,.slice a ts.length c] 79));rw[World.size_alloc] at this;exact this
 have b0:=b1.alloc (by simp) (.cells #[.pointer none,.slice none 0 0] 155);have hr:=zJ h b0 (λ g e=>(h.lt g e).2);have HW:=zC (z5q (w.heap.size+1) (w.heap.size+1) [] pd a c base ts _ h0 hr (by simpa using hlen) (by simp));have ou:=zC b0;clear h h0 b0 b1 hr;go_enter Tryz.func102,Tryz.ntmps102;go_wp2_with (go_at_call 110;refine (zA HW).mono ?_;rintro e w1 ⟨rfl,h1,aL,-,aY⟩);refine (Tryz.Builder_String_any (w.heap.size+1) (w.heap.size+1) _ _ h1 aY).mono ?_;rintro e w2 ⟨rfl,aK⟩;have HB:=zC ((zA ou).trans ((aL.trans aK).mono (by omega)));clear h1 aL aY aK;go_wp2_with fail;go_ret;exact⟨rfl,zA HB⟩
def xB (t:Th):List (Bool × B8):=t.2.map λ x=>(false,x)
def xK (t:Th):B8:=⟨(zau t.1 (xB t)).toArray⟩
structure yd4 (w:W8)(t:Th)(l:List B8)(tv:Value)(wr:W8):Prop where
 th:TV wr w.heap.size t
 at_:wr.heap[w.heap.size+1]?=some (.cells #[.string t.1,tv] 79 (0,0))
 row:wr.ownsRow (w.heap.size+1+1) 191 1 tv l.length (xH (l.map λ x=>(false,x)))
 k:Below w.heap.size w wr
theorem zm3 (s:B8):s.toList.length=s.size:=by rw[ByteArray.toList_eq];exact jI s
theorem yck {w:W8}{t:Th}{l:List B8}{a1 a5:O8}{c1 c5:Nat}{wr w5:W8}{o:Obj}{x:B8}(AV:w.heap.size+1<wr.heap.size)(ay:w5.ownsRow (w.heap.size+1+1) 191 1 (.slice a5 (l.length+1) c5) (l.length+1) (xH (l.map λ x=>(false,x))++[zec false x]))(hg:(wr.alloc o).grownBy w5 (Value.slice a1 l.length c1).ownBlock)(h:yd4 w t l (.slice a1 l.length c1) wr):
  yd4 w t (l++[x]) (.slice a5 (l++[x]).length c5) (w5.setCell ⟨w.heap.size+1,1,none⟩ (.slice a5 (l.length+1) c5))/\w5.heap[w.heap.size+1]?=some (.cells #[.string t.1,.slice a1 l.length c1] 79 (0,0)):=by
 have hb:∀ i,i<=w.heap.size+1->w5.heap[i]?=wr.heap[i]?:=λ i hi=>by
  rw[hg.block i (by simp;omega) (λ e=>by have:=(h.row.lt i e.symm).1;omega),Below.heap_alloc _ _ _ (by omega)]
 have du:=(hb _ L9).trans h.at_;refine⟨⟨?_,?_,?_,?_⟩,du⟩
 ·show _=_
  rw[Below.heap_setCell _ _ _ _ (by simp)];exact (hb _ (by omega)).trans h.th
 ·rw[setCell_eq_setRow w5 _ _ _ _ (0,0) _ du,setRow_heap _ _ _ _ _ _ du];simp
 ·have e1:(l++[x]).length=l.length+1:=by simp
  have e2:xH ((l++[x]).map λ x=>(false,x))=xH (l.map λ x=>(false,x))++[zec false x]:=by simp[xH]
  rw[e1,e2];exact zZ ay (λ g nE=>Below.heap_setCell _ _ _ _ (by have:=(ay.lt g nE).1;simp;omega))
 ·have h5:Below w.heap.size w w5:=⟨hg.os.trans h.k.os,hg.tape.trans h.k.tape,hg.output.trans h.k.output,Nat.le_trans h.k.size (Nat.le_trans (by simp) hg.size),λ i hi=>(hb i (by omega)).trans (h.k.block i hi)⟩;exact h5.setCell (p:=⟨w.heap.size+1,1,none⟩) (by simp) _
theorem zzx (w:W8)(t:Th)(ht:zdu t)(hlen:(zau t.1 (xB t)).length<=1000000000):
  Calls Tryz.prog 63 #[thV t] w λ e w'=>e=.returned (.string (xK t))/\Below w.heap.size w w':=by
 obtain⟨i0,hi,bL,aY,bg⟩:=info_parts zrm;obtain⟨ct,lL⟩:∃ ct,ct=(zV t).toArray:=⟨_,rfl⟩;have pw:=zC lL;unfold thV;rw[<-lL];clear lL;have HT:=zC ht;clear ht;have c0:(w.alloc (.cells ct 88)).cell? ⟨w.heap.size,0,none⟩=some (.string t.1):=by
  rw[(zB (heap_alloc_new w (.cells ct 88)) 0).1,zA pw];rfl
 go_enter Tryz.func63,Tryz.ntmps63;go_upto_region 2 with fail;generalize bC:World.alloc (World.alloc w _) _=w0;have h0:yd4 w t [] (.slice none 0 0) w0:=by
  have k0:Below w.heap.size w ((w.alloc (.cells ct 88)).alloc (.cells #[.string t.1,.slice none 0 0] 79)):=(B9.alloc L9 _).alloc (by simp) _;rw[<-bC];refine⟨?_,?_,World.ownsRow_nil _ _ _ _,k0⟩
  ·show _=_
   rw[Below.heap_alloc _ _ _ (by simp),<-zA pw];exact heap_alloc_new w _
  ·have:=heap_alloc_new (w.alloc (.cells ct 88)) (.cells #[.string t.1,.slice none 0 0] 79);rw[World.size_alloc] at this;exact this
 have H0:=zC h0;have xr:w.heap.size+1<w0.heap.size:=(Array.getElem?_eq_some_iff.1 h0.at_).1;clear bC c0 h0;go_wp2_with fail
 go_loopg [11] 4 (λ gg i wr=>∃ (k:Nat) (l:List B8) (tv:Value),k<=4/\gg=4-k/\i=.int .i64 (k:Nat)/\l=t.2.take k/\yd4 w t l tv wr)
 exact⟨0,[],_,by omega,rfl,rfl,rfl,zA H0⟩
 case round=>
  clear H0;obtain⟨k,l,tv,hk,eD,rfl,hl,ax⟩:=hrel;obtain⟨a1,ei,rfl⟩:=zD ax.row;have AV:w.heap.size+1<wr.heap.size:=(Array.getElem?_eq_some_iff.1 ax.at_).1;have bT:=zC ax;have hZ:l.length<=4:=by rw[hl];simp;omega
  have HL:=zC hl;obtain⟨q0,z0⟩:=zB ax.at_ 0;obtain⟨q1,z1⟩:=zB ax.at_ 1;simp only[List.getElem?_toArray,List.getElem?_cons_zero,List.getElem?_cons_succ] at q0 q1
  by_cases aF:k<4
  ·have cd:wr.cell? ⟨w.heap.size,1+k,none⟩=some (.string (xW t.2 k)):=by
    rw[(zB ax.th (1+k)).1,List.getElem?_toArray];exact zdg t aF
   have nu:(k:Int)<4:=(by omega);clear ax hl
   by_cases aH:k<t.2.length
   ·have bF:((xW t.2 k).toList==[])=false:=by
     have pF:0<(xW t.2 k).size:=zpu (zA HT) aH
     cases hq:(xW t.2 k).toList==[] with
     | false=>rfl
     | true=>rw[beq_iff_eq] at hq;have h2:=zm3 (xW t.2 k);rw[hq] at h2;simp at h2;omega
    have aB:=(zA bT).row;have MA:=zC (show t.2.take (k+1)=l++[xW t.2 k] by rw[List.take_succ_eq_append_getElem aH,zA HL];congr 2;unfold xW;rw[List.getElem?_eq_getElem aH];rfl);go_wp2_with (at_builtin;refine wpList_append_own _ rfl _ _ 77 rfl (w.heap.size+1+1) 191 i0 _ 1 16 Tryz.underlying77 hi bL aY bg rfl (by decide) _ _ _ rfl (aB.alloc _) ⟨wr.heap.size,0,none⟩ 1 1 [zec false (xW t.2 k)] rfl rfl (zuw wr _) (z4m _ _) (by unfold maxLen;omega) (by omega) (by simp;omega) ?_;intro v5 w5 aq aU hne5;clear hne5;obtain⟨a5,eH,rfl⟩:=zD aq;obtain⟨r1,r2⟩:=yck AV aq aU (zA bT);obtain⟨y1,x1⟩:=zB r2 1;simp only[List.getElem?_toArray,List.getElem?_cons_zero,List.getElem?_cons_succ] at y1;have H5:=zC r1;have H6:=zC r2;clear aq aU r1 r2);go_roundg (4-(k+1));exact⟨k+1,l++[xW t.2 k],_,by omega,rfl,by go_num,(zA MA).symm,(zA H5)⟩;omega
   ·have bF:((xW t.2 k).toList==[])=true:=by
     have h2:=zm3 (xW t.2 k);rw[zl9 (l:=t.2) (i:=k) (by omega)] at h2;rw[beq_iff_eq];exact List.length_eq_zero_iff.1 h2
    go_wp2_with fail;go_roundg (4-(k+1));exact⟨k+1,l,_,by omega,rfl,by go_num,by rw[zA HL,List.take_of_length_le (by omega),List.take_of_length_le (by omega)],zA bT⟩;omega
  ·have aH:l=t.2:=(by rw[hl,List.take_of_length_le];have hfw:t.2.length<=4:=(zA HT).eJ;omega);have aB:=ax.row;have HC:=zC (z09 wr (w.heap.size+1+1) t.1 a1 ei (xB t) (by unfold xB;rw[List.length_map,<-aH];exact aB) hlen);have nV:(xB t).length=l.length:=(by unfold xB;rw[List.length_map,aH]);rw[nV] at HC;have HK:=zC ax.k;clear ax hl aB aH nV;go_wp2_with (go_at_call 102;refine (zA HC).mono ?_;rintro e w2 ⟨rfl,aK⟩;have ir:=zC aK;clear aK);go_ret;exact⟨rfl,(zA HK).trans ((zA ir).mono (zA HK).size)⟩
end
end Go.Proofs.YtldkpahaocjdpaaGreat
