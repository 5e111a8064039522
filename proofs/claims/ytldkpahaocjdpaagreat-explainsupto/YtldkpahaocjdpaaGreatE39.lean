/-
  Things with their places in the order: Under.
-/
import Derived.Sort.LoopGhostIn
import Derived.StepT
import Derived.Test.YtldkpahaocjdpaaGreatE29
import Derived.Test.YtldkpahaocjdpaaGreatE38
set_option maxHeartbeats 16000000
set_option maxRecDepth 1000000
namespace Go.Proofs.YtldkpahaocjdpaaGreat
section
open Go.RowKit
structure Pl where
 t:Th
 s:Nat
 h:Nat
instance:Inhabited Pl:=⟨⟨({ data:=#[] },[]),0,0⟩⟩
def ez (p:Pl):V8:=[.string p.t.p,.string (xW p.t.ts 0),.string (xW p.t.ts 1),.string (xW p.t.ts 2),.string (xW p.t.ts 3),.int .i64 p.s,.int .i64 p.h]
def plV (p:Pl):Value:=.agg (ez p).toArray
theorem zwy (p:Pl):(ez p).length=7:=rfl
theorem zsh (p:Pl):∀ v∈ez p,v.oneCell'=true:=by
 intro v hv;simp[ez] at hv;rcases hv with rfl | rfl | rfl | rfl | rfl | rfl | rfl <;> rfl
def zed (p q:Pl):Bool:=decide (p.s<q.s)||(decide (p.s=q.s)&&decide (p.h<q.h))
theorem z5n (w:W8)(p q:Pl):
  Calls Tryz.prog 163 #[plV p,plV q] w λ e w'=>e=.returned (.bool (zed p q))/\Below w.heap.size w w':=by
 have b0:=((Below.refl w.heap.size w).alloc L9 (.cells (ez p).toArray 148)).alloc (by simp) (.cells (ez q).toArray 148);have ou:=zC b0;clear b0;unfold plV
 by_cases h1:p.s<q.s
 ·have HE:=zC (show zed p q=true by unfold zed;simp[h1]);have hi:(p.s:Int)<q.s:=by omega
  clear h1;unfold ez at ou ⊢;go_enter Tryz.func163,Tryz.ntmps163;go_wp2_with fail;go_ret;exact⟨by rw[zA HE];rfl,zA ou⟩
 ·by_cases h2:p.s=q.s
  ·have HE:=zC (show zed p q=decide (p.h<q.h) by unfold zed;simp[h2]);have hi:¬ (p.s:Int)<q.s:=(by omega);clear h1;unfold ez at ou ⊢;rw[h2] at hi ou ⊢;clear h2;go_enter Tryz.func163,Tryz.ntmps163;go_wp2_with fail
   all_goals go_ret
   all_goals exact⟨by rw[zA HE];simp,zA ou⟩
  ·have HE:=zC (show zed p q=false by unfold zed;simp[h1,h2]);have hi:¬ (p.s:Int)<q.s:=(by omega);have hj:¬ (p.s:Int)=q.s:=(by omega);clear h1 h2;unfold ez at ou ⊢;go_enter Tryz.func163,Tryz.ntmps163;go_wp2_with fail;go_ret;exact⟨by rw[zA HE];rfl,zA ou⟩
end
section
open Go.RowKit Go.Maps
def ze2 (p:Pl):List Pl->Nat->List (Th × Nat)
 | [],_=>[]
 | q::r,i=>if zed q p then (q.t,i)::ze2 p r (i+1) else ze2 p r (i+1)
theorem zma (p q:Pl):∀ (l:List Pl) (i:Nat),ze2 p (l++[q]) i=ze2 p l i++(if zed q p then [(q.t,i+l.length)] else [])
 | [],i=>by simp[ze2]
 | x::l,i=>by
  rw[List.cons_append,ze2,ze2,zma p q l (i+1),List.length_cons,show i+1+l.length=i+(l.length+1) by omega]
  split <;> simp
theorem zkk {p:Pl}{t:Th}{n:Nat}:∀ (l:List Pl) (i:Nat),(t,n)∈ze2 p l i->∃ q∈l,q.t=t
 | [],_,h=>by simp[ze2] at h
 | x::l,i,h=>by
  rw[ze2] at h
  split at h
  ·rcases List.mem_cons.1 h with h | h
   ·injection h with h1 h2;exact⟨x,List.mem_cons_self,h1.symm⟩
   ·obtain⟨q,hq,e⟩:=zkk l (i+1) h;exact⟨q,List.mem_cons_of_mem _ hq,e⟩
  ·obtain⟨q,hq,e⟩:=zkk l (i+1) h;exact⟨q,List.mem_cons_of_mem _ hq,e⟩
theorem zwt (p:Pl):∀ (l:List Pl) (i:Nat),(ze2 p l i).length<=l.length
 | [],_=>by simp[ze2]
 | x::l,i=>by
  have:=zwt p l (i+1);rw[ze2]
  split <;> simp <;> omega
theorem z8b {L:List (Th × Nat)}{t:Th}{n:Nat}(h:yS L t=none):zjw L t n=L++[(t,n)]:=by
 unfold zjw;rw[h];rfl
structure yd8 (w:W8)(p:Pl)(O:List Pl)(nb k:Nat)(wr:W8):Prop where
 m:qR wr nb (ze2 p (O.take k) 0)
 b:wr.heap[w.heap.size]?=some (.cells (ez p).toArray 148 (0,0))
 k:Below w.heap.size w wr
def yai (w:W8)(p:Pl)(O:List Pl)(e:Ending)(w':W8):Prop:=
 ∃ nb,e=.returned (.map (some nb))/\w.heap.size<=nb/\qR w' nb (ze2 p O 0)/\Below w.heap.size w w'
theorem ycm (w:W8)(base:Nat)(a:O8)(c:Nat)(O:List Pl)(p:Pl)(h:w.ownsRow base 148 7 (.slice a O.length c) O.length (O.flatMap ez))(bR:∀ q∈O,zdu q.t)(mT:(O.map (·.t)).Nodup)(hl:O.length<=1000):
  Calls Tryz.prog 108 #[.slice a O.length c,plV p] w (yai w p O):=by
 have H:=zC h;have iN:=zC bR;have B2:=zC mT;clear h bR mT;have nx:=@run_makeMap Tryz.prog;have MG:=zC (show plV p=.agg (ez p).toArray from rfl);unfold plV;unfold ez;go_enter Tryz.func108,Tryz.ntmps108;go_wp2_with fail;generalize bC:World.alloc (World.alloc w _) _=w0;have k0:Below w.heap.size w w0:=by
  rw[<-bC];exact ((Below.refl w.heap.size w).alloc L9 _).alloc (by simp) _
 have x0:w0.heap[w.heap.size]?=some (.cells (ez p).toArray 148 (0,0)):=by
  rw[<-bC,Below.heap_alloc _ _ _ (by simp)];exact heap_alloc_new w _
 have m0:qR w0 (w.heap.size+1) []:=by
  rw[<-bC];have:=qR.made (w.alloc (.cells (ez p).toArray 148));rw[World.size_alloc] at this;exact this
 have H0:=zC (show yd8 w p O (w.heap.size+1) 0 w0 from ⟨m0,x0,k0⟩);clear bC k0 x0 m0 nx
 go_loopg [11] O.length (λ gg i wr=>∃ k:Nat,k<=O.length/\gg=O.length-k/\i=.int .i64 k/\yd8 w p O (w.heap.size+1) k wr)
 exact⟨0,Nat.zero_le _,rfl,rfl,zA H0⟩
 case round=>
  clear H0;obtain⟨k,hk,eD,rfl,ax⟩:=hrel
  by_cases aF:k<O.length
  ·obtain⟨q,hq⟩:∃ q,q=O[k]:=⟨_,rfl⟩;have cg:q∈O:=(by rw[hq];exact List.getElem_mem aF);obtain⟨g,cap,hv,iF,aZ,bO,bQ,hc⟩:=vX zwy (zA H) k aF;injection hv with h1 h2 h3
   subst h1 h3;have eo:=ax.k;have d0:wr.cell? ⟨g,k*7,none⟩=some (.string q.t.p):=(by rw[hq];exact (eo.cell (p:=⟨g,k*7,none⟩) aZ).trans (hc 0 (by omega)));have d1:wr.cell? ⟨g,k*7+1,none⟩=some (.string (xW q.t.ts 0)):=(by rw[hq];exact (eo.cell (p:=⟨g,k*7+1,none⟩) aZ).trans (hc 1 (by omega)));have d2:wr.cell? ⟨g,k*7+2,none⟩=some (.string (xW q.t.ts 1)):=(by rw[hq];exact (eo.cell (p:=⟨g,k*7+2,none⟩) aZ).trans (hc 2 (by omega)));have d3:wr.cell? ⟨g,k*7+3,none⟩=some (.string (xW q.t.ts 2)):=(by rw[hq];exact (eo.cell (p:=⟨g,k*7+3,none⟩) aZ).trans (hc 3 (by omega)));have d4:wr.cell? ⟨g,k*7+4,none⟩=some (.string (xW q.t.ts 3)):=(by rw[hq];exact (eo.cell (p:=⟨g,k*7+4,none⟩) aZ).trans (hc 4 (by omega)));have d5:wr.cell? ⟨g,k*7+5,none⟩=some (.int .i64 q.s):=(by rw[hq];exact (eo.cell (p:=⟨g,k*7+5,none⟩) aZ).trans (hc 5 (by omega)));have d6:wr.cell? ⟨g,k*7+6,none⟩=some (.int .i64 q.h):=(by rw[hq];exact (eo.cell (p:=⟨g,k*7+6,none⟩) aZ).trans (hc 6 (by omega)));have xq:w.heap.size+1<wr.heap.size:=ax.m.lt;have xb:=(Below.heap_alloc wr (.cells #[.string q.t.p,.string (xW q.t.ts 0),.string (xW q.t.ts 1),.string (xW q.t.ts 2),.string (xW q.t.ts 3),.int .i64 q.s,.int .i64 q.h] 148) _ (by omega:w.heap.size<wr.heap.size)).trans ax.b;have b0:=(zB xb 0).1;have b1:=(zB xb 1).1;have b2:=(zB xb 2).1;have b3:=(zB xb 3).1;have b4:=(zB xb 4).1;have b5:=(zB xb 5).1;have b6:=(zB xb 6).1;simp only[ez,List.getElem?_toArray,List.getElem?_cons_zero,List.getElem?_cons_succ] at b0 b1 b2 b3 b4 b5 b6;have HU:=zC (λ W=>z5n W q p);have bT:=zC ax;have hT:=zA iN q cg;have oy:=zC (show O.take (k+1)=O.take k++[q] by rw[List.take_succ_eq_append_getElem aF,hq]);have hlen:(ze2 p (O.take k) 0).length<maxLen:=by
    have:=zwt p (O.take k) 0;rw[List.length_take] at this;unfold maxLen;omega
   have aX:yS (ze2 p (O.take k) 0) q.t=none:=by
    cases Aq:yS (ze2 p (O.take k) 0) q.t with
    | none=>rfl
    | some m=>
     obtain⟨y,hy,e⟩:=zkk _ _ (jV Aq);have hn:=zA B2;rw[<-List.take_append_drop k O,List.map_append,List.nodup_append] at hn;refine absurd e (hn.2.2 y.t (List.mem_map_of_mem hy) q.t (List.mem_map_of_mem ?_));rw[List.drop_eq_getElem_cons aF,<-hq];exact List.mem_cons_self
   have pU:=zC aX;have nu:(k:Int)<O.length:=(by omega);clear hc ax eo hq cg xb aX h2
   have wR:=zC (λ (w2:W8) (aK:Below (wr.heap.size+1) (wr.alloc (.cells #[.string q.t.p,.string (xW q.t.ts 0),.string (xW q.t.ts 1),.string (xW q.t.ts 2),.string (xW q.t.ts 3),.int .i64 q.s,.int .i64 q.h] 148)) w2)=>(show yd8 w p O (w.heap.size+1) k w2/\w2.heap[wr.heap.size]?=some (.cells #[.string q.t.p,.string (xW q.t.ts 0),.string (xW q.t.ts 1),.string (xW q.t.ts 2),.string (xW q.t.ts 3),.int .i64 q.s,.int .i64 q.h] 148 (0,0)) from by
    have ax:=zA bT;have kk:Below wr.heap.size wr w2:=((Below.refl wr.heap.size wr).alloc L9 _).trans (aK.mono (by omega))
    exact⟨⟨ax.m.block (kk.block _ ax.m.lt),(kk.block _ (by omega)).trans ax.b,ax.k.trans (kk.mono ax.k.size)⟩,(aK.block _ (by omega)).trans (heap_alloc_new wr _)⟩))
   cases hu:zed q p with
   | true=>
    rw[hu] at HU;have OW:=zC hu;clear hu
    go_wp2_with (first
     | (go_at_call 163;refine (zA HU _).mono ?_;rintro en w2 ⟨rfl,aK⟩;obtain⟨i2,y2⟩:=zA wR w2 (by simpa using aK);have dD:=i2.m;have e0:=(zB y2 0).1;have e1:=(zB y2 1).1;have e2:=(zB y2 2).1;have e3:=(zB y2 3).1;have e4:=(zB y2 4).1;simp only[List.getElem?_toArray,List.getElem?_cons_zero,List.getElem?_cons_succ] at e0 e1 e2 e3 e4;have eA:=zC i2;clear i2 y2 aK)
     | (at_mapUpdate;refine z50 _ rfl _ _ _ 82 rfl Tryz.underlying82 (w.heap.size+1) (ze2 p (O.take k) 0) rfl dD hlen q.t k rfl rfl hT ?_;intro w3 fq vq;have yn:=zC fq;have Jt:=zC vq;clear fq vq))
    go_roundg (O.length-(k+1))
    case measure=>omega
    case rel=>
     have i2:=zA eA;have g3:=(zA Jt).grown;refine⟨k+1,by omega,rfl,by go_num,?_,?_,?_⟩
     ·have h3:=zA yn;rw[z8b (zA pU)] at h3;rw[zA oy,zma,zA OW,if_pos rfl,List.length_take,Nat.zero_add,Nat.min_eq_left (by omega)];exact h3
     ·exact (g3.block _ (Array.getElem?_eq_some_iff.1 i2.b).1 (by simp)).trans i2.b
     ·exact⟨g3.os.trans i2.k.os,g3.tape.trans i2.k.tape,g3.output.trans i2.k.output,Nat.le_trans i2.k.size g3.size,λ j hj=>(g3.block j (by have:=i2.k.size;omega) (by simp;omega)).trans (i2.k.block j hj)⟩
   | false=>
    rw[hu] at HU;have OW:=zC hu;clear hu;go_wp2_with (go_at_call 163;refine (zA HU _).mono ?_;rintro en w2 ⟨rfl,aK⟩;obtain⟨i2,y2⟩:=zA wR w2 (by simpa using aK);have eA:=zC i2;clear i2 y2 aK);go_roundg (O.length-(k+1))
    case measure=>omega
    case rel=>
     have i2:=zA eA;refine⟨k+1,by omega,rfl,by go_num,?_,i2.b,i2.k⟩;rw[zA oy,zma,zA OW];simpa using i2.m
  ·have he:k=O.length:=(by omega);subst he;have bT:=zC ax;clear ax;go_wp2_with fail;go_ret;have ax:=zA bT;have:=ax.m;rw[List.take_length] at this;exact⟨_,rfl,by omega,this,ax.k⟩
end
section
open Go.RowKit Go.Maps
def qI (n m:Nat):List (Fin n):=((List.finRange n).drop m).reverse
theorem NT (n:Nat):qI n n=[]:=by unfold qI;rw[List.drop_of_length_le (by simp)];rfl
theorem zfz {n m:Nat}(h:m<n):qI n m=qI n (m+1)++[⟨m,h⟩]:=by
 unfold qI;rw[List.drop_eq_getElem_cons (by simpa using h),List.reverse_cons];simp
theorem z1f (n m:Nat):(qI n m).length=n-m:=by unfold qI;simp
theorem z6p (w:W8)(a:O8)(n c:Nat):
  Calls Tryz.prog 68 #[.slice a n c] w λ e w'=>e=.returned (.func (.func 107) #[] #[.pointer (some ⟨w.heap.size,0,none⟩)])/\w'=w.alloc (.cells #[.slice a n c] 141):=by
 go_enter Tryz.func68,Tryz.ntmps68;go_wp2_with fail;go_ret;exact⟨rfl,rfl⟩
theorem zxu (No:Nat->Prop)(n:Nat)(w:W8)(sb bo:Nat)(ao:O8)(co:Nat)(O:List Pl)(hs:w.heap[sb]?=some (.cells #[.slice ao O.length co] 141 (0,0)))(ho:w.ownsRow bo 148 7 (.slice ao O.length co) O.length (O.flatMap ez))(ia:¬ No sb)(oI:∀ g,(Value.slice ao O.length co).ownBlock=some g->¬ No g)(hl:O.length<=1000):
  SeqStopsK Fence.wide n Tryz.prog 107 #[.pointer (some ⟨sb,0,none⟩)] (λ x:Fin O.length=>#[.int .i64 (x.1:Nat),plV O[x]]) (qH No) (λ xs=>xs=qI O.length 0) (λ _=>True) O.length w:=by
 intro l J Jx W hW hJ hJx hY h0;have sg:=(hW.block sb (Array.getElem?_eq_some_iff.1 hs).1).trans hs;have Le:=zJ ho hW (λ g e=>(ho.lt g e).2);have c0:=(zB sg 0).1;simp only[List.getElem?_toArray,List.getElem?_cons_zero] at c0;have HS:=zC sg;have HO:=zC Le;have HY:=zC hY;have H0:=zC h0;have CC:=zC ia;have Wh:=zC oI;clear hs ho hY h0 ia oI hW hJ hJx sg Le;refine callsIn_wide.2 ?_;go_enter Tryz.func107,Tryz.ntmps107;go_upto_region 1 with fail;refine (wpIn_wide (n:=2)).1 ?_
 gi_loopg [3] O.length (λ gg i wr=>∃ m:Nat,m<=O.length/\gg=m/\i=.int .i64 ((m:Int)-1)/\J (qI O.length m) wr/\qH No W wr)
 exact⟨O.length,Nat.le_refl _,rfl,rfl,by rw[NT];exact zA H0,qH.refl _ _⟩
 case round=>
  clear H0 c0;obtain⟨m,hm,Ad,rfl,hj,hk⟩:=hrel;have HJ:=zC hj;have HK:=zC hk;have c0:=(zB (hk.cells (zA HS) (zA CC)) 0).1;simp only[List.getElem?_toArray,List.getElem?_cons_zero] at c0;have aB:=hk.row (zA HO) (zA Wh);clear hj hk
  cases m with
  | zero=>
   have hz:¬ (0:Int)<=((0:Nat):Int)-1:=(by omega);clear aB c0
   gi_wp2
   go_end0;exact⟨⟨_,rfl⟩,.inl (zA HJ)⟩
  | succ q=>
   have hq:q<O.length:=(by omega);rw[show (((q+1:Nat):Int)-1)=(q:Int) by omega];obtain⟨g,cap,hv,iF,aZ,bO,bQ,hc⟩:=vX zwy aB q hq;injection hv with h1 h2 h3
   subst h1 h3;have d0:wr.cell? ⟨g,q*7,none⟩=some (.string O[q].t.p):=hc 0 (by omega);have d1:wr.cell? ⟨g,q*7+1,none⟩=some (.string (xW O[q].t.ts 0)):=hc 1 (by omega);have d2:wr.cell? ⟨g,q*7+2,none⟩=some (.string (xW O[q].t.ts 1)):=hc 2 (by omega);have d3:wr.cell? ⟨g,q*7+3,none⟩=some (.string (xW O[q].t.ts 2)):=hc 3 (by omega);have d4:wr.cell? ⟨g,q*7+4,none⟩=some (.string (xW O[q].t.ts 3)):=hc 4 (by omega);have d5:wr.cell? ⟨g,q*7+5,none⟩=some (.int .i64 O[q].s):=hc 5 (by omega);have d6:wr.cell? ⟨g,q*7+6,none⟩=some (.int .i64 O[q].h):=hc 6 (by omega);have QO:(q:Int)<O.length:=(by omega);have hq0:(0:Int)<=q:=(by omega);obtain⟨fn,tmps,assign,body,hy,hR⟩:=zth (m':=1) (zA HY (qI O.length (q+1)) ⟨q,hq⟩ wr (zA HJ) (by rw[z1f];omega));clear hc aB h2;have kX:(Instr.yield l #[.int .i64 (q:Nat),.agg #[.string O[q].t.p,.string (xW O[q].t.ts 0),.string (xW O[q].t.ts 1),.string (xW O[q].t.ts 2),.string (xW O[q].t.ts 3),.int .i64 O[q].s,.int .i64 O[q].h]]).run Tryz.prog wr=.ok (.round l fn tmps assign body) wr:=hy;clear hy
   gi_wp2_with (refine hR.mono ?_;rintro en w5 (⟨rfl,h5,h6⟩ | ⟨rfl,h5⟩) <;> (have H5:=zC h5;clear h5 hR kX))
   ·have H6:=zC h6;clear h6
    gi_roundg q
    case measure=>omega
    case rel=>
     refine⟨q,by omega,rfl,by go_num,?_,(zA HK).trans (zA H6)⟩;rw[zfz hq];exact zA H5
   ·refine bodyPost_ret (v:=.tuple #[]) (results_none Tryz.results107 _ _ _) rfl ?_;exact⟨⟨_,rfl⟩,.inr ⟨_,trivial,zA H5⟩⟩
end
section
theorem zk0 {α:Type}:∀ (k:Ask α) (w:W8),w.drawn<=(w.ask k).2.drawn
 | .done a,w=>Nat.le_refl _
 | .ask what range k,w=>by
  rw[World.ask]
  split
  ·exact zk0 (k 0) w
  ·exact Nat.le_trans (Nat.le_succ _) (zk0 (k _) { w with drawn:=w.drawn+1 })
theorem zs2 (w:W8)(c:Sys):w.drawn<=(w.sys c).2.drawn:=by
 have h:=zk0 (Kernel.perform c w.os) w;unfold World.sys
 split
 ·exact Nat.le_refl _
 ·rename_i h1;rw[h1] at h;exact h
def z90 {α:Type}:Result α->W8
 | .ok _ w=>w
 | .halt _ w=>w
variable {v:Value} {a:Addr} {w w':W8} {p:Program}
theorem znl {b:Bool}{l:List Addr}(h:w.farStore p a v b=.ok (w',l)):w'.drawn=w.drawn:=by
 unfold World.farStore at h
 split at h
 ·split at h
  ·rename_i h1
   cases h
   simp only[World.viewStore,bind,Except.bind,pure,Except.pure] at h1
   repeat' split at h1
   all_goals first | (cases h1;done) | (cases h1;rfl) | skip
  ·cases h
 ·cases h
theorem zsw {α:Type}(p:Program):∀ (m:Sem α) (w:W8),w.drawn<=(z90 (m.run p w)).drawn:=by
 intro m
 induction m with
 | pure a=>intro w;exact Nat.le_refl _
 | load m a k ih=>
  intro w;rw[Sem.run]
  split
  ·exact ih _ w
  ·split
   ·exact ih _ w
   ·exact Nat.le_refl _
 | store m a v k ih=>
  intro w
  have key:w.drawn<=(z90 (match w.cell? a with
   | some _ => if w.frozen? a then .halt (.unsupported (.unsafePointer "a write to bytes that a string shares")) w else k.run p (w.setCell a v)
   | none=>match w.farStore p a v (m==.atomic) with
    | .ok (w,_)=>k.run p w
    | .error h=>.halt h w)).drawn:=by
   split
   ·split
    ·exact Nat.le_refl _
    ·exact ih (w.setCell a v)
   ·split
    ·rename_i h1;have:=znl h1;exact Nat.le_trans (Nat.le_of_eq this.symm) (ih _)
    ·exact Nat.le_refl _
  cases v <;> first | exact Nat.le_refl _ | exact key
 | new o k ih=>intro w;exact ih _ { w with heap:=w.heap.push o }
 | shape r k ih=>intro w;exact ih _ w
 | freeze a n k ih=>
  intro w;have:(w.freeze a n).drawn=w.drawn:=by unfold World.freeze;split <;> rfl
  exact Nat.le_trans (Nat.le_of_eq this.symm) (ih (w.freeze a n))
 | frozen a k ih=>intro w;exact ih _ w
 | getObj r k ih=>
  intro w;rw[Sem.run]
  split
  ·exact Nat.le_refl _
  ·exact ih _ w
  ·exact Nat.le_refl _
 | setObj r o k ih=>
  intro w;rw[Sem.run]
  split
  ·exact Nat.le_refl _
  ·exact ih { w with heap:=w.heap.setIfInBounds r o }
  ·exact Nat.le_refl _
 | choose q k ih=>
  intro w;rw[Sem.run]
  split
  ·exact ih _ w
  ·exact Nat.le_trans (Nat.le_succ _) (ih _ { w with drawn:=w.drawn+1 })
 | sys c k ih=>intro w;exact Nat.le_trans (zs2 w c) (ih _ (w.sys c).2)
 | program k ih=>intro w;exact ih _ w
 | mark m k ih=>intro w;exact ih w
 | halt h=>intro w;exact Nat.le_refl _
theorem vJ {α:Type}{m:Sem α}{a:α}(h:m.run p w=.ok a w'):w.drawn<=w'.drawn:=by
 have:=zsw p m w;rw[h] at this;exact this
theorem vE {α:Type}{m:Sem α}{x:Halt}(h:m.run p w=.halt x w'):w.drawn<=w'.drawn:=by
 have:=zsw p m w;rw[h] at this;exact this
def zcr:GStep->W8
 | .go _ w _=>w
 | .comm _ _ _ _ w _=>w
 | .spawn _ _ w _=>w
 | .count _ w _=>w
 | .timer _ _ w _=>w
 | .alone _ _ w _=>w
 | .newcoro _ _ _ w _=>w
 | .coroswitch _ _ _ w _=>w
 | .collect _ w _=>w
 | .watch _ w _=>w
 | .ended _ w _=>w
theorem zar (es:Array Event)(s:GStep):zcr (s.after es)=zcr s:=by cases s <;> rfl
theorem zd2 (p:Program)(fr:Frame)(v:Value)(w:W8):zcr (endPrinting p fr v w)=w:=by
 unfold endPrinting;simp only
 repeat' split
 all_goals rfl
theorem zpa (w:W8)(fd:Nat)(t:B8)(o:Outcome):w.drawn<=(zcr (endWith w fd t o)).drawn:=by
 have h:=zs2 w (.write fd t);unfold endWith;simp only
 split
 ·rename_i h1;rw[h1] at h;split <;> exact h
 ·rename_i h1;rw[h1] at h;exact h
 ·rename_i h1;rw[h1] at h;exact h
theorem zgs (p:Program)(fr:Frame)(cs:List Frame)(d:Option Dying)(m:String)(w:W8):w.drawn<=(zcr (endFatal p fr cs d m w)).drawn:=by
 unfold endFatal;simp only
 split
 ·rename_i h;exact vJ h
 ·rename_i h;exact vE h
 ·rename_i h;exact vE h
theorem zqj (p:Program)(fr:Frame)(d:Dying)(f:Fatal)(w:W8):w.drawn<=(zcr (writeOn p fr d f w)).drawn:=by
 unfold writeOn;simp only[Sem.runT_eq]
 split
 ·exact Nat.le_refl _
 ·split
  ·rename_i h;exact vJ (Prod.mk.inj h).1
  ·rename_i h;exact vE (Prod.mk.inj h).1
  ·rename_i h;exact vE (Prod.mk.inj h).1
  ·rename_i h;exact vE (Prod.mk.inj h).1
theorem z1z (p:Program)(fr:Frame)(d:Dying)(w:W8):w.drawn<=(zcr (die p fr d w)).drawn:=by
 unfold die;simp only[Sem.runT_eq]
 split
 ·exact zqj _ _ _ _ _
 ·split
  ·split
   ·exact Nat.le_refl _
   ·exact zpa _ _ _ _
  ·split
   ·exact Nat.le_refl _
   ·split
    ·rename_i h;exact vJ h
    ·rename_i h;exact vE h
   ·rw[zar]
    split
    ·rename_i h;exact vJ h
    ·rename_i h;exact vJ h
    ·rename_i h;exact vE h
    ·rename_i h;rw[zd2];exact vE h
    ·exact Nat.le_refl _
   ·exact Nat.le_refl _
theorem zt2 (p:Program)(fr:Frame)(cs:List Frame)(d:Option Dying)(g:Nat)(w:W8):w.drawn<=(zcr (early p fr cs d g w)).drawn:=by
 unfold early;simp only
 repeat' split
 all_goals first | exact Nat.le_refl _ | (have h:=vJ ‹Sem.run _ _ _=Result.ok _ _›;exact h) | (have h:=vE ‹Sem.run _ _ _=Result.halt _ _›;exact h)
theorem zdm (p:Program)(b:Bool)(fr:Frame)(cs:List Frame)(d:Option Dying)(v:Value)(w:W8):zcr (doReturn p b fr cs d v w)=w:=by
 unfold doReturn
 repeat' split
 all_goals rfl
theorem zh0 (p:Program)(fr:Frame)(cs:List Frame)(dy:Option Dying)(d:Deferred)(w:W8):w.drawn<=(zcr (callDeferred p fr cs dy d w)).drawn:=by
 unfold callDeferred;simp only[Sem.runT_eq];generalize (_&&_:Bool)=c
 split
 ·exact Nat.le_refl _
 ·rw[zar]
  split
  all_goals rename_i h
  all_goals first
   | exact vJ h
   | exact vE h
   | exact Nat.le_trans (vE h) (zgs _ _ _ _ _ _)
   | (split <;> exact vJ h)
theorem ztb (p:Program)(b:Bool)(fr:Frame)(cs:List Frame)(dy:Option Dying)(w:W8):w.drawn<=(zcr (unwind p b fr cs dy w)).drawn:=by
 unfold unwind;simp only[Sem.runT_eq]
 split
 ·rw[zar]
  split
  ·rename_i h;exact vJ h
  ·rename_i h;exact vE h
 ·exact zh0 _ _ _ _ _ _
 ·split
  ·exact Nat.le_refl _
  ·split
   ·exact Nat.le_refl _
   ·split
    ·exact Nat.le_refl _
    ·split
     ·split
      ·exact Nat.le_refl _
      ·split
       ·rename_i h;exact vJ h
       ·rename_i h;exact vE h
       ·rename_i h;exact vE h
     ·split
      ·rw[zd2];exact Nat.le_refl _
      ·exact Nat.le_refl _
  ·split
   ·rw[zdm];exact Nat.le_refl _
   ·rw[zar]
    split
    ·rename_i h;rw[zdm];exact vJ h
    ·rename_i h;exact vE h
    ·rename_i h;exact vE h
theorem zg6 (p:Program)(listen:Bool)(fr:Frame)(cs:List Frame)(dy:Option Dying)(m:Sem Next)(w:W8):w.drawn<=(zcr (stepG.apply p listen fr cs dy m w)).drawn:=by
 have e:(if listen=true then m.runT p w #[] else (m.run p w,#[])).1=m.run p w:=by split <;> simp
 unfold stepG.apply;simp only;generalize (if listen=true then m.runT p w #[] else (m.run p w,#[]))=r at e ⊢;obtain⟨r,es⟩:=r;simp only at e;subst e;simp only;rw[zar]
 split
 all_goals rename_i h
 all_goals first
  | exact vJ h
  | exact vE h
  | exact Nat.le_trans (vE h) (zgs _ _ _ _ _ _)
  | exact Nat.le_trans (vE h) (zt2 _ _ _ _ _ _)
  | ((repeat' split);all_goals exact vJ h)
theorem zyz (p:Program)(listen:Bool)(fr:Frame)(cs:List Frame)(dy:Option Dying)(w:W8):w.drawn<=(zcr (stepG.oper p listen fr cs dy w)).drawn:=by
 unfold stepG.oper
 split
 ·exact Nat.le_refl _
 ·split
  ·exact zg6 _ _ _ _ _ _ _
  ·exact zg6 _ _ _ _ _ _ _
theorem zyc (p:Program)(main listen:Bool)(fr:Frame)(cs:List Frame)(dy:Option Dying)(w:W8):w.drawn<=(zcr (stepG.exec p main listen fr cs dy w)).drawn:=by
 have qk:=zg6 p listen;have pE:=zyz p listen;unfold stepG.exec;simp only[Sem.runT_eq];generalize stepG.apply p listen=ap at qk ⊢;generalize stepG.oper p listen=op at pE ⊢
 split
 all_goals first
  | exact Nat.le_refl _
  | exact qk _ _ _ _ _
  | skip
 all_goals try simp only[Option.elim]
 all_goals repeat' (first | rw[zar] | split)
 all_goals first
  | exact Nat.le_refl _
  | exact pE _ _ _ _
  | exact qk _ _ _ _ _
  | (have h:=vJ ‹Sem.run _ _ _=Result.ok _ _›;exact h)
  | (have h:=vE ‹Sem.run _ _ _=Result.halt _ _›;exact h)
  | (rw[zdm];have h:=vJ ‹Sem.run _ _ _=Result.ok _ _›;exact h)
  | (have h:=vJ ‹Sem.run _ _ _=Result.ok _ _›;exact Nat.le_trans h (qk _ _ _ _ _))
theorem zu7 (p:Program)(main:Bool)(g:Goroutine)(w:W8)(listen:Bool):w.drawn<=(zcr (stepG p main g w listen)).drawn:=by
 unfold stepG;simp only
 split
 ·exact z1z _ _ _ _
 ·exact zyc _ _ _ _ _ _ _
 ·exact ztb _ _ _ _ _ _
def sOk (n:Nat)(s:Stepped):Prop:=∀ m,s=.next m->n<=m.world.drawn
variable {m:Machine} {n:Nat}
theorem xX (h:n<=m.world.drawn):sOk n (.next m):=λ _ e=>by cases e;exact h
theorem xS {o:Outcome}:sOk n (.ended o w):=λ _ e=>by cases e
theorem zm6 {rest:Rest}{cs:Array CommCase}(h:waitingAt rest cs w=some w'):w.drawn<=w'.drawn:=by
 unfold waitingAt at h
 split at h
 ·split at h
  ·cases h;exact Nat.le_refl _
  ·cases h
 ·cases h;exact Nat.le_refl _
theorem zi2 (p:Program)(rest:Rest)(gs:Array Goroutine)(i:Nat)(g:Goroutine)(FF:Array CommCase)(yt:Bool)(shape:CommShape)(w:W8):sOk w.drawn (communicate p rest gs i g FF yt shape w).1:=by
 unfold communicate;simp only
 repeat' split
 all_goals first
  | exact xS
  | exact xX L9
  | (have h:=vJ ‹Sem.run _ _ _=Result.ok _ _›;exact xX h)
  | (have h:=zm6 ‹waitingAt _ _ _=some _›;exact xX h)
  | (have h1:=vJ ‹Sem.run _ _ _=Result.ok _ _›;have h2:=vE ‹Sem.run _ _ _=Result.halt _ _›;exact xX (Nat.le_trans h1 h2))
  | (have h1:=vJ ‹Sem.run _ _ w=Result.ok _ _›;have h2:=vJ ‹Sem.run _ (choose _) _=Result.ok _ _›;exact xX (Nat.le_trans h1 h2))
theorem zi9 (p:Program)(gs:Array Goroutine)(rest:Rest)(w:W8):sOk w.drawn (look p gs rest w):=by
 unfold look;simp only
 repeat' split
 all_goals first
  | exact xS
  | exact xX L9
  | (have h:=vJ ‹Sem.run _ _ w=Result.ok _ _›;exact xX h)
theorem zu6 (p:Program)(m:Machine)(k:Nat):sOk m.world.drawn (serve p m k):=by
 unfold serve;simp only
 repeat' split
 all_goals first
  | exact xS
  | exact xX L9
  | (have h:=vJ ‹Sem.run _ _ _=Result.ok _ _›;exact xX h)
theorem zt1 (w:W8)(c:Nat):(drain w c).2.drawn=w.drawn:=by
 unfold drain
 split <;> rfl
theorem zjz (m:Machine)(k:Nat)(t:Timer)(a b:Nat):(retime m k t a b).2.world.drawn=m.world.drawn:=by
 unfold retime;simp only
 split
 ·exact zt1 _ _
 ·rfl
variable {m':Machine}
theorem zsb (h:timerOp.opened m a=some m'):m.world.drawn<=m'.world.drawn:=by
 unfold timerOp.opened at h
 split at h
 ·split at h
  ·cases h;exact Nat.le_refl _
  ·cases h
 ·cases h;exact Nat.le_refl _
theorem zp9 {op:TimerOp}(h:timerOp m op=.ok (v,m')):m.world.drawn<=m'.world.drawn:=by
 unfold timerOp timerOp.named at h
 repeat' split at h
 all_goals first
  | (cases h;done)
  | (cases h;exact Nat.le_refl _)
  | (have e:=congrArg (λ x=>(Prod.snd x).world.drawn) (Except.ok.inj h);simp only[zjz] at e;exact Nat.le_of_eq e)
  | (have h1:=zsb ‹timerOp.opened _ _=some _›;have e:=congrArg (λ x=>(Prod.snd x).world.drawn) (Except.ok.inj h);simp only[zjz] at e;exact Nat.le_trans h1 (Nat.le_of_eq e))
theorem zms (p:Program)(m:Machine)(i:Nat)(listen:Bool):sOk m.world.drawn (runT p m i listen).1:=by
 unfold runT;simp only;have h:=zu7 p (i==0) (m.gs.swapAt! i { (default:Goroutine) with status:=.finished }).1 m.world listen;generalize stepG p (i==0) _ m.world listen=s at h ⊢
 cases s with
 | ended o w es=>exact xS
 | comm g cs b sh w es=>exact λ m' e=>Nat.le_trans h (zi2 _ _ _ _ _ _ _ _ _ m' e)
 | go g w es=>exact xX h
 | spawn g c w es=>exact xX h
 | count g w es=>
  simp only
  split
  ·exact xS
  ·exact xX h
 | alone g on w es=>exact xX h
 | collect g w es=>exact λ m' e=>Nat.le_trans h (zi9 _ _ _ _ m' e)
 | watch g w es=>exact xX h
 | newcoro g c d w es=>exact xX h
 | coroswitch g c ex w es=>
  simp only
  split
  ·exact xX h
  ·exact xX h
  ·exact xS
 | timer g op w es=>
  simp only
  split
  ·rename_i h1;exact xX (Nat.le_trans h (zp9 h1))
  ·exact xX h
  ·exact xS
  ·exact xS
def IG (n:Nat)(v:Move):Prop:=match v with
 | .goroutine m _=>n<=m.world.drawn
 | .machine s _=>sOk n s
theorem zg7 (p:Program)(m:Machine):IG m.world.drawn (askOn p m):=by
 unfold askOn;simp only
 split
 ·exact xS
 ·rename_i h0;have h0:=vJ h0
  split
  ·exact λ m' e=>Nat.le_trans h0 (zu6 p _ _ m' e)
  ·split
   ·split
    ·exact xX h0
    ·split
     ·exact xX h0
     ·split <;> exact xS
   ·split
    ·split
     ·exact xS
     ·rename_i h1;have h1:=Nat.le_trans h0 (vJ h1)
      split
      ·exact h1
      ·split
       ·exact xS
       ·rename_i h2;exact Nat.le_trans h1 (vJ h2)
    ·split
     ·exact xS
     ·rename_i hc;have hc:=Nat.le_trans h0 (vJ hc)
      split
      ·exact xS
      ·rename_i h1;have h1:=Nat.le_trans hc (vJ h1)
       split
       ·exact h1
       ·split
        ·exact xS
        ·rename_i h2;exact Nat.le_trans h1 (vJ h2)
     ·rename_i hc;have hc:=Nat.le_trans h0 (vJ hc);exact xX hc
     ·rename_i hc;have hc:=Nat.le_trans h0 (vJ hc)
      split
      ·exact xS
      ·rename_i h1;have h1:=vJ h1;have h1:=Nat.le_trans hc h1
       split
       ·exact h1
       ·split
        ·exact xS
        ·rename_i h2;exact Nat.le_trans h1 (vJ h2)
theorem IG.mono {a b:Nat}{v:Move}(h:IG b v)(CP:a<=b):IG a v:=by
 cases v with
 | goroutine m i=>exact Nat.le_trans CP h
 | machine s ops=>exact λ m' e=>Nat.le_trans CP (h m' e)
theorem zgp (p:Program)(m:Machine):IG m.world.drawn (ask p m):=by
 unfold ask
 split
 ·split
  ·exact xS
  ·rename_i h;have h:=vJ h
   split
   ·rename_i h1;exact (zg7 p _).mono (Nat.le_trans h (zi9 _ _ _ _ _ h1))
   ·rename_i h1;exact λ m' e=>Nat.le_trans h (zi9 _ _ _ _ _ e)
  ·rename_i h;exact (zg7 p _).mono (vJ h)
 ·exact zg7 p m
theorem zyx (p:Program)(m:Machine):IG m.world.drawn (move p m):=by
 unfold move
 split
 ·split
  ·exact Nat.le_refl _
  ·exact xS
 ·split
  ·split
   ·exact Nat.le_refl _
   ·exact zgp p _
  ·exact zgp p m
theorem zzr (h:step p m=.next m'):m.world.drawn<=m'.world.drawn:=by
 have hm:=zyx p m;unfold step stepT at h
 split at h
 ·rename_i m1 i h1;rw[h1] at hm;exact Nat.le_trans hm (zms p m1 i _ m' h)
 ·rename_i s ops h1;rw[h1] at hm;exact hm m' h
theorem zol {p:Program}:∀ (n:Nat) {m m':Machine},runN p n m=.next m'->m.world.drawn<=m'.world.drawn
 | 0,m,m',h=>by rw[runN] at h;cases h;exact Nat.le_refl _
 | n+1,m,m',h=>by
  rw[runN] at h
  split at h
  ·rename_i m1 h1;exact Nat.le_trans (zzr h1) (zol n h)
  ·rename_i h1;exact absurd h (λ e=>h1 m' e)
theorem ztw {f:FuncId}{args:Array Value}{R:Ending->W8->Prop}(h:Calls p f args w R):Calls p f args w λ e w'=>R e w'/\(∀ v,e=.returned v->w.drawn<=w'.drawn):=λ cs=>by
 obtain⟨e,w',fr,h1,h2,h3⟩:=h cs;refine⟨e,w',fr,⟨h1,λ v hv=>?_⟩,h2,h3⟩;subst hv;obtain⟨n,hn⟩:=h2;exact zol n hn
end
section
open Go.RowKit
theorem z6u (TX:B8->B8->B8->B8->B8->B8->Prop)(w:W8)(p0 p1 p2 p3 p4 q0 q1 q2 q3 q4 tp tq:B8)(s1 h1 s2 h2:Nat)(hp:TX p0 p1 p2 p3 p4 tp)(hq:TX q0 q1 q2 q3 q4 tq)
  (HT:∀ (x0 x1 x2 x3 x4 t:B8),TX x0 x1 x2 x3 x4 t->∀ W:W8,Calls Tryz.prog 63 #[.agg #[.string x0,.string x1,.string x2,.string x3,.string x4]] W λ e w'=>e=.returned (.string t)/\Below W.heap.size W w'):
  Calls Tryz.prog 106 #[.agg #[.string p0,.string p1,.string p2,.string p3,.string p4,.int .i64 s1,.int .i64 h1],.agg #[.string q0,.string q1,.string q2,.string q3,.string q4,.int .i64 s2,.int .i64 h2]] w λ e w'=>e=.returned (.int .i64 (orC (znz s1 s2) (znz h1 h2) (ztx tp tq)))/\Below w.heap.size w w':=by
 have T1:=zC HT;have C1:=zC zjo;have C3:=zC (λ W=>zty tp tq W);have O3:=zC (λ (W:W8) (a b c:Int)=>ybr (W.alloc (.cells #[.int .i64 a,.int .i64 b,.int .i64 c] 3)) W.heap.size a b c (heap_alloc_new W _));clear HT;generalize ztx tp tq=r3 at *;go_enter Tryz.func106,Tryz.ntmps106;go_upto_region 1 with fail;generalize bC:World.alloc (World.alloc w _) _=w0;have k0:Below w.heap.size w w0:=by
  rw[<-bC];exact ((Below.refl w.heap.size w).alloc L9 _).alloc (by simp) _
 have x0:w0.heap[w.heap.size]?=some (.cells #[.string p0,.string p1,.string p2,.string p3,.string p4,.int .i64 s1,.int .i64 h1] 148 (0,0)):=by
  rw[<-bC,Below.heap_alloc _ _ _ (by simp)];exact heap_alloc_new w _
 have x1:w0.heap[w.heap.size+1]?=some (.cells #[.string q0,.string q1,.string q2,.string q3,.string q4,.int .i64 s2,.int .i64 h2] 148 (0,0)):=by
  rw[<-bC];have:=heap_alloc_new (w.alloc (.cells #[.string p0,.string p1,.string p2,.string p3,.string p4,.int .i64 s1,.int .i64 h1] 148)) (.cells #[.string q0,.string q1,.string q2,.string q3,.string q4,.int .i64 s2,.int .i64 h2] 148);rw[World.size_alloc] at this;exact this
 clear bC;have dr:=zC k0
 have HA:=zC (λ (W:W8) (hW:Below w0.heap.size w0 W)=>(show W.cell? ⟨w.heap.size,0,none⟩=some (.string p0)/\W.cell? ⟨w.heap.size,1,none⟩=some (.string p1)/\W.cell? ⟨w.heap.size,2,none⟩=some (.string p2)/\W.cell? ⟨w.heap.size,3,none⟩=some (.string p3)/\W.cell? ⟨w.heap.size,4,none⟩=some (.string p4)/\W.cell? ⟨w.heap.size,5,none⟩=some (.int .i64 s1)/\W.cell? ⟨w.heap.size,6,none⟩=some (.int .i64 h1)/\W.cell? ⟨w.heap.size+1,0,none⟩=some (.string q0)/\W.cell? ⟨w.heap.size+1,1,none⟩=some (.string q1)/\W.cell? ⟨w.heap.size+1,2,none⟩=some (.string q2)/\W.cell? ⟨w.heap.size+1,3,none⟩=some (.string q3)/\W.cell? ⟨w.heap.size+1,4,none⟩=some (.string q4)/\W.cell? ⟨w.heap.size+1,5,none⟩=some (.int .i64 s2)/\W.cell? ⟨w.heap.size+1,6,none⟩=some (.int .i64 h2) from by
  have y0:=(hW.block _ (Array.getElem?_eq_some_iff.1 x0).1).trans x0;have y1:=(hW.block _ (Array.getElem?_eq_some_iff.1 x1).1).trans x1
  exact⟨(zB y0 0).1,(zB y0 1).1,(zB y0 2).1,(zB y0 3).1,(zB y0 4).1,(zB y0 5).1,(zB y0 6).1,(zB y1 0).1,(zB y1 1).1,(zB y1 2).1,(zB y1 3).1,(zB y1 4).1,(zB y1 5).1,(zB y1 6).1⟩))
 clear x0 x1 k0;have J0:Below w0.heap.size w0 w0.drew:=B9.drew
 go_region_held3 (λ W=>W.cell? ⟨w.heap.size,0,none⟩=some (.string p0)/\W.cell? ⟨w.heap.size,1,none⟩=some (.string p1)/\W.cell? ⟨w.heap.size,2,none⟩=some (.string p2)/\W.cell? ⟨w.heap.size,3,none⟩=some (.string p3)/\W.cell? ⟨w.heap.size,4,none⟩=some (.string p4)/\W.cell? ⟨w.heap.size,5,none⟩=some (.int .i64 s1)/\W.cell? ⟨w.heap.size,6,none⟩=some (.int .i64 h1)/\W.cell? ⟨w.heap.size+1,0,none⟩=some (.string q0)/\W.cell? ⟨w.heap.size+1,1,none⟩=some (.string q1)/\W.cell? ⟨w.heap.size+1,2,none⟩=some (.string q2)/\W.cell? ⟨w.heap.size+1,3,none⟩=some (.string q3)/\W.cell? ⟨w.heap.size+1,4,none⟩=some (.string q4)/\W.cell? ⟨w.heap.size+1,5,none⟩=some (.int .i64 s2)/\W.cell? ⟨w.heap.size+1,6,none⟩=some (.int .i64 h2)) ((refine zA HA _ ?_;first | exact J0 | exact dN | exact lY | exact lY.alloc lY.size _)) ((first
  | (go_at_call 161;refine (zA C1 _ _ _).mono ?_;rintro en wx ⟨rfl,vs⟩;subst vs)
  | (go_at_call 63;refine (zA T1 _ _ _ _ _ _ (by assumption) _).mono ?_;rintro en wT ⟨rfl,PF⟩;first | (have lY:Below w0.heap.size w0 wT:=dN.trans (PF.mono dN.size)) | (have dN:Below w0.heap.size w0 wT:=yA PF);clear PF)
  | (go_at_call 162;refine (zA C3 _).mono ?_;rintro en wx ⟨rfl,vs⟩;subst vs)
  | (go_at_call 160;refine (zA O3 _ _ _ _).mono ?_;rintro en wx ⟨rfl,vs⟩;subst vs)))
 all_goals
  go_wp2_with fail;go_ret;exact⟨rfl,(zA dr).trans ((lY.alloc lY.size _).mono (zA dr).size)⟩
def NQ (p q:Pl):Int:=orC (znz p.s q.s) (znz p.h q.h) (ztx (xK p.t) (xK q.t))
theorem zx0 (w:W8)(p q:Pl)(hp:zdu p.t)(hq:zdu q.t)(lp:(zau p.t.1 (xB p.t)).length<=1000000000)(lq:(zau q.t.1 (xB q.t)).length<=1000000000):
  Calls Tryz.prog 106 #[plV p,plV q] w λ e w'=>e=.returned (.int .i64 (NQ p q))/\Below w.heap.size w w':=
 z6u (λ x0 x1 x2 x3 x4 t=>∃ y:Th,zdu y/\(zau y.1 (xB y)).length<=1000000000/\y.p=x0/\xW y.ts 0=x1/\xW y.ts 1=x2/\xW y.ts 2=x3/\xW y.ts 3=x4/\xK y=t) w _ _ _ _ _ _ _ _ _ _ _ _ p.s p.h q.s q.h ⟨p.t,hp,lp,rfl,rfl,rfl,rfl,rfl,rfl⟩ ⟨q.t,hq,lq,rfl,rfl,rfl,rfl,rfl,rfl⟩ (λ x0 x1 x2 x3 x4 t ⟨y,h1,h2,e0,e1,e2,e3,e4,e5⟩ W=>by subst e0 e1 e2 e3 e4 e5;exact zzx W y h1 h2)
theorem znm {w w':W8}(h:Below w.heap.size w w')(hd:w.drawn<=w'.drawn):∃ q os,w'=Sort.grow (w.drewN q) os:=by
 refine⟨w'.drawn-w.drawn,w'.heap.extract w.heap.size w'.heap.size,?_⟩;obtain⟨h1,h2,h3,h4,h5⟩:=h
 cases w' with
 | mk heap tape drawn os output=>
  simp only at h1 h2 h3 h4 h5 hd;subst h1 h2 h3;unfold Sort.grow World.drewN;simp only
  congr 1
  ·apply Array.ext_getElem?;intro i;rw[Array.getElem?_append]
   split
   ·rename_i hi;exact h5 i hi
   ·rename_i hi;rw[Array.getElem?_extract]
    split
    ·congr 1;omega
    ·rw[Array.getElem?_eq_none (by omega)]
  ·omega
end
section
open Go.RowKit Go.Maps Go.Sort
theorem zrj {α:Type}[Inhabited α](enc:α->V8)(hk:∀ x,(enc x).length=7):∀ (xs:List α) (t:Nat),t<xs.length*7->(xs.flatMap enc)[t]?=some ((enc (xs.toArray[t/7]!))[t%7]!)
 | [],t,h=>by simp at h
 | x::r,t,h=>by
  rw[List.flatMap_cons]
  by_cases h3:t<7
  ·rw[List.getElem?_append_left (by rw[hk];exact h3),Nat.div_eq_of_lt h3,Nat.mod_eq_of_lt h3];have:t<(enc x).length:=by rw[hk];exact h3
   simp[this]
  ·have ih:=zrj enc hk r (t-7) (by simp at h;omega);rw[List.getElem?_append_right (by rw[hk];omega),hk,ih];have e1:t/7=(t-7)/7+1:=(by omega);have e2:t%7=(t-7)%7:=(by omega);have hl:(t-7)/7<r.length:=(by simp at h;omega);rw[e1,e2];simp[hl]
theorem zpf {α:Type}[Inhabited α](enc:α->V8)(hk:∀ x,(enc x).length=7)(xs:List α):Sort.flatK enc 7 xs.toArray=(xs.flatMap enc).toArray:=by
 have hl:∀ l:List α,(l.flatMap enc).length=l.length*7:=by
  intro l;induction l with
  | nil=>rfl
  | cons x r ih=>rw[List.flatMap_cons,List.length_append,ih,hk,List.length_cons];omega
 refine Array.ext (by simp[hl]) λ t h1 h2=>?_
 have ht:t<xs.length*7:=by simpa using h1
 have h3:=zrj enc hk xs t ht;have h4:=Sort.get_flatK enc 7 xs.toArray t (by simpa using ht);rw[getElem!_pos _ t h1] at h4;rw[h4];have h5:(xs.flatMap enc)[t]?=some (xs.flatMap enc).toArray[t]:=by simp
 rw[h3] at h5;exact Option.some.inj h5
section
variable {w:W8} {g n:Nat} {os:Array Obj} {cur:Array Value} {e:TypeId} {α:Type} [Inhabited α]
variable {enc:α->V8}
theorem zlz (hk:∀ x,(enc x).length=7){xs:List α}(hb:w.heap[g]?=some (.cells cur e (0,0)))(ht:cur.toList.take (xs.length*7)=xs.flatMap enc):Sort.HoldsK enc 7 w g 0 xs.toArray:=by
 unfold Sort.HoldsK;rw[zpf enc hk];intro j hj;have vg:j<(xs.flatMap enc).length:=by simpa using hj
 refine⟨?_,by simp[World.frozen?,hb]⟩;have hl:(xs.flatMap enc).length<=xs.length*7:=by rw[<-ht];simp;omega
 have h1:(cur.toList.take (xs.length*7))[j]?=(xs.flatMap enc)[j]?:=by rw[ht]
 rw[List.getElem?_take_of_lt (by omega)] at h1;simp only[World.cell?,hb,Nat.zero_add];simp only[Option.isSome_none,Bool.false_eq_true,if_false];rw[<-Array.getElem?_toList,h1,List.getElem?_eq_getElem vg];rw[getElem!_pos _ j hj];rfl
theorem zrk (d:Array Value)(hb:w.heap[g]?=some (.cells cur e (0,0))):
  (Sort.grow (Sort.putRow id (Sort.ahead w n) g 0 d) os).heap[g]?=some (.cells (Sort.putCells id 0 d cur) e (0,0)):=by
 have hg:g<w.heap.size:=(Array.getElem?_eq_some_iff.1 hb).1;rw[Sort.heap_grow_old _ _ (by simpa using hg)];simp[Sort.putRow,Sort.mapBlock,Sort.ahead,Array.getElem?_modify,hb,Sort.onCells]
theorem zly (d:Array Value):w.grownBy (Sort.grow (Sort.putRow id (Sort.ahead w n) g 0 d) os) (some g):=by
 refine⟨rfl,rfl,rfl,by simp,λ k hk bF=>?_⟩;rw[Sort.heap_grow_old _ _ (by simpa using hk)];have:g≠k:=λ e=>bF (by rw[e])
 simp[Sort.putRow,Sort.mapBlock,Sort.ahead,Array.getElem?_modify,this]
theorem znr (ts:V8)(h:ts.length<=cur.size):(Sort.putCells id 0 ts.toArray cur).toList.take ts.length=ts:=by
 apply List.ext_getElem?;intro j
 by_cases hj:j<ts.length
 ·rw[List.getElem?_take_of_lt hj,Array.getElem?_toList];simp[Sort.putCells,hj,show j<cur.size by omega]
 ·rw[List.getElem?_take_eq_none (by omega),List.getElem?_eq_none (by omega)]
theorem zme {base cap m:Nat}(hk:∀ x,(enc x).length=7){ys:List α}(hl:ys.length=m)(uv:base<=g)(hb:w.heap[g]?=some (.cells cur e (0,0)))
  (h1:m<=cap) (h2:cap<=maxLen) (h3:cur.size=cap*7):
  (sortWorldK enc 7 w g 0 n ys.toArray os).ownsRow base e 7 (.slice (some ⟨g,0,none⟩) m cap) ys.length (ys.flatMap enc):=by
 have ko:(ys.flatMap enc).length=ys.length*7:=by have:=congrArg Array.size (zpf enc hk ys);simpa using this.symm
 unfold sortWorldK Sort.putRowK;rw[zpf enc hk];exact⟨ko,.inr ⟨g,cap,_,by rw[hl],uv,zrk _ hb,by omega,h2,by simp[Sort.putCells,h3],by rw[<-ko];exact znr _ (by rw[ko,h3];omega)⟩⟩
end
def vU (p q:Pl):Bool:=decide (p.s<q.s)||(decide (p.s=q.s)&&(decide (p.h<q.h)||(decide (p.h=q.h)&&zaf (xK p.t) (xK q.t))))
variable {p q:Pl}
theorem zbn:vU p q=true↔p.s<q.s\/(p.s=q.s/\(p.h<q.h\/(p.h=q.h/\zaf (xK p.t) (xK q.t)=true))):=by unfold vU;simp
theorem z7g (p q:Pl):decide (NQ p q<0)=vU p q:=by
 rw[Bool.eq_iff_iff,decide_eq_true_eq,zbn];unfold NQ orC znz;have hb:ztx (xK p.t) (xK q.t)<0↔zaf (xK p.t) (xK q.t)=true:=by
  have:=zcs (xK p.t) (xK q.t);unfold ltOf at this;rw[<-this];simp
 by_cases h1:p.s<q.s
 ·simp[h1]
 ·by_cases h2:q.s<p.s
  ·simp only[if_neg h1,if_pos h2];simp;omega
  ·have e:p.s=q.s:=(by omega);simp only[if_neg h1,if_neg h2]
   by_cases h3:p.h<q.h
   ·simp[h3,e]
   ·by_cases h4:q.h<p.h
    ·simp only[if_neg h3,if_pos h4];simp;omega
    ·have e2:p.h=q.h:=(by omega);simp only[if_neg h3,if_neg h4];simp[e,e2,hb]
theorem RM (p:Pl):vU p p=false:=by
 rw[<-Bool.not_eq_true,zbn];rintro (h | ⟨_,h | ⟨_,h⟩⟩)
 ·omega
 ·omega
 ·rw[zfi] at h;cases h
variable {r:Pl}
theorem NR (h:vU p q=true)(k:vU q r=true):vU p r=true:=by
 rw[zbn] at h k ⊢;rcases h with h | ⟨h,h' | ⟨h',Xj⟩⟩ <;> rcases k with k | ⟨k,k' | ⟨k',YZ⟩⟩
 ·exact .inl (by omega)
 ·exact .inl (by omega)
 ·exact .inl (by omega)
 ·exact .inl (by omega)
 ·exact .inr ⟨by omega,.inl (by omega)⟩
 ·exact .inr ⟨by omega,.inl (by omega)⟩
 ·exact .inl (by omega)
 ·exact .inr ⟨by omega,.inl (by omega)⟩
 ·exact .inr ⟨by omega,.inr ⟨by omega,NS Xj YZ⟩⟩
theorem zi6 (h:vU p q=false)(k:vU q p=false):p.s=q.s/\p.h=q.h/\xK p.t=xK q.t:=by
 rw[<-Bool.not_eq_true,zbn] at h k;have e1:p.s=q.s:=by
  rcases Nat.lt_trichotomy p.s q.s with h1 | h1 | h1
  ·exact absurd (.inl h1) h
  ·exact h1
  ·exact absurd (.inl h1) k
 have e2:p.h=q.h:=by
  rcases Nat.lt_trichotomy p.h q.h with h1 | h1 | h1
  ·exact absurd (.inr ⟨e1,.inl h1⟩) h
  ·exact h1
  ·exact absurd (.inr ⟨e1.symm,.inl h1⟩) k
 refine⟨e1,e2,Vw ?_ ?_⟩
 ·cases hq:zaf (xK p.t) (xK q.t) with
  | false=>rfl
  | true=>exact absurd (.inr ⟨e1,.inr ⟨e2,hq⟩⟩) h
 ·cases hq:zaf (xK q.t) (xK p.t) with
  | false=>rfl
  | true=>exact absurd (.inr ⟨e1.symm,.inr ⟨e2.symm,hq⟩⟩) k
theorem Vq (h:vU p q=false)(k:vU q r=false):vU p r=false:=by
 cases hq:vU p r with
 | false=>rfl
 | true=>
  cases h2:vU r q with
  | true=>rw[NR hq h2] at h;cases h
  | false=>
   obtain⟨e1,e2,e3⟩:=zi6 k h2;rw[zbn,<-e1,<-e2,<-e3,<-zbn] at hq;rw[hq] at h;cases h
theorem z9p (L:List Pl):(List.finRange L.length).map (λ i=>L[i])=L:=by
 apply List.ext_getElem
 ·simp
 ·intro i h1 h2;simp
theorem zzq (wr:W8)(base:Nat)(al:O8)(cl:Nat)(L:List Pl)(h:wr.ownsRow base 148 7 (.slice al L.length cl) L.length (L.flatMap ez))(hl:L.length<=1000000)(bR:∀ p∈L,zdu p.t/\(zau p.t.1 (xB p.t)).length<=1000000000)(mT:(L.map λ p=>xK p.t).Nodup):
  Calls Tryz.prog 105 #[.slice al L.length cl,.func (.func 106) #[] #[]] wr λ e w'=>e=.returned (.tuple #[])/\∃ O:List Pl,O.Perm L/\(O.Pairwise λ p q=>vU p q=true)/\w'.ownsRow base 148 7 (.slice al L.length cl) O.length (O.flatMap ez)/\wr.grownBy w' (Value.slice al L.length cl).ownBlock:=by
 rcases h.2 with⟨hv,h0⟩ | ⟨g,cap,cur,hv,hb,hg,bO,bQ,ij,ht⟩
 ·have hx:L=[]:=List.length_eq_zero_iff.1 h0;subst hx;injection hv with h1 h2 h3
  subst h1 h3;refine Calls.mono (AnyF.slices_SortFunc_none Tryz.sortPl none 0 _ wr) ?_;rintro e w' ⟨rfl,rfl⟩;exact⟨rfl,[],.refl _,by simp,World.ownsRow_nil _ _ _ _,⟨rfl,rfl,rfl,Nat.le_refl _,λ _ _ _=>rfl⟩⟩
 ·injection hv with h1 h2 h3
  subst h1 h3;have aH:g<wr.heap.size:=(Array.getElem?_eq_some_iff.1 hg).1
  by_cases aJ:L.length=0
  ·have hx:L=[]:=List.length_eq_zero_iff.1 aJ;subst hx;refine Calls.mono (AnyF.slices_SortFunc_none Tryz.sortPl _ cl _ wr) ?_;rintro e w' ⟨rfl,rfl⟩;exact⟨rfl,[],.refl _,by simp,h,⟨rfl,rfl,rfl,Nat.le_refl _,λ _ _ _=>rfl⟩⟩
  have dV:0<L.length:=by omega
  haveI:Inhabited (Fin L.length):=⟨⟨0,dV⟩⟩
  have eg:∀ args w,(callFunc 106 args).run Tryz.prog w=.ok (.enter 106 args) w:=enters_of Tryz.func106 (by kernel_rfl) rfl;obtain⟨enc,zy⟩:∃ enc:Fin L.length->V8,enc=λ i=>ez L[i]:=⟨_,rfl⟩
  obtain⟨cf,TG⟩:∃ cf:Fin L.length->Fin L.length->Int,cf=λ i j=>NQ L[i] L[j]:=⟨_,rfl⟩
  have gn:∀ i j,ltOf cf i j=vU L[i] L[j]:=λ i j=>by rw[<-z7g,TG];rfl
  have hk:∀ x,(enc x).length=7:=λ x=>by rw[zy];rfl
  have h1:∀ x,∀ v∈enc x,v.oneCell'=true:=λ x=>by rw[zy];exact zsh _
  have hO:SWO (ltOf cf):=⟨λ x=>by rw[gn];exact RM _,λ x y z a b=>by rw[gn] at *;exact NR a b,λ x y z a b=>by rw[gn] at *;exact Vq a b⟩;have hT:∀ x y,ltOf cf x y=false->ltOf cf y x=false->x=y:=λ x y a b=>by
   rw[gn] at a b;obtain⟨_,_,e⟩:=zi6 a b;rw[List.nodup_iff_pairwise_ne,List.pairwise_iff_getElem] at mT;rcases Nat.lt_trichotomy x.1 y.1 with c | c | c
   ·exact absurd (by simpa using e) (mT x.1 y.1 (by simp) (by simp) c)
   ·exact Fin.ext c
   ·exact absurd (by simpa using e.symm) (mT y.1 x.1 (by simp) (by simp) c)
  have ko:(List.finRange L.length).flatMap enc=L.flatMap ez:=by
   have:=congrArg (λ l=>List.flatMap ez l) (z9p L);simp only[List.flatMap_map] at this;rw[zy];exact this
  have TR:(List.finRange L.length).length=L.length:=by simp
  have PN:CmpLays Tryz.prog 106 #[] enc 7 cf g 0 (List.finRange L.length).toArray.size wr:=λ m os dk Ij x y=>by
   have hx:=bR L[x] (List.getElem_mem _);have hy:=bR L[y] (List.getElem_mem _);have hc:=ztw (zx0 (sortWorldK enc 7 wr g 0 m dk os) L[x] L[y] hx.1 hy.1 hx.2 hy.2);rw[zy,TG] at *;refine Calls.mono hc ?_;rintro e w' ⟨⟨rfl,dK⟩,hd⟩;exact⟨rfl,znm dK (hd _ rfl)⟩
  have Kx:=AnyQ.slices_SortFunc_total Tryz.sortPl 7 Tryz.isAgg148 Tryz.sizeOf148 enc hk h1 cf hO 106 #[] g 0 cl (List.finRange L.length).toArray wr eg PN (zlz hk hg (by rw[TR,ko];exact ht)) aH (by simp;omega) hT;have bj:(List.finRange L.length).toArray.size=L.length:=by simp
  rw[bj] at Kx;refine Calls.mono Kx ?_;rintro e w' ⟨rfl,n,os,rfl⟩;obtain⟨M,hM⟩:∃ M,M=(List.finRange L.length).mergeSort λ x y=>!(ltOf cf) y x:=⟨_,rfl⟩
  have Xs:((List.finRange L.length).toArray.toList.mergeSort λ x y=>!(ltOf cf) y x)=M:=by rw[hM]
  have bV:M.Perm (List.finRange L.length):=by rw[hM];exact List.mergeSort_perm _ _
  have bh:M.length=L.length:=by rw[bV.length_eq,TR]
  have Eg:M.flatMap enc=(M.map λ i=>L[i]).flatMap ez:=by rw[List.flatMap_map,zy]
  refine⟨rfl,M.map (λ i=>L[i]),?_,?_,?_,zly _⟩
  ·have:=bV.map (λ i=>L[i]);rw[z9p] at this;exact this
  ·have hs:M.Pairwise λ x y=>(!(ltOf cf) y x)=true:=by
    rw[hM];refine List.pairwise_mergeSort (λ a b c x y=>?_) (λ a b=>?_) _
    ·simp only[gn,Bool.not_eq_true'] at *;exact Vq y x
    ·simp only[gn]
     cases q1:vU L[a] L[b] with
     | false=>simp
     | true=>
      cases q2:vU L[b] L[a] with
      | false=>simp
      | true=>have:=NR q1 q2;rw[RM] at this;cases this
   have hn:M.Nodup:=bV.nodup_iff.2 (by
    rw[List.nodup_iff_pairwise_ne,List.pairwise_iff_getElem];intro i j hi hj hij e;have:=congrArg Fin.val e;simp at this
    omega)
   rw[List.pairwise_map];refine (hs.and hn).imp λ {x y} EL=>?_
   obtain⟨q1,q2⟩:=EL;simp only[Bool.not_eq_true'] at q1
   cases q3:vU L[x] L[y] with
   | true=>rfl
   | false=>exact absurd (hT x y (by rw[gn];exact q3) q1) q2
  ·rw[Xs,<-Eg,List.length_map];exact zme hk bh hb hg bO bQ ij
end
end Go.Proofs.YtldkpahaocjdpaaGreat
