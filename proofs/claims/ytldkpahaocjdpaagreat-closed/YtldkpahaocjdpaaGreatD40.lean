/-
  under: the numbers of the things that a thing's height can come from.
-/
import Derived.Test.YtldkpahaocjdpaaGreatD39
import Derived.Test.YtldkpahaocjdpaaGreatD35
set_option maxHeartbeats 16000000
set_option maxRecDepth 1000000
namespace Go.Proofs.YtldkpahaocjdpaaGreat
section
open Go.RowKit Go.Maps
def zct (p:Pl):List Pl->Nat->List (Th × Nat)
 | [],_=>[]
 | q::r,i=>if zbi q p then (q.t,i)::zct p r (i+1) else zct p r (i+1)
theorem zlm (p q:Pl):∀ (l:List Pl) (i:Nat),zct p (l++[q]) i=zct p l i++(if zbi q p then [(q.t,i+l.length)] else [])
 | [],i=>by simp[zct]
 | x::l,i=>by
  rw[List.cons_append,zct,zct,zlm p q l (i+1),List.length_cons,show i+1+l.length=i+(l.length+1) by omega]
  split <;> simp
theorem zkb {p:Pl}{t:Th}{n:Nat}:∀ (l:List Pl) (i:Nat),(t,n)∈zct p l i->∃ q∈l,q.t=t
 | [],_,h=>by simp[zct] at h
 | x::l,i,h=>by
  rw[zct] at h
  split at h
  ·rcases List.mem_cons.1 h with h | h
   ·injection h with h1 h2;exact⟨x,List.mem_cons_self,h1.symm⟩
   ·obtain⟨q,hq,e⟩:=zkb l (i+1) h;exact⟨q,List.mem_cons_of_mem _ hq,e⟩
  ·obtain⟨q,hq,e⟩:=zkb l (i+1) h;exact⟨q,List.mem_cons_of_mem _ hq,e⟩
theorem zwd (p:Pl):∀ (l:List Pl) (i:Nat),(zct p l i).length<=l.length
 | [],_=>by simp[zct]
 | x::l,i=>by
  have:=zwd p l (i+1);rw[zct]
  split <;> simp <;> omega
theorem z7h {L:List (Th × Nat)}{t:Th}{n:Nat}(h:z7 L t=none):zia L t n=L++[(t,n)]:=by
 unfold zia;rw[h];rfl
structure ydv (w:W8)(p:Pl)(O:List Pl)(nb k:Nat)(wr:W8):Prop where
 m:jA wr nb (zct p (O.take k) 0)
 b:wr.heap[w.heap.size]?=some (.cells (aB p).toArray 148 (0,0))
 k:Below w.heap.size w wr
def z9z (w:W8)(p:Pl)(O:List Pl)(e:Ending)(w':W8):Prop:=
 ∃ nb,e=.returned (.map (some nb))/\w.heap.size<=nb/\jA w' nb (zct p O 0)/\Below w.heap.size w w'
theorem ybt (w:W8)(base:Nat)(a:O8)(c:Nat)(O:List Pl)(p:Pl)(h:w.ownsRow base 148 7 (.slice a O.length c) O.length (O.flatMap aB))(bX:∀ q∈O,zbj q.t)(dB:(O.map (·.t)).Nodup)(hl:O.length<=1000):
  Calls Tryz.prog 108 #[.slice a O.length c,plV p] w (z9z w p O):=by
 have H:=zC h;have iS:=zC bX;have ju:=zC dB;clear h bX dB;have bD:=@run_makeMap Tryz.prog;have MB:=zC (show plV p=.agg (aB p).toArray from rfl);unfold plV;unfold aB;go_enter Tryz.func108,Tryz.ntmps108;go_wp2_with fail;generalize hw0:World.alloc (World.alloc w _) _=w0;have k0:Below w.heap.size w w0:=by
  rw[<-hw0];exact ((Below.refl w.heap.size w).alloc L9 _).alloc (by simp) _
 have x0:w0.heap[w.heap.size]?=some (.cells (aB p).toArray 148 (0,0)):=by
  rw[<-hw0,Below.heap_alloc _ _ _ (by simp)];exact heap_alloc_new w _
 have m0:jA w0 (w.heap.size+1) []:=by
  rw[<-hw0];have:=jA.made (w.alloc (.cells (aB p).toArray 148));rw[World.size_alloc] at this;exact this
 have H0:=zC (show ydv w p O (w.heap.size+1) 0 w0 from ⟨m0,x0,k0⟩);clear hw0 k0 x0 m0 bD
 go_loopg [11] O.length (λ gg i wr=>∃ k:Nat,k<=O.length/\gg=O.length-k/\i=.int .i64 k/\ydv w p O (w.heap.size+1) k wr)
 exact⟨0,Nat.zero_le _,rfl,rfl,zA H0⟩
 case round=>
  clear H0;obtain⟨k,hk,fM,rfl,ak⟩:=hrel
  by_cases aN:k<O.length
  ·obtain⟨q,hq⟩:∃ q,q=O[k]:=⟨_,rfl⟩;have bC:q∈O:=(by rw[hq];exact List.getElem_mem aN);obtain⟨g,cap,hv,iC,dp,dG,dx,hc⟩:=vL zwk (zA H) k aN;injection hv with h1 h2 h3
   subst h1 h3;have ei:=ak.k;have d0:wr.cell? ⟨g,k*7,none⟩=some (.string q.t.p):=(by rw[hq];exact (ei.cell (p:=⟨g,k*7,none⟩) dp).trans (hc 0 (by omega)));have d1:wr.cell? ⟨g,k*7+1,none⟩=some (.string (xF q.t.ts 0)):=(by rw[hq];exact (ei.cell (p:=⟨g,k*7+1,none⟩) dp).trans (hc 1 (by omega)));have d2:wr.cell? ⟨g,k*7+2,none⟩=some (.string (xF q.t.ts 1)):=(by rw[hq];exact (ei.cell (p:=⟨g,k*7+2,none⟩) dp).trans (hc 2 (by omega)));have d3:wr.cell? ⟨g,k*7+3,none⟩=some (.string (xF q.t.ts 2)):=(by rw[hq];exact (ei.cell (p:=⟨g,k*7+3,none⟩) dp).trans (hc 3 (by omega)));have d4:wr.cell? ⟨g,k*7+4,none⟩=some (.string (xF q.t.ts 3)):=(by rw[hq];exact (ei.cell (p:=⟨g,k*7+4,none⟩) dp).trans (hc 4 (by omega)));have d5:wr.cell? ⟨g,k*7+5,none⟩=some (.int .i64 q.s):=(by rw[hq];exact (ei.cell (p:=⟨g,k*7+5,none⟩) dp).trans (hc 5 (by omega)));have d6:wr.cell? ⟨g,k*7+6,none⟩=some (.int .i64 q.h):=(by rw[hq];exact (ei.cell (p:=⟨g,k*7+6,none⟩) dp).trans (hc 6 (by omega)));have lK:w.heap.size+1<wr.heap.size:=ak.m.lt;have xb:=(Below.heap_alloc wr (.cells #[.string q.t.p,.string (xF q.t.ts 0),.string (xF q.t.ts 1),.string (xF q.t.ts 2),.string (xF q.t.ts 3),.int .i64 q.s,.int .i64 q.h] 148) _ (by omega:w.heap.size<wr.heap.size)).trans ak.b;have b0:=(zB xb 0).1;have b1:=(zB xb 1).1;have b2:=(zB xb 2).1;have b3:=(zB xb 3).1;have b4:=(zB xb 4).1;have b5:=(zB xb 5).1;have b6:=(zB xb 6).1;simp only[aB,List.getElem?_toArray,List.getElem?_cons_zero,List.getElem?_cons_succ] at b0 b1 b2 b3 b4 b5 b6;have HU:=zC (λ W=>z4h W q p);have bt:=zC ak;have hT:=zA iS q bC;have fU:=zC (show O.take (k+1)=O.take k++[q] by rw[List.take_succ_eq_append_getElem aN,hq]);have hlen:(zct p (O.take k) 0).length<maxLen:=by
    have:=zwd p (O.take k) 0;rw[List.length_take] at this;unfold maxLen;omega
   have cP:z7 (zct p (O.take k) 0) q.t=none:=by
    cases fN:z7 (zct p (O.take k) 0) q.t with
    | none=>rfl
    | some m=>
     obtain⟨y,hy,e⟩:=zkb _ _ (vP fN);have hn:=zA ju;rw[<-List.take_append_drop k O,List.map_append,List.nodup_append] at hn;refine absurd e (hn.2.2 y.t (List.mem_map_of_mem hy) q.t (List.mem_map_of_mem ?_));rw[List.drop_eq_getElem_cons aN,<-hq];exact List.mem_cons_self
   have mX:=zC cP;have gW:(k:Int)<O.length:=(by omega);clear hc ak ei hq bC xb cP h2
   have ky:=zC (λ (w2:W8) (aU:Below (wr.heap.size+1) (wr.alloc (.cells #[.string q.t.p,.string (xF q.t.ts 0),.string (xF q.t.ts 1),.string (xF q.t.ts 2),.string (xF q.t.ts 3),.int .i64 q.s,.int .i64 q.h] 148)) w2)=>(show ydv w p O (w.heap.size+1) k w2/\w2.heap[wr.heap.size]?=some (.cells #[.string q.t.p,.string (xF q.t.ts 0),.string (xF q.t.ts 1),.string (xF q.t.ts 2),.string (xF q.t.ts 3),.int .i64 q.s,.int .i64 q.h] 148 (0,0)) from by
    have ak:=zA bt;have kk:Below wr.heap.size wr w2:=((Below.refl wr.heap.size wr).alloc L9 _).trans (aU.mono (by omega))
    exact⟨⟨ak.m.block (kk.block _ ak.m.lt),(kk.block _ (by omega)).trans ak.b,ak.k.trans (kk.mono ak.k.size)⟩,(aU.block _ (by omega)).trans (heap_alloc_new wr _)⟩))
   cases hu:zbi q p with
   | true=>
    rw[hu] at HU;have BK:=zC hu;clear hu
    go_wp2_with (first
     | (go_at_call 163;refine (zA HU _).mono ?_;rintro en w2 ⟨rfl,aU⟩;obtain⟨i2,y2⟩:=zA ky w2 (by simpa using aU);have eG:=i2.m;have e0:=(zB y2 0).1;have e1:=(zB y2 1).1;have e2:=(zB y2 2).1;have e3:=(zB y2 3).1;have e4:=(zB y2 4).1;simp only[List.getElem?_toArray,List.getElem?_cons_zero,List.getElem?_cons_succ] at e0 e1 e2 e3 e4;have fG:=zC i2;clear i2 y2 aU)
     | (at_mapUpdate;refine zu1 _ rfl _ _ _ 82 rfl Tryz.underlying82 (w.heap.size+1) (zct p (O.take k) 0) rfl eG hlen q.t k rfl rfl hT ?_;intro w3 ey ki;have mW:=zC ey;have tO:=zC ki;clear ey ki))
    go_roundg (O.length-(k+1))
    case measure=>omega
    case rel=>
     have i2:=zA fG;have g3:=(zA tO).grown;refine⟨k+1,by omega,rfl,by go_num,?_,?_,?_⟩
     ·have h3:=zA mW;rw[z7h (zA mX)] at h3;rw[zA fU,zlm,zA BK,if_pos rfl,List.length_take,Nat.zero_add,Nat.min_eq_left (by omega)];exact h3
     ·exact (g3.block _ (Array.getElem?_eq_some_iff.1 i2.b).1 (by simp)).trans i2.b
     ·exact⟨g3.os.trans i2.k.os,g3.tape.trans i2.k.tape,g3.output.trans i2.k.output,Nat.le_trans i2.k.size g3.size,λ j hj=>(g3.block j (by have:=i2.k.size;omega) (by simp;omega)).trans (i2.k.block j hj)⟩
   | false=>
    rw[hu] at HU;have BK:=zC hu;clear hu;go_wp2_with (go_at_call 163;refine (zA HU _).mono ?_;rintro en w2 ⟨rfl,aU⟩;obtain⟨i2,y2⟩:=zA ky w2 (by simpa using aU);have fG:=zC i2;clear i2 y2 aU);go_roundg (O.length-(k+1))
    case measure=>omega
    case rel=>
     have i2:=zA fG;refine⟨k+1,by omega,rfl,by go_num,?_,i2.b,i2.k⟩;rw[zA fU,zlm,zA BK];simpa using i2.m
  ·have he:k=O.length:=(by omega);subst he;have bt:=zC ak;clear ak;go_wp2_with fail;go_ret;have ak:=zA bt;have:=ak.m;rw[List.take_length] at this;exact⟨_,rfl,by omega,this,ak.k⟩
end
section
open Go.RowKit Go.Maps
theorem zhx {K:List (Th × Nat)}{Vs:List B8}:∀ (pos:List yY) (e x:zX),xN Vs e->(∀ a∈pos,∀ t∈a.ts,t.1=true->t.2∈Vs)->x∈zQ K pos e->xN Vs x
 | [],e,x,h,_,hx=>by
  rw[zQ] at hx;rw[List.mem_singleton.1 hx];exact h
 | a::r,e,x,h,hv,hx=>by
  rw[zQ] at hx;obtain⟨p,hp,hx⟩:=List.mem_flatMap.1 hx
  cases hm:zV e a p.1 with
  | none=>rw[hm] at hx;cases hx
  | some e1=>
   rw[hm] at hx;exact zhx r e1 x (h.matched (hv a List.mem_cons_self) hm) (λ y hy=>hv y (List.mem_cons_of_mem _ hy)) hx
variable {N:List (Th × Nat)} {nb:Nat} {w:W8}
theorem z1q {ps:P9}{base:Nat}{r:PR}{t:Th}(hr:bL w base r)(hm:jA w nb N)(hg:jZ ps r)(hN:∀ p∈N,eE ps p.1)(ht:eE ps t):zu8 w nb base r N t:=by
 have Gf:∀ s,zV [] (vJ r) t=some s->xN (zb5 r.bs) s:=λ s hs=>(xN.nil _).matched (λ u hu hv=>by
  obtain⟨a,ha,J9⟩:=hg.mP u hu hv
  exact zd2 ha J9) hs
 have oj:∀ s,zV [] (vJ r) t=some s->∀ e∈zQ N (zK r.bs) s,ew e/\∀ a∈zK r.bs,Dom e a:=λ s hs e he=>by
  have h1:=(znn hg.hd ht zo7 hs).1.w;obtain⟨g,b⟩:=zci hN (zK r.bs) s e hg.pos h1 he;exact⟨g.w,λ a ha u hu hv=>b a ha u hu hv⟩
 refine⟨hr,hm,hg.l3,λ x hx=>(hg.ls x hx).w.ft,hg.hd.w.ft,ht.ok,λ s hs e he x hx=>?_,λ s hs e he x hx=>?_,Gf,λ s hs e he=>?_⟩
 ·obtain⟨h1,h2⟩:=oj s hs e he;exact (zhl (hg.neg x hx) h1 (hg.iX h2 x hx)).ok
 ·obtain⟨h1,h2⟩:=oj s hs e he;exact (zhl (hg.pos x hx) h1 (h2 x hx)).ok
 ·have h1:=(zhx (zK r.bs) s e (Gf s hs) (λ a ha u hu _=>zd2 ha hu) he).len;have h2:=zd1 hg.l3 (λ x hx=>(hg.ls x hx).w.ft);omega
def zw6 (w:W8)(rs:List PR)(N:List (Th × Nat))(t:Th)(e:Ending)(w':W8):Prop:=
 Below w.heap.size w w'/\∃ (i:Nat) (row:List Nat) (a:O8) (c:Nat),e=.returned (.agg #[.int .i64 (i:Nat),.slice a row.length c])/\w'.ownsRow w.heap.size 3 1 (.slice a row.length c) row.length (cO row)/\(lT N rs t i row\/∀ r∈rs,zar N r t=[])
structure Mi (w:W8)(p:Pl)(nb:Nat)(N:List (Th × Nat))(wr:W8):Prop where
 pb:wr.heap[w.heap.size]?=some (.cells (aB p).toArray 148 (0,0))
 rb:wr.heap[w.heap.size+1]?=some (.cells #[.int .i64 0,.slice none 0 0] 150 (0,0))
 m:jA wr nb N
 k:Below w.heap.size w wr
theorem Mi.below {p:Pl}{wr w':W8}(h:Mi w p nb N wr)(k:Below wr.heap.size wr w'):Mi w p nb N w':=
 ⟨(k.block _ (Array.getElem?_eq_some_iff.1 h.pb).1).trans h.pb,(k.block _ (Array.getElem?_eq_some_iff.1 h.rb).1).trans h.rb,h.m.block (k.block _ h.m.lt),h.k.trans (k.mono h.k.size)⟩
theorem zyv (ps:P9)(w:W8)(base bo:Nat)(ar ao:O8)(cr co:Nat)(rs:List PR)(O:List Pl)(p:Pl)(hr:aD w base (.slice ar rs.length cr) rs)(ho:w.ownsRow bo 148 7 (.slice ao O.length co) O.length (O.flatMap aB))(hg:∀ r∈rs,jZ ps r)(hO:∀ q∈O,eE ps q.t)(ht:eE ps p.t)(dB:(O.map (·.t)).Nodup)(hl:O.length<=1000):
  Calls Tryz.prog 69 #[.slice ar rs.length cr,.slice ao O.length co,plV p] w (zw6 w rs (zct p O 0) p.t):=by
 have HR:=zC hr;have HO:=zC ho;have HG:=zC hg;have Bm:=zC hO;have HT:=zC ht;have ju:=zC dB;have Ay:=vV hr.row;unfold maxLen at Ay;clear hr ho hg hO ht dB;unfold plV aB;go_enter Tryz.func69,Tryz.ntmps69;go_upto_region 1 with fail;generalize hw0:World.alloc (World.alloc w _) _=w0;have k0:Below w.heap.size w w0:=by
  rw[<-hw0];exact ((Below.refl w.heap.size w).alloc L9 _).alloc (by simp) _
 have x0:w0.heap[w.heap.size]?=some (.cells (aB p).toArray 148 (0,0)):=by
  rw[<-hw0,Below.heap_alloc _ _ _ (by simp)];exact heap_alloc_new w _
 have x1:w0.heap[w.heap.size+1]?=some (.cells #[.int .i64 0,.slice none 0 0] 150 (0,0)):=by
  rw[<-hw0];have:=heap_alloc_new (w.alloc (.cells (aB p).toArray 148)) (.cells #[.int .i64 0,.slice none 0 0] 150);rw[World.size_alloc] at this;exact this
 clear hw0;have c0:=(zB x0 0).1;have c1:=(zB x0 1).1;have c2:=(zB x0 2).1;have c3:=(zB x0 3).1;have c4:=(zB x0 4).1;have c5:=(zB x0 5).1;have c6:=(zB x0 6).1;simp only[aB,List.getElem?_toArray,List.getElem?_cons_zero,List.getElem?_cons_succ] at c0 c1 c2 c3 c4 c5 c6;have HU:=zC (ybt w0 bo ao co O p (zG (zA HO) k0 (λ g e=>((zA HO).lt g e).2)) (λ q hq=>(zA Bm q hq).ok) (zA ju) hl);have cq:=zC k0;have mo:=zC x0;have qb:=zC x1;clear k0 x0 x1;go_wp2_with (go_at_call 108;refine (zA HU).mono ?_;rintro en w1 ⟨nb,rfl,dJ,fa,aT⟩;have My:=zC fa;have cR:=zC aT;clear fa aT);have H0:=zC (show Mi w p nb (zct p O 0) w1 from ⟨((zA cR).block _ (Array.getElem?_eq_some_iff.1 (zA mo)).1).trans (zA mo),((zA cR).block _ (Array.getElem?_eq_some_iff.1 (zA qb)).1).trans (zA qb),zA My,(zA cq).trans ((zA cR).mono (zA cq).size)⟩)
 have HN:=zC (show ∀ q∈zct p O 0,eE ps q.1 from λ q hq=>by
  obtain⟨y,hy,e⟩:=zkb O 0 hq
  rw[<-e];exact zA Bm y hy)
 generalize zct p O 0=N at *;clear c0 c1 c2 c3 c4 c5 c6 HU
 go_loopg [17] rs.length (λ gg i wr=>∃ k:Nat,k<=rs.length/\gg=rs.length-k/\i=.int .i64 k/\Mi w p nb N wr/\∀ (j:Nat) (h:j<rs.length),j<k->zar N rs[j] p.t=[])
 exact⟨0,Nat.zero_le _,rfl,rfl,zA H0,λ j _ h=>by omega⟩
 case round=>
  clear H0;obtain⟨k,hk,fM,rfl,ak,aX⟩:=hrel;have tE:=zC aX;clear aX
  by_cases aN:k<rs.length
  ·obtain⟨r,eI⟩:∃ r,r=rs[k]:=⟨_,rfl⟩;have bC:r∈rs:=(by rw[eI];exact List.getElem_mem aN);have kh:=(zA HR).each r bC;obtain⟨ah,ch,fs⟩:=zE kh.hd;obtain⟨ab,cb,fi⟩:=zE kh.bo.row;obtain⟨g,cap,hv,iC,dp,dG,dx,hc⟩:=vL zpy (zA HR).row k aN;injection hv with h1 h2 h3
   subst h1 h3;have ei:=ak.k;have e0:wr.cell? ⟨g,k*3,none⟩=some (.string r.R.pd):=(by rw[eI];exact (ei.cell (p:=⟨g,k*3,none⟩) dp).trans (hc 0 (by omega)));have e1:wr.cell? ⟨g,k*3+1,none⟩=some (.slice ah r.R.ts.length ch):=(by rw[<-fs,eI];exact (ei.cell (p:=⟨g,k*3+1,none⟩) dp).trans (hc 1 (by omega)));have e2:wr.cell? ⟨g,k*3+2,none⟩=some (.slice ab r.bs.length cb):=(by rw[<-fi,eI];exact (ei.cell (p:=⟨g,k*3+2,none⟩) dp).trans (hc 2 (by omega)));have gW:(k:Int)<rs.length:=(by omega);have di:=ak.below ((Below.refl wr.heap.size wr).alloc L9 (.cells #[.string r.R.pd,.slice ah r.R.ts.length ch,.slice ab r.bs.length cb] 123));have b0:=(zB di.pb 0).1;have b1:=(zB di.pb 1).1;have b2:=(zB di.pb 2).1;have b3:=(zB di.pb 3).1;have b4:=(zB di.pb 4).1;simp only[aB,List.getElem?_toArray,List.getElem?_cons_zero,List.getElem?_cons_succ] at b0 b1 b2 b3 b4;have HA:=zC (z1p (wr.alloc (.cells #[.string r.R.pd,.slice ah r.R.ts.length ch,.slice ab r.bs.length cb] 123)) nb base r N p.t (z1q (ps:=ps) ⟨zG kh.hd di.k (λ g e=>(kh.hd.lt g e).2),kh.bo.below di.k,kh.eq⟩ di.m (zA HG r bC) (zA HN) (zA HT)));rw[fs,fi] at HA;have Hf:=zC di;have lR:=zC eI;have lK:=(Array.getElem?_eq_some_iff.1 ak.rb).1;have Dw:(wr.alloc (.cells #[.string r.R.pd,.slice ah r.R.ts.length ch,.slice ab r.bs.length cb] 123)).heap.size=wr.heap.size+1:=(by simp);have EA:=zC Dw;clear hc ei ak di kh bC h2 eI fs fi Dw;go_wp2_with (go_at_call 109;refine (zA HA).mono ?_;rintro en w2 ⟨aU,(⟨pt,rfl⟩ | ⟨row,a2,c2,JJ,hle,rfl,aI⟩)⟩ <;> (have ep:=zC aU;have i2:=(zA Hf).below aU;have fG:=zC i2;obtain⟨r0,f0⟩:=zB i2.rb 0;obtain⟨r1,f1⟩:=zB i2.rb 1;simp only[List.getElem?_toArray,List.getElem?_cons_zero,List.getElem?_cons_succ] at r0 r1;clear aU i2))
   ·go_roundg (rs.length-(k+1))
    case measure=>omega
    case rel=>
     refine⟨k+1,by omega,rfl,by go_num,zA fG,λ j h hj=>?_⟩
     by_cases e:j=k
     ·subst e;rw[<-zA lR];exact pt
     ·exact zA tE j h (by omega)
   ·obtain⟨q0,q1⟩:=zj1 r0 r1 (.int .i64 (k:Nat)) (.slice a2 row.length c2);refine bodyPost_ret (v:=.agg #[.int .i64 (k:Nat),.slice a2 row.length c2]) (by simp[results,Tryz.results69,go_sem,q0,q1]) rfl ?_;have i2:=zA fG;have bZ:=(zA ep).size;rw[zA EA] at bZ;refine⟨yE i2.k (za8 _ (w.heap.size+1) _ _) i2.k.size (by simp),k,row,a2,c2,rfl,?_,.inl ⟨zA tE,aN,by rw[<-zA lR];exact JJ,λ x hx=>hle x (by rw[zA lR];exact hx)⟩⟩;rw[zA EA] at aI;exact zI (jL aI (za8 _ (w.heap.size+1) _ _) (λ g hg=>by have:=(aI.lt g hg).1;omega)) (by have:=i2.k.size;omega)
  ·have bt:=zC ak;obtain⟨r0,f0⟩:=zB ak.rb 0;obtain⟨r1,f1⟩:=zB ak.rb 1;simp only[List.getElem?_toArray,List.getElem?_cons_zero,List.getElem?_cons_succ] at r0 r1;clear ak;go_wp2_with fail;obtain⟨q0,q1⟩:=zj1 r0 r1 (.int .i64 0) (.slice none 0 0);refine bodyPost_ret (v:=.agg #[.int .i64 0,.slice none 0 0]) (by simp[results,Tryz.results69,go_sem,q0,q1]) rfl ?_;have ak:=zA bt;refine⟨yE ak.k (za8 _ (w.heap.size+1) _ _) ak.k.size (by simp),0,[],none,0,rfl,World.ownsRow_nil _ _ _ _,.inr λ r hr=>?_⟩;obtain⟨j,hj,rfl⟩:=List.mem_iff_getElem.1 hr;exact zA tE j hj (by omega)
end
section
open Go.RowKit Go.Maps
theorem zx8 (n:Nat)(hn:n<=1000)(u:W8):(Instr.makeSlice 91 (.int .i64 n) (.int .i64 n)).run Tryz.prog u=.ok (.slice (some ⟨u.heap.size,0,none⟩) n n) (u.alloc (.cells (madeCells #[.int .i64 0,.slice none 0 0] (n*2)) 150)):=by
 obtain⟨i0,hi,dK,cB,bZ⟩:=info_parts zpf;have h:=run_make (P:=Tryz.prog) u 91 150 i0 (.agg #[.int .i64 0,.slice none 0 0]) Tryz.underlying91 hi dK .i64 .i64 (n:Int) (n:Int) (by omega) (Int.le_refl _) (by rw[bZ];omega) (by omega);simpa[cB,Value.cells] using h
theorem yd1 (w:W8)(a0 a1 a2 a3 a4 b0 b1 b2 b3 b4:B8):(Op.equalIn 10000 88 (.agg #[.string a0,.string a1,.string a2,.string a3,.string a4]) (.agg #[.string b0,.string b1,.string b2,.string b3,.string b4])).run Tryz.prog w=.ok (a0.toList==b0.toList&&(a1.toList==b1.toList&&(a2.toList==b2.toList&&(a3.toList==b3.toList&&a4.toList==b4.toList)))) w:=by
 have hu:=Tryz.underlying9;have ha:=Tryz.isAgg9;have hz:=Tryz.sizeOf9;rw[show (10000:Nat)=9999+1 from rfl,Op.equalIn];simp only[Sem.run_bind,run_underlying Tryz.underlying88,Result.andThen_ok];simp only[Std.Legacy.Range.forIn_eq_forIn_range',Std.Legacy.Range.size,Nat.sub_zero,Nat.add_sub_cancel,Nat.div_one,List.range'_succ,List.range'_zero,List.forIn_cons,List.forIn_nil]
 go_simp
 cases h0:a0.toList==b0.toList <;> cases h1:a1.toList==b1.toList <;> cases h2:a2.toList==b2.toList <;> cases h3:a3.toList==b3.toList <;> cases h4:a4.toList==b4.toList <;> simp_all
theorem yex {a b:Th}(ha:zbj a)(hb:zbj b):(a.p.toList==b.p.toList&&((xF a.ts 0).toList==(xF b.ts 0).toList&&((xF a.ts 1).toList==(xF b.ts 1).toList&&((xF a.ts 2).toList==(xF b.ts 2).toList&&(xF a.ts 3).toList==(xF b.ts 3).toList))))=decide (a=b):=by
 rw[Bool.eq_iff_iff];simp only[Bool.and_eq_true,zU,decide_eq_true_eq]
 constructor
 ·rintro⟨h0,h1,h2,h3,h4⟩;refine z36 ha hb ?_;unfold thV zJ;rw[h0,h1,h2,h3,h4]
 ·rintro rfl;exact⟨rfl,rfl,rfl,rfl,rfl⟩
theorem zq9 (n:Nat)(a b:Value):madeCells #[a,b] (n*2)=zbw (n*2) (λ c=>if c%2=0 then a else b):=by
 apply Array.ext_getElem?;intro i
 by_cases h:i<n*2
 ·rw[zcy h];rcases Nat.mod_two_eq_zero_or_one i with e | e <;> simp[madeCells,h,e]
 ·rw[Array.getElem?_eq_none (by simp[madeCells];omega),Array.getElem?_eq_none (by rw[j2];omega)]
def qA (O:List Pl)(k:Nat)(asked:Th)(rea:Nat->Nat × List Nat)(B:Nat->Bool)(i:Nat):Nat->Bool:=
 if (if decide ((O[i]?.getD default).s<k)||decide ((O[i]?.getD default).t=asked) then zf5 B i true else B) i then j9 (if decide ((O[i]?.getD default).s<k)||decide ((O[i]?.getD default).t=asked) then zf5 B i true else B) (rea i).2 else (if decide ((O[i]?.getD default).s<k)||decide ((O[i]?.getD default).t=asked) then zf5 B i true else B)
def zbc (O:List Pl)(k:Nat)(asked:Th)(rea:Nat->Nat × List Nat)(pre:List (Fin O.length)):Nat->Bool:=pre.foldl (λ B x=>qA O k asked rea B x.1) (λ _=>false)
def zgy (n:Nat)(rea:Nat->Nat × List Nat)(B:Nat->Bool):List (Nat × List Nat):=(List.range n).map λ i=>if B i then rea i else (0,[])
theorem zcn {i:Nat}:∀ (fr:List Nat) (B:Nat->Bool),i∉fr->j9 B fr i=B i
 | [],_,_=>rfl
 | x::r,B,h=>by
  have h1:=zcn r (zf5 B x true) (λ hm=>h (List.mem_cons_of_mem _ hm))
  show j9 (zf5 B x true) r i=B i
  rw[h1];unfold zf5;rw[if_neg (λ e=>h (by rw[e];exact List.mem_cons_self))]
def z6z (O:List Pl)(k:Nat)(asked:Th)(i:Nat):Bool:=decide ((O[i]?.getD default).s<k)||decide ((O[i]?.getD default).t=asked)
def zb2 (O:List Pl)(k:Nat)(asked:Th)(B:Nat->Bool)(i:Nat):Nat->Bool:=if z6z O k asked i then zf5 B i true else B
theorem zgx (O:List Pl)(k:Nat)(asked:Th)(rea:Nat->Nat × List Nat)(B:Nat->Bool)(i:Nat):qA O k asked rea B i=if zb2 O k asked B i i then j9 (zb2 O k asked B i) (rea i).2 else zb2 O k asked B i:=rfl
variable {i j:Nat} {B:Nat->Bool} {asked:Th} {O:List Pl}
theorem zli {k:Nat}(h:j≠i):zb2 O k asked B i j=B j:=by
 unfold zb2
 split
 ·unfold zf5;rw[if_neg h]
 ·rfl
variable {rea:Nat->Nat × List Nat}
theorem zt8 {k:Nat}(aX:∀ x∈(rea i).2,x<i)(h:i<j):qA O k asked rea B i j=B j:=by
 rw[zgx]
 split
 ·rw[zcn _ _ (λ hm=>by have:=aX j hm;omega),zli (by omega)]
 ·exact zli (by omega)
theorem zt7 {k:Nat}(aX:∀ x∈(rea i).2,x<i):qA O k asked rea B i i=zb2 O k asked B i i:=by
 rw[zgx]
 split
 ·rw[zcn _ _ (λ hm=>by have:=aX i hm;omega)]
 ·rfl
theorem zis (O:List Pl)(k:Nat)(asked:Th)(rea:Nat->Nat × List Nat)(pre:List (Fin O.length))(x:Fin O.length):zbc O k asked rea (pre++[x])=qA O k asked rea (zbc O k asked rea pre) x.1:=by
 unfold zbc;rw[List.foldl_append];rfl
def zes (O:List Pl)(k:Nat)(asked:Th)(rea:Nat->Nat × List Nat):List (Fin O.length)->Nat->Bool:=λ pre=>(pre.foldl (λ (st:(Nat->Bool) × (Nat->Bool)) x=>(qA O k asked rea st.1 x.1,if zb2 O k asked st.1 x.1 x.1 then zf5 st.2 x.1 true else st.2)) (λ _=>false,λ _=>false)).2
theorem zvp (O:List Pl)(k:Nat)(asked:Th)(rea:Nat->Nat × List Nat):∀ (pre:List (Fin O.length)) (B D:Nat->Bool),(pre.foldl (λ (st:(Nat->Bool) × (Nat->Bool)) x=>(qA O k asked rea st.1 x.1,if zb2 O k asked st.1 x.1 x.1 then zf5 st.2 x.1 true else st.2)) (B,D)).1=pre.foldl (λ B x=>qA O k asked rea B x.1) B
 | [],_,_=>rfl
 | _::r,_,_=>zvp O k asked rea r _ _
theorem zq7 (O:List Pl)(k:Nat)(asked:Th)(rea:Nat->Nat × List Nat)(pre:List (Fin O.length))(x:Fin O.length):zes O k asked rea (pre++[x])=if zb2 O k asked (zbc O k asked rea pre) x.1 x.1 then zf5 (zes O k asked rea pre) x.1 true else zes O k asked rea pre:=by
 unfold zes;rw[List.foldl_append];simp only[List.foldl_cons,List.foldl_nil,zvp];rfl
theorem zm9 {O:List Pl}{k:Nat}{asked:Th}{rea:Nat->Nat × List Nat}(aX:∀ i,i<O.length->∀ x∈(rea i).2,x<i):∀ (d m:Nat),m+d=O.length->∀ i,i<O.length->zes O k asked rea (zan O.length m) i=(decide (m<=i)&&zbc O k asked rea (zan O.length m) i)
 | 0,m,hm,i,hi=>by
  rw[Nat.add_zero] at hm;subst hm;rw[Nb];simp[zes];omega
 | d+1,m,hm,i,hi=>by
  have bP:m<O.length:=by omega
  have ih:=zm9 (k:=k) (asked:=asked) aX d (m+1) (by omega) i hi;rw[zif bP,zq7,zis]
  by_cases e:i=m
  ·subst e;rw[zt7 (aX i hi)]
   split
   ·rename_i h;simp[zf5,h]
   ·rename_i h;rw[ih];simp at h;simp[h];intro h';omega
  ·have e1:(if zb2 O k asked (zbc O k asked rea (zan O.length (m+1))) m m=true then zf5 (zes O k asked rea (zan O.length (m+1))) m true else zes O k asked rea (zan O.length (m+1))) i=zes O k asked rea (zan O.length (m+1)) i:=by
    split
    ·unfold zf5;rw[if_neg e]
    ·rfl
   rw[e1,ih]
   by_cases h:m+1<=i
   ·rw[zt8 (aX m bP) (by omega)];have:m<=i:=by omega
    simp[h,this]
   ·have h2:¬ m<=i:=(by omega);simp[h,h2]
def zyu (Dn:Nat->Bool)(rea:Nat->Nat × List Nat)(V:Nat->Value)(c:Nat):Value:=
 if Dn (c/2)=true then (if c%2=0 then .int .i64 ((rea (c/2)).1:Nat) else V (c/2)) else (if c%2=0 then .int .i64 0 else .slice none 0 0)
theorem z28 {q:Nat}{Dn:Nat->Bool}{V:Nat->Value}{v:Value}(c:Nat):(if c=q*2+1 then v else if c=q*2 then .int .i64 ((rea q).1:Nat) else zyu Dn rea V c)=zyu (zf5 Dn q true) rea (λ i=>if i=q then v else V i) c:=by
 unfold zyu zf5
 by_cases e1:c=q*2+1
 ·have e:c/2=q:=by omega
  have n3:¬ c%2=0:=by omega
  rw[if_pos e1,if_pos e,if_pos rfl,if_neg n3];simp[e]
 ·rw[if_neg e1]
  by_cases e2:c=q*2
  ·have e:c/2=q:=(by omega);have n3:c%2=0:=(by omega);rw[if_pos e2,if_pos e,if_pos rfl,if_pos n3,e]
  ·rw[if_neg e2];have bG:c/2≠q:=(by omega);simp only[if_neg bG]
structure nk (w:W8)(ar:O8)(cr:Nat)(rs:List PR)(asked:Th)(kk:Nat)(ao:O8)(co bo b9 iy D:Nat)(O:List Pl)(W:W8):Prop where
 y4:W.heap[w.heap.size]?=some (.cells #[.slice ar rs.length cr] 75 (0,0))
 y7:TV W (w.heap.size+1) asked
 y8:W.heap[w.heap.size+1+1]?=some (.cells #[.int .i64 0,.slice none 0 0] 93 (0,0))
 y9:W.heap[b9]?=some (.cells #[.int .i64 (kk:Nat)] 3 (0,0))
 GU:W.heap[iy]?=some (.cells #[.slice ao O.length co] 141 (0,0))
 AR:W.heap[D+1]?=some (.cells #[.slice (some ⟨D,0,none⟩) O.length O.length] 91 (0,0))
 vd:W.heap[D+1+1+1]?=some (.cells #[.slice (some ⟨D+1+1,0,none⟩) O.length O.length] 143 (0,0))
 ro:W.ownsRow bo 148 7 (.slice ao O.length co) O.length (O.flatMap aB)
 k:Below w.heap.size w W
 l9:w.heap.size+1+1<b9
 pR:b9<iy
 lD:iy<D
 lo:∀ g,(Value.slice ao O.length co).ownBlock=some g->g<D
 lb:w.heap.size<=bo
variable {W W' w:W8} {co bo b9 iy D kk cr:Nat} {ao ar:O8} {rs:List PR}
theorem nk.mi (h:nk w ar cr rs asked kk ao co bo b9 iy D O W)(hb:∀ i,i<=D+1+1+1->i≠D->i≠D+1+1->W'.heap[i]?=W.heap[i]?)(hk:Below w.heap.size w W'):nk w ar cr rs asked kk ao co bo b9 iy D O W':=by
 have l9:=h.l9;have pR:=h.pR;have lD:=h.lD;exact⟨(hb _ (by omega) (by omega) (by omega)).trans h.y4,(hb _ (by omega) (by omega) (by omega)).trans h.y7,(hb _ (by omega) (by omega) (by omega)).trans h.y8,(hb _ (by omega) (by omega) (by omega)).trans h.y9,(hb _ (by omega) (by omega) (by omega)).trans h.GU,(hb _ (by omega) (by omega) (by omega)).trans h.AR,(hb _ (by omega) (by omega) (by omega)).trans h.vd,zP h.ro (λ g e=>hb g (by have:=h.lo g e;omega) (by have:=h.lo g e;omega) (by have:=h.lo g e;omega)),hk,l9,pR,lD,h.lo,h.lb⟩
theorem nk.below (h:nk w ar cr rs asked kk ao co bo b9 iy D O W)(k:Below W.heap.size W W'):nk w ar cr rs asked kk ao co bo b9 iy D O W':=
 h.mi (λ i hi _ _=>k.block i (by have:=(Array.getElem?_eq_some_iff.1 h.vd).1;omega)) (h.k.trans (k.mono h.k.size))
def ONo (D i:Nat):Prop:=i=D\/i=D+1+1
structure jM (w:W8)(ar:O8)(cr:Nat)(rs:List PR)(asked:Th)(kk:Nat)(ao:O8)(co bo b9 iy D:Nat)(O:List Pl)(rea:Nat->Nat × List Nat)(w1:W8)(B Dn:Nat->Bool)(W:W8):Prop where
 box:nk w ar cr rs asked kk ao co bo b9 iy D O W
 kp:jQ (ONo D) w1 W
 bF:aG W (D+1+1) 4 O.length (λ i=>.bool (B i))
 nR:∃ V:Nat->Value,aG W D 150 (O.length*2) (zyu Dn rea V)/\∀ i,Dn i=true->W.ownsRow w1.heap.size 3 1 (V i) (rea i).2.length (cO (rea i).2)
 lt:D+1+1+1<w1.heap.size
theorem jM.grown {w:W8}{ar:O8}{cr:Nat}{rs:List PR}{asked:Th}{kk:Nat}{ao:O8}{co bo b9 iy D:Nat}{O:List Pl}{rea:Nat->Nat × List Nat}{w1:W8}{B Dn:Nat->Bool}{W W':W8}(h:jM w ar cr rs asked kk ao co bo b9 iy D O rea w1 B Dn W){row:Option Nat}(hg:W.grownBy W' row)(hr:∀ i,row=some i->w1.heap.size<=i/\∃ o:Obj,W.heap[i]?=some o/\o.isCells=false):jM w ar cr rs asked kk ao co bo b9 iy D O rea w1 B Dn W':=by
 have bP:=h.lt;have de:=h.kp.size;have hw:=h.box.k.size;have ja:∀ i,i<w1.heap.size->W'.heap[i]?=W.heap[i]?:=λ i hi=>hg.block i (by omega) (λ e=>by have:=(hr i e.symm).1;omega)
 have l9:=h.box.l9;have pR:=h.box.pR;have lD:=h.box.lD;obtain⟨V,h1,h2⟩:=h.nR;exact⟨h.box.mi (λ i hi _ _=>ja i (by omega)) ⟨hg.os.trans h.box.k.os,hg.tape.trans h.box.k.tape,hg.output.trans h.box.k.output,Nat.le_trans h.box.k.size hg.size,λ i hi=>(ja i (by omega)).trans (h.box.k.block i hi)⟩,h.kp.grown hg (λ i e=>.inl (hr i e).1),h.bF.block (ja _ (by omega)),⟨V,h1.block (ja _ (by omega)),λ i a=>zr1 (h2 i a) hg (λ i e=>(hr i e).2)⟩,bP⟩
def PV (w:W8)(b:Nat)(p:Pl):Prop:=w.heap[b]?=some (.cells (aB p).toArray 148 (0,0))
variable {p:Pl} {b:Nat}
theorem PV.grown {A B:W8}{row:Option Nat}(h:PV A b p)(hg:A.grownBy B row)(hr:∀ i,row=some i->∃ o:Obj,A.heap[i]?=some o/\o.isCells=false):PV B b p:=zkv h hg hr
theorem PV.lt (h:PV w b p):b<w.heap.size:=(Array.getElem?_eq_some_iff.1 h).1
end
section
open Go.RowKit Go.Maps
variable {b:Nat} {w:W8}
theorem PV.loadT {p:Pl}(h:PV w b p):(zej (.pointer (some ⟨b,0,none⟩))).run Tryz.prog w=.ok (.agg #[.string p.t.p,.string (xF p.t.ts 0),.string (xF p.t.ts 1),.string (xF p.t.ts 2),.string (xF p.t.ts 3)]) w:=by
 have c0:=(zB h 0).1;have c1:=(zB h 1).1;have c2:=(zB h 2).1;have c3:=(zB h 3).1;have c4:=(zB h 4).1;simp only[aB,List.getElem?_toArray,List.getElem?_cons_zero,List.getElem?_cons_succ] at c0 c1 c2 c3 c4;unfold zej
 go_simp
structure dY (D:Nat)(W wr:W8):Prop where
 size:W.heap.size<=wr.heap.size
 block:∀ i,i<W.heap.size->i≠D->i≠D+1+1->wr.heap[i]?=W.heap[i]?
theorem dY.refl (D:Nat)(W:W8):dY D W W:=⟨Nat.le_refl _,λ _ _ _ _=>rfl⟩
variable {W wr:W8} {D:Nat}
theorem dY.below {w':W8}(h:dY D W wr)(k:Below wr.heap.size wr w'):dY D W w':=⟨Nat.le_trans h.size k.size,λ i hi h1 h2=>(k.block i (Nat.lt_of_lt_of_le hi h.size)).trans (h.block i hi h1 h2)⟩
theorem dY.set (h:dY D W wr){j:Nat}(hb:b=D\/b=D+1+1)(v:Value):dY D W (wr.setCell ⟨b,j,none⟩ v):=⟨by simpa using h.size,λ i hi h1 h2=>(Below.heap_setCell _ _ _ _ (by rcases hb with e | e <;> simp[e] <;> assumption)).trans (h.block i hi h1 h2)⟩
theorem jM.below {w:W8}{ar:O8}{cr:Nat}{rs:List PR}{asked:Th}{kk:Nat}{ao:O8}{co bo b9 iy D:Nat}{O:List Pl}{rea:Nat->Nat × List Nat}{w1:W8}{B Dn:Nat->Bool}{W W':W8}(h:jM w ar cr rs asked kk ao co bo b9 iy D O rea w1 B Dn W)(k:Below W.heap.size W W'):jM w ar cr rs asked kk ao co bo b9 iy D O rea w1 B Dn W':=by
 obtain⟨V,h1,h2⟩:=h.nR;exact⟨h.box.below k,h.kp.trans (jQ.aF k),h.bF.below k,⟨V,h1.below k,λ i a=>zG (h2 i a) k (λ g e=>((h2 i a).lt g e).2)⟩,h.lt⟩
variable {B Dn:Nat->Bool} {w1:W8} {rea:Nat->Nat × List Nat} {O:List Pl} {co bo b9 iy kk cr:Nat} {ao ar:O8} {asked:Th} {rs:List PR}
theorem jM.own (h:jM w ar cr rs asked kk ao co bo b9 iy D O rea w1 B Dn W)(i:Nat):jM w ar cr rs asked kk ao co bo b9 iy D O rea w1 (zf5 B i true) Dn (W.setCell ⟨D+1+1,i,none⟩ (.bool true)):=by
 obtain⟨V,h1,h2⟩:=h.nR;have bP:=h.lt;have l9:=h.box.l9;have pR:=h.box.pR;have lD:=h.box.lD;have blk:∀ j,j≠D+1+1->(W.setCell ⟨D+1+1,i,none⟩ (.bool true)).heap[j]?=W.heap[j]?:=λ j hj=>Below.heap_setCell _ _ _ _ (by simpa using hj)
 refine⟨h.box.mi (λ j _ _ hj=>blk j hj) (h.box.k.setCell (by show _<=D+1+1;omega) _),h.kp.setCell (.inr (.inr rfl)) _,(h.bF.set i (.bool true)).eq (λ j _=>?_),⟨V,h1.block (blk D (by omega)),λ j a=>zP (h2 j a) (λ g e=>blk g (by have:=((h2 j a).lt g e).1;omega))⟩,bP⟩;unfold zf5
 by_cases e:j=i
 ·rw[if_pos e,if_pos e]
 ·rw[if_neg e,if_neg e]
theorem jM.put (h:jM w ar cr rs asked kk ao co bo b9 iy D O rea w1 B Dn W)(i:Nat)(hi:i<O.length){v:Value}(hv:W.ownsRow w1.heap.size 3 1 v (rea i).2.length (cO (rea i).2)):jM w ar cr rs asked kk ao co bo b9 iy D O rea w1 B (zf5 Dn i true) ((W.setCell ⟨D,i*2,none⟩ (.int .i64 ((rea i).1:Nat))).setCell ⟨D,i*2+1,none⟩ v)/\((W.setCell ⟨D,i*2,none⟩ (.int .i64 ((rea i).1:Nat))).setCell ⟨D,i*2+1,none⟩ v).ownsRow w1.heap.size 3 1 v (rea i).2.length (cO (rea i).2)/\((W.setCell ⟨D,i*2,none⟩ (.int .i64 ((rea i).1:Nat))).setCell ⟨D,i*2+1,none⟩ v).cell? ⟨D,i*2+1,none⟩=some v:=by
 obtain⟨V,h1,h2⟩:=h.nR;have bP:=h.lt;have l9:=h.box.l9;have pR:=h.box.pR;have lD:=h.box.lD;have blk:∀ j,j≠D->((W.setCell ⟨D,i*2,none⟩ (.int .i64 ((rea i).1:Nat))).setCell ⟨D,i*2+1,none⟩ v).heap[j]?=W.heap[j]?:=λ j hj=>(Below.heap_setCell _ _ _ _ (by simpa using hj)).trans (Below.heap_setCell _ _ _ _ (by simpa using hj))
 refine⟨⟨h.box.mi (λ j _ hj _=>blk j hj) ((h.box.k.setCell (by show _<=D;omega) _).setCell (by show _<=D;omega) _),(h.kp.setCell (.inr (.inl rfl)) _).setCell (.inr (.inl rfl)) _,h.bF.block (blk _ (by omega)),⟨λ j=>if j=i then v else V j,((h1.set (i*2) _).set (i*2+1) v).eq (λ c _=>z28 c),λ j a=>?_⟩,bP⟩,zP hv (λ g e=>blk g (by have:=(hv.lt g e).1;omega)),?_⟩
 rotate_left
 ·have:=((h1.set (i*2) (.int .i64 ((rea i).1:Nat))).set (i*2+1) v).cell (i:=i*2+1) (by omega);rw[this,if_pos rfl]
 by_cases e:j=i
 ·subst e;simp only[if_pos];exact zP hv (λ g e=>blk g (by have:=(hv.lt g e).1;omega))
 ·simp only[if_neg e];have a':Dn j=true:=by unfold zf5 at a;rwa [if_neg e] at a
  exact zP (h2 j a') (λ g e=>blk g (by have:=((h2 j a').lt g e).1;omega))
theorem jM.ends {B' GV:Nat->Bool}(h:jM w ar cr rs asked kk ao co bo b9 iy D O rea w1 B Dn W)(h':jM w ar cr rs asked kk ao co bo b9 iy D O rea w1 B' GV wr)(k:dY D W wr):KeepsFrom w1.heap.size W wr/\jQ (ONo D) W wr:=by
 have bP:=h.lt;refine⟨⟨k.size,λ i o hB hi _=>(k.block i (Array.getElem?_eq_some_iff.1 hi).1 (by omega) (by omega)).trans hi⟩,⟨h'.box.k.os.trans h.box.k.os.symm,h'.box.k.tape.trans h.box.k.tape.symm,h'.box.k.output.trans h.box.k.output.symm,k.size,λ i o hi cP _=>(k.block i (Array.getElem?_eq_some_iff.1 hi).1 (λ e=>cP (.inl e)) (λ e=>cP (.inr e))).trans hi⟩⟩
theorem zrw {α β:Type}(f:α->β){l:List α}(h:(l.map f).Nodup):l.Nodup:=by
 unfold List.Nodup at *;rw[List.pairwise_map] at h;exact h.imp λ h e=>h (by rw[e])
theorem zjm {α:Type}{f:α->V8}(hf:∀ x,(f x).length=2):∀ l:List α,(l.flatMap f).length=l.length*2
 | []=>rfl
 | x::r=>by rw[List.flatMap_cons,List.length_append,hf,zjm hf r,List.length_cons];omega
theorem z9g (f:Nat->Value):∀ n:Nat,(List.range (n*2)).map f=(List.range n).flatMap λ i=>[f (i*2),f (i*2+1)]
 | 0=>rfl
 | n+1=>by
  rw[show (n+1)*2=n*2+1+1 by omega,List.range_succ,List.range_succ,List.range_succ,List.flatMap_append,<-z9g f n];simp
theorem jM.nodes (h:jM w ar cr rs asked kk ao co bo b9 iy D O rea w1 B Dn W)(hn:O.length<=maxLen):∃ aJ:List ND,aJ.length=O.length/\jT W D (.slice (some ⟨D,0,none⟩) O.length O.length) aJ/\aJ.map dX=(List.range O.length).map λ i=>if Dn i then rea i else (0,[]):=by
 obtain⟨V,h1,h2⟩:=h.nR;have bP:=h.lt;have hl:((List.range O.length).map λ i=>if Dn i then (⟨(rea i).1,(rea i).2,V i⟩:ND) else ⟨0,[],.slice none 0 0⟩).length=O.length:=by simp
 refine⟨(List.range O.length).map λ i=>if Dn i then ⟨(rea i).1,(rea i).2,V i⟩ else ⟨0,[],.slice none 0 0⟩,hl,⟨?_,λ x hx=>?_⟩,?_⟩
 ·rw[hl];refine⟨?_,.inr ⟨D,O.length,_,rfl,Nat.le_refl _,h1,Nat.le_refl _,hn,by rw[j2],?_⟩⟩
  ·rw[zjm zdw,hl]
  ·unfold zbw;rw[List.take_of_length_le (by simp),List.flatMap_map]
   show (List.range (O.length*2)).map _=_
   rw[z9g]
   congr 1
   funext i
   unfold zyu;rw[show i*2/2=i by omega,show (i*2+1)/2=i by omega,show i*2%2=0 by omega,show (i*2+1)%2=1 by omega]
   cases Dn i <;> rfl
 ·obtain⟨i,hi,rfl⟩:=List.mem_map.1 hx
  cases hd:Dn i with
  | true=>exact zI (h2 i hd) (by omega)
  | false=>exact World.ownsRow_nil _ _ _ _
 ·rw[List.map_map];apply List.map_congr_left;intro i _;simp only[Function.comp]
  cases Dn i <;> rfl
end
end Go.Proofs.YtldkpahaocjdpaaGreat
