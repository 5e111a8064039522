/-
  Match: an atom is held against a thing.
-/
import Derived.Test.YtldkpahaocjdpaaGreatE18
import Derived.Deep.CutBlock
import Derived.Deep.MidRow
import Derived.RangeFuncNested
import Derived.Deep.WholeRow
import Derived.Calls
set_option maxHeartbeats 16000000
set_option maxRecDepth 1000000
namespace Go.Proofs.YtldkpahaocjdpaaGreat
section
open Go.RowKit
def zj7:yR->List zdy->List B8->Option yR
 | e,[],_=>some e
 | e,t::ts,ns=>match pmT e t (ns.headD { data:=#[] }) with
  | some e'=>zj7 e' ts ns.tail
  | none=>none
structure jZ where
 p:B8
 ts:List zdy
def xG (e:yR)(a:jZ)(t:Th):Option yR:=if a.p.toList==t.p.toList then zj7 e a.ts t.ts else none
theorem zyk (l:List B8)(k:Nat):(l.drop k).headD { data:=#[] }=xW l k:=by
 unfold xW;rw[List.headD_eq_head?_getD,List.head?_drop]
variable {e:yR}
theorem z4g {ts:List zdy}{ns:List B8}{k:Nat}(h:k<ts.length):zj7 e (ts.drop k) (ns.drop k)=match pmT e ts[k] (xW ns k) with | some e'=>zj7 e' (ts.drop (k+1)) (ns.drop (k+1)) | none=>none:=by
 rw[List.drop_eq_getElem_cons h,zj7,zyk,List.tail_drop]
structure vZ (Vs:List B8)(e:yR):Prop where
 nd:(e.map (·.1)).Nodup
 sub:∀ x∈e,x.1∈Vs
theorem vZ.nil (Vs:List B8):vZ Vs []:=⟨by simp,by simp⟩
theorem zic {α:Type}[DecidableEq α]:∀ (xs ys:List α),xs.Nodup->(∀ x∈xs,x∈ys)->xs.length<=ys.length
 | [],_,_,_=>by simp
 | x::xs,ys,hn,h=>by
  obtain⟨h1,h2⟩:=List.nodup_cons.1 hn;have hx:=h x List.mem_cons_self;have:=zic xs (ys.erase x) h2 (λ y hy=>(List.mem_erase_of_ne (λ e:y=x=>h1 (e ▸ hy))).2 (h y (List.mem_cons_of_mem _ hy)));rw[List.length_erase_of_mem hx] at this;have:0<ys.length:=List.length_pos_of_mem hx;simp;omega
variable {Vs:List B8}
theorem vZ.len (h:vZ Vs e):e.length<=Vs.length:=by
 have:=zic _ Vs h.nd (λ x hx=>by obtain⟨y,hy,rfl⟩:=List.mem_map.1 hx;exact h.sub y hy);simpa using this
theorem zwu {v:B8}:∀ {e:yR},pAt e v=none->v∉e.map (·.1)
 | [],_=>by simp
 | x::r,h=>by
  rw[pAt] at h
  split at h
  ·cases h
  ·rename_i hx;rw[List.map_cons,List.mem_cons];rintro (e | e)
   ·rw[e] at hx;simp at hx
   ·exact zwu h e
variable {v n:B8}
theorem vZ.snoc (h:vZ Vs e)(hv:v∈Vs)(hn:pAt e v=none):vZ Vs (e++[(v,n)]):=by
 refine⟨?_,λ x hx=>?_⟩
 ·rw[List.map_append,List.nodup_append];exact⟨h.nd,by simp,λ a ha b hb e=>zwu hn (by rw[<-(List.mem_singleton.1 hb:b=v),<-e];exact ha)⟩
 ·rcases List.mem_append.1 hx with hx | hx
  ·exact h.sub x hx
  ·rw[List.mem_singleton.1 hx];exact hv
theorem vZ.room (h:vZ Vs e)(hv:v∈Vs)(hn:pAt e v=none):e.length<Vs.length:=by
 have:=(h.snoc (n:=v) hv hn).len;rw[List.length_append] at this;exact this
variable {e':yR}
theorem vZ.term (h:vZ Vs e){t:zdy}(ht:t.1=true->t.2∈Vs)(hm:pmT e t n=some e'):vZ Vs e':=by
 unfold pmT pmB at hm
 split at hm
 ·rename_i h1
  split at hm
  ·split at hm
   ·cases hm;exact h
   ·cases hm
  ·rename_i h2;cases hm;exact h.snoc (ht h1) h2
 ·split at hm
  ·cases hm;exact h
  ·cases hm
theorem vZ.ae {Vs:List B8}:∀ {ts:List zdy} {ns:List B8} {e e':yR},vZ Vs e->(∀ t∈ts,t.1=true->t.2∈Vs)->zj7 e ts ns=some e'->vZ Vs e'
 | [],_,e,e',h,_,hm=>by rw[zj7] at hm;cases hm;exact h
 | t::ts,ns,e,e',h,ht,hm=>by
  rw[zj7] at hm
  split at hm
  ·rename_i e1 h1;exact vZ.ae (h.term (ht t List.mem_cons_self) h1) (λ x hx=>ht x (List.mem_cons_of_mem _ hx)) hm
  ·cases hm
theorem vZ.matched {A:jZ}{t:Th}(h:vZ Vs e)(ht:∀ t∈A.ts,t.1=true->t.2∈Vs)(hm:xG e A t=some e'):vZ Vs e':=by
 unfold xG at hm
 split at hm
 ·exact h.ae ht hm
 ·cases hm
theorem zdg (t:Th){i:Nat}(h:i<4):(zV t)[1+i]?=some (.string (xW t.ts i)):=by
 match i,h with
 | 0,_ | 1,_ | 2,_ | 3,_=>rfl
variable {w:W8}
theorem zu9 {base:Nat}{a:O8}{c:Nat}{ts:List zdy}(h:w.ownsRow base 191 1 (.slice a ts.length c) ts.length (ts.map zc3))(k:Nat)(hk:k<ts.length):∃ g,a=some ⟨g,0,none⟩/\g<w.heap.size/\ts.length<=c/\c<=maxLen/\w.cell? ⟨g,k,none⟩=some (zc3 ts[k]):=by
 rcases h.2 with⟨_,h0⟩ | ⟨g,cap,cur,hv,hb,hg,bO,bQ,ij,ht⟩
 ·omega
 ·injection hv with h1 h2 h3
  subst h1 h3;refine⟨g,rfl,(Array.getElem?_eq_some_iff.1 hg).1,bO,bQ,?_⟩;rw[h.cellAt k (by omega),List.getElem?_map,List.getElem?_eq_getElem hk];rfl
def ztl (w:W8)(r:Option yR)(en:Ending)(w':W8):Prop:=Below w.heap.size w w'/\en=.returned (.tuple #[zav (r.getD []),.bool r.isSome])
theorem zen:(Tryz.prog.info? 135).map (·.size)=some 25:=by kernel_rfl
theorem zca (e:yR):(yQ e).toArray.all (·.oneCell')=true:=by simp[yQ,Value.oneCell']
theorem zfp {fn:Func}{p u:Tmp}(h:fn.results=#[.cell p 135,.tmp u])(tmps:Array Value)(w:W8)(g:Nat)(e:yR)(hp:tmps.getD p undef=.pointer (some ⟨g,0,none⟩))(hg:w.heap[g]?=some (.cells (yQ e).toArray 135 (0,0))):
  (results fn tmps).run Tryz.prog w=.ok (.tuple #[zav e,tmps.getD u undef]) w:=by
 have Gr:tmps[p]?.getD undef=.pointer (some ⟨g,0,none⟩):=by simpa using hp
 have mj:tmps.getD u undef=tmps[u]?.getD undef:=by simp
 rw[mj];simp[results,h,Gr,asAddr,run_loadVar_row w g _ 135 _ _ _ hg Tryz.underlying135 rfl (by rw[zen];rfl),zav]
theorem xN {B:Nat}{w':W8}(h:Below B w w'){g:Nat}(hg:B<=g)(cs:Array Value):Below B w (w'.setRow g cs):=
 ⟨h.os,h.tape,h.output,by rw[setRow_size];exact h.size,λ k hk=>(setRow_other w' g k cs (by omega)).trans (h.block k hk)⟩
theorem zof (w:W8)(base:Nat)(e:yR)(A:jZ)(a:O8)(c:Nat)(t:Th)(h:w.ownsRow base 191 1 (.slice a A.ts.length c) A.ts.length (A.ts.map zc3))(h4:A.ts.length<=4)(Vs:List B8)(hV:Vs.length<=12)(he:vZ Vs e)(ht:∀ t∈A.ts,t.1=true->t.2∈Vs):
  Calls Tryz.prog 62 #[zav e,.agg #[.string A.p,.slice a A.ts.length c],thV t] w (ztl w (xG e A t)):=by
 obtain⟨cs,ij⟩:∃ cs,cs=(yQ e).toArray:=⟨_,rfl⟩;obtain⟨ct,lL⟩:∃ ct,ct=(zV t).toArray:=⟨_,rfl⟩;have DS:=zC ij;have pw:=zC lL;unfold zav thV;rw[<-ij,<-lL];clear ij lL;have H:=zC h;have VI:=zC he;have Jy:=zC ht;clear h he ht;have q0:cs.size=25:=by rw[zA DS];rfl
 have q1:ct.size=5:=by rw[zA pw];rfl
 go_enter Tryz.func62,Tryz.ntmps62;go_upto_region 1 with fail;generalize bC:World.alloc (World.alloc (World.alloc (World.alloc w _) _) _) _=w0;have k0:Below w.heap.size w w0:=by
  rw[<-bC];exact ((((Below.refl w.heap.size w).alloc L9 _).alloc (by simp) _).alloc (by simp only[World.size_alloc];omega) _).alloc (by simp only[World.size_alloc];omega) _
 have x0:w0.heap[w.heap.size]?=some (.cells cs 135 (0,0)):=by
  rw[<-bC,Below.heap_alloc _ _ _ (by simp only[World.size_alloc];omega),Below.heap_alloc _ _ _ (by simp only[World.size_alloc];omega),Below.heap_alloc _ _ _ (by simp)];exact heap_alloc_new w _
 have x1:w0.heap[w.heap.size+1]?=some (.cells #[.string A.p,.slice a A.ts.length c] 79 (0,0)):=by
  rw[<-bC,Below.heap_alloc _ _ _ (by simp only[World.size_alloc];omega),Below.heap_alloc _ _ _ (by simp)];have:=heap_alloc_new (w.alloc (.cells cs 135)) (.cells #[.string A.p,.slice a A.ts.length c] 79);rw[World.size_alloc] at this;exact this
 have x2:w0.heap[w.heap.size+1+1]?=some (.cells ct 88 (0,0)):=by
  rw[<-bC,Below.heap_alloc _ _ _ (by simp)];have:=heap_alloc_new ((w.alloc (.cells cs 135)).alloc (.cells #[.string A.p,.slice a A.ts.length c] 79)) (.cells ct 88);rw[World.size_alloc,World.size_alloc] at this;exact this
 have x3:w0.heap[w.heap.size+1+1+1]?=some (.cells (yQ []).toArray 135 (0,0)):=by
  rw[<-bC];have:=heap_alloc_new (((w.alloc (.cells cs 135)).alloc (.cells #[.string A.p,.slice a A.ts.length c] 79)).alloc (.cells ct 88)) (.cells (yQ []).toArray 135);rw[World.size_alloc,World.size_alloc,World.size_alloc] at this;exact this
 have s0:w.heap.size+1+1+1+1=w0.heap.size:=by rw[<-bC];simp
 have b0:j0 w0 w.heap.size e:=j0.of (by rw[x0,zA DS]);have fu:=zZ (zA H) (λ g e=>k0.block g ((zA H).lt g e).2);clear bC H;have ou:=zC b0;have lV:=zC s0;have FA:=zC x3;have py:=zC fu;have dr:=zC k0;obtain⟨p0,-⟩:=zB x1 0;obtain⟨p1,-⟩:=zB x1 1;obtain⟨t0,-⟩:=zB x2 0;replace t0:w0.cell? ⟨w.heap.size+1+1,0,none⟩=some (.string t.p):=by rw[t0,zA pw];rfl
 have yp:=zC x1;have JD:=zC x2;clear x0 x1 x2 x3 b0 fu k0 s0
 cases hq:A.p.toList==t.p.toList with
 | false=>
  have HP:=zC (show xG e A t=none by unfold xG;rw[hq];rfl);go_wp2_with (first | (refine wpList_store_row rfl 135 _ _ rfl _ _ rfl rfl _ _ (zA FA) (by rw[zen];rfl) rfl (zca []) ?_) | fail);refine bodyPost_ret (v:=.tuple #[zav [],.bool false]) (zfp Tryz.results62 _ _ _ [] rfl (setRow_heap _ _ _ _ _ _ (zA FA))) rfl ?_;rw[zA HP];exact⟨xN (zA dr) (by omega) _,rfl⟩
 | true=>
  have HP:=zC (show xG e A t=zj7 e A.ts t.ts by unfold xG;rw[hq];rfl);go_wp2_with fail
  go_loopg [19] A.ts.length (λ gg i wr=>∃ (k:Nat) (e':yR),k<=A.ts.length/\gg=A.ts.length-k/\i=.int .i64 k/\zj7 e' (A.ts.drop k) (t.ts.drop k)=zj7 e A.ts t.ts/\j0 wr w.heap.size e'/\zK [w.heap.size] w0 wr/\vZ Vs e')
  exact⟨0,e,Nat.zero_le _,rfl,rfl,rfl,zA ou,zK.refl _ _,zA VI⟩
  case round=>
   obtain⟨k,e',hk,eD,rfl,aE,hb,dX,qo⟩:=hrel;have yj:=zC qo;have HF:=zC aE;have HB:=zC hb;have ow:=zC dX;have EO:=zA lV;have y3:wr.heap[w.heap.size+1+1+1]?=some (.cells (yQ []).toArray 135 (0,0)):=(dX.block _ (by omega) (by simp;omega)).trans (zA FA);have O4:=zC y3;have rR:=zC (show Below w.heap.size w wr from ⟨dX.os.trans (zA dr).os,dX.tape.trans (zA dr).tape,dX.output.trans (zA dr).output,Nat.le_trans (zA dr).size dX.size,λ i hi=>(dX.block i (by omega) (by simp;omega)).trans ((zA dr).block i hi)⟩);clear aE hb dX y3 qo
   by_cases aF:k<A.ts.length
   ·obtain⟨g,rfl,xi,bO,bQ,hc⟩:=zu9 (zA py) k aF;have pD:wr.cell? ⟨w.heap.size+1+1,1+k,none⟩=some (.string (xW t.ts k)):=by
     have:=(zB ((zA ow).block _ (by omega) (by simp;omega) |>.trans (zA JD)) (1+k)).1;rw[this,zA pw,List.getElem?_toArray];exact zdg t (by omega)
    have C8:g≠w.heap.size:=λ e1=>by
     have h1:=(zA ou).whole;rcases (zA py).2 with⟨_,h0⟩ | ⟨g2,cap,cur,hv,aK,fL,_⟩
     ·omega
     ·injection hv with h2 _ _
      injection h2 with h2
      injection h2 with h2
      rw[<-h2,e1,h1] at fL;injection fL with fL
      injection fL with _ fL _
      cases fL
    have gY:wr.cell? ⟨g,k,none⟩=some (zc3 A.ts[k]):=((zA ow).cell (p:=⟨g,k,none⟩) xi (by simp;exact C8)).trans hc;have HM:=zC (zy6 wr w.heap.size e' A.ts[k] (xW t.ts k) (zA HB) (by have:=(zA yj).len;omega) (λ h1 h2=>Nat.lt_of_lt_of_le ((zA yj).room (zA Jy _ (List.getElem_mem aF) h1) h2) hV));have HS:=zC (z4g (e:=e') (ns:=t.ts) aF);have nu:(k:Int)<A.ts.length:=(by omega);have my:(1+k:Int)<5:=(by omega);clear hc EO
    cases hr:pmT e' A.ts[k] (xW t.ts k) with
    | none=>
     rw[hr] at HS HM;have HE:=zC (show zj7 e A.ts t.ts=none by rw[<-zA HF,zA HS]);go_upto_region 7 with (go_at_call 101;refine (zA HM).mono ?_;rintro en w1 ⟨aW,rfl,ax⟩;have BX:=zC aW;clear aW ax);have y3:w1.heap[w.heap.size+1+1+1]?=some (.cells (yQ []).toArray 135 (0,0)):=((zA BX).block _ (by have:=zA lV;have:=(zA ow).size;omega) (by simp;omega)).trans (zA O4);have HY:=zC y3;have Cz:=zC (show Below w.heap.size w w1 from ⟨(zA BX).os.trans (zA rR).os,(zA BX).tape.trans (zA rR).tape,(zA BX).output.trans (zA rR).output,Nat.le_trans (zA rR).size (zA BX).size,λ i hi=>((zA BX).block i (by have:=(zA rR).size;omega) (by simp;omega)).trans ((zA rR).block i hi)⟩);clear y3;go_wp2_with (first | (refine wpList_store_row rfl 135 _ _ rfl _ _ rfl rfl _ _ (zA HY) (by rw[zen];rfl) rfl (zca []) ?_) | fail);refine bodyPost_ret (v:=.tuple #[zav [],.bool false]) (zfp Tryz.results62 _ _ _ [] rfl (setRow_heap _ _ _ _ _ _ (zA HY))) rfl ?_;rw[zA HP,zA HE];exact⟨xN (zA Cz) (by omega) _,rfl⟩
    | some e2=>
     have Of:=zC ((zA yj).term (zA Jy _ (List.getElem_mem aF)) hr);rw[hr] at HS HM;have aC:=zC (show zj7 e2 (A.ts.drop (k+1)) (t.ts.drop (k+1))=zj7 e A.ts t.ts by rw[<-zA HF,zA HS]);go_wp2_with (go_at_call 101;refine (zA HM).mono ?_;rintro en w1 ⟨aW,rfl,ax⟩;have BX:=zC aW;have eA:=zC (ax e2 rfl);clear aW ax);go_roundg (A.ts.length-(k+1));exact⟨k+1,e2,by omega,rfl,by go_num,zA aC,zA eA,(zA ow).trans (zA BX),zA Of⟩;omega
   ·have HE:=zC (show zj7 e A.ts t.ts=some e' by rw[<-zA HF,List.drop_of_length_le (by omega)];rfl);have UC:=(zA HB).whole;have HW:=zC UC;clear UC EO;go_wp2_with (first | (refine wpList_load_row rfl 135 _ rfl _ rfl _ _ _ _ (zA HW) Tryz.underlying135 rfl (by rw[zen];rfl) ?_) | (refine wpList_store_row rfl 135 _ _ rfl _ _ rfl rfl _ _ (zA O4) (by rw[zen];rfl) rfl (zca _) ?_) | fail);refine bodyPost_ret (v:=.tuple #[zav e',.bool true]) (zfp Tryz.results62 _ _ _ e' rfl (setRow_heap _ _ _ _ _ _ (zA O4))) rfl ?_;rw[zA HP,zA HE];exact⟨xN (zA rR) (by omega) _,rfl⟩
end
section
open Go.RowKit
def bP (e:yR)(t:zdy):B8:=if t.1 then oj e t.2 else t.2
def xV (e:yR)(A:jZ):Th:=⟨A.p,A.ts.map (bP e)⟩
theorem z3u (L:List B8)(x:B8)(i:Nat):xW (L++[x]) i=if i=L.length then x else xW L i:=by
 unfold xW;rw[List.getElem?_append]
 split
 ·rename_i h;rw[if_neg (by omega)]
 ·rename_i h
  split
  ·rename_i h2;subst h2;simp
  ·rename_i h2;rw[List.getElem?_eq_none (by simp;omega),List.getElem?_eq_none (by omega)]
theorem zvc (p:B8)(L:List B8)(x:B8)(h:L.length<4):(zV ⟨p,L⟩).toArray.setIfInBounds (1+L.length) (.string x)=(zV ⟨p,L++[x]⟩).toArray:=by
 unfold zV;simp only[Th.p,Th.ts,z3u]
 match hl:L.length,h with
 | 0,_ | 1,_ | 2,_ | 3,_=>simp
theorem zh8:(Tryz.prog.info? 88).map (·.size)=some 5:=by kernel_rfl
theorem zez (t:Th):(zV t).toArray.all (·.oneCell')=true:=by simp[zV,Value.oneCell']
theorem zpe {wr:W8}{b:Nat}{p:B8}{L:List B8}(h:wr.heap[b]?=some (.cells (zV ⟨p,L⟩).toArray 88 (0,0)))(hl:L.length<4)(x:B8):(wr.setCell ⟨b,1+L.length,none⟩ (.string x)).heap[b]?=some (.cells (zV ⟨p,L++[x]⟩).toArray 88 (0,0)):=by
 rw[setCell_eq_setRow wr b _ _ _ (0,0) _ h,zvc p L x hl];exact setRow_heap _ _ _ _ _ _ h
def z59 (w:W8)(t:Th)(en:Ending)(w':W8):Prop:=Below w.heap.size w w'/\en=.returned (thV t)
theorem zmg (w:W8)(base:Nat)(e:yR)(A:jZ)(a:O8)(c:Nat)(h:w.ownsRow base 191 1 (.slice a A.ts.length c) A.ts.length (A.ts.map zc3))(h4:A.ts.length<=4)(hl:e.length<=12):
  Calls Tryz.prog 146 #[zav e,.agg #[.string A.p,.slice a A.ts.length c]] w (z59 w (xV e A)):=by
 obtain⟨cs,ij⟩:∃ cs,cs=(yQ e).toArray:=⟨_,rfl⟩;have DS:=zC ij;unfold zav;rw[<-ij];clear ij;have H:=zC h;clear h;have q0:cs.size=25:=by rw[zA DS];rfl
 have a1:=zkz;have a2:=zi1;have a3:=zky;go_enter Tryz.func146,Tryz.ntmps146;go_upto_region 2 with fail;generalize bC:World.alloc (World.alloc (World.alloc (World.alloc w _) _) _) _=w0;have k0:Below w.heap.size w w0:=by
  rw[<-bC];exact ((((Below.refl w.heap.size w).alloc L9 _).alloc (by simp) _).alloc (by simp only[World.size_alloc];omega) _).alloc (by simp only[World.size_alloc];omega) _
 have x0:w0.heap[w.heap.size]?=some (.cells cs 135 (0,0)):=by
  rw[<-bC,Below.heap_alloc _ _ _ (by simp only[World.size_alloc];omega),Below.heap_alloc _ _ _ (by simp only[World.size_alloc];omega),Below.heap_alloc _ _ _ (by simp)];exact heap_alloc_new w _
 have x1:w0.heap[w.heap.size+1]?=some (.cells #[.string A.p,.slice a A.ts.length c] 79 (0,0)):=by
  rw[<-bC,Below.heap_alloc _ _ _ (by simp only[World.size_alloc];omega),Below.heap_alloc _ _ _ (by simp)];have:=heap_alloc_new (w.alloc (.cells cs 135)) (.cells #[.string A.p,.slice a A.ts.length c] 79);rw[World.size_alloc] at this;exact this
 have x2:w0.heap[w.heap.size+1+1]?=some (.cells (zV ⟨{ data:=#[] },[]⟩).toArray 88 (0,0)):=by
  rw[<-bC,Below.heap_alloc _ _ _ (by simp)];have:=heap_alloc_new ((w.alloc (.cells cs 135)).alloc (.cells #[.string A.p,.slice a A.ts.length c] 79)) (.cells (zV ⟨{ data:=#[] },[]⟩).toArray 88);rw[World.size_alloc,World.size_alloc] at this;exact this
 have x3:w0.heap[w.heap.size+1+1+1]?=some (.cells (zV ⟨A.p,[]⟩).toArray 88 (0,0)):=by
  rw[<-bC];have:=heap_alloc_new (((w.alloc (.cells cs 135)).alloc (.cells #[.string A.p,.slice a A.ts.length c] 79)).alloc (.cells (zV ⟨{ data:=#[] },[]⟩).toArray 88)) (.cells (zV ⟨A.p,[]⟩).toArray 88);rw[World.size_alloc,World.size_alloc,World.size_alloc] at this;exact this
 have s0:w.heap.size+1+1+1+1=w0.heap.size:=by rw[<-bC];simp
 have b0:j0 w0 w.heap.size e:=j0.of (by rw[x0,zA DS]);have fu:=zZ (zA H) (λ g e=>k0.block g ((zA H).lt g e).2);have HG:=zC (λ g (e1:(Value.slice a A.ts.length c).ownBlock=some g)=>((zA H).lt g e1).2);clear bC H;have ou:=zC b0;have lV:=zC s0;have FA:=zC x3;have JD:=zC x2;have py:=zC fu;have dr:=zC k0;obtain⟨p1,-⟩:=zB x1 1;have yp:=zC x1;clear x0 x1 x2 x3 b0 fu k0 s0;go_wp2_with fail
 go_loopg [16] A.ts.length (λ gg i wr=>∃ (k:Nat) (L:List B8),k<=A.ts.length/\gg=A.ts.length-k/\i=.int .i64 k/\L=(A.ts.take k).map (bP e)/\wr.heap[w.heap.size+1+1+1]?=some (.cells (zV ⟨A.p,L⟩).toArray 88 (0,0))/\zK [w.heap.size+1+1+1] w0 wr)
 exact⟨0,[],Nat.zero_le _,rfl,rfl,rfl,zA FA,zK.refl _ _⟩
 case round=>
  obtain⟨k,L,hk,eD,rfl,hL,hx,dX⟩:=hrel;have hZ:L.length=k:=by rw[hL];simp;omega
  have EO:=zA lV;have rR:=zC (show Below w.heap.size w wr from ⟨dX.os.trans (zA dr).os,dX.tape.trans (zA dr).tape,dX.output.trans (zA dr).output,Nat.le_trans (zA dr).size dX.size,λ i hi=>(dX.block i (by omega) (by simp;omega)).trans ((zA dr).block i hi)⟩);have HX:=zC hx;have ow:=zC dX;have HL:=zC hL;have BY:=zC hZ
  by_cases aF:k<A.ts.length
  ·obtain⟨g,rfl,xi,bO,bQ,hc⟩:=zu9 (zA py) k aF;have jg:=zA HG g rfl;have gY:wr.cell? ⟨g,k,none⟩=some (zc3 A.ts[k]):=((zA ow).cell (p:=⟨g,k,none⟩) xi (by simp;omega)).trans hc;have uK:=zC ((zA ou).block (dX.block _ (by omega) (by simp;omega)));obtain⟨cd,Im⟩:=zB hx (1+k);replace cd:wr.cell? ⟨w.heap.size+1+1+1,1+k,none⟩=some (.string (xW L k)):=by
    rw[cd,List.getElem?_toArray];exact zdg ⟨A.p,L⟩ (by omega)
   have nu:(k:Int)<A.ts.length:=(by omega);have my:(1+k:Int)<5:=(by omega);have dB:=zC (show (A.ts.take (k+1)).map (bP e)=L++[bP e A.ts[k]] by rw[List.take_succ_eq_append_getElem aF,List.map_append,zA HL];rfl);clear hc EO hx dX hL hZ
   cases hv:A.ts[k].1 with
   | false=>
    have HF:=zC (show bP e A.ts[k]=A.ts[k].2 by unfold bP;rw[hv];rfl);have nS:wr.cell? ⟨g,k,none⟩=some (.iface 193 (.string A.ts[k].2)):=(by rw[gY];unfold zc3;rw[hv];rfl);clear gY;go_wp2_with fail;go_roundg (A.ts.length-(k+1))
    case measure=>omega
    case rel=>
     have:=zpe (zA HX) (by rw[zA BY];omega) A.ts[k].2;rw[zA BY] at this;exact⟨k+1,L++[A.ts[k].2],by omega,rfl,by go_num,by rw[zA dB,zA HF],this,(zA ow).setCell (by simp) _⟩
   | true=>
    have HF:=zC (show bP e A.ts[k]=oj e A.ts[k].2 by unfold bP;rw[hv];rfl);have nS:wr.cell? ⟨g,k,none⟩=some (.iface 130 (.string A.ts[k].2)):=(by rw[gY];unfold zc3;rw[hv];rfl);have HN:=zC (zsk wr w.heap.size e A.ts[k].2 (zA uK).cells hl);clear gY;go_wp2_with (go_at_call 201;refine (zA HN).mono ?_;rintro en w1 ⟨rfl,dY⟩;subst dY);go_roundg (A.ts.length-(k+1))
    case measure=>omega
    case rel=>
     have:=zpe (zA HX) (by rw[zA BY];omega) (oj e A.ts[k].2);rw[zA BY] at this;exact⟨k+1,L++[oj e A.ts[k].2],by omega,rfl,by go_num,by rw[zA dB,zA HF],this,(zA ow).setCell (by simp) _⟩
  ·have HE:=zC (show (⟨A.p,L⟩:Th)=xV e A by unfold xV;rw[hL,List.take_of_length_le (by omega)]);have yq:=zC ((dX.block (w.heap.size+1+1) (by omega) (by simp)).trans (zA JD));clear EO hx dX hL hZ;go_wp2_with (first | (refine wpList_load_row rfl 88 _ rfl _ rfl _ _ _ _ (zA HX) Tryz.underlying88 rfl (by rw[zh8];rfl) ?_) | (refine wpList_store_row rfl 88 _ _ rfl _ _ rfl rfl _ _ (zA yq) (by rw[zh8];rfl) rfl (zez _) ?_) | fail);refine bodyPost_ret (v:=thV ⟨A.p,L⟩) (results_cell_row Tryz.results146 _ _ _ _ _ _ _ rfl (setRow_heap _ _ _ _ _ _ (zA yq)) Tryz.underlying88 rfl (by rw[zh8];rfl)) rfl ?_;exact⟨xN (zA rR) (by omega) _,by rw[zA HE]⟩
end
section
open Go.RowKit
structure qH (No:Nat->Prop)(w w':W8):Prop where
 os:w'.os=w.os
 tape:w'.tape=w.tape
 output:w'.output=w.output
 size:w.heap.size<=w'.heap.size
 same:∀ (k:Nat) (o:Obj),w.heap[k]?=some o->¬ No k->(o.isCells=true\/o.isWalk=true)->w'.heap[k]?=some o
theorem qH.refl (No:Nat->Prop)(w:W8):qH No w w:=⟨rfl,rfl,rfl,Nat.le_refl _,λ _ _ h _ _=>h⟩
theorem qH.trans {No:Nat->Prop}{a b c:W8}(h:qH No a b)(k:qH No b c):qH No a c:=
 ⟨k.os.trans h.os,k.tape.trans h.tape,k.output.trans h.output,Nat.le_trans h.size k.size,λ i o hi hn ho=>k.same i o (h.same i o hi hn ho) hn ho⟩
variable {w w':W8} {No:Nat->Prop}
theorem qH.ak (k:Below w.heap.size w w'):qH No w w':=
 ⟨k.os,k.tape,k.output,k.size,λ i _ hi _ _=>(k.block i (Array.getElem?_eq_some_iff.1 hi).1).trans hi⟩
theorem qH.grown {a:W8}{row:Option Nat}(h:qH No a w)(hg:w.grownBy w' row)(hr:∀ r,row=some r->a.heap.size<=r\/No r):qH No a w':=
 ⟨hg.os.trans h.os,hg.tape.trans h.tape,hg.output.trans h.output,Nat.le_trans h.size hg.size,λ i o hi hn ho=>by
  have h1:=h.same i o hi hn ho;refine (hg.block i (Array.getElem?_eq_some_iff.1 h1).1 λ e=>?_).trans h1;rcases hr i e.symm with h2 | h2
  ·have:=(Array.getElem?_eq_some_iff.1 hi).1;omega
  ·exact hn h2⟩
theorem qH.alloc {a:W8}(h:qH No a w)(o:Obj):qH No a (w.alloc o):=h.grown (World.grownBy_alloc w o none) (λ _ e=>by cases e)
variable {b:Nat}
theorem qH.cells (h:qH No w w'){cs:Array Value}{t:TypeId}{fr:Nat × Nat}(hb:w.heap[b]?=some (.cells cs t fr))(hn:¬ No b):w'.heap[b]?=some (.cells cs t fr):=h.same b _ hb hn (.inl rfl)
theorem qH.map (h:qH No w w'){L:List (Th × Nat)}(hb:qR w b L)(hn:¬ No b):qR w' b L:=by
 obtain⟨es,c,h1⟩:=hb.isMap;exact hb.block ((h.same b _ h1 hn (.inr rfl)).trans h1.symm)
variable {v:Value}
theorem qH.row (h:qH No w w'){base:Nat}{e:TypeId}{size n:Nat}{xs:V8}(hr:w.ownsRow base e size v n xs)(hn:∀ g,v.ownBlock=some g->¬ No g):w'.ownsRow base e size v n xs:=by
 refine zZ hr λ g hg=>?_
 rcases hr.2 with⟨h0,_⟩ | ⟨g',cap,cur,rfl,hb,nE,_⟩
 ·rw[h0] at hg;cases hg
 ·have e:g'=g:=by simpa[Value.ownBlock] using hg
  subst e;exact (h.same _ _ nE (hn _ hg) (.inl rfl)).trans nE.symm
def zk1 (x:jZ × Value):V8:=[.string x.1.p,x.2]
structure j1 (No:Nat->Prop)(w:W8)(v:Value)(As:List (jZ × Value)):Prop where
 row:∃ base,w.ownsRow base 79 2 v As.length (As.flatMap zk1)
 ae:∀ x∈As,∃ base,w.ownsRow base 191 1 x.2 x.1.ts.length (x.1.ts.map zc3)
 ap:∀ g,v.ownBlock=some g->¬ No g
 O7:∀ x∈As,∀ g,x.2.ownBlock=some g->¬ No g
 eJ:∀ x∈As,x.1.ts.length<=4
theorem j1.kZ {As:List (jZ × Value)}(h:j1 No w v As)(k:qH No w w'):j1 No w' v As:=
 ⟨let ⟨b,hb⟩:=h.row;⟨b,k.row hb h.ap⟩,λ x hx=>let ⟨b,hb⟩:=h.ae x hx;⟨b,k.row hb (h.O7 x hx)⟩,h.ap,h.O7,h.eJ⟩
structure Hj (No:Nat->Prop)(w:W8)(sb mb l:Nat)(pos neg:List (jZ × Value))(pv nv:Value)(K:List (Th × Nat)):Prop where
 s:w.heap[sb]?=some (.cells #[pv,nv,.map (some mb),.func (.yield l) #[] #[]] 361 (0,0))
 ns:¬ No sb
 p:j1 No w pv pos
 n:j1 No w nv neg
 m:qR w mb K
 nm:¬ No mb
 p3:pos.length<=3
theorem Hj.kZ {No:Nat->Prop}{w w':W8}{sb mb l:Nat}{pos neg:List (jZ × Value)}{pv nv:Value}{K:List (Th × Nat)}(h:Hj No w sb mb l pos neg pv nv K)(k:qH No w w'):Hj No w' sb mb l pos neg pv nv K:=
 ⟨k.cells h.s h.ns,h.ns,h.p.kZ k,h.n.kZ k,k.map h.m h.nm,h.nm,h.p3⟩
def j6 (K:List (Th × Nat))(neg:List jZ)(e:yR):Bool:=neg.any λ x=>(yS K (xV e x)).isSome
def yD (K:List (Th × Nat)):List jZ->yR->List yR
 | [],e=>[e]
 | a::r,e=>K.flatMap λ t=>match xG e a t.1 with
  | some e'=>yD K r e'
  | none=>[]
def zbe (K:List (Th × Nat))(neg pos:List jZ)(e:yR):List yR:=(yD K pos e).filter λ x=>!j6 K neg x
end
section
open Go.RowKit
def BV (w:W8)(b:Nat)(e:yR):Prop:=w.heap[b]?=some (.cells (yQ e).toArray 135 (0,0))
noncomputable def ztv (v:Value):Sem Value:=Instr.loadAt 135 v
noncomputable def zvq (p v:Value):Sem Unit:=Instr.storeAt 135 p v
noncomputable def yaq:Sem Value:=zeroValue 135
theorem zcf (v:Value):Instr.loadAt 135 v=ztv v:=rfl
theorem zba (p v:Value):Instr.storeAt 135 p v=zvq p v:=rfl
theorem zxf:zeroValue 135=yaq:=rfl
theorem zsv (w:W8):yaq.run Tryz.prog w=.ok (zav []) w:=by unfold yaq;kernel_rfl
theorem j2 (e:yR):(zav e).cells=(yQ e).toArray:=rfl
variable {e:yR} {b:Nat} {w:W8}
theorem BV.load (h:BV w b e):(ztv (.pointer (some ⟨b,0,none⟩))).run Tryz.prog w=.ok (zav e) w:=by
 unfold ztv Instr.loadAt Instr.sureAddr;simp only[Sem.run_bind,Sem.run_pure,Result.andThen_ok];exact run_loadVar_row w b _ 135 _ _ _ h Tryz.underlying135 rfl (by rw[zen];rfl)
theorem BV.store (h:BV w b e)(e':yR):(zvq (.pointer (some ⟨b,0,none⟩)) (zav e')).run Tryz.prog w=.ok () (w.setRow b (yQ e').toArray):=by
 unfold zvq Instr.storeAt Instr.sureAddr;simp only[Sem.run_bind,Sem.run_pure,Result.andThen_ok];exact run_storeVar_row w b _ 135 _ _ h (by rw[zen];rfl) rfl (zca e')
theorem BV.new (w:W8)(e:yR):BV (w.alloc (.cells (yQ e).toArray 135)) w.heap.size e:=heap_alloc_new w _
theorem qS (w:W8)(e e':yR):(zvq (.pointer (some ⟨w.heap.size,0,none⟩)) (zav e')).run Tryz.prog (w.alloc (.cells (yQ e).toArray 135))=.ok () (w.alloc (.cells (yQ e').toArray 135)):=by
 rw[(BV.new w e).store e',World.setRow_alloc_new]
theorem BV.lt (h:BV w b e):b<w.heap.size:=(Array.getElem?_eq_some_iff.1 h).1
theorem BV.alloc (h:BV w b e)(o:Obj):BV (w.alloc o) b e:=(Below.heap_alloc w o b h.lt).trans h
variable {w':W8}
theorem BV.below (h:BV w b e)(k:Below w.heap.size w w'):BV w' b e:=(k.block b h.lt).trans h
theorem z0e:BV w.drew b e↔BV w b e:=Iff.rfl
theorem BV.kZ {No:Nat->Prop}(h:BV w b e)(k:qH No w w')(hn:¬ No b):BV w' b e:=k.cells h hn
def TV (w:W8)(b:Nat)(t:Th):Prop:=w.heap[b]?=some (.cells (zV t).toArray 88 (0,0))
noncomputable def zmx (v:Value):Sem Value:=Instr.loadAt 88 v
noncomputable def zs3 (p v:Value):Sem Unit:=Instr.storeAt 88 p v
noncomputable def ydx:Sem Value:=zeroValue 88
theorem zbb (v:Value):Instr.loadAt 88 v=zmx v:=rfl
theorem qQ (p v:Value):Instr.storeAt 88 p v=zs3 p v:=rfl
theorem z4w (w:W8):ydx.run Tryz.prog w=.ok (thV ({ data:=#[] },[])) w:=by unfold ydx;kernel_rfl
theorem qO (t:Th):(thV t).cells=(zV t).toArray:=rfl
variable {t:Th}
theorem TV.load (h:TV w b t):(zmx (.pointer (some ⟨b,0,none⟩))).run Tryz.prog w=.ok (thV t) w:=by
 unfold zmx Instr.loadAt Instr.sureAddr;simp only[Sem.run_bind,Sem.run_pure,Result.andThen_ok];exact run_loadVar_row w b _ 88 _ _ _ h Tryz.underlying88 rfl (by rw[zh8];rfl)
theorem TV.store (h:TV w b t)(t':Th):(zs3 (.pointer (some ⟨b,0,none⟩)) (thV t')).run Tryz.prog w=.ok () (w.setRow b (zV t').toArray):=by
 unfold zs3 Instr.storeAt Instr.sureAddr;simp only[Sem.run_bind,Sem.run_pure,Result.andThen_ok];exact run_storeVar_row w b _ 88 _ _ h (by rw[zh8];rfl) rfl (zez t')
theorem TV.new (w:W8)(t:Th):TV (w.alloc (.cells (zV t).toArray 88)) w.heap.size t:=heap_alloc_new w _
theorem jY (w:W8)(t t':Th):(zs3 (.pointer (some ⟨w.heap.size,0,none⟩)) (thV t')).run Tryz.prog (w.alloc (.cells (zV t).toArray 88))=.ok () (w.alloc (.cells (zV t').toArray 88)):=by
 rw[(TV.new w t).store t',World.setRow_alloc_new]
theorem TV.lt (h:TV w b t):b<w.heap.size:=(Array.getElem?_eq_some_iff.1 h).1
theorem TV.alloc (h:TV w b t)(o:Obj):TV (w.alloc o) b t:=(Below.heap_alloc w o b h.lt).trans h
theorem TV.below (h:TV w b t)(k:Below w.heap.size w w'):TV w' b t:=(k.block b h.lt).trans h
noncomputable def z49 (h:Bool)(v:Value):Sem Value:=Instr.alloc 88 h v
theorem qP (h:Bool)(v:Value):Instr.alloc 88 h v=z49 h v:=rfl
theorem jX (w:W8)(v:Value):(z49 true v).run Tryz.prog w=.ok (.pointer (some ⟨w.heap.size,0,none⟩)) (w.alloc (.cells (zV ({ data:=#[] },[])).toArray 88)):=by
 unfold z49;simp[Instr.alloc,newVar,newRow,go_sem,zV,xW,Th.p,Th.ts]
noncomputable def z1e (h:Bool)(v:Value):Sem Value:=Instr.alloc 135 h v
theorem zc1 (h:Bool)(v:Value):Instr.alloc 135 h v=z1e h v:=rfl
theorem zbo (w:W8)(v:Value):(z1e true v).run Tryz.prog w=.ok (.pointer (some ⟨w.heap.size,0,none⟩)) (w.alloc (.cells (yQ []).toArray 135)):=by
 unfold z1e;simp[Instr.alloc,newVar,newRow,go_sem,yQ,eAt]
theorem zf3 {w1 w4:W8}(h:Below w.heap.size w w1)(h4:Below w1.drew.heap.size w1.drew w4):Below w.heap.size w w4:=h.trans ((⟨h4.os,h4.tape,h4.output,h4.size,h4.block⟩:Below w1.heap.size w1 w4).mono h.size)
theorem yA (h:Below w.drew.heap.size w.drew w'):Below w.heap.size w w':=⟨h.os,h.tape,h.output,h.size,h.block⟩
end
section
def zes:List Nat->List Nat->Bool
 | [],[]=>false
 | [],_::_=>true
 | _::_,[]=>false
 | a::x,b::y=>if a<b then true else if b<a then false else zes x y
theorem zkh:∀ x:List Nat,zes x x=false
 | []=>rfl
 | a::x=>by rw[zes,if_neg (Nat.lt_irrefl a),if_neg (Nat.lt_irrefl a)];exact zkh x
theorem zi7:∀ {x y z:List Nat},zes x y=true->zes y z=true->zes x z=true
 | [],[],_,h,_=>by cases h
 | [],_::_,[],_,h=>by cases h
 | [],_::_,_::_,_,_=>rfl
 | _::_,[],_,h,_=>by cases h
 | _::_,_::_,[],_,h=>by cases h
 | a::x,b::y,c::z,h,k=>by
  rw[zes] at h k ⊢
  by_cases h1:a<b
  ·by_cases h2:b<c
   ·rw[if_pos (by omega)]
   ·rw[if_neg h2] at k
    by_cases h3:c<b
    ·rw[if_pos h3] at k;cases k
    ·rw[if_pos (by omega)]
  ·rw[if_neg h1] at h
   by_cases h4:b<a
   ·rw[if_pos h4] at h;cases h
   ·rw[if_neg h4] at h;have:a=b:=by omega
    subst this
    by_cases h2:a<c
    ·rw[if_pos h2]
    ·rw[if_neg h2] at k ⊢
     by_cases h3:c<a
     ·rw[if_pos h3] at k;cases k
     ·rw[if_neg h3] at k ⊢;exact zi7 h k
theorem z24:∀ {x y:List Nat},zes x y=false->zes y x=false->x=y
 | [],[],_,_=>rfl
 | [],_::_,h,_=>by cases h
 | _::_,[],_,h=>by cases h
 | a::x,b::y,h,k=>by
  rw[zes] at h k
  by_cases h1:a<b
  ·rw[if_pos h1] at h;cases h
  ·by_cases h2:b<a
   ·rw[if_pos h2] at k;cases k
   ·rw[if_neg h1,if_neg h2] at h;rw[if_neg h2,if_neg h1] at k;rw[z24 h k,show a=b by omega]
theorem zwd:∀ {x y:List Nat} (u v:List Nat),x.length=y.length->zes x y=true->zes (x++u) (y++v)=true
 | [],[],_,_,_,h=>by cases h
 | [],_::_,_,_,hl,_=>by cases hl
 | _::_,[],_,_,hl,_=>by cases hl
 | a::x,b::y,u,v,hl,h=>by
  rw[zes] at h;rw[List.cons_append,List.cons_append,zes]
  by_cases h1:a<b
  ·rw[if_pos h1]
  ·rw[if_neg h1] at h ⊢
   by_cases h2:b<a
   ·rw[if_pos h2] at h;cases h
   ·rw[if_neg h2] at h ⊢;exact zwd u v (by simpa using hl) h
theorem zrr:∀ (x:List Nat) {i j:Nat},i<j->zes (x++[i]) (x++[j])=true
 | [],i,j,h=>by simp[zes,h]
 | a::x,i,j,h=>by
  rw[List.cons_append,List.cons_append,zes,if_neg (Nat.lt_irrefl a),if_neg (Nat.lt_irrefl a)];exact zrr x h
def znz (x y:Nat):Int:=if x<y then -1 else if y<x then 1 else 0
def zpk:List Nat->List Nat->Int
 | [],[]=>0
 | [],_::_=>-1
 | _::_,[]=>1
 | a::x,b::y=>if znz a b=0 then zpk x y else znz a b
theorem zwe:∀ x y:List Nat,zpk x y<0↔zes x y=true
 | [],[]=>by simp[zpk,zes]
 | [],_::_=>by simp[zpk,zes]
 | _::_,[]=>by simp[zpk,zes]
 | a::x,b::y=>by
  have ih:=zwe x y;rw[zpk,zes];unfold znz
  by_cases h1:a<b
  ·simp[h1]
  ·by_cases h2:b<a
   ·simp[h1,h2]
   ·simp only[if_neg h1,if_neg h2,if_true];exact ih
end
section
open Go.RowKit
def ew (l:List Nat):V8:=l.map λ (x:Nat)=>Value.int .i64 x
theorem z3v {w:W8}{base:Nat}{a:O8}{c:Nat}{xs:List Nat}(h:w.ownsRow base 3 1 (.slice a xs.length c) xs.length (ew xs))(k:Nat)(hk:k<xs.length):∃ g,a=some ⟨g,0,none⟩/\g<w.heap.size/\xs.length<=c/\c<=maxLen/\w.cell? ⟨g,k,none⟩=some (.int .i64 xs[k]):=by
 rcases h.2 with⟨_,h0⟩ | ⟨g,cap,cur,hv,hb,hg,bO,bQ,ij,ht⟩
 ·omega
 ·injection hv with h1 h2 h3
  subst h1 h3;refine⟨g,rfl,(Array.getElem?_eq_some_iff.1 hg).1,bO,bQ,?_⟩;rw[h.cellAt k (by omega)];unfold ew;rw[List.getElem?_map,List.getElem?_eq_getElem hk];rfl
theorem zyn (x:Int)(w:W8):Calls Tryz.prog 216 #[.int .i64 x] w λ e w'=>e=.returned (.bool false)/\w'=w:=by
 go_enter Tryz.func216,Tryz.ntmps216;go_wp2_with fail;go_ret;exact⟨by simp,rfl⟩
theorem zjo (x y:Nat)(w:W8):Calls Tryz.prog 161 #[.int .i64 x,.int .i64 y] w λ e w'=>e=.returned (.int .i64 (znz x y))/\w'=w:=by
 have hn:=zyn
 by_cases h1:x<y
 ·have HC:=zC (show znz x y=-1 by unfold znz;rw[if_pos h1]);have hi:(x:Int)<y:=by omega
  clear h1;go_enter Tryz.func161,Tryz.ntmps161;go_wp2_with (go_at_call 216;refine (hn _ _).mono ?_;rintro e w' ⟨rfl,rfl⟩);go_ret;exact⟨by rw[zA HC];rfl,rfl⟩
 ·by_cases h2:y<x
  ·have HC:=zC (show znz x y=1 by unfold znz;rw[if_neg h1,if_pos h2]);have hi:¬ (x:Int)<y:=(by omega);have hj:(y:Int)<x:=(by omega);clear h1 h2;go_enter Tryz.func161,Tryz.ntmps161;go_wp2_with (go_at_call 216;refine (hn _ _).mono ?_;rintro e w' ⟨rfl,rfl⟩);go_ret;exact⟨by rw[zA HC];rfl,rfl⟩
  ·have HC:=zC (show znz x y=0 by unfold znz;rw[if_neg h1,if_neg h2]);have hi:¬ (x:Int)<y:=(by omega);have hj:¬ (y:Int)<x:=(by omega);clear h1 h2;go_enter Tryz.func161,Tryz.ntmps161;go_wp2_with (go_at_call 216;refine (hn _ _).mono ?_;rintro e w' ⟨rfl,rfl⟩);go_ret;exact⟨by rw[zA HC];rfl,rfl⟩
theorem z25 {x y:List Nat}{k:Nat}(hx:k<x.length)(hy:k<y.length):zpk (x.drop k) (y.drop k)=if znz x[k] y[k]=0 then zpk (x.drop (k+1)) (y.drop (k+1)) else znz x[k] y[k]:=by
 rw[List.drop_eq_getElem_cons hx,List.drop_eq_getElem_cons hy,zpk]
theorem zrb (w:W8)(base base':Nat)(a b:O8)(c d:Nat)(x y:List Nat)(hx:w.ownsRow base 3 1 (.slice a x.length c) x.length (ew x))(hy:w.ownsRow base' 3 1 (.slice b y.length d) y.length (ew y)):
  Calls Tryz.prog 166 #[.slice a x.length c,.slice b y.length d] w λ e w'=>e=.returned (.int .i64 (zpk x y))/\w'=w:=by
 have HX:=zC hx;have HY:=zC hy;have m1:=yU hx;have m2:=yU hy;unfold maxLen at m1 m2;clear hx hy;go_enter Tryz.func166,Tryz.ntmps166;go_wp2_with fail
 go_loop [11] (λ i=>∃ k:Nat,k<=x.length/\k<=y.length/\i=.int .i64 k/\zpk (x.drop k) (y.drop k)=zpk x y) (λ i=>x.length-(intOf i).toNat)
 exact⟨0,Nat.zero_le _,Nat.zero_le _,rfl,rfl⟩
 case round=>
  obtain⟨k,hk,bn,rfl,aE⟩:=hrel;have HF:=zC aE;clear aE
  by_cases aF:k<x.length
  ·obtain⟨g,rfl,xi,bO,bQ,hc⟩:=z3v (zA HX) k aF;have nu:(k:Int)<x.length:=by omega
   by_cases lh:k<y.length
   ·obtain⟨g2,rfl,fL,K7,Kw,nS⟩:=z3v (zA HY) k lh;have P7:(k:Int)<y.length:=(by omega);have HS:=zC (z25 aF lh);have HC:=zC (λ w=>zjo x[k] y[k] w);generalize x[k]=xk at *;generalize y[k]=yk at *
    by_cases h0:znz xk yk=0
    ·have HE:=zC (show zpk (x.drop (k+1)) (y.drop (k+1))=zpk x y by rw[<-zA HF,zA HS,if_pos h0]);rw[h0] at HC;clear h0;go_wp2_with (go_at_call 161;refine (zA HC _).mono ?_;rintro e w' ⟨rfl,rfl⟩)
     go_round
     case rel=>exact⟨k+1,by omega,by omega,by go_num,zA HE⟩
     case measure=>simp[intOf];omega
    ·have HE:=zC (show zpk x y=znz xk yk by rw[<-zA HF,zA HS,if_neg h0]);generalize znz xk yk=r at *;go_wp2_with (go_at_call 161;refine (zA HC _).mono ?_;rintro e w' ⟨rfl,rfl⟩);go_ret;exact⟨by rw[zA HE];rfl,rfl⟩
   ·have P7:¬ (k:Int)<y.length:=(by omega);have hle:(y.length:Int)<=k:=(by omega);have HE:=zC (show zpk x y=1 by rw[<-zA HF,List.drop_eq_getElem_cons aF,List.drop_of_length_le (l:=y) (by omega)];rfl);go_wp2_with fail;go_ret;exact⟨by rw[zA HE];rfl,rfl⟩
  ·have nu:¬ (k:Int)<x.length:=by omega
   by_cases lh:x.length<y.length
   ·have kP:(x.length:Int)<y.length:=(by omega);have HE:=zC (show zpk x y=-1 by rw[<-zA HF,List.drop_of_length_le (l:=x) (by omega),List.drop_eq_getElem_cons (l:=y) (by omega)];rfl);go_wp2_with fail;go_ret;exact⟨by rw[zA HE];rfl,rfl⟩
   ·have kP:¬ (x.length:Int)<y.length:=(by omega);have HE:=zC (show zpk x y=0 by rw[<-zA HF,List.drop_of_length_le (l:=x) (by omega),List.drop_of_length_le (l:=y) (by omega)];rfl);go_wp2_with fail;go_ret;exact⟨by rw[zA HE];rfl,rfl⟩
def orC (a b c:Int):Int:=if a≠0 then a else if b≠0 then b else c
theorem ybr (w:W8)(g:Nat)(a b c:Int)(h:w.heap[g]?=some (.cells #[.int .i64 a,.int .i64 b,.int .i64 c] 3 (0,0))):
  Calls Tryz.prog 160 #[.slice (some ⟨g,0,none⟩) 3 3] w λ e w'=>e=.returned (.int .i64 (orC a b c))/\w'=w:=by
 have c0:=(zB h 0).1;have c1:=(zB h 1).1;have c2:=(zB h 2).1;simp only[List.getElem?_toArray,List.getElem?_cons_zero,List.getElem?_cons_succ] at c0 c1 c2;have hg:=(Array.getElem?_eq_some_iff.1 h).1;clear h;go_enter Tryz.func160,Tryz.ntmps160;go_wp2_with fail
 go_loop [8] (λ i=>∃ k:Nat,k<=3/\i=.int .i64 k/\(0<k->a=0)/\(1<k->b=0)/\(2<k->c=0)) (λ i=>3-(intOf i).toNat)
 exact⟨0,by omega,rfl,by omega,by omega,by omega⟩
 case round=>
  obtain⟨k,hk,rfl,h0,h1,h2⟩:=hrel
  match k,hk with
  | 0,_=>
   clear h0 h1 h2
   by_cases ha:a=0
   ·go_wp2_with fail
    go_round
    case rel=>exact⟨1,by omega,by go_num,λ _=>ha,by omega,by omega⟩
    case measure=>simp[intOf]
   ·have HE:=zC (show orC a b c=a by unfold orC;rw[if_pos ha]);go_wp2_with fail;go_ret;exact⟨by rw[zA HE];rfl,rfl⟩
  | 1,_=>
   have ha:=h0 (by omega);have HA:=zC ha;clear h0 h1 h2 ha
   by_cases hb:b=0
   ·go_wp2_with fail
    go_round
    case rel=>exact⟨2,by omega,by go_num,λ _=>zA HA,λ _=>hb,by omega⟩
    case measure=>simp[intOf]
   ·have HE:=zC (show orC a b c=b by unfold orC;rw[if_neg (by simp[zA HA]),if_pos hb]);go_wp2_with fail;go_ret;exact⟨by rw[zA HE];rfl,rfl⟩
  | 2,_=>
   have HA:=zC (h0 (by omega));have HB:=zC (h1 (by omega));clear h0 h1 h2
   by_cases hc:c=0
   ·go_wp2_with fail
    go_round
    case rel=>exact⟨3,by omega,by go_num,λ _=>zA HA,λ _=>zA HB,λ _=>hc⟩
    case measure=>simp[intOf]
   ·have HE:=zC (show orC a b c=c by unfold orC;rw[if_neg (by simp[zA HA]),if_neg (by simp[zA HB])]);go_wp2_with fail;go_ret;exact⟨by rw[zA HE];rfl,rfl⟩
  | 3,_=>
   have HE:=zC (show orC a b c=0 by unfold orC;rw[if_neg (by simp[h0]),if_neg (by simp[h1])];exact h2 (by omega));clear h0 h1 h2;go_wp2_with fail;go_ret;exact⟨by rw[zA HE];rfl,rfl⟩
end
section
open Go.RowKit
def zcp (n:Nat)(f:Nat->Value):Array Value:=((List.range n).map f).toArray
theorem qL (n:Nat)(f:Nat->Value):(zcp n f).size=n:=by simp[zcp]
variable {i n:Nat} {f:Nat->Value}
theorem zd4 (h:i<n):(zcp n f)[i]?=some (f i):=by
 simp[zcp,h]
theorem zlv (n:Nat)(z:Value):madeCells #[z] n=zcp n (λ _=>z):=by
 apply Array.ext_getElem?;intro i
 by_cases h:i<n
 ·rw[NV z n i h,zd4 h]
 ·rw[Array.getElem?_eq_none (by simp[madeCells];omega),Array.getElem?_eq_none (by rw[qL];omega)]
variable {v:Value}
theorem zyd:(zcp n f).setIfInBounds i v=zcp n (λ j=>if j=i then v else f j):=by
 apply Array.ext_getElem?;intro j;rw[Array.getElem?_setIfInBounds]
 by_cases h:j<n
 ·rw[zd4 h,zd4 h]
  split
  ·rename_i e;subst e;rw[if_pos (by rw[qL];exact h),if_pos rfl]
  ·rename_i e;rw[if_neg (λ e'=>e e'.symm)]
 ·rw[Array.getElem?_eq_none (xs:=zcp n f) (by rw[qL];omega),Array.getElem?_eq_none (by rw[qL];omega)]
  split
  ·rename_i e;subst e;rw[if_neg (by rw[qL];exact h)]
  ·rfl
variable {g:Nat->Value}
theorem z17 (h:∀ i,i<n->f i=g i):zcp n f=zcp n g:=by
 unfold zcp;rw[List.map_congr_left λ i hi=>h i (List.mem_range.1 hi)]
def fj (w:W8)(b:Nat)(T:TypeId)(n:Nat)(f:Nat->Value):Prop:=w.heap[b]?=some (.cells (zcp n f) T (0,0))
theorem fj.start (w:W8)(T:TypeId)(n:Nat)(z:Value):fj (w.alloc (.cells (madeCells #[z] n) T)) w.heap.size T n (λ _=>z):=by
 unfold fj;rw[<-zlv];exact heap_alloc_new w _
variable {T:TypeId} {b:Nat} {w:W8}
theorem fj.set (h:fj w b T n f)(i:Nat)(v:Value):fj (w.setCell ⟨b,i,none⟩ v) b T n (λ j=>if j=i then v else f j):=by
 unfold fj;rw[setCell_eq_setRow w b i _ T (0,0) v h,<-zyd];exact setRow_heap _ _ _ _ _ _ h
theorem fj.cell (h:fj w b T n f)(hi:i<n):w.cell? ⟨b,i,none⟩=some (f i):=by
 rw[(zB h i).1,zd4 hi]
theorem fj.fz (h:fj w b T n f)(i:Nat):w.frozen? ⟨b,i,none⟩=false:=(zB h i).2
theorem fj.lt (h:fj w b T n f):b<w.heap.size:=(Array.getElem?_eq_some_iff.1 h).1
theorem fj.eq (h:fj w b T n f)(e:∀ i,i<n->f i=g i):fj w b T n g:=by
 unfold fj at h ⊢;rw[h,z17 e]
variable {w':W8}
theorem fj.block (h:fj w b T n f)(e:w'.heap[b]?=w.heap[b]?):fj w' b T n f:=e.trans h
theorem fj.below (h:fj w b T n f)(k:Below w.heap.size w w'):fj w' b T n f:=(k.block b h.lt).trans h
theorem fj.ew {w:W8}{b n:Nat}{g:Nat->Nat}(h:fj w b 3 n (λ i=>.int .i64 (g i:Nat)))(hn:n<=maxLen){base:Nat}(hb:base<=b):w.ownsRow base 3 1 (.slice (some ⟨b,0,none⟩) n n) n (ew ((List.range n).map g)):=by
 refine⟨by simp[Go.Proofs.YtldkpahaocjdpaaGreat.ew],.inr ⟨b,n,_,rfl,hb,h,Nat.le_refl _,hn,by rw[qL];omega,?_⟩⟩;simp only[zcp,Go.Proofs.YtldkpahaocjdpaaGreat.ew,List.map_map,Nat.mul_one];rw[List.take_of_length_le (by simp)];rfl
variable {row:Option Nat} {A B:W8}
theorem zk5 {cs:Array Value}{t:TypeId}{fr:Nat × Nat}(h:A.heap[b]?=some (.cells cs t fr))(hg:A.grownBy B row)(hr:∀ i,row=some i->∃ o:Obj,A.heap[i]?=some o/\o.isCells=false):B.heap[b]?=some (.cells cs t fr):=
 (hg.block b (Array.getElem?_eq_some_iff.1 h).1 (λ e=>by obtain⟨o,ho,hc⟩:=hr b e.symm;rw[h] at ho;cases ho;cases hc)).trans h
theorem zsd {base:Nat}{e:TypeId}{size:Nat}{xs:V8}(h:A.ownsRow base e size v n xs)(hg:A.grownBy B row)(hr:∀ i,row=some i->∃ o:Obj,A.heap[i]?=some o/\o.isCells=false):B.ownsRow base e size v n xs:=by
 refine zZ h λ g nE=>?_
 rcases h.2 with⟨h0,_⟩ | ⟨g',cap,cur,rfl,hb,bS,_⟩
 ·rw[h0] at nE;cases nE
 ·have e:g'=g:=by simpa[Value.ownBlock] using nE
  subst e;rw[zk5 bS hg hr,bS]
theorem qH.setCell {No:Nat->Prop}{a:W8}(h:qH No a w){j:Nat}(hb:a.heap.size<=b\/No b)(v:Value):qH No a (w.setCell ⟨b,j,none⟩ v):=
 ⟨h.os,h.tape,h.output,by simpa using h.size,λ i o hi hn ho=>by
  have h1:=h.same i o hi hn ho;have bF:i≠b:=λ e=>by
   subst e;rcases hb with hb | hb
   ·have:=(Array.getElem?_eq_some_iff.1 hi).1;omega
   ·exact hn hb
  rw[Below.heap_setCell _ _ _ _ (by simpa using bF)]
  exact h1⟩
end
end Go.Proofs.YtldkpahaocjdpaaGreat
