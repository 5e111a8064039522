/-
  Match: an atom is held against a thing.
-/
import Derived.Test.YtldkpahaocjdpaaGreatR09
import Derived.Deep.CutBlock
import Derived.Deep.MidRow
import Derived.RangeFuncNested
import Derived.Deep.WholeRow
set_option maxHeartbeats 16000000
set_option maxRecDepth 1000000
namespace Go.Proofs.YtldkpahaocjdpaaGreat
section
open Go.RowKit
def zem:zY->List zca->List B8->Option zY
 | e,[],_=>some e
 | e,t::ts,ns=>match pmT e t (ns.headD { data:=#[] }) with
  | some e'=>zem e' ts ns.tail
  | none=>none
structure xG where
 p:B8
 ts:List zca
def yC (e:zY)(a:xG)(t:Th):Option zY:=if a.p.toList==t.p.toList then zem e a.ts t.ts else none
theorem zzk (l:List B8)(k:Nat):(l.drop k).headD { data:=#[] }=xF l k:=by
 unfold xF;rw[List.headD_eq_head?_getD,List.head?_drop]
variable {e:zY}
theorem z4k {ts:List zca}{ns:List B8}{k:Nat}(h:k<ts.length):zem e (ts.drop k) (ns.drop k)=match pmT e ts[k] (xF ns k) with | some e'=>zem e' (ts.drop (k+1)) (ns.drop (k+1)) | none=>none:=by
 rw[List.drop_eq_getElem_cons h,zem,zzk,List.tail_drop]
structure xR (Vs:List B8)(e:zY):Prop where
 nd:(e.map (·.1)).Nodup
 sub:∀ x∈e,x.1∈Vs
theorem xR.nil (Vs:List B8):xR Vs []:=⟨by simp,by simp⟩
theorem zly {α:Type}[DecidableEq α]:∀ (xs ys:List α),xs.Nodup->(∀ x∈xs,x∈ys)->xs.length<=ys.length
 | [],_,_,_=>by simp
 | x::xs,ys,hn,h=>by
  obtain⟨h1,h2⟩:=List.nodup_cons.1 hn;have hx:=h x List.mem_cons_self;have:=zly xs (ys.erase x) h2 (λ y hy=>(List.mem_erase_of_ne (λ e:y=x=>h1 (e ▸ hy))).2 (h y (List.mem_cons_of_mem _ hy)));rw[List.length_erase_of_mem hx] at this;have:0<ys.length:=List.length_pos_of_mem hx;simp;omega
variable {Vs:List B8}
theorem xR.len (h:xR Vs e):e.length<=Vs.length:=by
 have:=zly _ Vs h.nd (λ x hx=>by obtain⟨y,hy,rfl⟩:=List.mem_map.1 hx;exact h.sub y hy);simpa using this
theorem zx4 {v:B8}:∀ {e:zY},pAt e v=none->v∉e.map (·.1)
 | [],_=>by simp
 | x::r,h=>by
  rw[pAt] at h
  split at h
  ·cases h
  ·rename_i hx;rw[List.map_cons,List.mem_cons];rintro (e | e)
   ·rw[e] at hx;simp at hx
   ·exact zx4 h e
variable {v n:B8}
theorem xR.snoc (h:xR Vs e)(hv:v∈Vs)(hn:pAt e v=none):xR Vs (e++[(v,n)]):=by
 refine⟨?_,λ x hx=>?_⟩
 ·rw[List.map_append,List.nodup_append];exact⟨h.nd,by simp,λ a ha b hb e=>zx4 hn (by rw[<-(List.mem_singleton.1 hb:b=v),<-e];exact ha)⟩
 ·rcases List.mem_append.1 hx with hx | hx
  ·exact h.sub x hx
  ·rw[List.mem_singleton.1 hx];exact hv
theorem xR.room (h:xR Vs e)(hv:v∈Vs)(hn:pAt e v=none):e.length<Vs.length:=by
 have:=(h.snoc (n:=v) hv hn).len;rw[List.length_append] at this;exact this
variable {e':zY}
theorem xR.term (h:xR Vs e){t:zca}(ht:t.1=true->t.2∈Vs)(hm:pmT e t n=some e'):xR Vs e':=by
 unfold pmT pmB at hm
 split at hm
 ·rename_i h1
  split at hm
  ·split at hm
   ·cases hm;exact h
   ·cases hm
  ·rename_i h2;cases hm;exact h.snoc (ht h1) h2
 ·split at hm
  ·cases hm;exact h
  ·cases hm
theorem xR.aS {Vs:List B8}:∀ {ts:List zca} {ns:List B8} {e e':zY},xR Vs e->(∀ t∈ts,t.1=true->t.2∈Vs)->zem e ts ns=some e'->xR Vs e'
 | [],_,e,e',h,_,hm=>by rw[zem] at hm;cases hm;exact h
 | t::ts,ns,e,e',h,ht,hm=>by
  rw[zem] at hm
  split at hm
  ·rename_i e1 h1;exact xR.aS (h.term (ht t List.mem_cons_self) h1) (λ x hx=>ht x (List.mem_cons_of_mem _ hx)) hm
  ·cases hm
theorem xR.matched {A:xG}{t:Th}(h:xR Vs e)(ht:∀ t∈A.ts,t.1=true->t.2∈Vs)(hm:yC e A t=some e'):xR Vs e':=by
 unfold yC at hm
 split at hm
 ·exact h.aS ht hm
 ·cases hm
theorem zco (t:Th){i:Nat}(h:i<4):(zK t)[1+i]?=some (.string (xF t.ts i)):=by
 match i,h with
 | 0,_ | 1,_ | 2,_ | 3,_=>rfl
variable {w:W8}
theorem zwf {base:Nat}{a:O8}{c:Nat}{ts:List zca}(h:w.ownsRow base 191 1 (.slice a ts.length c) ts.length (ts.map zaz))(k:Nat)(hk:k<ts.length):∃ g,a=some ⟨g,0,none⟩/\g<w.heap.size/\ts.length<=c/\c<=maxLen/\w.cell? ⟨g,k,none⟩=some (zaz ts[k]):=by
 rcases h.2 with⟨_,h0⟩ | ⟨g,cap,cur,hv,hb,hg,dG,dx,eZ,ht⟩
 ·omega
 ·injection hv with h1 h2 h3
  subst h1 h3;refine⟨g,rfl,(Array.getElem?_eq_some_iff.1 hg).1,dG,dx,?_⟩;rw[h.cellAt k (by omega),List.getElem?_map,List.getElem?_eq_getElem hk];rfl
def zuv (w:W8)(r:Option zY)(en:Ending)(w':W8):Prop:=Below w.heap.size w w'/\en=.returned (.tuple #[jA (r.getD []),.bool r.isSome])
theorem zch:(Tryz.prog.info? 135).map (·.size)=some 25:=by kernel_rfl
theorem zbl (e:zY):(zT e).toArray.all (·.oneCell')=true:=by simp[zT,Value.oneCell']
theorem zfi {fn:Func}{p u:Tmp}(h:fn.results=#[.cell p 135,.tmp u])(tmps:Array Value)(w:W8)(g:Nat)(e:zY)(hp:tmps.getD p undef=.pointer (some ⟨g,0,none⟩))(hg:w.heap[g]?=some (.cells (zT e).toArray 135 (0,0))):
  (results fn tmps).run Tryz.prog w=.ok (.tuple #[jA e,tmps.getD u undef]) w:=by
 have rf:tmps[p]?.getD undef=.pointer (some ⟨g,0,none⟩):=by simpa using hp
 have cD:tmps.getD u undef=tmps[u]?.getD undef:=by simp
 rw[cD];simp[results,h,rf,asAddr,run_loadVar_row w g _ 135 _ _ _ hg Tryz.underlying135 rfl (by rw[zch];rfl),jA]
theorem zX {B:Nat}{w':W8}(h:Below B w w'){g:Nat}(hg:B<=g)(cs:Array Value):Below B w (w'.setRow g cs):=
 ⟨h.os,h.tape,h.output,by rw[setRow_size];exact h.size,λ k hk=>(setRow_other w' g k cs (by omega)).trans (h.block k hk)⟩
theorem zfy (w:W8)(base:Nat)(e:zY)(A:xG)(a:O8)(c:Nat)(t:Th)(h:w.ownsRow base 191 1 (.slice a A.ts.length c) A.ts.length (A.ts.map zaz))(h4:A.ts.length<=4)(Vs:List B8)(hV:Vs.length<=12)(he:xR Vs e)(ht:∀ t∈A.ts,t.1=true->t.2∈Vs):
  Calls Tryz.prog 62 #[jA e,.agg #[.string A.p,.slice a A.ts.length c],thV t] w (zuv w (yC e A t)):=by
 obtain⟨cs,eZ⟩:∃ cs,cs=(zT e).toArray:=⟨_,rfl⟩;obtain⟨ct,eM⟩:∃ ct,ct=(zK t).toArray:=⟨_,rfl⟩;have rI:=zC eZ;have fw:=zC eM;unfold jA thV;rw[<-eZ,<-eM];clear eZ eM;have H:=zC h;have G6:=zC he;have xo:=zC ht;clear h he ht;have q0:cs.size=25:=by rw[zA rI];rfl
 have q1:ct.size=5:=by rw[zA fw];rfl
 go_enter Tryz.func62,Tryz.ntmps62;go_upto_region 1 with fail;generalize hw0:World.alloc (World.alloc (World.alloc (World.alloc w _) _) _) _=w0;have k0:Below w.heap.size w w0:=by
  rw[<-hw0];exact ((((Below.refl w.heap.size w).alloc L9 _).alloc (by simp) _).alloc (by simp only[World.size_alloc];omega) _).alloc (by simp only[World.size_alloc];omega) _
 have x0:w0.heap[w.heap.size]?=some (.cells cs 135 (0,0)):=by
  rw[<-hw0,Below.heap_alloc _ _ _ (by simp only[World.size_alloc];omega),Below.heap_alloc _ _ _ (by simp only[World.size_alloc];omega),Below.heap_alloc _ _ _ (by simp)];exact heap_alloc_new w _
 have x1:w0.heap[w.heap.size+1]?=some (.cells #[.string A.p,.slice a A.ts.length c] 79 (0,0)):=by
  rw[<-hw0,Below.heap_alloc _ _ _ (by simp only[World.size_alloc];omega),Below.heap_alloc _ _ _ (by simp)];have:=heap_alloc_new (w.alloc (.cells cs 135)) (.cells #[.string A.p,.slice a A.ts.length c] 79);rw[World.size_alloc] at this;exact this
 have x2:w0.heap[w.heap.size+1+1]?=some (.cells ct 88 (0,0)):=by
  rw[<-hw0,Below.heap_alloc _ _ _ (by simp)];have:=heap_alloc_new ((w.alloc (.cells cs 135)).alloc (.cells #[.string A.p,.slice a A.ts.length c] 79)) (.cells ct 88);rw[World.size_alloc,World.size_alloc] at this;exact this
 have x3:w0.heap[w.heap.size+1+1+1]?=some (.cells (zT []).toArray 135 (0,0)):=by
  rw[<-hw0];have:=heap_alloc_new (((w.alloc (.cells cs 135)).alloc (.cells #[.string A.p,.slice a A.ts.length c] 79)).alloc (.cells ct 88)) (.cells (zT []).toArray 135);rw[World.size_alloc,World.size_alloc,World.size_alloc] at this;exact this
 have s0:w.heap.size+1+1+1+1=w0.heap.size:=by rw[<-hw0];simp
 have b0:jE w0 w.heap.size e:=jE.of (by rw[x0,zA rI]);have ee:=zQ (zA H) (λ g e=>k0.block g ((zA H).lt g e).2);clear hw0 H;have gd:=zC b0;have fH:=zC s0;have jw:=zC x3;have na:=zC ee;have cq:=zC k0;obtain⟨p0,-⟩:=zB x1 0;obtain⟨p1,-⟩:=zB x1 1;obtain⟨t0,-⟩:=zB x2 0;replace t0:w0.cell? ⟨w.heap.size+1+1,0,none⟩=some (.string t.p):=by rw[t0,zA fw];rfl
 have qb:=zC x1;have oF:=zC x2;clear x0 x1 x2 x3 b0 ee k0 s0
 cases hq:A.p.toList==t.p.toList with
 | false=>
  have HP:=zC (show yC e A t=none by unfold yC;rw[hq];rfl);go_wp2_with (first | (refine wpList_store_row rfl 135 _ _ rfl _ _ rfl rfl _ _ (zA jw) (by rw[zch];rfl) rfl (zbl []) ?_) | fail);refine bodyPost_ret (v:=.tuple #[jA [],.bool false]) (zfi Tryz.results62 _ _ _ [] rfl (setRow_heap _ _ _ _ _ _ (zA jw))) rfl ?_;rw[zA HP];exact⟨zX (zA cq) (by omega) _,rfl⟩
 | true=>
  have HP:=zC (show yC e A t=zem e A.ts t.ts by unfold yC;rw[hq];rfl);go_wp2_with fail
  go_loopg [19] A.ts.length (λ gg i wr=>∃ (k:Nat) (e':zY),k<=A.ts.length/\gg=A.ts.length-k/\i=.int .i64 k/\zem e' (A.ts.drop k) (t.ts.drop k)=zem e A.ts t.ts/\jE wr w.heap.size e'/\yA [w.heap.size] w0 wr/\xR Vs e')
  exact⟨0,e,Nat.zero_le _,rfl,rfl,rfl,zA gd,yA.refl _ _,zA G6⟩
  case round=>
   obtain⟨k,e',hk,fM,rfl,bj,hb,cV,kK⟩:=hrel;have rJ:=zC kK;have HF:=zC bj;have HB:=zC hb;have gw:=zC cV;have sY:=zA fH;have y3:wr.heap[w.heap.size+1+1+1]?=some (.cells (zT []).toArray 135 (0,0)):=(cV.block _ (by omega) (by simp;omega)).trans (zA jw);have xx:=zC y3;have lu:=zC (show Below w.heap.size w wr from ⟨cV.os.trans (zA cq).os,cV.tape.trans (zA cq).tape,cV.output.trans (zA cq).output,Nat.le_trans (zA cq).size cV.size,λ i hi=>(cV.block i (by omega) (by simp;omega)).trans ((zA cq).block i hi)⟩);clear bj hb cV y3 kK
   by_cases aN:k<A.ts.length
   ·obtain⟨g,rfl,nB,dG,dx,hc⟩:=zwf (zA na) k aN;have bD:wr.cell? ⟨w.heap.size+1+1,1+k,none⟩=some (.string (xF t.ts k)):=by
     have:=(zB ((zA gw).block _ (by omega) (by simp;omega) |>.trans (zA oF)) (1+k)).1;rw[this,zA fw,List.getElem?_toArray];exact zco t (by omega)
    have Jq:g≠w.heap.size:=λ e1=>by
     have h1:=(zA gd).whole;rcases (zA na).2 with⟨_,h0⟩ | ⟨g2,cap,cur,hv,aU,dd,_⟩
     ·omega
     ·injection hv with h2 _ _
      injection h2 with h2
      injection h2 with h2
      rw[<-h2,e1,h1] at dd;injection dd with dd
      injection dd with _ dd _
      cases dd
    have gD:wr.cell? ⟨g,k,none⟩=some (zaz A.ts[k]):=((zA gw).cell (p:=⟨g,k,none⟩) nB (by simp;exact Jq)).trans hc;have HM:=zC (zz9 wr w.heap.size e' A.ts[k] (xF t.ts k) (zA HB) (by have:=(zA rJ).len;omega) (λ h1 h2=>Nat.lt_of_lt_of_le ((zA rJ).room (zA xo _ (List.getElem_mem aN) h1) h2) hV));have HS:=zC (z4k (e:=e') (ns:=t.ts) aN);have gW:(k:Int)<A.ts.length:=(by omega);have jq:(1+k:Int)<5:=(by omega);clear hc sY
    cases hr:pmT e' A.ts[k] (xF t.ts k) with
    | none=>
     rw[hr] at HS HM;have HE:=zC (show zem e A.ts t.ts=none by rw[<-zA HF,zA HS]);go_upto_region 7 with (go_at_call 101;refine (zA HM).mono ?_;rintro en w1 ⟨de,rfl,ak⟩;have gM:=zC de;clear de ak);have y3:w1.heap[w.heap.size+1+1+1]?=some (.cells (zT []).toArray 135 (0,0)):=((zA gM).block _ (by have:=zA fH;have:=(zA gw).size;omega) (by simp;omega)).trans (zA xx);have HY:=zC y3;have Bb:=zC (show Below w.heap.size w w1 from ⟨(zA gM).os.trans (zA lu).os,(zA gM).tape.trans (zA lu).tape,(zA gM).output.trans (zA lu).output,Nat.le_trans (zA lu).size (zA gM).size,λ i hi=>((zA gM).block i (by have:=(zA lu).size;omega) (by simp;omega)).trans ((zA lu).block i hi)⟩);clear y3;go_wp2_with (first | (refine wpList_store_row rfl 135 _ _ rfl _ _ rfl rfl _ _ (zA HY) (by rw[zch];rfl) rfl (zbl []) ?_) | fail);refine bodyPost_ret (v:=.tuple #[jA [],.bool false]) (zfi Tryz.results62 _ _ _ [] rfl (setRow_heap _ _ _ _ _ _ (zA HY))) rfl ?_;rw[zA HP,zA HE];exact⟨zX (zA Bb) (by omega) _,rfl⟩
    | some e2=>
     have A4:=zC ((zA rJ).term (zA xo _ (List.getElem_mem aN)) hr);rw[hr] at HS HM;have bK:=zC (show zem e2 (A.ts.drop (k+1)) (t.ts.drop (k+1))=zem e A.ts t.ts by rw[<-zA HF,zA HS]);go_wp2_with (go_at_call 101;refine (zA HM).mono ?_;rintro en w1 ⟨de,rfl,ak⟩;have gM:=zC de;have fG:=zC (ak e2 rfl);clear de ak);go_roundg (A.ts.length-(k+1));exact⟨k+1,e2,by omega,rfl,by go_num,zA bK,zA fG,(zA gw).trans (zA gM),zA A4⟩;omega
   ·have HE:=zC (show zem e A.ts t.ts=some e' by rw[<-zA HF,List.drop_of_length_le (by omega)];rfl);have AI:=(zA HB).whole;have HW:=zC AI;clear AI sY;go_wp2_with (first | (refine wpList_load_row rfl 135 _ rfl _ rfl _ _ _ _ (zA HW) Tryz.underlying135 rfl (by rw[zch];rfl) ?_) | (refine wpList_store_row rfl 135 _ _ rfl _ _ rfl rfl _ _ (zA xx) (by rw[zch];rfl) rfl (zbl _) ?_) | fail);refine bodyPost_ret (v:=.tuple #[jA e',.bool true]) (zfi Tryz.results62 _ _ _ e' rfl (setRow_heap _ _ _ _ _ _ (zA xx))) rfl ?_;rw[zA HP,zA HE];exact⟨zX (zA lu) (by omega) _,rfl⟩
end
section
open Go.RowKit
def cd (e:zY)(t:zca):B8:=if t.1 then dR e t.2 else t.2
def zZ (e:zY)(A:xG):Th:=⟨A.p,A.ts.map (cd e)⟩
theorem z3x (L:List B8)(x:B8)(i:Nat):xF (L++[x]) i=if i=L.length then x else xF L i:=by
 unfold xF;rw[List.getElem?_append]
 split
 ·rename_i h;rw[if_neg (by omega)]
 ·rename_i h
  split
  ·rename_i h2;subst h2;simp
  ·rename_i h2;rw[List.getElem?_eq_none (by simp;omega),List.getElem?_eq_none (by omega)]
theorem zwi (p:B8)(L:List B8)(x:B8)(h:L.length<4):(zK ⟨p,L⟩).toArray.setIfInBounds (1+L.length) (.string x)=(zK ⟨p,L++[x]⟩).toArray:=by
 unfold zK;simp only[Th.p,Th.ts,z3x]
 match hl:L.length,h with
 | 0,_ | 1,_ | 2,_ | 3,_=>simp
theorem zgn:(Tryz.prog.info? 88).map (·.size)=some 5:=by kernel_rfl
theorem zeg (t:Th):(zK t).toArray.all (·.oneCell')=true:=by simp[zK,Value.oneCell']
theorem zqb {wr:W8}{b:Nat}{p:B8}{L:List B8}(h:wr.heap[b]?=some (.cells (zK ⟨p,L⟩).toArray 88 (0,0)))(hl:L.length<4)(x:B8):(wr.setCell ⟨b,1+L.length,none⟩ (.string x)).heap[b]?=some (.cells (zK ⟨p,L++[x]⟩).toArray 88 (0,0)):=by
 rw[setCell_eq_setRow wr b _ _ _ (0,0) _ h,zwi p L x hl];exact setRow_heap _ _ _ _ _ _ h
def z6m (w:W8)(t:Th)(en:Ending)(w':W8):Prop:=Below w.heap.size w w'/\en=.returned (thV t)
theorem zdg (w:W8)(base:Nat)(e:zY)(A:xG)(a:O8)(c:Nat)(h:w.ownsRow base 191 1 (.slice a A.ts.length c) A.ts.length (A.ts.map zaz))(h4:A.ts.length<=4)(hl:e.length<=12):
  Calls Tryz.prog 146 #[jA e,.agg #[.string A.p,.slice a A.ts.length c]] w (z6m w (zZ e A)):=by
 obtain⟨cs,eZ⟩:∃ cs,cs=(zT e).toArray:=⟨_,rfl⟩;have rI:=zC eZ;unfold jA;rw[<-eZ];clear eZ;have H:=zC h;clear h;have q0:cs.size=25:=by rw[zA rI];rfl
 have a1:=zk2;have a2:=zix;have a3:=zk1;go_enter Tryz.func146,Tryz.ntmps146;go_upto_region 2 with fail;generalize hw0:World.alloc (World.alloc (World.alloc (World.alloc w _) _) _) _=w0;have k0:Below w.heap.size w w0:=by
  rw[<-hw0];exact ((((Below.refl w.heap.size w).alloc L9 _).alloc (by simp) _).alloc (by simp only[World.size_alloc];omega) _).alloc (by simp only[World.size_alloc];omega) _
 have x0:w0.heap[w.heap.size]?=some (.cells cs 135 (0,0)):=by
  rw[<-hw0,Below.heap_alloc _ _ _ (by simp only[World.size_alloc];omega),Below.heap_alloc _ _ _ (by simp only[World.size_alloc];omega),Below.heap_alloc _ _ _ (by simp)];exact heap_alloc_new w _
 have x1:w0.heap[w.heap.size+1]?=some (.cells #[.string A.p,.slice a A.ts.length c] 79 (0,0)):=by
  rw[<-hw0,Below.heap_alloc _ _ _ (by simp only[World.size_alloc];omega),Below.heap_alloc _ _ _ (by simp)];have:=heap_alloc_new (w.alloc (.cells cs 135)) (.cells #[.string A.p,.slice a A.ts.length c] 79);rw[World.size_alloc] at this;exact this
 have x2:w0.heap[w.heap.size+1+1]?=some (.cells (zK ⟨{ data:=#[] },[]⟩).toArray 88 (0,0)):=by
  rw[<-hw0,Below.heap_alloc _ _ _ (by simp)];have:=heap_alloc_new ((w.alloc (.cells cs 135)).alloc (.cells #[.string A.p,.slice a A.ts.length c] 79)) (.cells (zK ⟨{ data:=#[] },[]⟩).toArray 88);rw[World.size_alloc,World.size_alloc] at this;exact this
 have x3:w0.heap[w.heap.size+1+1+1]?=some (.cells (zK ⟨A.p,[]⟩).toArray 88 (0,0)):=by
  rw[<-hw0];have:=heap_alloc_new (((w.alloc (.cells cs 135)).alloc (.cells #[.string A.p,.slice a A.ts.length c] 79)).alloc (.cells (zK ⟨{ data:=#[] },[]⟩).toArray 88)) (.cells (zK ⟨A.p,[]⟩).toArray 88);rw[World.size_alloc,World.size_alloc,World.size_alloc] at this;exact this
 have s0:w.heap.size+1+1+1+1=w0.heap.size:=by rw[<-hw0];simp
 have b0:jE w0 w.heap.size e:=jE.of (by rw[x0,zA rI]);have ee:=zQ (zA H) (λ g e=>k0.block g ((zA H).lt g e).2);have HG:=zC (λ g (e1:(Value.slice a A.ts.length c).ownBlock=some g)=>((zA H).lt g e1).2);clear hw0 H;have gd:=zC b0;have fH:=zC s0;have jw:=zC x3;have oF:=zC x2;have na:=zC ee;have cq:=zC k0;obtain⟨p1,-⟩:=zB x1 1;have qb:=zC x1;clear x0 x1 x2 x3 b0 ee k0 s0;go_wp2_with fail
 go_loopg [16] A.ts.length (λ gg i wr=>∃ (k:Nat) (L:List B8),k<=A.ts.length/\gg=A.ts.length-k/\i=.int .i64 k/\L=(A.ts.take k).map (cd e)/\wr.heap[w.heap.size+1+1+1]?=some (.cells (zK ⟨A.p,L⟩).toArray 88 (0,0))/\yA [w.heap.size+1+1+1] w0 wr)
 exact⟨0,[],Nat.zero_le _,rfl,rfl,rfl,zA jw,yA.refl _ _⟩
 case round=>
  obtain⟨k,L,hk,fM,rfl,hL,hx,cV⟩:=hrel;have ik:L.length=k:=by rw[hL];simp;omega
  have sY:=zA fH;have lu:=zC (show Below w.heap.size w wr from ⟨cV.os.trans (zA cq).os,cV.tape.trans (zA cq).tape,cV.output.trans (zA cq).output,Nat.le_trans (zA cq).size cV.size,λ i hi=>(cV.block i (by omega) (by simp;omega)).trans ((zA cq).block i hi)⟩);have HX:=zC hx;have gw:=zC cV;have HL:=zC hL;have p8:=zC ik
  by_cases aN:k<A.ts.length
  ·obtain⟨g,rfl,nB,dG,dx,hc⟩:=zwf (zA na) k aN;have eP:=zA HG g rfl;have gD:wr.cell? ⟨g,k,none⟩=some (zaz A.ts[k]):=((zA gw).cell (p:=⟨g,k,none⟩) nB (by simp;omega)).trans hc;have vk:=zC ((zA gd).block (cV.block _ (by omega) (by simp;omega)));obtain⟨dV,Fx⟩:=zB hx (1+k);replace dV:wr.cell? ⟨w.heap.size+1+1+1,1+k,none⟩=some (.string (xF L k)):=by
    rw[dV,List.getElem?_toArray];exact zco ⟨A.p,L⟩ (by omega)
   have gW:(k:Int)<A.ts.length:=(by omega);have jq:(1+k:Int)<5:=(by omega);have fT:=zC (show (A.ts.take (k+1)).map (cd e)=L++[cd e A.ts[k]] by rw[List.take_succ_eq_append_getElem aN,List.map_append,zA HL];rfl);clear hc sY hx cV hL ik
   cases hv:A.ts[k].1 with
   | false=>
    have HF:=zC (show cd e A.ts[k]=A.ts[k].2 by unfold cd;rw[hv];rfl);have nA:wr.cell? ⟨g,k,none⟩=some (.iface 193 (.string A.ts[k].2)):=(by rw[gD];unfold zaz;rw[hv];rfl);clear gD;go_wp2_with fail;go_roundg (A.ts.length-(k+1))
    case measure=>omega
    case rel=>
     have:=zqb (zA HX) (by rw[zA p8];omega) A.ts[k].2;rw[zA p8] at this;exact⟨k+1,L++[A.ts[k].2],by omega,rfl,by go_num,by rw[zA fT,zA HF],this,(zA gw).setCell (by simp) _⟩
   | true=>
    have HF:=zC (show cd e A.ts[k]=dR e A.ts[k].2 by unfold cd;rw[hv];rfl);have nA:wr.cell? ⟨g,k,none⟩=some (.iface 130 (.string A.ts[k].2)):=(by rw[gD];unfold zaz;rw[hv];rfl);have HN:=zC (zti wr w.heap.size e A.ts[k].2 (zA vk).cells hl);clear gD;go_wp2_with (go_at_call 201;refine (zA HN).mono ?_;rintro en w1 ⟨rfl,bq⟩;subst bq);go_roundg (A.ts.length-(k+1))
    case measure=>omega
    case rel=>
     have:=zqb (zA HX) (by rw[zA p8];omega) (dR e A.ts[k].2);rw[zA p8] at this;exact⟨k+1,L++[dR e A.ts[k].2],by omega,rfl,by go_num,by rw[zA fT,zA HF],this,(zA gw).setCell (by simp) _⟩
  ·have HE:=zC (show (⟨A.p,L⟩:Th)=zZ e A by unfold zZ;rw[hL,List.take_of_length_le (by omega)]);have qc:=zC ((cV.block (w.heap.size+1+1) (by omega) (by simp)).trans (zA oF));clear sY hx cV hL ik;go_wp2_with (first | (refine wpList_load_row rfl 88 _ rfl _ rfl _ _ _ _ (zA HX) Tryz.underlying88 rfl (by rw[zgn];rfl) ?_) | (refine wpList_store_row rfl 88 _ _ rfl _ _ rfl rfl _ _ (zA qc) (by rw[zgn];rfl) rfl (zeg _) ?_) | fail);refine bodyPost_ret (v:=thV ⟨A.p,L⟩) (results_cell_row Tryz.results146 _ _ _ _ _ _ _ rfl (setRow_heap _ _ _ _ _ _ (zA qc)) Tryz.underlying88 rfl (by rw[zgn];rfl)) rfl ?_;exact⟨zX (zA lu) (by omega) _,by rw[zA HE]⟩
end
section
open Go.RowKit
structure jQ (No:Nat->Prop)(w w':W8):Prop where
 os:w'.os=w.os
 tape:w'.tape=w.tape
 output:w'.output=w.output
 size:w.heap.size<=w'.heap.size
 same:∀ (k:Nat) (o:Obj),w.heap[k]?=some o->¬ No k->(o.isCells=true\/o.isWalk=true)->w'.heap[k]?=some o
theorem jQ.refl (No:Nat->Prop)(w:W8):jQ No w w:=⟨rfl,rfl,rfl,Nat.le_refl _,λ _ _ h _ _=>h⟩
theorem jQ.trans {No:Nat->Prop}{a b c:W8}(h:jQ No a b)(k:jQ No b c):jQ No a c:=
 ⟨k.os.trans h.os,k.tape.trans h.tape,k.output.trans h.output,Nat.le_trans h.size k.size,λ i o hi hn ho=>k.same i o (h.same i o hi hn ho) hn ho⟩
variable {w w':W8} {No:Nat->Prop}
theorem jQ.aF (k:Below w.heap.size w w'):jQ No w w':=
 ⟨k.os,k.tape,k.output,k.size,λ i _ hi _ _=>(k.block i (Array.getElem?_eq_some_iff.1 hi).1).trans hi⟩
theorem jQ.grown {a:W8}{row:Option Nat}(h:jQ No a w)(hg:w.grownBy w' row)(hr:∀ r,row=some r->a.heap.size<=r\/No r):jQ No a w':=
 ⟨hg.os.trans h.os,hg.tape.trans h.tape,hg.output.trans h.output,Nat.le_trans h.size hg.size,λ i o hi hn ho=>by
  have h1:=h.same i o hi hn ho;refine (hg.block i (Array.getElem?_eq_some_iff.1 h1).1 λ e=>?_).trans h1;rcases hr i e.symm with h2 | h2
  ·have:=(Array.getElem?_eq_some_iff.1 hi).1;omega
  ·exact hn h2⟩
theorem jQ.alloc {a:W8}(h:jQ No a w)(o:Obj):jQ No a (w.alloc o):=h.grown (World.grownBy_alloc w o none) (λ _ e=>by cases e)
variable {b:Nat}
theorem jQ.cells (h:jQ No w w'){cs:Array Value}{t:TypeId}{fr:Nat × Nat}(hb:w.heap[b]?=some (.cells cs t fr))(hn:¬ No b):w'.heap[b]?=some (.cells cs t fr):=h.same b _ hb hn (.inl rfl)
theorem jQ.map (h:jQ No w w'){L:List (Th × Nat)}(hb:vW w b L)(hn:¬ No b):vW w' b L:=by
 obtain⟨es,c,h1⟩:=hb.isMap;exact hb.block ((h.same b _ h1 hn (.inr rfl)).trans h1.symm)
variable {v:Value}
theorem jQ.row (h:jQ No w w'){base:Nat}{e:TypeId}{size n:Nat}{xs:V8}(hr:w.ownsRow base e size v n xs)(hn:∀ g,v.ownBlock=some g->¬ No g):w'.ownsRow base e size v n xs:=by
 refine zQ hr λ g hg=>?_
 rcases hr.2 with⟨h0,_⟩ | ⟨g',cap,cur,rfl,hb,jo,_⟩
 ·rw[h0] at hg;cases hg
 ·have e:g'=g:=by simpa[Value.ownBlock] using hg
  subst e;exact (h.same _ _ jo (hn _ hg) (.inl rfl)).trans jo.symm
def zew (x:xG × Value):V8:=[.string x.1.p,x.2]
structure jF (No:Nat->Prop)(w:W8)(v:Value)(As:List (xG × Value)):Prop where
 row:∃ base,w.ownsRow base 79 2 v As.length (As.flatMap zew)
 aS:∀ x∈As,∃ base,w.ownsRow base 191 1 x.2 x.1.ts.length (x.1.ts.map zaz)
 ap:∀ g,v.ownBlock=some g->¬ No g
 BP:∀ x∈As,∀ g,x.2.ownBlock=some g->¬ No g
 ft:∀ x∈As,x.1.ts.length<=4
theorem jF.gH {As:List (xG × Value)}(h:jF No w v As)(k:jQ No w w'):jF No w' v As:=
 ⟨let ⟨b,hb⟩:=h.row;⟨b,k.row hb h.ap⟩,λ x hx=>let ⟨b,hb⟩:=h.aS x hx;⟨b,k.row hb (h.BP x hx)⟩,h.ap,h.BP,h.ft⟩
structure DZ (No:Nat->Prop)(w:W8)(sb mb l:Nat)(pos neg:List (xG × Value))(pv nv:Value)(K:List (Th × Nat)):Prop where
 s:w.heap[sb]?=some (.cells #[pv,nv,.map (some mb),.func (.yield l) #[] #[]] 361 (0,0))
 ns:¬ No sb
 p:jF No w pv pos
 n:jF No w nv neg
 m:vW w mb K
 nm:¬ No mb
 p3:pos.length<=3
theorem DZ.gH {No:Nat->Prop}{w w':W8}{sb mb l:Nat}{pos neg:List (xG × Value)}{pv nv:Value}{K:List (Th × Nat)}(h:DZ No w sb mb l pos neg pv nv K)(k:jQ No w w'):DZ No w' sb mb l pos neg pv nv K:=
 ⟨k.cells h.s h.ns,h.ns,h.p.gH k,h.n.gH k,k.map h.m h.nm,h.nm,h.p3⟩
def jU (K:List (Th × Nat))(neg:List xG)(e:zY):Bool:=neg.any λ x=>(zU K (zZ e x)).isSome
def zR (K:List (Th × Nat)):List xG->zY->List zY
 | [],e=>[e]
 | a::r,e=>K.flatMap λ t=>match yC e a t.1 with
  | some e'=>zR K r e'
  | none=>[]
def qM (K:List (Th × Nat))(neg pos:List xG)(e:zY):List zY:=(zR K pos e).filter λ x=>!jU K neg x
end
section
open Go.RowKit
def BV (w:W8)(b:Nat)(e:zY):Prop:=w.heap[b]?=some (.cells (zT e).toArray 135 (0,0))
noncomputable def zgy (v:Value):Sem Value:=Instr.loadAt 135 v
noncomputable def zw3 (p v:Value):Sem Unit:=Instr.storeAt 135 p v
noncomputable def ybh:Sem Value:=zeroValue 135
theorem qP (v:Value):Instr.loadAt 135 v=zgy v:=rfl
theorem jN (p v:Value):Instr.storeAt 135 p v=zw3 p v:=rfl
theorem zym:zeroValue 135=ybh:=rfl
theorem ztz (w:W8):ybh.run Tryz.prog w=.ok (jA []) w:=by unfold ybh;kernel_rfl
theorem xU (e:zY):(jA e).cells=(zT e).toArray:=rfl
variable {e:zY} {b:Nat} {w:W8}
theorem BV.load (h:BV w b e):(zgy (.pointer (some ⟨b,0,none⟩))).run Tryz.prog w=.ok (jA e) w:=by
 unfold zgy Instr.loadAt Instr.sureAddr;simp only[Sem.run_bind,Sem.run_pure,Result.andThen_ok];exact run_loadVar_row w b _ 135 _ _ _ h Tryz.underlying135 rfl (by rw[zch];rfl)
theorem BV.store (h:BV w b e)(e':zY):(zw3 (.pointer (some ⟨b,0,none⟩)) (jA e')).run Tryz.prog w=.ok () (w.setRow b (zT e').toArray):=by
 unfold zw3 Instr.storeAt Instr.sureAddr;simp only[Sem.run_bind,Sem.run_pure,Result.andThen_ok];exact run_storeVar_row w b _ 135 _ _ h (by rw[zch];rfl) rfl (zbl e')
theorem BV.new (w:W8)(e:zY):BV (w.alloc (.cells (zT e).toArray 135)) w.heap.size e:=heap_alloc_new w _
theorem vZ (w:W8)(e e':zY):(zw3 (.pointer (some ⟨w.heap.size,0,none⟩)) (jA e')).run Tryz.prog (w.alloc (.cells (zT e).toArray 135))=.ok () (w.alloc (.cells (zT e').toArray 135)):=by
 rw[(BV.new w e).store e',World.setRow_alloc_new]
theorem BV.lt (h:BV w b e):b<w.heap.size:=(Array.getElem?_eq_some_iff.1 h).1
theorem BV.alloc (h:BV w b e)(o:Obj):BV (w.alloc o) b e:=(Below.heap_alloc w o b h.lt).trans h
variable {w':W8}
theorem BV.below (h:BV w b e)(k:Below w.heap.size w w'):BV w' b e:=(k.block b h.lt).trans h
theorem z1d:BV w.drew b e↔BV w b e:=Iff.rfl
theorem BV.gH {No:Nat->Prop}(h:BV w b e)(k:jQ No w w')(hn:¬ No b):BV w' b e:=k.cells h hn
def TV (w:W8)(b:Nat)(t:Th):Prop:=w.heap[b]?=some (.cells (zK t).toArray 88 (0,0))
noncomputable def zeq (v:Value):Sem Value:=Instr.loadAt 88 v
noncomputable def zuc (p v:Value):Sem Unit:=Instr.storeAt 88 p v
noncomputable def yer:Sem Value:=zeroValue 88
theorem vS (v:Value):Instr.loadAt 88 v=zeq v:=rfl
theorem vA (p v:Value):Instr.storeAt 88 p v=zuc p v:=rfl
theorem z5a (w:W8):yer.run Tryz.prog w=.ok (thV ({ data:=#[] },[])) w:=by unfold yer;kernel_rfl
theorem xY (t:Th):(thV t).cells=(zK t).toArray:=rfl
variable {t:Th}
theorem TV.load (h:TV w b t):(zeq (.pointer (some ⟨b,0,none⟩))).run Tryz.prog w=.ok (thV t) w:=by
 unfold zeq Instr.loadAt Instr.sureAddr;simp only[Sem.run_bind,Sem.run_pure,Result.andThen_ok];exact run_loadVar_row w b _ 88 _ _ _ h Tryz.underlying88 rfl (by rw[zgn];rfl)
theorem TV.store (h:TV w b t)(t':Th):(zuc (.pointer (some ⟨b,0,none⟩)) (thV t')).run Tryz.prog w=.ok () (w.setRow b (zK t').toArray):=by
 unfold zuc Instr.storeAt Instr.sureAddr;simp only[Sem.run_bind,Sem.run_pure,Result.andThen_ok];exact run_storeVar_row w b _ 88 _ _ h (by rw[zgn];rfl) rfl (zeg t')
theorem TV.new (w:W8)(t:Th):TV (w.alloc (.cells (zK t).toArray 88)) w.heap.size t:=heap_alloc_new w _
theorem vH (w:W8)(t t':Th):(zuc (.pointer (some ⟨w.heap.size,0,none⟩)) (thV t')).run Tryz.prog (w.alloc (.cells (zK t).toArray 88))=.ok () (w.alloc (.cells (zK t').toArray 88)):=by
 rw[(TV.new w t).store t',World.setRow_alloc_new]
theorem TV.lt (h:TV w b t):b<w.heap.size:=(Array.getElem?_eq_some_iff.1 h).1
theorem TV.alloc (h:TV w b t)(o:Obj):TV (w.alloc o) b t:=(Below.heap_alloc w o b h.lt).trans h
theorem TV.below (h:TV w b t)(k:Below w.heap.size w w'):TV w' b t:=(k.block b h.lt).trans h
noncomputable def z5r (h:Bool)(v:Value):Sem Value:=Instr.alloc 88 h v
theorem xZ (h:Bool)(v:Value):Instr.alloc 88 h v=z5r h v:=rfl
theorem vG (w:W8)(v:Value):(z5r true v).run Tryz.prog w=.ok (.pointer (some ⟨w.heap.size,0,none⟩)) (w.alloc (.cells (zK ({ data:=#[] },[])).toArray 88)):=by
 unfold z5r;simp[Instr.alloc,newVar,newRow,go_sem,zK,xF,Th.p,Th.ts]
noncomputable def z15 (h:Bool)(v:Value):Sem Value:=Instr.alloc 135 h v
theorem qN (h:Bool)(v:Value):Instr.alloc 135 h v=z15 h v:=rfl
theorem qE (w:W8)(v:Value):(z15 true v).run Tryz.prog w=.ok (.pointer (some ⟨w.heap.size,0,none⟩)) (w.alloc (.cells (zT []).toArray 135)):=by
 unfold z15;simp[Instr.alloc,newVar,newRow,go_sem,zT,eAt]
variable {cs:Array Value} {g:Nat}
theorem BV.lA (h:BV w b e)(bG:b≠g):BV (w.setRow g cs) b e:=(setRow_other w g b cs bG).trans h
theorem zp4 {o:Nat}{v:Value}(h:w.cell? ⟨b,o,none⟩=some v)(bG:b≠g):(w.setRow g cs).cell? ⟨b,o,none⟩=some v:=(cell_setRow_other w g cs ⟨b,o,none⟩ bG).trans h
theorem zbr {w1 w4:W8}(h:Below w.heap.size w w1)(h4:Below w1.drew.heap.size w1.drew w4):Below w.heap.size w w4:=h.trans ((⟨h4.os,h4.tape,h4.output,h4.size,h4.block⟩:Below w1.heap.size w1 w4).mono h.size)
theorem zL (h:Below w.drew.heap.size w.drew w'):Below w.heap.size w w':=⟨h.os,h.tape,h.output,h.size,h.block⟩
end
end Go.Proofs.YtldkpahaocjdpaaGreat
