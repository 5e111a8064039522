/-
  Match: an atom is held against a thing.
-/
import Derived.Test.YtldkpahaocjdpaaGreatD09
import Derived.Deep.CutBlock
import Derived.Deep.MidRow
import Derived.RangeFuncNested
import Derived.Deep.WholeRow
set_option maxHeartbeats 16000000
set_option maxRecDepth 1000000
namespace Go.Proofs.YtldkpahaocjdpaaGreat
section
open Go.RowKit
def zgz:zX->List zb8->List B8->Option zX
 | e,[],_=>some e
 | e,t::ts,ns=>match pmT e t (ns.headD { data:=#[] }) with
  | some e'=>zgz e' ts ns.tail
  | none=>none
structure yY where
 p:B8
 ts:List zb8
def zV (e:zX)(a:yY)(t:Th):Option zX:=if a.p.toList==t.p.toList then zgz e a.ts t.ts else none
theorem zx0 (l:List B8)(k:Nat):(l.drop k).headD { data:=#[] }=xF l k:=by
 unfold xF;rw[List.headD_eq_head?_getD,List.head?_drop]
variable {e:zX}
theorem z2u {ts:List zb8}{ns:List B8}{k:Nat}(h:k<ts.length):zgz e (ts.drop k) (ns.drop k)=match pmT e ts[k] (xF ns k) with | some e'=>zgz e' (ts.drop (k+1)) (ns.drop (k+1)) | none=>none:=by
 rw[List.drop_eq_getElem_cons h,zgz,zx0,List.tail_drop]
structure xN (Vs:List B8)(e:zX):Prop where
 nd:(e.map (·.1)).Nodup
 sub:∀ x∈e,x.1∈Vs
theorem xN.nil (Vs:List B8):xN Vs []:=⟨by simp,by simp⟩
theorem zlk {α:Type}[DecidableEq α]:∀ (xs ys:List α),xs.Nodup->(∀ x∈xs,x∈ys)->xs.length<=ys.length
 | [],_,_,_=>by simp
 | x::xs,ys,hn,h=>by
  obtain⟨h1,h2⟩:=List.nodup_cons.1 hn;have hx:=h x List.mem_cons_self;have:=zlk xs (ys.erase x) h2 (λ y hy=>(List.mem_erase_of_ne (λ e:y=x=>h1 (e ▸ hy))).2 (h y (List.mem_cons_of_mem _ hy)));rw[List.length_erase_of_mem hx] at this;have:0<ys.length:=List.length_pos_of_mem hx;simp;omega
variable {Vs:List B8}
theorem xN.len (h:xN Vs e):e.length<=Vs.length:=by
 have:=zlk _ Vs h.nd (λ x hx=>by obtain⟨y,hy,rfl⟩:=List.mem_map.1 hx;exact h.sub y hy);simpa using this
theorem zwh {v:B8}:∀ {e:zX},pAt e v=none->v∉e.map (·.1)
 | [],_=>by simp
 | x::r,h=>by
  rw[pAt] at h
  split at h
  ·cases h
  ·rename_i hx;rw[List.map_cons,List.mem_cons];rintro (e | e)
   ·rw[e] at hx;simp at hx
   ·exact zwh h e
variable {v n:B8}
theorem xN.snoc (h:xN Vs e)(hv:v∈Vs)(hn:pAt e v=none):xN Vs (e++[(v,n)]):=by
 refine⟨?_,λ x hx=>?_⟩
 ·rw[List.map_append,List.nodup_append];exact⟨h.nd,by simp,λ a ha b hb e=>zwh hn (by rw[<-(List.mem_singleton.1 hb:b=v),<-e];exact ha)⟩
 ·rcases List.mem_append.1 hx with hx | hx
  ·exact h.sub x hx
  ·rw[List.mem_singleton.1 hx];exact hv
theorem xN.room (h:xN Vs e)(hv:v∈Vs)(hn:pAt e v=none):e.length<Vs.length:=by
 have:=(h.snoc (n:=v) hv hn).len;rw[List.length_append] at this;exact this
variable {e':zX}
theorem xN.term (h:xN Vs e){t:zb8}(ht:t.1=true->t.2∈Vs)(hm:pmT e t n=some e'):xN Vs e':=by
 unfold pmT pmB at hm
 split at hm
 ·rename_i h1
  split at hm
  ·split at hm
   ·cases hm;exact h
   ·cases hm
  ·rename_i h2;cases hm;exact h.snoc (ht h1) h2
 ·split at hm
  ·cases hm;exact h
  ·cases hm
theorem xN.aS {Vs:List B8}:∀ {ts:List zb8} {ns:List B8} {e e':zX},xN Vs e->(∀ t∈ts,t.1=true->t.2∈Vs)->zgz e ts ns=some e'->xN Vs e'
 | [],_,e,e',h,_,hm=>by rw[zgz] at hm;cases hm;exact h
 | t::ts,ns,e,e',h,ht,hm=>by
  rw[zgz] at hm
  split at hm
  ·rename_i e1 h1;exact xN.aS (h.term (ht t List.mem_cons_self) h1) (λ x hx=>ht x (List.mem_cons_of_mem _ hx)) hm
  ·cases hm
theorem xN.matched {A:yY}{t:Th}(h:xN Vs e)(ht:∀ t∈A.ts,t.1=true->t.2∈Vs)(hm:zV e A t=some e'):xN Vs e':=by
 unfold zV at hm
 split at hm
 ·exact h.aS ht hm
 ·cases hm
theorem zcj (t:Th){i:Nat}(h:i<4):(zJ t)[1+i]?=some (.string (xF t.ts i)):=by
 match i,h with
 | 0,_ | 1,_ | 2,_ | 3,_=>rfl
variable {w:W8}
theorem zuw {base:Nat}{a:O8}{c:Nat}{ts:List zb8}(h:w.ownsRow base 191 1 (.slice a ts.length c) ts.length (ts.map zaz))(k:Nat)(hk:k<ts.length):∃ g,a=some ⟨g,0,none⟩/\g<w.heap.size/\ts.length<=c/\c<=maxLen/\w.cell? ⟨g,k,none⟩=some (zaz ts[k]):=by
 rcases h.2 with⟨_,h0⟩ | ⟨g,cap,cur,hv,hb,hg,dG,dx,eZ,ht⟩
 ·omega
 ·injection hv with h1 h2 h3
  subst h1 h3;refine⟨g,rfl,(Array.getElem?_eq_some_iff.1 hg).1,dG,dx,?_⟩;rw[h.cellAt k (by omega),List.getElem?_map,List.getElem?_eq_getElem hk];rfl
def zte (w:W8)(r:Option zX)(en:Ending)(w':W8):Prop:=Below w.heap.size w w'/\en=.returned (.tuple #[jD (r.getD []),.bool r.isSome])
theorem zcg:(Tryz.prog.info? 135).map (·.size)=some 25:=by kernel_rfl
theorem zbk (e:zX):(zW e).toArray.all (·.oneCell')=true:=by simp[zW,Value.oneCell']
theorem zfc {fn:Func}{p u:Tmp}(h:fn.results=#[.cell p 135,.tmp u])(tmps:Array Value)(w:W8)(g:Nat)(e:zX)(hp:tmps.getD p undef=.pointer (some ⟨g,0,none⟩))(hg:w.heap[g]?=some (.cells (zW e).toArray 135 (0,0))):
  (results fn tmps).run Tryz.prog w=.ok (.tuple #[jD e,tmps.getD u undef]) w:=by
 have rf:tmps[p]?.getD undef=.pointer (some ⟨g,0,none⟩):=by simpa using hp
 have cC:tmps.getD u undef=tmps[u]?.getD undef:=by simp
 rw[cC];simp[results,h,rf,asAddr,run_loadVar_row w g _ 135 _ _ _ hg Tryz.underlying135 rfl (by rw[zcg];rfl),jD]
theorem z6 {B:Nat}{w':W8}(h:Below B w w'){g:Nat}(hg:B<=g)(cs:Array Value):Below B w (w'.setRow g cs):=
 ⟨h.os,h.tape,h.output,by rw[setRow_size];exact h.size,λ k hk=>(setRow_other w' g k cs (by omega)).trans (h.block k hk)⟩
theorem zfs (w:W8)(base:Nat)(e:zX)(A:yY)(a:O8)(c:Nat)(t:Th)(h:w.ownsRow base 191 1 (.slice a A.ts.length c) A.ts.length (A.ts.map zaz))(h4:A.ts.length<=4)(Vs:List B8)(hV:Vs.length<=12)(he:xN Vs e)(ht:∀ t∈A.ts,t.1=true->t.2∈Vs):
  Calls Tryz.prog 62 #[jD e,.agg #[.string A.p,.slice a A.ts.length c],thV t] w (zte w (zV e A t)):=by
 obtain⟨cs,eZ⟩:∃ cs,cs=(zW e).toArray:=⟨_,rfl⟩;obtain⟨ct,eM⟩:∃ ct,ct=(zJ t).toArray:=⟨_,rfl⟩;have rI:=zC eZ;have fw:=zC eM;unfold jD thV;rw[<-eZ,<-eM];clear eZ eM;have H:=zC h;have G6:=zC he;have xo:=zC ht;clear h he ht;have q0:cs.size=25:=by rw[zA rI];rfl
 have q1:ct.size=5:=by rw[zA fw];rfl
 go_enter Tryz.func62,Tryz.ntmps62;go_upto_region 1 with fail;generalize hw0:World.alloc (World.alloc (World.alloc (World.alloc w _) _) _) _=w0;have k0:Below w.heap.size w w0:=by
  rw[<-hw0];exact ((((Below.refl w.heap.size w).alloc L9 _).alloc (by simp) _).alloc (by simp only[World.size_alloc];omega) _).alloc (by simp only[World.size_alloc];omega) _
 have x0:w0.heap[w.heap.size]?=some (.cells cs 135 (0,0)):=by
  rw[<-hw0,Below.heap_alloc _ _ _ (by simp only[World.size_alloc];omega),Below.heap_alloc _ _ _ (by simp only[World.size_alloc];omega),Below.heap_alloc _ _ _ (by simp)];exact heap_alloc_new w _
 have x1:w0.heap[w.heap.size+1]?=some (.cells #[.string A.p,.slice a A.ts.length c] 79 (0,0)):=by
  rw[<-hw0,Below.heap_alloc _ _ _ (by simp only[World.size_alloc];omega),Below.heap_alloc _ _ _ (by simp)];have:=heap_alloc_new (w.alloc (.cells cs 135)) (.cells #[.string A.p,.slice a A.ts.length c] 79);rw[World.size_alloc] at this;exact this
 have x2:w0.heap[w.heap.size+1+1]?=some (.cells ct 88 (0,0)):=by
  rw[<-hw0,Below.heap_alloc _ _ _ (by simp)];have:=heap_alloc_new ((w.alloc (.cells cs 135)).alloc (.cells #[.string A.p,.slice a A.ts.length c] 79)) (.cells ct 88);rw[World.size_alloc,World.size_alloc] at this;exact this
 have x3:w0.heap[w.heap.size+1+1+1]?=some (.cells (zW []).toArray 135 (0,0)):=by
  rw[<-hw0];have:=heap_alloc_new (((w.alloc (.cells cs 135)).alloc (.cells #[.string A.p,.slice a A.ts.length c] 79)).alloc (.cells ct 88)) (.cells (zW []).toArray 135);rw[World.size_alloc,World.size_alloc,World.size_alloc] at this;exact this
 have s0:w.heap.size+1+1+1+1=w0.heap.size:=by rw[<-hw0];simp
 have b0:jF w0 w.heap.size e:=jF.of (by rw[x0,zA rI]);have ee:=zP (zA H) (λ g e=>k0.block g ((zA H).lt g e).2);clear hw0 H;have gd:=zC b0;have fH:=zC s0;have iO:=zC x3;have na:=zC ee;have cq:=zC k0;obtain⟨p0,-⟩:=zB x1 0;obtain⟨p1,-⟩:=zB x1 1;obtain⟨t0,-⟩:=zB x2 0;replace t0:w0.cell? ⟨w.heap.size+1+1,0,none⟩=some (.string t.p):=by rw[t0,zA fw];rfl
 have qb:=zC x1;have oF:=zC x2;clear x0 x1 x2 x3 b0 ee k0 s0
 cases hq:A.p.toList==t.p.toList with
 | false=>
  have HP:=zC (show zV e A t=none by unfold zV;rw[hq];rfl);go_wp2_with (first | (refine wpList_store_row rfl 135 _ _ rfl _ _ rfl rfl _ _ (zA iO) (by rw[zcg];rfl) rfl (zbk []) ?_) | fail);refine bodyPost_ret (v:=.tuple #[jD [],.bool false]) (zfc Tryz.results62 _ _ _ [] rfl (setRow_heap _ _ _ _ _ _ (zA iO))) rfl ?_;rw[zA HP];exact⟨z6 (zA cq) (by omega) _,rfl⟩
 | true=>
  have HP:=zC (show zV e A t=zgz e A.ts t.ts by unfold zV;rw[hq];rfl);go_wp2_with fail
  go_loopg [19] A.ts.length (λ gg i wr=>∃ (k:Nat) (e':zX),k<=A.ts.length/\gg=A.ts.length-k/\i=.int .i64 k/\zgz e' (A.ts.drop k) (t.ts.drop k)=zgz e A.ts t.ts/\jF wr w.heap.size e'/\yC [w.heap.size] w0 wr/\xN Vs e')
  exact⟨0,e,Nat.zero_le _,rfl,rfl,rfl,zA gd,yC.refl _ _,zA G6⟩
  case round=>
   obtain⟨k,e',hk,fM,rfl,bj,hb,cV,kF⟩:=hrel;have rJ:=zC kF;have HF:=zC bj;have HB:=zC hb;have gw:=zC cV;have sY:=zA fH;have y3:wr.heap[w.heap.size+1+1+1]?=some (.cells (zW []).toArray 135 (0,0)):=(cV.block _ (by omega) (by simp;omega)).trans (zA iO);have KZ:=zC y3;have lu:=zC (show Below w.heap.size w wr from ⟨cV.os.trans (zA cq).os,cV.tape.trans (zA cq).tape,cV.output.trans (zA cq).output,Nat.le_trans (zA cq).size cV.size,λ i hi=>(cV.block i (by omega) (by simp;omega)).trans ((zA cq).block i hi)⟩);clear bj hb cV y3 kF
   by_cases aN:k<A.ts.length
   ·obtain⟨g,rfl,nB,dG,dx,hc⟩:=zuw (zA na) k aN;have bE:wr.cell? ⟨w.heap.size+1+1,1+k,none⟩=some (.string (xF t.ts k)):=by
     have:=(zB ((zA gw).block _ (by omega) (by simp;omega) |>.trans (zA oF)) (1+k)).1;rw[this,zA fw,List.getElem?_toArray];exact zcj t (by omega)
    have Jq:g≠w.heap.size:=λ e1=>by
     have h1:=(zA gd).whole;rcases (zA na).2 with⟨_,h0⟩ | ⟨g2,cap,cur,hv,aU,dd,_⟩
     ·omega
     ·injection hv with h2 _ _
      injection h2 with h2
      injection h2 with h2
      rw[<-h2,e1,h1] at dd;injection dd with dd
      injection dd with _ dd _
      cases dd
    have gD:wr.cell? ⟨g,k,none⟩=some (zaz A.ts[k]):=((zA gw).cell (p:=⟨g,k,none⟩) nB (by simp;exact Jq)).trans hc;have HM:=zC (zym wr w.heap.size e' A.ts[k] (xF t.ts k) (zA HB) (by have:=(zA rJ).len;omega) (λ h1 h2=>Nat.lt_of_lt_of_le ((zA rJ).room (zA xo _ (List.getElem_mem aN) h1) h2) hV));have HS:=zC (z2u (e:=e') (ns:=t.ts) aN);have gW:(k:Int)<A.ts.length:=(by omega);have jq:(1+k:Int)<5:=(by omega);clear hc sY
    cases hr:pmT e' A.ts[k] (xF t.ts k) with
    | none=>
     rw[hr] at HS HM;have HE:=zC (show zgz e A.ts t.ts=none by rw[<-zA HF,zA HS]);go_upto_region 7 with (go_at_call 101;refine (zA HM).mono ?_;rintro en w1 ⟨de,rfl,ak⟩;have gM:=zC de;clear de ak);have y3:w1.heap[w.heap.size+1+1+1]?=some (.cells (zW []).toArray 135 (0,0)):=((zA gM).block _ (by have:=zA fH;have:=(zA gw).size;omega) (by simp;omega)).trans (zA KZ);have HY:=zC y3;have Bb:=zC (show Below w.heap.size w w1 from ⟨(zA gM).os.trans (zA lu).os,(zA gM).tape.trans (zA lu).tape,(zA gM).output.trans (zA lu).output,Nat.le_trans (zA lu).size (zA gM).size,λ i hi=>((zA gM).block i (by have:=(zA lu).size;omega) (by simp;omega)).trans ((zA lu).block i hi)⟩);clear y3;go_wp2_with (first | (refine wpList_store_row rfl 135 _ _ rfl _ _ rfl rfl _ _ (zA HY) (by rw[zcg];rfl) rfl (zbk []) ?_) | fail);refine bodyPost_ret (v:=.tuple #[jD [],.bool false]) (zfc Tryz.results62 _ _ _ [] rfl (setRow_heap _ _ _ _ _ _ (zA HY))) rfl ?_;rw[zA HP,zA HE];exact⟨z6 (zA Bb) (by omega) _,rfl⟩
    | some e2=>
     have A4:=zC ((zA rJ).term (zA xo _ (List.getElem_mem aN)) hr);rw[hr] at HS HM;have bK:=zC (show zgz e2 (A.ts.drop (k+1)) (t.ts.drop (k+1))=zgz e A.ts t.ts by rw[<-zA HF,zA HS]);go_wp2_with (go_at_call 101;refine (zA HM).mono ?_;rintro en w1 ⟨de,rfl,ak⟩;have gM:=zC de;have fG:=zC (ak e2 rfl);clear de ak);go_roundg (A.ts.length-(k+1));exact⟨k+1,e2,by omega,rfl,by go_num,zA bK,zA fG,(zA gw).trans (zA gM),zA A4⟩;omega
   ·have HE:=zC (show zgz e A.ts t.ts=some e' by rw[<-zA HF,List.drop_of_length_le (by omega)];rfl);have AI:=(zA HB).whole;have HW:=zC AI;clear AI sY;go_wp2_with (first | (refine wpList_load_row rfl 135 _ rfl _ rfl _ _ _ _ (zA HW) Tryz.underlying135 rfl (by rw[zcg];rfl) ?_) | (refine wpList_store_row rfl 135 _ _ rfl _ _ rfl rfl _ _ (zA KZ) (by rw[zcg];rfl) rfl (zbk _) ?_) | fail);refine bodyPost_ret (v:=.tuple #[jD e',.bool true]) (zfc Tryz.results62 _ _ _ e' rfl (setRow_heap _ _ _ _ _ _ (zA KZ))) rfl ?_;rw[zA HP,zA HE];exact⟨z6 (zA lu) (by omega) _,rfl⟩
end
section
open Go.RowKit
def cd (e:zX)(t:zb8):B8:=if t.1 then dr e t.2 else t.2
def zT (e:zX)(A:yY):Th:=⟨A.p,A.ts.map (cd e)⟩
theorem z2c (L:List B8)(x:B8)(i:Nat):xF (L++[x]) i=if i=L.length then x else xF L i:=by
 unfold xF;rw[List.getElem?_append]
 split
 ·rename_i h;rw[if_neg (by omega)]
 ·rename_i h
  split
  ·rename_i h2;subst h2;simp
  ·rename_i h2;rw[List.getElem?_eq_none (by simp;omega),List.getElem?_eq_none (by omega)]
theorem zuy (p:B8)(L:List B8)(x:B8)(h:L.length<4):(zJ ⟨p,L⟩).toArray.setIfInBounds (1+L.length) (.string x)=(zJ ⟨p,L++[x]⟩).toArray:=by
 unfold zJ;simp only[Th.p,Th.ts,z2c]
 match hl:L.length,h with
 | 0,_ | 1,_ | 2,_ | 3,_=>simp
theorem zgd:(Tryz.prog.info? 88).map (·.size)=some 5:=by kernel_rfl
theorem zd9 (t:Th):(zJ t).toArray.all (·.oneCell')=true:=by simp[zJ,Value.oneCell']
theorem zpb {wr:W8}{b:Nat}{p:B8}{L:List B8}(h:wr.heap[b]?=some (.cells (zJ ⟨p,L⟩).toArray 88 (0,0)))(hl:L.length<4)(x:B8):(wr.setCell ⟨b,1+L.length,none⟩ (.string x)).heap[b]?=some (.cells (zJ ⟨p,L++[x]⟩).toArray 88 (0,0)):=by
 rw[setCell_eq_setRow wr b _ _ _ (0,0) _ h,zuy p L x hl];exact setRow_heap _ _ _ _ _ _ h
def z42 (w:W8)(t:Th)(en:Ending)(w':W8):Prop:=Below w.heap.size w w'/\en=.returned (thV t)
theorem zc8 (w:W8)(base:Nat)(e:zX)(A:yY)(a:O8)(c:Nat)(h:w.ownsRow base 191 1 (.slice a A.ts.length c) A.ts.length (A.ts.map zaz))(h4:A.ts.length<=4)(hl:e.length<=12):
  Calls Tryz.prog 146 #[jD e,.agg #[.string A.p,.slice a A.ts.length c]] w (z42 w (zT e A)):=by
 obtain⟨cs,eZ⟩:∃ cs,cs=(zW e).toArray:=⟨_,rfl⟩;have rI:=zC eZ;unfold jD;rw[<-eZ];clear eZ;have H:=zC h;clear h;have q0:cs.size=25:=by rw[zA rI];rfl
 have a1:=zkq;have a2:=zie;have a3:=zkp;go_enter Tryz.func146,Tryz.ntmps146;go_upto_region 2 with fail;generalize hw0:World.alloc (World.alloc (World.alloc (World.alloc w _) _) _) _=w0;have k0:Below w.heap.size w w0:=by
  rw[<-hw0];exact ((((Below.refl w.heap.size w).alloc L9 _).alloc (by simp) _).alloc (by simp only[World.size_alloc];omega) _).alloc (by simp only[World.size_alloc];omega) _
 have x0:w0.heap[w.heap.size]?=some (.cells cs 135 (0,0)):=by
  rw[<-hw0,Below.heap_alloc _ _ _ (by simp only[World.size_alloc];omega),Below.heap_alloc _ _ _ (by simp only[World.size_alloc];omega),Below.heap_alloc _ _ _ (by simp)];exact heap_alloc_new w _
 have x1:w0.heap[w.heap.size+1]?=some (.cells #[.string A.p,.slice a A.ts.length c] 79 (0,0)):=by
  rw[<-hw0,Below.heap_alloc _ _ _ (by simp only[World.size_alloc];omega),Below.heap_alloc _ _ _ (by simp)];have:=heap_alloc_new (w.alloc (.cells cs 135)) (.cells #[.string A.p,.slice a A.ts.length c] 79);rw[World.size_alloc] at this;exact this
 have x2:w0.heap[w.heap.size+1+1]?=some (.cells (zJ ⟨{ data:=#[] },[]⟩).toArray 88 (0,0)):=by
  rw[<-hw0,Below.heap_alloc _ _ _ (by simp)];have:=heap_alloc_new ((w.alloc (.cells cs 135)).alloc (.cells #[.string A.p,.slice a A.ts.length c] 79)) (.cells (zJ ⟨{ data:=#[] },[]⟩).toArray 88);rw[World.size_alloc,World.size_alloc] at this;exact this
 have x3:w0.heap[w.heap.size+1+1+1]?=some (.cells (zJ ⟨A.p,[]⟩).toArray 88 (0,0)):=by
  rw[<-hw0];have:=heap_alloc_new (((w.alloc (.cells cs 135)).alloc (.cells #[.string A.p,.slice a A.ts.length c] 79)).alloc (.cells (zJ ⟨{ data:=#[] },[]⟩).toArray 88)) (.cells (zJ ⟨A.p,[]⟩).toArray 88);rw[World.size_alloc,World.size_alloc,World.size_alloc] at this;exact this
 have s0:w.heap.size+1+1+1+1=w0.heap.size:=by rw[<-hw0];simp
 have b0:jF w0 w.heap.size e:=jF.of (by rw[x0,zA rI]);have ee:=zP (zA H) (λ g e=>k0.block g ((zA H).lt g e).2);have HG:=zC (λ g (e1:(Value.slice a A.ts.length c).ownBlock=some g)=>((zA H).lt g e1).2);clear hw0 H;have gd:=zC b0;have fH:=zC s0;have iO:=zC x3;have oF:=zC x2;have na:=zC ee;have cq:=zC k0;obtain⟨p1,-⟩:=zB x1 1;have qb:=zC x1;clear x0 x1 x2 x3 b0 ee k0 s0;go_wp2_with fail
 go_loopg [16] A.ts.length (λ gg i wr=>∃ (k:Nat) (L:List B8),k<=A.ts.length/\gg=A.ts.length-k/\i=.int .i64 k/\L=(A.ts.take k).map (cd e)/\wr.heap[w.heap.size+1+1+1]?=some (.cells (zJ ⟨A.p,L⟩).toArray 88 (0,0))/\yC [w.heap.size+1+1+1] w0 wr)
 exact⟨0,[],Nat.zero_le _,rfl,rfl,rfl,zA iO,yC.refl _ _⟩
 case round=>
  obtain⟨k,L,hk,fM,rfl,hL,hx,cV⟩:=hrel;have ik:L.length=k:=by rw[hL];simp;omega
  have sY:=zA fH;have lu:=zC (show Below w.heap.size w wr from ⟨cV.os.trans (zA cq).os,cV.tape.trans (zA cq).tape,cV.output.trans (zA cq).output,Nat.le_trans (zA cq).size cV.size,λ i hi=>(cV.block i (by omega) (by simp;omega)).trans ((zA cq).block i hi)⟩);have HX:=zC hx;have gw:=zC cV;have HL:=zC hL;have p8:=zC ik
  by_cases aN:k<A.ts.length
  ·obtain⟨g,rfl,nB,dG,dx,hc⟩:=zuw (zA na) k aN;have eP:=zA HG g rfl;have gD:wr.cell? ⟨g,k,none⟩=some (zaz A.ts[k]):=((zA gw).cell (p:=⟨g,k,none⟩) nB (by simp;omega)).trans hc;have vk:=zC ((zA gd).block (cV.block _ (by omega) (by simp;omega)));obtain⟨dV,Fx⟩:=zB hx (1+k);replace dV:wr.cell? ⟨w.heap.size+1+1+1,1+k,none⟩=some (.string (xF L k)):=by
    rw[dV,List.getElem?_toArray];exact zcj ⟨A.p,L⟩ (by omega)
   have gW:(k:Int)<A.ts.length:=(by omega);have jq:(1+k:Int)<5:=(by omega);have fT:=zC (show (A.ts.take (k+1)).map (cd e)=L++[cd e A.ts[k]] by rw[List.take_succ_eq_append_getElem aN,List.map_append,zA HL];rfl);clear hc sY hx cV hL ik
   cases hv:A.ts[k].1 with
   | false=>
    have HF:=zC (show cd e A.ts[k]=A.ts[k].2 by unfold cd;rw[hv];rfl);have nA:wr.cell? ⟨g,k,none⟩=some (.iface 193 (.string A.ts[k].2)):=(by rw[gD];unfold zaz;rw[hv];rfl);clear gD;go_wp2_with fail;go_roundg (A.ts.length-(k+1))
    case measure=>omega
    case rel=>
     have:=zpb (zA HX) (by rw[zA p8];omega) A.ts[k].2;rw[zA p8] at this;exact⟨k+1,L++[A.ts[k].2],by omega,rfl,by go_num,by rw[zA fT,zA HF],this,(zA gw).setCell (by simp) _⟩
   | true=>
    have HF:=zC (show cd e A.ts[k]=dr e A.ts[k].2 by unfold cd;rw[hv];rfl);have nA:wr.cell? ⟨g,k,none⟩=some (.iface 130 (.string A.ts[k].2)):=(by rw[gD];unfold zaz;rw[hv];rfl);have HN:=zC (zsa wr w.heap.size e A.ts[k].2 (zA vk).cells hl);clear gD;go_wp2_with (go_at_call 201;refine (zA HN).mono ?_;rintro en w1 ⟨rfl,bq⟩;subst bq);go_roundg (A.ts.length-(k+1))
    case measure=>omega
    case rel=>
     have:=zpb (zA HX) (by rw[zA p8];omega) (dr e A.ts[k].2);rw[zA p8] at this;exact⟨k+1,L++[dr e A.ts[k].2],by omega,rfl,by go_num,by rw[zA fT,zA HF],this,(zA gw).setCell (by simp) _⟩
  ·have HE:=zC (show (⟨A.p,L⟩:Th)=zT e A by unfold zT;rw[hL,List.take_of_length_le (by omega)]);have qc:=zC ((cV.block (w.heap.size+1+1) (by omega) (by simp)).trans (zA oF));clear sY hx cV hL ik;go_wp2_with (first | (refine wpList_load_row rfl 88 _ rfl _ rfl _ _ _ _ (zA HX) Tryz.underlying88 rfl (by rw[zgd];rfl) ?_) | (refine wpList_store_row rfl 88 _ _ rfl _ _ rfl rfl _ _ (zA qc) (by rw[zgd];rfl) rfl (zd9 _) ?_) | fail);refine bodyPost_ret (v:=thV ⟨A.p,L⟩) (results_cell_row Tryz.results146 _ _ _ _ _ _ _ rfl (setRow_heap _ _ _ _ _ _ (zA qc)) Tryz.underlying88 rfl (by rw[zgd];rfl)) rfl ?_;exact⟨z6 (zA lu) (by omega) _,by rw[zA HE]⟩
end
section
open Go.RowKit
structure jQ (No:Nat->Prop)(w w':W8):Prop where
 os:w'.os=w.os
 tape:w'.tape=w.tape
 output:w'.output=w.output
 size:w.heap.size<=w'.heap.size
 same:∀ (k:Nat) (o:Obj),w.heap[k]?=some o->¬ No k->(o.isCells=true\/o.isWalk=true)->w'.heap[k]?=some o
theorem jQ.refl (No:Nat->Prop)(w:W8):jQ No w w:=⟨rfl,rfl,rfl,Nat.le_refl _,λ _ _ h _ _=>h⟩
theorem jQ.trans {No:Nat->Prop}{a b c:W8}(h:jQ No a b)(k:jQ No b c):jQ No a c:=
 ⟨k.os.trans h.os,k.tape.trans h.tape,k.output.trans h.output,Nat.le_trans h.size k.size,λ i o hi hn ho=>k.same i o (h.same i o hi hn ho) hn ho⟩
variable {w w':W8} {No:Nat->Prop}
theorem jQ.aF (k:Below w.heap.size w w'):jQ No w w':=
 ⟨k.os,k.tape,k.output,k.size,λ i _ hi _ _=>(k.block i (Array.getElem?_eq_some_iff.1 hi).1).trans hi⟩
theorem jQ.grown {a:W8}{row:Option Nat}(h:jQ No a w)(hg:w.grownBy w' row)(hr:∀ r,row=some r->a.heap.size<=r\/No r):jQ No a w':=
 ⟨hg.os.trans h.os,hg.tape.trans h.tape,hg.output.trans h.output,Nat.le_trans h.size hg.size,λ i o hi hn ho=>by
  have h1:=h.same i o hi hn ho;refine (hg.block i (Array.getElem?_eq_some_iff.1 h1).1 λ e=>?_).trans h1;rcases hr i e.symm with h2 | h2
  ·have:=(Array.getElem?_eq_some_iff.1 hi).1;omega
  ·exact hn h2⟩
theorem jQ.alloc {a:W8}(h:jQ No a w)(o:Obj):jQ No a (w.alloc o):=h.grown (World.grownBy_alloc w o none) (λ _ e=>by cases e)
variable {b:Nat}
theorem jQ.cells (h:jQ No w w'){cs:Array Value}{t:TypeId}{fr:Nat × Nat}(hb:w.heap[b]?=some (.cells cs t fr))(hn:¬ No b):w'.heap[b]?=some (.cells cs t fr):=h.same b _ hb hn (.inl rfl)
theorem jQ.map (h:jQ No w w'){L:List (Th × Nat)}(hb:jA w b L)(hn:¬ No b):jA w' b L:=by
 obtain⟨es,c,h1⟩:=hb.isMap;exact hb.block ((h.same b _ h1 hn (.inr rfl)).trans h1.symm)
variable {v:Value}
theorem jQ.row (h:jQ No w w'){base:Nat}{e:TypeId}{size n:Nat}{xs:V8}(hr:w.ownsRow base e size v n xs)(hn:∀ g,v.ownBlock=some g->¬ No g):w'.ownsRow base e size v n xs:=by
 refine zP hr λ g hg=>?_
 rcases hr.2 with⟨h0,_⟩ | ⟨g',cap,cur,rfl,hb,jo,_⟩
 ·rw[h0] at hg;cases hg
 ·have e:g'=g:=by simpa[Value.ownBlock] using hg
  subst e;exact (h.same _ _ jo (hn _ hg) (.inl rfl)).trans jo.symm
def zen (x:yY × Value):V8:=[.string x.1.p,x.2]
structure jG (No:Nat->Prop)(w:W8)(v:Value)(As:List (yY × Value)):Prop where
 row:∃ base,w.ownsRow base 79 2 v As.length (As.flatMap zen)
 aS:∀ x∈As,∃ base,w.ownsRow base 191 1 x.2 x.1.ts.length (x.1.ts.map zaz)
 ap:∀ g,v.ownBlock=some g->¬ No g
 BP:∀ x∈As,∀ g,x.2.ownBlock=some g->¬ No g
 ft:∀ x∈As,x.1.ts.length<=4
theorem jG.gH {As:List (yY × Value)}(h:jG No w v As)(k:jQ No w w'):jG No w' v As:=
 ⟨let ⟨b,hb⟩:=h.row;⟨b,k.row hb h.ap⟩,λ x hx=>let ⟨b,hb⟩:=h.aS x hx;⟨b,k.row hb (h.BP x hx)⟩,h.ap,h.BP,h.ft⟩
structure ud (No:Nat->Prop)(w:W8)(sb mb l:Nat)(pos neg:List (yY × Value))(pv nv:Value)(K:List (Th × Nat)):Prop where
 s:w.heap[sb]?=some (.cells #[pv,nv,.map (some mb),.func (.yield l) #[] #[]] 361 (0,0))
 ns:¬ No sb
 p:jG No w pv pos
 n:jG No w nv neg
 m:jA w mb K
 nm:¬ No mb
 p3:pos.length<=3
theorem ud.gH {No:Nat->Prop}{w w':W8}{sb mb l:Nat}{pos neg:List (yY × Value)}{pv nv:Value}{K:List (Th × Nat)}(h:ud No w sb mb l pos neg pv nv K)(k:jQ No w w'):ud No w' sb mb l pos neg pv nv K:=
 ⟨k.cells h.s h.ns,h.ns,h.p.gH k,h.n.gH k,k.map h.m h.nm,h.nm,h.p3⟩
def jV (K:List (Th × Nat))(neg:List yY)(e:zX):Bool:=neg.any λ x=>(z7 K (zT e x)).isSome
def zQ (K:List (Th × Nat)):List yY->zX->List zX
 | [],e=>[e]
 | a::r,e=>K.flatMap λ t=>match zV e a t.1 with
  | some e'=>zQ K r e'
  | none=>[]
def qO (K:List (Th × Nat))(neg pos:List yY)(e:zX):List zX:=(zQ K pos e).filter λ x=>!jV K neg x
end
section
open Go.RowKit
def BV (w:W8)(b:Nat)(e:zX):Prop:=w.heap[b]?=some (.cells (zW e).toArray 135 (0,0))
noncomputable def zgp (v:Value):Sem Value:=Instr.loadAt 135 v
noncomputable def zvh (p v:Value):Sem Unit:=Instr.storeAt 135 p v
noncomputable def z93:Sem Value:=zeroValue 135
theorem qR (v:Value):Instr.loadAt 135 v=zgp v:=rfl
theorem jO (p v:Value):Instr.storeAt 135 p v=zvh p v:=rfl
theorem zwz:zeroValue 135=z93:=rfl
theorem zsm (w:W8):z93.run Tryz.prog w=.ok (jD []) w:=by unfold z93;kernel_rfl
theorem xQ (e:zX):(jD e).cells=(zW e).toArray:=rfl
variable {e:zX} {b:Nat} {w:W8}
theorem BV.load (h:BV w b e):(zgp (.pointer (some ⟨b,0,none⟩))).run Tryz.prog w=.ok (jD e) w:=by
 unfold zgp Instr.loadAt Instr.sureAddr;simp only[Sem.run_bind,Sem.run_pure,Result.andThen_ok];exact run_loadVar_row w b _ 135 _ _ _ h Tryz.underlying135 rfl (by rw[zcg];rfl)
theorem BV.store (h:BV w b e)(e':zX):(zvh (.pointer (some ⟨b,0,none⟩)) (jD e')).run Tryz.prog w=.ok () (w.setRow b (zW e').toArray):=by
 unfold zvh Instr.storeAt Instr.sureAddr;simp only[Sem.run_bind,Sem.run_pure,Result.andThen_ok];exact run_storeVar_row w b _ 135 _ _ h (by rw[zcg];rfl) rfl (zbk e')
theorem BV.new (w:W8)(e:zX):BV (w.alloc (.cells (zW e).toArray 135)) w.heap.size e:=heap_alloc_new w _
theorem jC (w:W8)(e e':zX):(zvh (.pointer (some ⟨w.heap.size,0,none⟩)) (jD e')).run Tryz.prog (w.alloc (.cells (zW e).toArray 135))=.ok () (w.alloc (.cells (zW e').toArray 135)):=by
 rw[(BV.new w e).store e',World.setRow_alloc_new]
theorem BV.lt (h:BV w b e):b<w.heap.size:=(Array.getElem?_eq_some_iff.1 h).1
theorem BV.alloc (h:BV w b e)(o:Obj):BV (w.alloc o) b e:=(Below.heap_alloc w o b h.lt).trans h
variable {w':W8}
theorem BV.below (h:BV w b e)(k:Below w.heap.size w w'):BV w' b e:=(k.block b h.lt).trans h
theorem zzj:BV w.drew b e↔BV w b e:=Iff.rfl
theorem BV.gH {No:Nat->Prop}(h:BV w b e)(k:jQ No w w')(hn:¬ No b):BV w' b e:=k.cells h hn
def TV (w:W8)(b:Nat)(t:Th):Prop:=w.heap[b]?=some (.cells (zJ t).toArray 88 (0,0))
noncomputable def zej (v:Value):Sem Value:=Instr.loadAt 88 v
noncomputable def zsw (p v:Value):Sem Unit:=Instr.storeAt 88 p v
noncomputable def ydc:Sem Value:=zeroValue 88
theorem vU (v:Value):Instr.loadAt 88 v=zej v:=rfl
theorem xY (p v:Value):Instr.storeAt 88 p v=zsw p v:=rfl
theorem z3k (w:W8):ydc.run Tryz.prog w=.ok (thV ({ data:=#[] },[])) w:=by unfold ydc;kernel_rfl
theorem xW (t:Th):(thV t).cells=(zJ t).toArray:=rfl
variable {t:Th}
theorem TV.load (h:TV w b t):(zej (.pointer (some ⟨b,0,none⟩))).run Tryz.prog w=.ok (thV t) w:=by
 unfold zej Instr.loadAt Instr.sureAddr;simp only[Sem.run_bind,Sem.run_pure,Result.andThen_ok];exact run_loadVar_row w b _ 88 _ _ _ h Tryz.underlying88 rfl (by rw[zgd];rfl)
theorem TV.store (h:TV w b t)(t':Th):(zsw (.pointer (some ⟨b,0,none⟩)) (thV t')).run Tryz.prog w=.ok () (w.setRow b (zJ t').toArray):=by
 unfold zsw Instr.storeAt Instr.sureAddr;simp only[Sem.run_bind,Sem.run_pure,Result.andThen_ok];exact run_storeVar_row w b _ 88 _ _ h (by rw[zgd];rfl) rfl (zd9 t')
theorem TV.new (w:W8)(t:Th):TV (w.alloc (.cells (zJ t).toArray 88)) w.heap.size t:=heap_alloc_new w _
theorem vD (w:W8)(t t':Th):(zsw (.pointer (some ⟨w.heap.size,0,none⟩)) (thV t')).run Tryz.prog (w.alloc (.cells (zJ t).toArray 88))=.ok () (w.alloc (.cells (zJ t').toArray 88)):=by
 rw[(TV.new w t).store t',World.setRow_alloc_new]
theorem TV.lt (h:TV w b t):b<w.heap.size:=(Array.getElem?_eq_some_iff.1 h).1
theorem TV.alloc (h:TV w b t)(o:Obj):TV (w.alloc o) b t:=(Below.heap_alloc w o b h.lt).trans h
theorem TV.below (h:TV w b t)(k:Below w.heap.size w w'):TV w' b t:=(k.block b h.lt).trans h
noncomputable def z32 (h:Bool)(v:Value):Sem Value:=Instr.alloc 88 h v
theorem xX (h:Bool)(v:Value):Instr.alloc 88 h v=z32 h v:=rfl
theorem vC (w:W8)(v:Value):(z32 true v).run Tryz.prog w=.ok (.pointer (some ⟨w.heap.size,0,none⟩)) (w.alloc (.cells (zJ ({ data:=#[] },[])).toArray 88)):=by
 unfold z32;simp[Instr.alloc,newVar,newRow,go_sem,zJ,xF,Th.p,Th.ts]
noncomputable def z0i (h:Bool)(v:Value):Sem Value:=Instr.alloc 135 h v
theorem qP (h:Bool)(v:Value):Instr.alloc 135 h v=z0i h v:=rfl
theorem qB (w:W8)(v:Value):(z0i true v).run Tryz.prog w=.ok (.pointer (some ⟨w.heap.size,0,none⟩)) (w.alloc (.cells (zW []).toArray 135)):=by
 unfold z0i;simp[Instr.alloc,newVar,newRow,go_sem,zW,eAt]
variable {cs:Array Value} {g:Nat}
theorem BV.lA (h:BV w b e)(bG:b≠g):BV (w.setRow g cs) b e:=(setRow_other w g b cs bG).trans h
theorem zoi {o:Nat}{v:Value}(h:w.cell? ⟨b,o,none⟩=some v)(bG:b≠g):(w.setRow g cs).cell? ⟨b,o,none⟩=some v:=(cell_setRow_other w g cs ⟨b,o,none⟩ bG).trans h
theorem zbp {w1 w4:W8}(h:Below w.heap.size w w1)(h4:Below w1.drew.heap.size w1.drew w4):Below w.heap.size w w4:=h.trans ((⟨h4.os,h4.tape,h4.output,h4.size,h4.block⟩:Below w1.heap.size w1 w4).mono h.size)
theorem zL (h:Below w.drew.heap.size w.drew w'):Below w.heap.size w w':=⟨h.os,h.tape,h.output,h.size,h.block⟩
end
end Go.Proofs.YtldkpahaocjdpaaGreat
