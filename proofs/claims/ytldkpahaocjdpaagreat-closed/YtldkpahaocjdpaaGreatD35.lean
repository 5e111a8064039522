/-
  The library's sort of placed things.
-/
import Derived.Test.YtldkpahaocjdpaaGreatD31
import Derived.Test.YtldkpahaocjdpaaGreatD34
set_option maxHeartbeats 16000000
set_option maxRecDepth 1000000
namespace Go.Proofs.YtldkpahaocjdpaaGreat
section
open Go.RowKit Go.Maps Go.Sort
theorem zra {α:Type}[Inhabited α](enc:α->V8)(hk:∀ x,(enc x).length=7):∀ (xs:List α) (t:Nat),t<xs.length*7->(xs.flatMap enc)[t]?=some ((enc (xs.toArray[t/7]!))[t%7]!)
 | [],t,h=>by simp at h
 | x::r,t,h=>by
  rw[List.flatMap_cons]
  by_cases h3:t<7
  ·rw[List.getElem?_append_left (by rw[hk];exact h3),Nat.div_eq_of_lt h3,Nat.mod_eq_of_lt h3];have:t<(enc x).length:=by rw[hk];exact h3
   simp[this]
  ·have ih:=zra enc hk r (t-7) (by simp at h;omega);rw[List.getElem?_append_right (by rw[hk];omega),hk,ih];have e1:t/7=(t-7)/7+1:=(by omega);have e2:t%7=(t-7)%7:=(by omega);have hl:(t-7)/7<r.length:=(by simp at h;omega);rw[e1,e2];simp[hl]
theorem zpc {α:Type}[Inhabited α](enc:α->V8)(hk:∀ x,(enc x).length=7)(xs:List α):Sort.flatK enc 7 xs.toArray=(xs.flatMap enc).toArray:=by
 have hl:∀ l:List α,(l.flatMap enc).length=l.length*7:=by
  intro l;induction l with
  | nil=>rfl
  | cons x r ih=>rw[List.flatMap_cons,List.length_append,ih,hk,List.length_cons];omega
 refine Array.ext (by simp[hl]) λ t h1 h2=>?_
 have ht:t<xs.length*7:=by simpa using h1
 have h3:=zra enc hk xs t ht;have h4:=Sort.get_flatK enc 7 xs.toArray t (by simpa using ht);rw[getElem!_pos _ t h1] at h4;rw[h4];have h5:(xs.flatMap enc)[t]?=some (xs.flatMap enc).toArray[t]:=by simp
 rw[h3] at h5;exact Option.some.inj h5
section
variable {w:W8} {g n:Nat} {os:Array Obj} {cur:Array Value} {e:TypeId} {α:Type} [Inhabited α]
theorem zk9 {enc:α->V8}(hk:∀ x,(enc x).length=7){xs:List α}(hb:w.heap[g]?=some (.cells cur e (0,0)))(ht:cur.toList.take (xs.length*7)=xs.flatMap enc):Sort.HoldsK enc 7 w g 0 xs.toArray:=by
 unfold Sort.HoldsK;rw[zpc enc hk];intro j hj;have CG:j<(xs.flatMap enc).length:=by simpa using hj
 refine⟨?_,by simp[World.frozen?,hb]⟩;have hl:(xs.flatMap enc).length<=xs.length*7:=by rw[<-ht];simp;omega
 have h1:(cur.toList.take (xs.length*7))[j]?=(xs.flatMap enc)[j]?:=by rw[ht]
 rw[List.getElem?_take_of_lt (by omega)] at h1;simp only[World.cell?,hb,Nat.zero_add];simp only[Option.isSome_none,Bool.false_eq_true,if_false];rw[<-Array.getElem?_toList,h1,List.getElem?_eq_getElem CG];rw[getElem!_pos _ j hj];rfl
theorem zrb (d:Array Value)(hb:w.heap[g]?=some (.cells cur e (0,0))):
  (Sort.grow (Sort.putRow id (Sort.ahead w n) g 0 d) os).heap[g]?=some (.cells (Sort.putCells id 0 d cur) e (0,0)):=by
 have hg:g<w.heap.size:=(Array.getElem?_eq_some_iff.1 hb).1;rw[Sort.heap_grow_old _ _ (by simpa using hg)];simp[Sort.putRow,Sort.mapBlock,Sort.ahead,Array.getElem?_modify,hb,Sort.onCells]
theorem zk6 (d:Array Value):w.grownBy (Sort.grow (Sort.putRow id (Sort.ahead w n) g 0 d) os) (some g):=by
 refine⟨rfl,rfl,rfl,by simp,λ k hk bG=>?_⟩;rw[Sort.heap_grow_old _ _ (by simpa using hk)];have:g≠k:=λ e=>bG (by rw[e])
 simp[Sort.putRow,Sort.mapBlock,Sort.ahead,Array.getElem?_modify,this]
theorem zmz (ts:V8)(h:ts.length<=cur.size):(Sort.putCells id 0 ts.toArray cur).toList.take ts.length=ts:=by
 apply List.ext_getElem?;intro j
 by_cases hj:j<ts.length
 ·rw[List.getElem?_take_of_lt hj,Array.getElem?_toList];simp[Sort.putCells,hj,show j<cur.size by omega]
 ·rw[List.getElem?_take_eq_none (by omega),List.getElem?_eq_none (by omega)]
theorem zlp {base cap m:Nat}{enc:α->V8}(hk:∀ x,(enc x).length=7){ys:List α}(hl:ys.length=m)(bO:base<=g)(hb:w.heap[g]?=some (.cells cur e (0,0)))
  (h1:m<=cap) (h2:cap<=maxLen) (h3:cur.size=cap*7):
  (sortWorldK enc 7 w g 0 n ys.toArray os).ownsRow base e 7 (.slice (some ⟨g,0,none⟩) m cap) ys.length (ys.flatMap enc):=by
 have lE:(ys.flatMap enc).length=ys.length*7:=by have:=congrArg Array.size (zpc enc hk ys);simpa using this.symm
 unfold sortWorldK Sort.putRowK;rw[zpc enc hk];exact⟨lE,.inr ⟨g,cap,_,by rw[hl],bO,zrb _ hb,by omega,h2,by simp[Sort.putCells,h3],by rw[<-lE];exact zmz _ (by rw[lE,h3];omega)⟩⟩
end
def vK (p q:Pl):Bool:=decide (p.s<q.s)||(decide (p.s=q.s)&&(decide (p.h<q.h)||(decide (p.h=q.h)&&ze1 (yI p.t) (yI q.t))))
theorem zav {p q:Pl}:vK p q=true↔p.s<q.s\/(p.s=q.s/\(p.h<q.h\/(p.h=q.h/\ze1 (yI p.t) (yI q.t)=true))):=by unfold vK;simp
theorem z6l (p q:Pl):decide (MK p q<0)=vK p q:=by
 rw[Bool.eq_iff_iff,decide_eq_true_eq,zav];unfold MK orC zm6;have hb:zvl (yI p.t) (yI q.t)<0↔ze1 (yI p.t) (yI q.t)=true:=by
  have:=z10 (yI p.t) (yI q.t);unfold ltOf at this;rw[<-this];simp
 by_cases h1:p.s<q.s
 ·simp[h1]
 ·by_cases h2:q.s<p.s
  ·simp only[if_neg h1,if_pos h2];simp;omega
  ·have e:p.s=q.s:=(by omega);simp only[if_neg h1,if_neg h2]
   by_cases h3:p.h<q.h
   ·simp[h3,e]
   ·by_cases h4:q.h<p.h
    ·simp only[if_neg h3,if_pos h4];simp;omega
    ·have e2:p.h=q.h:=(by omega);simp only[if_neg h3,if_neg h4];simp[e,e2,hb]
theorem Nz (p:Pl):vK p p=false:=by
 rw[<-Bool.not_eq_true,zav];rintro (h | ⟨_,h | ⟨_,h⟩⟩)
 ·omega
 ·omega
 ·rw[zrf] at h;cases h
theorem M5 {p q r:Pl}(h:vK p q=true)(k:vK q r=true):vK p r=true:=by
 rw[zav] at h k ⊢;rcases h with h | ⟨h,h' | ⟨h',IM⟩⟩ <;> rcases k with k | ⟨k,k' | ⟨k',Kx⟩⟩
 ·exact .inl (by omega)
 ·exact .inl (by omega)
 ·exact .inl (by omega)
 ·exact .inl (by omega)
 ·exact .inr ⟨by omega,.inl (by omega)⟩
 ·exact .inr ⟨by omega,.inl (by omega)⟩
 ·exact .inl (by omega)
 ·exact .inr ⟨by omega,.inl (by omega)⟩
 ·exact .inr ⟨by omega,.inr ⟨by omega,N2 IM Kx⟩⟩
theorem zne {p q:Pl}(h:vK p q=false)(k:vK q p=false):p.s=q.s/\p.h=q.h/\yI p.t=yI q.t:=by
 rw[<-Bool.not_eq_true,zav] at h k;have e1:p.s=q.s:=by
  rcases Nat.lt_trichotomy p.s q.s with h1 | h1 | h1
  ·exact absurd (.inl h1) h
  ·exact h1
  ·exact absurd (.inl h1) k
 have e2:p.h=q.h:=by
  rcases Nat.lt_trichotomy p.h q.h with h1 | h1 | h1
  ·exact absurd (.inr ⟨e1,.inl h1⟩) h
  ·exact h1
  ·exact absurd (.inr ⟨e1.symm,.inl h1⟩) k
 refine⟨e1,e2,N0 ?_ ?_⟩
 ·cases hq:ze1 (yI p.t) (yI q.t) with
  | false=>rfl
  | true=>exact absurd (.inr ⟨e1,.inr ⟨e2,hq⟩⟩) h
 ·cases hq:ze1 (yI q.t) (yI p.t) with
  | false=>rfl
  | true=>exact absurd (.inr ⟨e1.symm,.inr ⟨e2.symm,hq⟩⟩) k
theorem NA {p q r:Pl}(h:vK p q=false)(k:vK q r=false):vK p r=false:=by
 cases hq:vK p r with
 | false=>rfl
 | true=>
  cases h2:vK r q with
  | true=>rw[M5 hq h2] at h;cases h
  | false=>
   obtain⟨e1,e2,e3⟩:=zne k h2;rw[zav,<-e1,<-e2,<-e3,<-zav] at hq;rw[hq] at h;cases h
theorem z83 (L:List Pl):(List.finRange L.length).map (λ i=>L[i])=L:=by
 apply List.ext_getElem
 ·simp
 ·intro i h1 h2;simp
theorem zy4 (wr:W8)(base:Nat)(al:O8)(cl:Nat)(L:List Pl)(h:wr.ownsRow base 148 7 (.slice al L.length cl) L.length (L.flatMap aB))(hl:L.length<=1000000)(bX:∀ p∈L,zbj p.t/\(zbv p.t.1 (xE p.t)).length<=1000000000)(dB:(L.map λ p=>yI p.t).Nodup):
  Calls Tryz.prog 105 #[.slice al L.length cl,.func (.func 106) #[] #[]] wr λ e w'=>e=.returned (.tuple #[])/\∃ O:List Pl,O.Perm L/\(O.Pairwise λ p q=>vK p q=true)/\w'.ownsRow base 148 7 (.slice al L.length cl) O.length (O.flatMap aB)/\wr.grownBy w' (Value.slice al L.length cl).ownBlock:=by
 rcases h.2 with⟨hv,h0⟩ | ⟨g,cap,cur,hv,hb,hg,dG,dx,eZ,ht⟩
 ·have hx:L=[]:=List.length_eq_zero_iff.1 h0;subst hx;injection hv with h1 h2 h3
  subst h1 h3;refine Calls.mono (AnyF.slices_SortFunc_none Tryz.sortPl none 0 _ wr) ?_;rintro e w' ⟨rfl,rfl⟩;exact⟨rfl,[],.refl _,by simp,World.ownsRow_nil _ _ _ _,⟨rfl,rfl,rfl,Nat.le_refl _,λ _ _ _=>rfl⟩⟩
 ·injection hv with h1 h2 h3
  subst h1 h3;have bP:g<wr.heap.size:=(Array.getElem?_eq_some_iff.1 hg).1
  by_cases bn:L.length=0
  ·have hx:L=[]:=List.length_eq_zero_iff.1 bn;subst hx;refine Calls.mono (AnyF.slices_SortFunc_none Tryz.sortPl _ cl _ wr) ?_;rintro e w' ⟨rfl,rfl⟩;exact⟨rfl,[],.refl _,by simp,h,⟨rfl,rfl,rfl,Nat.le_refl _,λ _ _ _=>rfl⟩⟩
  have lf:0<L.length:=by omega
  haveI:Inhabited (Fin L.length):=⟨⟨0,lf⟩⟩
  have eg:∀ args w,(callFunc 106 args).run Tryz.prog w=.ok (.enter 106 args) w:=enters_of Tryz.func106 (by kernel_rfl) rfl;obtain⟨enc,oZ⟩:∃ enc:Fin L.length->V8,enc=λ i=>aB L[i]:=⟨_,rfl⟩
  obtain⟨cf,Cu⟩:∃ cf:Fin L.length->Fin L.length->Int,cf=λ i j=>MK L[i] L[j]:=⟨_,rfl⟩
  have gX:∀ i j,ltOf cf i j=vK L[i] L[j]:=λ i j=>by rw[<-z6l,Cu];rfl
  have hk:∀ x,(enc x).length=7:=λ x=>by rw[oZ];rfl
  have h1:∀ x,∀ v∈enc x,v.oneCell'=true:=λ x=>by rw[oZ];exact zr6 _
  have hO:SWO (ltOf cf):=⟨λ x=>by rw[gX];exact Nz _,λ x y z a b=>by rw[gX] at *;exact M5 a b,λ x y z a b=>by rw[gX] at *;exact NA a b⟩;have hT:∀ x y,ltOf cf x y=false->ltOf cf y x=false->x=y:=λ x y a b=>by
   rw[gX] at a b;obtain⟨_,_,e⟩:=zne a b;rw[List.nodup_iff_pairwise_ne,List.pairwise_iff_getElem] at dB;rcases Nat.lt_trichotomy x.1 y.1 with c | c | c
   ·exact absurd (by simpa using e) (dB x.1 y.1 (by simp) (by simp) c)
   ·exact Fin.ext c
   ·exact absurd (by simpa using e.symm) (dB y.1 x.1 (by simp) (by simp) c)
  have lE:(List.finRange L.length).flatMap enc=L.flatMap aB:=by
   have:=congrArg (λ l=>List.flatMap aB l) (z83 L);simp only[List.flatMap_map] at this;rw[oZ];exact this
  have Fu:(List.finRange L.length).length=L.length:=by simp
  have yr:CmpLays Tryz.prog 106 #[] enc 7 cf g 0 (List.finRange L.length).toArray.size wr:=λ m os dk Em x y=>by
   have hx:=bX L[x] (List.getElem_mem _);have hy:=bX L[y] (List.getElem_mem _);have hc:=ztj (zxg (sortWorldK enc 7 wr g 0 m dk os) L[x] L[y] hx.1 hy.1 hx.2 hy.2);rw[oZ,Cu] at *;refine Calls.mono hc ?_;rintro e w' ⟨⟨rfl,ja⟩,hd⟩;exact⟨rfl,zmx ja (hd _ rfl)⟩
  have yu:=AnyQ.slices_SortFunc_total Tryz.sortPl 7 Tryz.isAgg148 Tryz.sizeOf148 enc hk h1 cf hO 106 #[] g 0 cl (List.finRange L.length).toArray wr eg yr (zk9 hk hg (by rw[Fu,lE];exact ht)) bP (by simp;omega) hT;have hsz:(List.finRange L.length).toArray.size=L.length:=by simp
  rw[hsz] at yu;refine Calls.mono yu ?_;rintro e w' ⟨rfl,n,os,rfl⟩;obtain⟨M,hM⟩:∃ M,M=(List.finRange L.length).mergeSort λ x y=>!(ltOf cf) y x:=⟨_,rfl⟩
  have IX:((List.finRange L.length).toArray.toList.mergeSort λ x y=>!(ltOf cf) y x)=M:=by rw[hM]
  have dC:M.Perm (List.finRange L.length):=by rw[hM];exact List.mergeSort_perm _ _
  have ed:M.length=L.length:=by rw[dC.length_eq,Fu]
  have Jg:M.flatMap enc=(M.map λ i=>L[i]).flatMap aB:=by rw[List.flatMap_map,oZ]
  refine⟨rfl,M.map (λ i=>L[i]),?_,?_,?_,zk6 _⟩
  ·have:=dC.map (λ i=>L[i]);rw[z83] at this;exact this
  ·have hs:M.Pairwise λ x y=>(!(ltOf cf) y x)=true:=by
    rw[hM];refine List.pairwise_mergeSort (λ a b c x y=>?_) (λ a b=>?_) _
    ·simp only[gX,Bool.not_eq_true'] at *;exact NA y x
    ·simp only[gX]
     cases q1:vK L[a] L[b] with
     | false=>simp
     | true=>
      cases q2:vK L[b] L[a] with
      | false=>simp
      | true=>have:=M5 q1 q2;rw[Nz] at this;cases this
   have hn:M.Nodup:=dC.nodup_iff.2 (by
    rw[List.nodup_iff_pairwise_ne,List.pairwise_iff_getElem];intro i j hi hj hij e;have:=congrArg Fin.val e;simp at this
    omega)
   rw[List.pairwise_map];refine (hs.and hn).imp λ {x y} km=>?_
   obtain⟨q1,q2⟩:=km;simp only[Bool.not_eq_true'] at q1
   cases q3:vK L[x] L[y] with
   | true=>rfl
   | false=>exact absurd (hT x y (by rw[gX];exact q3) q1) q2
  ·rw[IX,<-Jg,List.length_map];exact zlp hk ed hb hg dG dx eZ
end
section
open Go.RowKit Go.Maps
attribute [local go_sem ↓] vU xY xX xW
attribute [local go_sem] vD vC
def zh9 (S:B8->Nat)(p:Th × Nat):Pl:=⟨p.1,S p.1.1,p.2⟩
theorem yan:(Tryz.prog.info? 148).map (λ i=>(i.zero,i.size,i.bytes))=some (some (.agg #[.string { data:=#[] },.string { data:=#[] },.string { data:=#[] },.string { data:=#[] },.string { data:=#[] },.int .i64 0,.int .i64 0]),7,96):=by kernel_rfl
theorem z7a (w1:W8)(o:Obj)(p:Pl)(j:Nat)(u:Value)(h:(aB p)[j]?=some u):((w1.alloc o).alloc (.cells (aB p).toArray 148)).cell? ((⟨w1.heap.size+1,0,none⟩:Addr).add j)=some u:=by
 have e:(⟨w1.heap.size+1,0,none⟩:Addr).add j=⟨w1.heap.size+1,j,none⟩:=by unfold Addr.add;split <;> simp_all
 rw[e,World.cell?_alloc_at _ _ _ _ (by simp)];simpa using h
structure yer (w:W8)(kb rb:Nat)(S:B8->Nat)(K:List (Th × Nat))(Lf:Th->Prop)(ts:List (Th × Nat))(v:Value)(dF:Nat)(wr:W8):Prop where
 rg:dq wr kb rb K Lf dF
 mem:∀ p,p∈ts↔p∈K/\¬ Lf p.1
 nd:ts.Nodup
 len:ts.length+dF<=K.length
 row:wr.ownsRow (w.heap.size+1) 148 7 v ts.length (ts.flatMap λ p=>aB (zh9 S p))
 k:Below w.heap.size w wr
theorem ya1 {K ts:List (Th × Nat)}{Lf:Th->Prop}{t:Th}{n:Nat}(hm:∀ p,p∈ts↔p∈K/\¬ Lf p.1)(ht:(t,n)∈K)(hd:(K.map (·.1)).Nodup):∀ p,p∈ts++[(t,n)]↔p∈K/\¬ (Lf p.1/\p.1≠t):=by
 intro p;rw[List.mem_append,hm,List.mem_singleton]
 constructor
 ·rintro (⟨h1,h2⟩ | rfl)
  ·exact⟨h1,λ h=>h2 h.1⟩
  ·exact⟨ht,λ h=>h.2 rfl⟩
 ·rintro⟨h1,h2⟩
  by_cases e:p.1=t
  ·right
   have h3:z7 K t=some p.2:=zaf hd (by rw[<-e];exact h1);rw[zaf hd ht] at h3;have:=Option.some.inj h3;exact Prod.ext e this.symm
  ·left;exact⟨h1,λ h=>h2 ⟨h,e⟩⟩
def zzt (w:W8)(S:B8->Nat)(K:List (Th × Nat))(e:Ending)(w':W8):Prop:=
 ∃ (O:List Pl) (a:O8) (c:Nat),e=.returned (.slice a O.length c)/\O.Perm (K.map (zh9 S))/\(O.Pairwise λ p q=>vK p q=true)/\w'.ownsRow w.heap.size 148 7 (.slice a O.length c) O.length (O.flatMap aB)/\Below w.heap.size w w'
theorem z2i (w:W8)(kb tb n:Nat)(ps:P9)(S:B8->Nat)(K:List (Th × Nat))(hm:jA w kb K)(ht:qS Tryz.prog 9 w tb n (stV ps S))(hK:K.length<=1000)(zx:∀ p∈K,(zbv p.1.1 (xE p.1)).length<=1000000000)(gj:∀ p∈K,p.1.1.size<=1000000/\(zZ ps p.1.1).isSome=true)(dB:(K.map λ p=>yI p.1).Nodup):
  Calls Tryz.prog 67 #[.map (some kb),.map (some tb)] w (zzt w S K):=by
 obtain⟨i0,hi,dK,cB,bZ⟩:=info_parts yan;have KY:=zC zx;have H4:=zC gj;have ju:=zC dB;have du:=hm.lt;have fZ:=ht.lt;have HM:=zC hm;have HT:=zC ht;clear zx hm ht gj dB;have uk:=zhk;have nE:=zA HM;go_enter Tryz.func67,Tryz.ntmps67;go_wp2_with (first | (at_range;refine zh8 _ rfl _ 83 rfl Tryz.underlying83 kb K rfl nE ?_;intro w1 hrg1 eP js) | go_in)
 try go_frame
 have h0:yer w kb w.heap.size S K (λ _=>True) [] (.slice none 0 0) K.length w1:=
  ⟨hrg1,λ p=>⟨λ h=>absurd h List.not_mem_nil,λ h=>absurd trivial h.2⟩,by simp,by simp,World.ownsRow_nil _ _ _ _,⟨eP.os,eP.tape,eP.output,eP.size,λ j hj=>eP.block j hj (by simp)⟩⟩
 have H0:=zC h0;clear hrg1 eP js nE h0
 go_loopg [5] K.length (λ gg v wr=>∃ (Lf:Th->Prop) (ts:List (Th × Nat)),yer w kb w.heap.size S K Lf ts v gg wr)
 exact⟨_,_,zA H0⟩
 case round=>
  clear H0;obtain⟨Lf,ts,ak⟩:=hrel;obtain⟨a1,c1,rfl⟩:=zE ak.row;have jf:=ak.rg;have sU:w.heap.size<wr.heap.size:=ak.rg.lt;have hlen:=ak.len;have bt:=zC ak;clear ak;go_wp2_with (first | (at_next;refine zkh _ rfl _ rfl kb w.heap.size K Lf gk rfl jf ?_ ?_) | go_in)
  ·intro cF;have HD:=zC cF;have ak:=zA bt;have dC:ts.Perm K:=(List.perm_ext_iff_of_nodup ak.nd (zhu ak.rg.map.nodup)).2 λ p=>by
    rw[ak.mem];exact⟨λ h=>h.1,λ h=>⟨h,cF p.1.1 p.1.2 p.2 h⟩⟩
   have jz:(ts.map (zh9 S)).length=ts.length:=(by simp);have aE:=ak.row;rw[<-jz,show (ts.flatMap λ p=>aB (zh9 S p))=(ts.map (zh9 S)).flatMap aB by rw[List.flatMap_map]] at aE
   have HS:=zC (zy4 wr (w.heap.size+1) a1 c1 (ts.map (zh9 S)) aE (by rw[jz];omega) (λ p hp=>by
    obtain⟨y,hy,rfl⟩:=List.mem_map.1 hp;have I4:=dC.mem_iff.1 hy
    exact⟨ak.rg.map.ok _ I4,zA KY _ I4⟩) (by
    rw[List.map_map]
    exact ((dC.map _).nodup_iff).2 (zA ju)))
   rw[jz] at HS;have lx:=zC dC;clear cF jf ak aE dC;go_wp2_with (go_at_call 105;refine (zA HS).mono ?_;rintro e w2 ⟨rfl,O,E3,E4,E5,E6⟩;have HO:=zC (And.intro E3 (And.intro E4 (And.intro E5 E6)));clear E3 E4 E5 E6);go_ret;obtain⟨q1,q2,q3,g2⟩:=zA HO;have ak:=zA bt;have Lo:O.length=ts.length:=(by rw[q1.length_eq,jz]);refine⟨O,a1,c1,by rw[Lo];rfl,q1.trans ((zA lx).map _),q2,?_,?_⟩
   ·rw[Lo] at q3 ⊢;exact zI q3 (by omega)
   ·exact⟨g2.os.trans ak.k.os,g2.tape.trans ak.k.tape,g2.output.trans ak.k.output,Nat.le_trans ak.k.size g2.size,λ i hi=>(g2.block i (by omega) (λ e=>by have:=(ak.row.lt i e.symm).1;omega)).trans (ak.k.block i hi)⟩
  ·intro tp tts h w2 cnt2 gZ kV hrg2 gX dd lj hen2;have ak:=zA bt;have k2:Below w.heap.size w w2:=⟨dd.os.trans ak.k.os,dd.tape.trans ak.k.tape,dd.output.trans ak.k.output,Nat.le_trans ak.k.size dd.size,λ i hi=>(dd.block i (by omega) (by simp;omega)).trans (ak.k.block i hi)⟩;have r2:w2.ownsRow (w.heap.size+1) 148 7 (.slice a1 ts.length c1) ts.length (ts.flatMap λ p=>aB (zh9 S p)):=zP ak.row (λ g e=>dd.block g (ak.row.lt g e).2 (λ e2=>by have:=(ak.row.lt g e).1;injection e2 with e2;omega));generalize ((tp,tts):Th)=t at *;obtain⟨mJ,sG⟩:=zA H4 _ gZ;obtain⟨m,bD⟩:=Option.isSome_iff_exists.1 sG;simp only at mJ bD;have hT:zbj t:=ak.rg.map.ok _ gZ;have kj:wr.heap.size<=w2.heap.size:=dd.size;have k3:Below w2.heap.size w2 (w2.alloc (.cells (zJ t).toArray 88)):=B9.alloc L9 _;have t3:(zej (.pointer (some ⟨w2.heap.size,0,none⟩))).run Tryz.prog (w2.alloc (.cells (zJ t).toArray 88))=.ok (.agg #[.string t.1,.string (xF t.2 0),.string (xF t.2 1),.string (xF t.2 2),.string (xF t.2 3)]) (w2.alloc (.cells (zJ t).toArray 88)):=(TV.new w2 t).load;have q0:(w2.alloc (.cells (zJ t).toArray 88)).cell? ⟨w2.heap.size,0,none⟩=some (.string t.1):=(zB (TV.new w2 t) 0).1;have GN:qS Tryz.prog 9 (w2.alloc (.cells (zJ t).toArray 88)) tb n (stV ps S):=(zA HT).block ((k2.trans (k3.mono k2.size)).block tb fZ);have pe:t.1.size<=maxLen:=(by unfold maxLen;omega);have hu:(stV ps S t.1).getD (.agg #[.string { data:=#[] },.int .i64 0,.int .i64 0])=.agg #[.string t.1,.int .i64 (S t.1),.int .i64 m]:=(by unfold stV;rw[bD];rfl);have iU:=zC hrg2;have ky:=zC k2;have rO:=zC r2;have fT:=zC (ya1 ak.mem gZ ak.rg.map.nodup);have bU:(t,h)∉ts:=λ hm=>((ak.mem _).1 hm).2 kV
   have tF:=zC bU;have Bh:=zC ak.nd;have bH:=(r2.alloc (.cells (zJ t).toArray 88)).alloc (.cells (aB (zh9 S (t,h))).toArray 148);clear lj dd jf hrg2 k2 r2 gZ kV ak k3 bU bD sG
   go_wp2_with (first
     | (at_lookup;refine zcr _ rfl _ _ 73 rfl 9 185 Tryz.underlying9 Tryz.underlying73 (Tryz.zeroValue185 _) tb n (stV ps S) rfl GN t.1 rfl pe _ hu ?_)
     | (at_builtin;refine wpList_append_own _ rfl _ _ 141 rfl (w.heap.size+1) 148 i0 _ 7 96 Tryz.underlying141 hi dK cB bZ rfl (by decide) _ _ _ rfl bH ⟨w2.heap.size+1,0,none⟩ 1 1 (aB (zh9 S (t,h))) rfl rfl (z7a w2 (.cells (zJ t).toArray 88) (zh9 S (t,h))) (zr6 _) (by unfold maxLen;omega) (by omega) (by simp;omega) ?_;intro v7 w7 hown7 hg7 hne7;clear hne7;obtain⟨a7,BS,rfl⟩:=zE hown7;have Bl:=zC hown7;have A7:=zC hg7;clear hown7 hg7))
   go_roundg cnt2
   case measure=>omega
   case rel=>
    have g7:=zA A7;have k2:=zA ky;have r2:=zA rO;have hb:∀ i,i<=w.heap.size->w7.heap[i]?=w2.heap[i]?:=λ i hi=>by
     rw[g7.block i (by simp;omega) (λ e=>by have:=(r2.lt i e.symm).1;omega),Below.heap_alloc _ _ _ (by simp;omega),Below.heap_alloc _ _ _ (by omega)]
    refine⟨_,ts++[(t,h)],(zA iU).blocks (hb _ (by omega)) (hb _ L9),zA fT,List.nodup_append.2 ⟨zA Bh,by simp,λ x hx y hy e=>by rw[List.mem_singleton.1 hy] at e;rw[e] at hx;exact zA tF hx⟩,by rw[List.length_append];simp;omega,?_,?_⟩
    ·have h7:=zA Bl;have e1:(ts++[(t,h)]).length=ts.length+1:=(by simp);rw[e1,List.flatMap_append];simpa using h7
    ·exact⟨g7.os.trans k2.os,g7.tape.trans k2.tape,g7.output.trans k2.output,by have h1:=g7.size;have h2:=k2.size;simp at h1;omega,λ i hi=>(hb i (by omega)).trans (k2.block i hi)⟩
end
end Go.Proofs.YtldkpahaocjdpaaGreat
