/-
  The order of placed things: compare.
-/
import Derived.Test.YtldkpahaocjdpaaGreatE40
import Derived.Test.YtldkpahaocjdpaaGreatE41
set_option maxHeartbeats 16000000
set_option maxRecDepth 1000000
namespace Go.Proofs.YtldkpahaocjdpaaGreat
section
open Go.RowKit
theorem z6u (TX:B8->B8->B8->B8->B8->B8->Prop)(w:W8)(p0 p1 p2 p3 p4 q0 q1 q2 q3 q4 tp tq:B8)(s1 h1 s2 h2:Nat)(hp:TX p0 p1 p2 p3 p4 tp)(hq:TX q0 q1 q2 q3 q4 tq)
  (HT:∀ (x0 x1 x2 x3 x4 t:B8),TX x0 x1 x2 x3 x4 t->∀ W:W8,Calls Tryz.prog 63 #[.agg #[.string x0,.string x1,.string x2,.string x3,.string x4]] W λ e w'=>e=.returned (.string t)/\Below W.heap.size W w'):
  Calls Tryz.prog 106 #[.agg #[.string p0,.string p1,.string p2,.string p3,.string p4,.int .i64 s1,.int .i64 h1],.agg #[.string q0,.string q1,.string q2,.string q3,.string q4,.int .i64 s2,.int .i64 h2]] w λ e w'=>e=.returned (.int .i64 (orC (znz s1 s2) (znz h1 h2) (ztx tp tq)))/\Below w.heap.size w w':=by
 have T1:=zC HT;have C1:=zC zjo;have C3:=zC (λ W=>zty tp tq W);have O3:=zC (λ (W:W8) (a b c:Int)=>ybr (W.alloc (.cells #[.int .i64 a,.int .i64 b,.int .i64 c] 3)) W.heap.size a b c (heap_alloc_new W _));clear HT;generalize ztx tp tq=r3 at *;go_enter Tryz.func106,Tryz.ntmps106;go_upto_region 1 with fail;generalize bC:World.alloc (World.alloc w _) _=w0;have k0:Below w.heap.size w w0:=by
  rw[<-bC];exact ((Below.refl w.heap.size w).alloc L9 _).alloc (by simp) _
 have x0:w0.heap[w.heap.size]?=some (.cells #[.string p0,.string p1,.string p2,.string p3,.string p4,.int .i64 s1,.int .i64 h1] 148 (0,0)):=by
  rw[<-bC,Below.heap_alloc _ _ _ (by simp)];exact heap_alloc_new w _
 have x1:w0.heap[w.heap.size+1]?=some (.cells #[.string q0,.string q1,.string q2,.string q3,.string q4,.int .i64 s2,.int .i64 h2] 148 (0,0)):=by
  rw[<-bC];have:=heap_alloc_new (w.alloc (.cells #[.string p0,.string p1,.string p2,.string p3,.string p4,.int .i64 s1,.int .i64 h1] 148)) (.cells #[.string q0,.string q1,.string q2,.string q3,.string q4,.int .i64 s2,.int .i64 h2] 148);rw[World.size_alloc] at this;exact this
 clear bC;have dr:=zC k0
 have HA:=zC (λ (W:W8) (hW:Below w0.heap.size w0 W)=>(show W.cell? ⟨w.heap.size,0,none⟩=some (.string p0)/\W.cell? ⟨w.heap.size,1,none⟩=some (.string p1)/\W.cell? ⟨w.heap.size,2,none⟩=some (.string p2)/\W.cell? ⟨w.heap.size,3,none⟩=some (.string p3)/\W.cell? ⟨w.heap.size,4,none⟩=some (.string p4)/\W.cell? ⟨w.heap.size,5,none⟩=some (.int .i64 s1)/\W.cell? ⟨w.heap.size,6,none⟩=some (.int .i64 h1)/\W.cell? ⟨w.heap.size+1,0,none⟩=some (.string q0)/\W.cell? ⟨w.heap.size+1,1,none⟩=some (.string q1)/\W.cell? ⟨w.heap.size+1,2,none⟩=some (.string q2)/\W.cell? ⟨w.heap.size+1,3,none⟩=some (.string q3)/\W.cell? ⟨w.heap.size+1,4,none⟩=some (.string q4)/\W.cell? ⟨w.heap.size+1,5,none⟩=some (.int .i64 s2)/\W.cell? ⟨w.heap.size+1,6,none⟩=some (.int .i64 h2) from by
  have y0:=(hW.block _ (Array.getElem?_eq_some_iff.1 x0).1).trans x0;have y1:=(hW.block _ (Array.getElem?_eq_some_iff.1 x1).1).trans x1
  exact⟨(zB y0 0).1,(zB y0 1).1,(zB y0 2).1,(zB y0 3).1,(zB y0 4).1,(zB y0 5).1,(zB y0 6).1,(zB y1 0).1,(zB y1 1).1,(zB y1 2).1,(zB y1 3).1,(zB y1 4).1,(zB y1 5).1,(zB y1 6).1⟩))
 clear x0 x1 k0;have J0:Below w0.heap.size w0 w0.drew:=B9.drew
 go_region_held3 (λ W=>W.cell? ⟨w.heap.size,0,none⟩=some (.string p0)/\W.cell? ⟨w.heap.size,1,none⟩=some (.string p1)/\W.cell? ⟨w.heap.size,2,none⟩=some (.string p2)/\W.cell? ⟨w.heap.size,3,none⟩=some (.string p3)/\W.cell? ⟨w.heap.size,4,none⟩=some (.string p4)/\W.cell? ⟨w.heap.size,5,none⟩=some (.int .i64 s1)/\W.cell? ⟨w.heap.size,6,none⟩=some (.int .i64 h1)/\W.cell? ⟨w.heap.size+1,0,none⟩=some (.string q0)/\W.cell? ⟨w.heap.size+1,1,none⟩=some (.string q1)/\W.cell? ⟨w.heap.size+1,2,none⟩=some (.string q2)/\W.cell? ⟨w.heap.size+1,3,none⟩=some (.string q3)/\W.cell? ⟨w.heap.size+1,4,none⟩=some (.string q4)/\W.cell? ⟨w.heap.size+1,5,none⟩=some (.int .i64 s2)/\W.cell? ⟨w.heap.size+1,6,none⟩=some (.int .i64 h2)) ((refine zA HA _ ?_;first | exact J0 | exact dN | exact lY | exact lY.alloc lY.size _)) ((first
  | (go_at_call 161;refine (zA C1 _ _ _).mono ?_;rintro en wx ⟨rfl,vs⟩;subst vs)
  | (go_at_call 63;refine (zA T1 _ _ _ _ _ _ (by assumption) _).mono ?_;rintro en wT ⟨rfl,PF⟩;first | (have lY:Below w0.heap.size w0 wT:=dN.trans (PF.mono dN.size)) | (have dN:Below w0.heap.size w0 wT:=yA PF);clear PF)
  | (go_at_call 162;refine (zA C3 _).mono ?_;rintro en wx ⟨rfl,vs⟩;subst vs)
  | (go_at_call 160;refine (zA O3 _ _ _ _).mono ?_;rintro en wx ⟨rfl,vs⟩;subst vs)))
 all_goals
  go_wp2_with fail;go_ret;exact⟨rfl,(zA dr).trans ((lY.alloc lY.size _).mono (zA dr).size)⟩
def NQ (p q:Pl):Int:=orC (znz p.s q.s) (znz p.h q.h) (ztx (xK p.t) (xK q.t))
theorem zx0 (w:W8)(p q:Pl)(hp:zdu p.t)(hq:zdu q.t)(lp:(zau p.t.1 (xB p.t)).length<=1000000000)(lq:(zau q.t.1 (xB q.t)).length<=1000000000):
  Calls Tryz.prog 106 #[plV p,plV q] w λ e w'=>e=.returned (.int .i64 (NQ p q))/\Below w.heap.size w w':=
 z6u (λ x0 x1 x2 x3 x4 t=>∃ y:Th,zdu y/\(zau y.1 (xB y)).length<=1000000000/\y.p=x0/\xW y.ts 0=x1/\xW y.ts 1=x2/\xW y.ts 2=x3/\xW y.ts 3=x4/\xK y=t) w _ _ _ _ _ _ _ _ _ _ _ _ p.s p.h q.s q.h ⟨p.t,hp,lp,rfl,rfl,rfl,rfl,rfl,rfl⟩ ⟨q.t,hq,lq,rfl,rfl,rfl,rfl,rfl,rfl⟩ (λ x0 x1 x2 x3 x4 t ⟨y,h1,h2,e0,e1,e2,e3,e4,e5⟩ W=>by subst e0 e1 e2 e3 e4 e5;exact zzx W y h1 h2)
theorem znm {w w':W8}(h:Below w.heap.size w w')(hd:w.drawn<=w'.drawn):∃ q os,w'=Sort.grow (w.drewN q) os:=by
 refine⟨w'.drawn-w.drawn,w'.heap.extract w.heap.size w'.heap.size,?_⟩;obtain⟨h1,h2,h3,h4,h5⟩:=h
 cases w' with
 | mk heap tape drawn os output=>
  simp only at h1 h2 h3 h4 h5 hd;subst h1 h2 h3;unfold Sort.grow World.drewN;simp only
  congr 1
  ·apply Array.ext_getElem?;intro i;rw[Array.getElem?_append]
   split
   ·rename_i hi;exact h5 i hi
   ·rename_i hi;rw[Array.getElem?_extract]
    split
    ·congr 1;omega
    ·rw[Array.getElem?_eq_none (by omega)]
  ·omega
end
section
open Go.RowKit Go.Maps Go.Sort
theorem zrj {α:Type}[Inhabited α](enc:α->V8)(hk:∀ x,(enc x).length=7):∀ (xs:List α) (t:Nat),t<xs.length*7->(xs.flatMap enc)[t]?=some ((enc (xs.toArray[t/7]!))[t%7]!)
 | [],t,h=>by simp at h
 | x::r,t,h=>by
  rw[List.flatMap_cons]
  by_cases h3:t<7
  ·rw[List.getElem?_append_left (by rw[hk];exact h3),Nat.div_eq_of_lt h3,Nat.mod_eq_of_lt h3];have:t<(enc x).length:=by rw[hk];exact h3
   simp[this]
  ·have ih:=zrj enc hk r (t-7) (by simp at h;omega);rw[List.getElem?_append_right (by rw[hk];omega),hk,ih];have e1:t/7=(t-7)/7+1:=(by omega);have e2:t%7=(t-7)%7:=(by omega);have hl:(t-7)/7<r.length:=(by simp at h;omega);rw[e1,e2];simp[hl]
theorem zpf {α:Type}[Inhabited α](enc:α->V8)(hk:∀ x,(enc x).length=7)(xs:List α):Sort.flatK enc 7 xs.toArray=(xs.flatMap enc).toArray:=by
 have hl:∀ l:List α,(l.flatMap enc).length=l.length*7:=by
  intro l;induction l with
  | nil=>rfl
  | cons x r ih=>rw[List.flatMap_cons,List.length_append,ih,hk,List.length_cons];omega
 refine Array.ext (by simp[hl]) λ t h1 h2=>?_
 have ht:t<xs.length*7:=by simpa using h1
 have h3:=zrj enc hk xs t ht;have h4:=Sort.get_flatK enc 7 xs.toArray t (by simpa using ht);rw[getElem!_pos _ t h1] at h4;rw[h4];have h5:(xs.flatMap enc)[t]?=some (xs.flatMap enc).toArray[t]:=by simp
 rw[h3] at h5;exact Option.some.inj h5
section
variable {w:W8} {g n:Nat} {os:Array Obj} {cur:Array Value} {e:TypeId} {α:Type} [Inhabited α]
variable {enc:α->V8}
theorem zlz (hk:∀ x,(enc x).length=7){xs:List α}(hb:w.heap[g]?=some (.cells cur e (0,0)))(ht:cur.toList.take (xs.length*7)=xs.flatMap enc):Sort.HoldsK enc 7 w g 0 xs.toArray:=by
 unfold Sort.HoldsK;rw[zpf enc hk];intro j hj;have vg:j<(xs.flatMap enc).length:=by simpa using hj
 refine⟨?_,by simp[World.frozen?,hb]⟩;have hl:(xs.flatMap enc).length<=xs.length*7:=by rw[<-ht];simp;omega
 have h1:(cur.toList.take (xs.length*7))[j]?=(xs.flatMap enc)[j]?:=by rw[ht]
 rw[List.getElem?_take_of_lt (by omega)] at h1;simp only[World.cell?,hb,Nat.zero_add];simp only[Option.isSome_none,Bool.false_eq_true,if_false];rw[<-Array.getElem?_toList,h1,List.getElem?_eq_getElem vg];rw[getElem!_pos _ j hj];rfl
theorem zrk (d:Array Value)(hb:w.heap[g]?=some (.cells cur e (0,0))):
  (Sort.grow (Sort.putRow id (Sort.ahead w n) g 0 d) os).heap[g]?=some (.cells (Sort.putCells id 0 d cur) e (0,0)):=by
 have hg:g<w.heap.size:=(Array.getElem?_eq_some_iff.1 hb).1;rw[Sort.heap_grow_old _ _ (by simpa using hg)];simp[Sort.putRow,Sort.mapBlock,Sort.ahead,Array.getElem?_modify,hb,Sort.onCells]
theorem zly (d:Array Value):w.grownBy (Sort.grow (Sort.putRow id (Sort.ahead w n) g 0 d) os) (some g):=by
 refine⟨rfl,rfl,rfl,by simp,λ k hk bF=>?_⟩;rw[Sort.heap_grow_old _ _ (by simpa using hk)];have:g≠k:=λ e=>bF (by rw[e])
 simp[Sort.putRow,Sort.mapBlock,Sort.ahead,Array.getElem?_modify,this]
theorem znr (ts:V8)(h:ts.length<=cur.size):(Sort.putCells id 0 ts.toArray cur).toList.take ts.length=ts:=by
 apply List.ext_getElem?;intro j
 by_cases hj:j<ts.length
 ·rw[List.getElem?_take_of_lt hj,Array.getElem?_toList];simp[Sort.putCells,hj,show j<cur.size by omega]
 ·rw[List.getElem?_take_eq_none (by omega),List.getElem?_eq_none (by omega)]
theorem zme {base cap m:Nat}(hk:∀ x,(enc x).length=7){ys:List α}(hl:ys.length=m)(uv:base<=g)(hb:w.heap[g]?=some (.cells cur e (0,0)))
  (h1:m<=cap) (h2:cap<=maxLen) (h3:cur.size=cap*7):
  (sortWorldK enc 7 w g 0 n ys.toArray os).ownsRow base e 7 (.slice (some ⟨g,0,none⟩) m cap) ys.length (ys.flatMap enc):=by
 have ko:(ys.flatMap enc).length=ys.length*7:=by have:=congrArg Array.size (zpf enc hk ys);simpa using this.symm
 unfold sortWorldK Sort.putRowK;rw[zpf enc hk];exact⟨ko,.inr ⟨g,cap,_,by rw[hl],uv,zrk _ hb,by omega,h2,by simp[Sort.putCells,h3],by rw[<-ko];exact znr _ (by rw[ko,h3];omega)⟩⟩
end
def vU (p q:Pl):Bool:=decide (p.s<q.s)||(decide (p.s=q.s)&&(decide (p.h<q.h)||(decide (p.h=q.h)&&zaf (xK p.t) (xK q.t))))
variable {p q:Pl}
theorem zbn:vU p q=true↔p.s<q.s\/(p.s=q.s/\(p.h<q.h\/(p.h=q.h/\zaf (xK p.t) (xK q.t)=true))):=by unfold vU;simp
theorem z7g (p q:Pl):decide (NQ p q<0)=vU p q:=by
 rw[Bool.eq_iff_iff,decide_eq_true_eq,zbn];unfold NQ orC znz;have hb:ztx (xK p.t) (xK q.t)<0↔zaf (xK p.t) (xK q.t)=true:=by
  have:=zcs (xK p.t) (xK q.t);unfold ltOf at this;rw[<-this];simp
 by_cases h1:p.s<q.s
 ·simp[h1]
 ·by_cases h2:q.s<p.s
  ·simp only[if_neg h1,if_pos h2];simp;omega
  ·have e:p.s=q.s:=(by omega);simp only[if_neg h1,if_neg h2]
   by_cases h3:p.h<q.h
   ·simp[h3,e]
   ·by_cases h4:q.h<p.h
    ·simp only[if_neg h3,if_pos h4];simp;omega
    ·have e2:p.h=q.h:=(by omega);simp only[if_neg h3,if_neg h4];simp[e,e2,hb]
theorem RM (p:Pl):vU p p=false:=by
 rw[<-Bool.not_eq_true,zbn];rintro (h | ⟨_,h | ⟨_,h⟩⟩)
 ·omega
 ·omega
 ·rw[zfi] at h;cases h
variable {r:Pl}
theorem NR (h:vU p q=true)(k:vU q r=true):vU p r=true:=by
 rw[zbn] at h k ⊢;rcases h with h | ⟨h,h' | ⟨h',Xj⟩⟩ <;> rcases k with k | ⟨k,k' | ⟨k',YZ⟩⟩
 ·exact .inl (by omega)
 ·exact .inl (by omega)
 ·exact .inl (by omega)
 ·exact .inl (by omega)
 ·exact .inr ⟨by omega,.inl (by omega)⟩
 ·exact .inr ⟨by omega,.inl (by omega)⟩
 ·exact .inl (by omega)
 ·exact .inr ⟨by omega,.inl (by omega)⟩
 ·exact .inr ⟨by omega,.inr ⟨by omega,NS Xj YZ⟩⟩
theorem zi6 (h:vU p q=false)(k:vU q p=false):p.s=q.s/\p.h=q.h/\xK p.t=xK q.t:=by
 rw[<-Bool.not_eq_true,zbn] at h k;have e1:p.s=q.s:=by
  rcases Nat.lt_trichotomy p.s q.s with h1 | h1 | h1
  ·exact absurd (.inl h1) h
  ·exact h1
  ·exact absurd (.inl h1) k
 have e2:p.h=q.h:=by
  rcases Nat.lt_trichotomy p.h q.h with h1 | h1 | h1
  ·exact absurd (.inr ⟨e1,.inl h1⟩) h
  ·exact h1
  ·exact absurd (.inr ⟨e1.symm,.inl h1⟩) k
 refine⟨e1,e2,Vw ?_ ?_⟩
 ·cases hq:zaf (xK p.t) (xK q.t) with
  | false=>rfl
  | true=>exact absurd (.inr ⟨e1,.inr ⟨e2,hq⟩⟩) h
 ·cases hq:zaf (xK q.t) (xK p.t) with
  | false=>rfl
  | true=>exact absurd (.inr ⟨e1.symm,.inr ⟨e2.symm,hq⟩⟩) k
theorem Vq (h:vU p q=false)(k:vU q r=false):vU p r=false:=by
 cases hq:vU p r with
 | false=>rfl
 | true=>
  cases h2:vU r q with
  | true=>rw[NR hq h2] at h;cases h
  | false=>
   obtain⟨e1,e2,e3⟩:=zi6 k h2;rw[zbn,<-e1,<-e2,<-e3,<-zbn] at hq;rw[hq] at h;cases h
theorem z9p (L:List Pl):(List.finRange L.length).map (λ i=>L[i])=L:=by
 apply List.ext_getElem
 ·simp
 ·intro i h1 h2;simp
theorem zzq (wr:W8)(base:Nat)(al:O8)(cl:Nat)(L:List Pl)(h:wr.ownsRow base 148 7 (.slice al L.length cl) L.length (L.flatMap ez))(hl:L.length<=1000000)(bR:∀ p∈L,zdu p.t/\(zau p.t.1 (xB p.t)).length<=1000000000)(mT:(L.map λ p=>xK p.t).Nodup):
  Calls Tryz.prog 105 #[.slice al L.length cl,.func (.func 106) #[] #[]] wr λ e w'=>e=.returned (.tuple #[])/\∃ O:List Pl,O.Perm L/\(O.Pairwise λ p q=>vU p q=true)/\w'.ownsRow base 148 7 (.slice al L.length cl) O.length (O.flatMap ez)/\wr.grownBy w' (Value.slice al L.length cl).ownBlock:=by
 rcases h.2 with⟨hv,h0⟩ | ⟨g,cap,cur,hv,hb,hg,bO,bQ,ij,ht⟩
 ·have hx:L=[]:=List.length_eq_zero_iff.1 h0;subst hx;injection hv with h1 h2 h3
  subst h1 h3;refine Calls.mono (AnyF.slices_SortFunc_none Tryz.sortPl none 0 _ wr) ?_;rintro e w' ⟨rfl,rfl⟩;exact⟨rfl,[],.refl _,by simp,World.ownsRow_nil _ _ _ _,⟨rfl,rfl,rfl,Nat.le_refl _,λ _ _ _=>rfl⟩⟩
 ·injection hv with h1 h2 h3
  subst h1 h3;have aH:g<wr.heap.size:=(Array.getElem?_eq_some_iff.1 hg).1
  by_cases aJ:L.length=0
  ·have hx:L=[]:=List.length_eq_zero_iff.1 aJ;subst hx;refine Calls.mono (AnyF.slices_SortFunc_none Tryz.sortPl _ cl _ wr) ?_;rintro e w' ⟨rfl,rfl⟩;exact⟨rfl,[],.refl _,by simp,h,⟨rfl,rfl,rfl,Nat.le_refl _,λ _ _ _=>rfl⟩⟩
  have dV:0<L.length:=by omega
  haveI:Inhabited (Fin L.length):=⟨⟨0,dV⟩⟩
  have eg:∀ args w,(callFunc 106 args).run Tryz.prog w=.ok (.enter 106 args) w:=enters_of Tryz.func106 (by kernel_rfl) rfl;obtain⟨enc,zy⟩:∃ enc:Fin L.length->V8,enc=λ i=>ez L[i]:=⟨_,rfl⟩
  obtain⟨cf,TG⟩:∃ cf:Fin L.length->Fin L.length->Int,cf=λ i j=>NQ L[i] L[j]:=⟨_,rfl⟩
  have gn:∀ i j,ltOf cf i j=vU L[i] L[j]:=λ i j=>by rw[<-z7g,TG];rfl
  have hk:∀ x,(enc x).length=7:=λ x=>by rw[zy];rfl
  have h1:∀ x,∀ v∈enc x,v.oneCell'=true:=λ x=>by rw[zy];exact zsh _
  have hO:SWO (ltOf cf):=⟨λ x=>by rw[gn];exact RM _,λ x y z a b=>by rw[gn] at *;exact NR a b,λ x y z a b=>by rw[gn] at *;exact Vq a b⟩;have hT:∀ x y,ltOf cf x y=false->ltOf cf y x=false->x=y:=λ x y a b=>by
   rw[gn] at a b;obtain⟨_,_,e⟩:=zi6 a b;rw[List.nodup_iff_pairwise_ne,List.pairwise_iff_getElem] at mT;rcases Nat.lt_trichotomy x.1 y.1 with c | c | c
   ·exact absurd (by simpa using e) (mT x.1 y.1 (by simp) (by simp) c)
   ·exact Fin.ext c
   ·exact absurd (by simpa using e.symm) (mT y.1 x.1 (by simp) (by simp) c)
  have ko:(List.finRange L.length).flatMap enc=L.flatMap ez:=by
   have:=congrArg (λ l=>List.flatMap ez l) (z9p L);simp only[List.flatMap_map] at this;rw[zy];exact this
  have TR:(List.finRange L.length).length=L.length:=by simp
  have PN:CmpLays Tryz.prog 106 #[] enc 7 cf g 0 (List.finRange L.length).toArray.size wr:=λ m os dk Ij x y=>by
   have hx:=bR L[x] (List.getElem_mem _);have hy:=bR L[y] (List.getElem_mem _);have hc:=ztw (zx0 (sortWorldK enc 7 wr g 0 m dk os) L[x] L[y] hx.1 hy.1 hx.2 hy.2);rw[zy,TG] at *;refine Calls.mono hc ?_;rintro e w' ⟨⟨rfl,dK⟩,hd⟩;exact⟨rfl,znm dK (hd _ rfl)⟩
  have Kx:=AnyQ.slices_SortFunc_total Tryz.sortPl 7 Tryz.isAgg148 Tryz.sizeOf148 enc hk h1 cf hO 106 #[] g 0 cl (List.finRange L.length).toArray wr eg PN (zlz hk hg (by rw[TR,ko];exact ht)) aH (by simp;omega) hT;have bj:(List.finRange L.length).toArray.size=L.length:=by simp
  rw[bj] at Kx;refine Calls.mono Kx ?_;rintro e w' ⟨rfl,n,os,rfl⟩;obtain⟨M,hM⟩:∃ M,M=(List.finRange L.length).mergeSort λ x y=>!(ltOf cf) y x:=⟨_,rfl⟩
  have Xs:((List.finRange L.length).toArray.toList.mergeSort λ x y=>!(ltOf cf) y x)=M:=by rw[hM]
  have bV:M.Perm (List.finRange L.length):=by rw[hM];exact List.mergeSort_perm _ _
  have bh:M.length=L.length:=by rw[bV.length_eq,TR]
  have Eg:M.flatMap enc=(M.map λ i=>L[i]).flatMap ez:=by rw[List.flatMap_map,zy]
  refine⟨rfl,M.map (λ i=>L[i]),?_,?_,?_,zly _⟩
  ·have:=bV.map (λ i=>L[i]);rw[z9p] at this;exact this
  ·have hs:M.Pairwise λ x y=>(!(ltOf cf) y x)=true:=by
    rw[hM];refine List.pairwise_mergeSort (λ a b c x y=>?_) (λ a b=>?_) _
    ·simp only[gn,Bool.not_eq_true'] at *;exact Vq y x
    ·simp only[gn]
     cases q1:vU L[a] L[b] with
     | false=>simp
     | true=>
      cases q2:vU L[b] L[a] with
      | false=>simp
      | true=>have:=NR q1 q2;rw[RM] at this;cases this
   have hn:M.Nodup:=bV.nodup_iff.2 (by
    rw[List.nodup_iff_pairwise_ne,List.pairwise_iff_getElem];intro i j hi hj hij e;have:=congrArg Fin.val e;simp at this
    omega)
   rw[List.pairwise_map];refine (hs.and hn).imp λ {x y} EL=>?_
   obtain⟨q1,q2⟩:=EL;simp only[Bool.not_eq_true'] at q1
   cases q3:vU L[x] L[y] with
   | true=>rfl
   | false=>exact absurd (hT x y (by rw[gn];exact q3) q1) q2
  ·rw[Xs,<-Eg,List.length_map];exact zme hk bh hb hg bO bQ ij
end
section
open Go.RowKit Go.Maps
attribute [local go_sem ↓] zbb qQ qP qO
attribute [local go_sem] jY jX
def zno (S:B8->Nat)(p:Th × Nat):Pl:=⟨p.1,S p.1.1,p.2⟩
theorem yba:(Tryz.prog.info? 148).map (λ i=>(i.zero,i.size,i.bytes))=some (some (.agg #[.string { data:=#[] },.string { data:=#[] },.string { data:=#[] },.string { data:=#[] },.string { data:=#[] },.int .i64 0,.int .i64 0]),7,96):=by kernel_rfl
theorem z75 (w1:W8)(o:Obj)(p:Pl)(j:Nat)(u:Value)(h:(ez p)[j]?=some u):((w1.alloc o).alloc (.cells (ez p).toArray 148)).cell? ((⟨w1.heap.size+1,0,none⟩:Addr).add j)=some u:=by
 have e:(⟨w1.heap.size+1,0,none⟩:Addr).add j=⟨w1.heap.size+1,j,none⟩:=by unfold Addr.add;split <;> simp_all
 rw[e,World.cell?_alloc_at _ _ _ _ (by simp)];simpa using h
structure yeo (w:W8)(kb rb:Nat)(S:B8->Nat)(K:List (Th × Nat))(Lf:Th->Prop)(ts:List (Th × Nat))(v:Value)(eC:Nat)(wr:W8):Prop where
 rg:so wr kb rb K Lf eC
 mem:∀ p,p∈ts↔p∈K/\¬ Lf p.1
 nd:ts.Nodup
 len:ts.length+eC<=K.length
 row:wr.ownsRow (w.heap.size+1) 148 7 v ts.length (ts.flatMap λ p=>ez (zno S p))
 k:Below w.heap.size w wr
theorem ybs {K ts:List (Th × Nat)}{Lf:Th->Prop}{t:Th}{n:Nat}(hm:∀ p,p∈ts↔p∈K/\¬ Lf p.1)(ht:(t,n)∈K)(hd:(K.map (·.1)).Nodup):∀ p,p∈ts++[(t,n)]↔p∈K/\¬ (Lf p.1/\p.1≠t):=by
 intro p;rw[List.mem_append,hm,List.mem_singleton]
 constructor
 ·rintro (⟨h1,h2⟩ | rfl)
  ·exact⟨h1,λ h=>h2 h.1⟩
  ·exact⟨ht,λ h=>h.2 rfl⟩
 ·rintro⟨h1,h2⟩
  by_cases e:p.1=t
  ·right
   have h3:yS K t=some p.2:=za5 hd (by rw[<-e];exact h1);rw[za5 hd ht] at h3;have:=Option.some.inj h3;exact Prod.ext e this.symm
  ·left;exact⟨h1,λ h=>h2 ⟨h,e⟩⟩
def z0p (w:W8)(S:B8->Nat)(K:List (Th × Nat))(e:Ending)(w':W8):Prop:=
 ∃ (O:List Pl) (a:O8) (c:Nat),e=.returned (.slice a O.length c)/\O.Perm (K.map (zno S))/\(O.Pairwise λ p q=>vU p q=true)/\w'.ownsRow w.heap.size 148 7 (.slice a O.length c) O.length (O.flatMap ez)/\Below w.heap.size w w'
theorem z3z (w:W8)(kb tb n:Nat)(ps:P9)(S:B8->Nat)(K:List (Th × Nat))(hm:qR w kb K)(ht:dE Tryz.prog 9 w tb n (stV ps S))(hK:K.length<=1000)(LB:∀ p∈K,(zau p.1.1 (xB p.1)).length<=1000000000)(pF:∀ p∈K,p.1.1.size<=1000000/\(yX ps p.1.1).isSome=true)(mT:(K.map λ p=>xK p.1).Nodup):
  Calls Tryz.prog 67 #[.map (some kb),.map (some tb)] w (z0p w S K):=by
 obtain⟨i0,hi,bL,aY,bg⟩:=info_parts yba;have ML:=zC LB;have Wu:=zC pF;have B2:=zC mT;have dF:=hm.lt;have rk:=ht.lt;have HM:=zC hm;have HT:=zC ht;clear LB hm ht pF mT;have KI:=zpd;have Ce:=zA HM;go_enter Tryz.func67,Tryz.ntmps67;go_wp2_with (first | (at_range;refine znb _ rfl _ 83 rfl Tryz.underlying83 kb K rfl Ce ?_;intro w1 hrg1 jg sg) | go_in)
 try go_frame
 have h0:yeo w kb w.heap.size S K (λ _=>True) [] (.slice none 0 0) K.length w1:=
  ⟨hrg1,λ p=>⟨λ h=>absurd h List.not_mem_nil,λ h=>absurd trivial h.2⟩,by simp,by simp,World.ownsRow_nil _ _ _ _,⟨jg.os,jg.tape,jg.output,jg.size,λ j hj=>jg.block j hj (by simp)⟩⟩
 have H0:=zC h0;clear hrg1 jg sg Ce h0
 go_loopg [5] K.length (λ gg v wr=>∃ (Lf:Th->Prop) (ts:List (Th × Nat)),yeo w kb w.heap.size S K Lf ts v gg wr)
 exact⟨_,_,zA H0⟩
 case round=>
  clear H0;obtain⟨Lf,ts,ax⟩:=hrel;obtain⟨a1,c1,rfl⟩:=zD ax.row;have oL:=ax.rg;have AV:w.heap.size<wr.heap.size:=ax.rg.lt;have hlen:=ax.len;have bT:=zC ax;clear ax;go_wp2_with (first | (at_next;refine zqi _ rfl _ rfl kb w.heap.size K Lf gk rfl oL ?_ ?_) | go_in)
  ·intro dj;have HD:=zC dj;have ax:=zA bT;have bV:ts.Perm K:=(List.perm_ext_iff_of_nodup ax.nd (zpt ax.rg.map.nodup)).2 λ p=>by
    rw[ax.mem];exact⟨λ h=>h.1,λ h=>⟨h,dj p.1.1 p.1.2 p.2 h⟩⟩
   have KQ:(ts.map (zno S)).length=ts.length:=(by simp);have aB:=ax.row;rw[<-KQ,show (ts.flatMap λ p=>ez (zno S p))=(ts.map (zno S)).flatMap ez by rw[List.flatMap_map]] at aB
   have HS:=zC (zzq wr (w.heap.size+1) a1 c1 (ts.map (zno S)) aB (by rw[KQ];omega) (λ p hp=>by
    obtain⟨y,hy,rfl⟩:=List.mem_map.1 hp;have kX:=bV.mem_iff.1 hy
    exact⟨ax.rg.map.ok _ kX,zA ML _ kX⟩) (by
    rw[List.map_map]
    exact ((bV.map _).nodup_iff).2 (zA B2)))
   rw[KQ] at HS;have px:=zC bV;clear dj oL ax aB bV;go_wp2_with (go_at_call 105;refine (zA HS).mono ?_;rintro e w2 ⟨rfl,O,Tm,Tn,To,Tp⟩;have HO:=zC (And.intro Tm (And.intro Tn (And.intro To Tp)));clear Tm Tn To Tp);go_ret;obtain⟨q1,q2,q3,g2⟩:=zA HO;have ax:=zA bT;have MZ:O.length=ts.length:=(by rw[q1.length_eq,KQ]);refine⟨O,a1,c1,by rw[MZ];rfl,q1.trans ((zA px).map _),q2,?_,?_⟩
   ·rw[MZ] at q3 ⊢;exact zG q3 (by omega)
   ·exact⟨g2.os.trans ax.k.os,g2.tape.trans ax.k.tape,g2.output.trans ax.k.output,Nat.le_trans ax.k.size g2.size,λ i hi=>(g2.block i (by omega) (λ e=>by have:=(ax.row.lt i e.symm).1;omega)).trans (ax.k.block i hi)⟩
  ·intro tp tts h w2 cnt2 nz qx hrg2 gn fL sj hen2;have ax:=zA bT;have k2:Below w.heap.size w w2:=⟨fL.os.trans ax.k.os,fL.tape.trans ax.k.tape,fL.output.trans ax.k.output,Nat.le_trans ax.k.size fL.size,λ i hi=>(fL.block i (by omega) (by simp;omega)).trans (ax.k.block i hi)⟩;have r2:w2.ownsRow (w.heap.size+1) 148 7 (.slice a1 ts.length c1) ts.length (ts.flatMap λ p=>ez (zno S p)):=zZ ax.row (λ g e=>fL.block g (ax.row.lt g e).2 (λ e2=>by have:=(ax.row.lt g e).1;injection e2 with e2;omega));generalize ((tp,tts):Th)=t at *;obtain⟨ft,Ix⟩:=zA Wu _ nz;obtain⟨m,nx⟩:=Option.isSome_iff_exists.1 Ix;simp only at ft nx;have hT:zdu t:=ax.rg.map.ok _ nz;have oP:wr.heap.size<=w2.heap.size:=fL.size;have k3:Below w2.heap.size w2 (w2.alloc (.cells (zV t).toArray 88)):=B9.alloc L9 _;have t3:(zmx (.pointer (some ⟨w2.heap.size,0,none⟩))).run Tryz.prog (w2.alloc (.cells (zV t).toArray 88))=.ok (.agg #[.string t.1,.string (xW t.2 0),.string (xW t.2 1),.string (xW t.2 2),.string (xW t.2 3)]) (w2.alloc (.cells (zV t).toArray 88)):=(TV.new w2 t).load;have q0:(w2.alloc (.cells (zV t).toArray 88)).cell? ⟨w2.heap.size,0,none⟩=some (.string t.1):=(zB (TV.new w2 t) 0).1;have Is:dE Tryz.prog 9 (w2.alloc (.cells (zV t).toArray 88)) tb n (stV ps S):=(zA HT).block ((k2.trans (k3.mono k2.size)).block tb rk);have Al:t.1.size<=maxLen:=(by unfold maxLen;omega);have hu:(stV ps S t.1).getD (.agg #[.string { data:=#[] },.int .i64 0,.int .i64 0])=.agg #[.string t.1,.int .i64 (S t.1),.int .i64 m]:=(by unfold stV;rw[nx];rfl);have sF:=zC hrg2;have wR:=zC k2;have mG:=zC r2;have dB:=zC (ybs ax.mem nz ax.rg.map.nodup);have oJ:(t,h)∉ts:=λ hm=>((ax.mem _).1 hm).2 qx
   have Jj:=zC oJ;have OA:=zC ax.nd;have bH:=(r2.alloc (.cells (zV t).toArray 88)).alloc (.cells (ez (zno S (t,h))).toArray 148);clear sj fL oL hrg2 k2 r2 nz qx ax k3 oJ nx Ix
   go_wp2_with (first
     | (at_lookup;refine zfw _ rfl _ _ 73 rfl 9 185 Tryz.underlying9 Tryz.underlying73 (Tryz.zeroValue185 _) tb n (stV ps S) rfl Is t.1 rfl Al _ hu ?_)
     | (at_builtin;refine wpList_append_own _ rfl _ _ 141 rfl (w.heap.size+1) 148 i0 _ 7 96 Tryz.underlying141 hi bL aY bg rfl (by decide) _ _ _ rfl bH ⟨w2.heap.size+1,0,none⟩ 1 1 (ez (zno S (t,h))) rfl rfl (z75 w2 (.cells (zV t).toArray 88) (zno S (t,h))) (zsh _) (by unfold maxLen;omega) (by omega) (by simp;omega) ?_;intro v7 w7 hown7 hg7 hne7;clear hne7;obtain⟨a7,Xc,rfl⟩:=zD hown7;have Wn:=zC hown7;have VU:=zC hg7;clear hown7 hg7))
   go_roundg cnt2
   case measure=>omega
   case rel=>
    have g7:=zA VU;have k2:=zA wR;have r2:=zA mG;have hb:∀ i,i<=w.heap.size->w7.heap[i]?=w2.heap[i]?:=λ i hi=>by
     rw[g7.block i (by simp;omega) (λ e=>by have:=(r2.lt i e.symm).1;omega),Below.heap_alloc _ _ _ (by simp;omega),Below.heap_alloc _ _ _ (by omega)]
    refine⟨_,ts++[(t,h)],(zA sF).blocks (hb _ (by omega)) (hb _ L9),zA dB,List.nodup_append.2 ⟨zA OA,by simp,λ x hx y hy e=>by rw[List.mem_singleton.1 hy] at e;rw[e] at hx;exact zA Jj hx⟩,by rw[List.length_append];simp;omega,?_,?_⟩
    ·have h7:=zA Wn;have e1:(ts++[(t,h)]).length=ts.length+1:=(by simp);rw[e1,List.flatMap_append];simpa using h7
    ·exact⟨g7.os.trans k2.os,g7.tape.trans k2.tape,g7.output.trans k2.output,by have h1:=g7.size;have h2:=k2.size;simp at h1;omega,λ i hi=>(hb i (by omega)).trans (k2.block i hi)⟩
end
section
open Go.RowKit Go.Maps
def z55 (A:jZ):Option Th:=if A.ts.any (·.1) then none else some (A.p,A.ts.map (·.2))
theorem zjc {fn:Func}{p u:Tmp}(h:fn.results=#[.cell p 88,.tmp u])(tmps:Array Value)(w:W8)(g:Nat)(t:Th)(hp:tmps.getD p undef=.pointer (some ⟨g,0,none⟩))(hg:w.heap[g]?=some (.cells (zV t).toArray 88 (0,0))):
  (results fn tmps).run Tryz.prog w=.ok (.tuple #[thV t,tmps.getD u undef]) w:=by
 have Gr:tmps[p]?.getD undef=.pointer (some ⟨g,0,none⟩):=by simpa using hp
 have mj:tmps.getD u undef=tmps[u]?.getD undef:=by simp
 rw[mj];simp[results,h,Gr,asAddr,run_loadVar_row w g _ 88 _ _ _ hg Tryz.underlying88 rfl (by rw[zh8];rfl),thV]
def zvm (w:W8)(r:Option Th)(en:Ending)(w':W8):Prop:=Below w.heap.size w w'/\en=.returned (.tuple #[thV (r.getD ({ data:=#[] },[])),.bool r.isSome])
theorem z81 (w:W8)(base:Nat)(A:jZ)(a:O8)(c:Nat)(h:w.ownsRow base 191 1 (.slice a A.ts.length c) A.ts.length (A.ts.map zc3))(h4:A.ts.length<=4):
  Calls Tryz.prog 65 #[.agg #[.string A.p,.slice a A.ts.length c]] w (zvm w (z55 A)):=by
 have H:=zC h;clear h;have a1:=zkz;have a2:=zi1;have a3:=zky;go_enter Tryz.func65,Tryz.ntmps65;go_upto_region 2 with fail;generalize bC:World.alloc (World.alloc (World.alloc w _) _) _=w0;have k0:Below w.heap.size w w0:=by
  rw[<-bC];exact (((Below.refl w.heap.size w).alloc L9 _).alloc (by simp) _).alloc (by simp only[World.size_alloc];omega) _
 have x1:w0.heap[w.heap.size]?=some (.cells #[.string A.p,.slice a A.ts.length c] 79 (0,0)):=by
  rw[<-bC,Below.heap_alloc _ _ _ (by simp only[World.size_alloc];omega),Below.heap_alloc _ _ _ (by simp)];exact heap_alloc_new w _
 have x2:w0.heap[w.heap.size+1]?=some (.cells (zV ⟨{ data:=#[] },[]⟩).toArray 88 (0,0)):=by
  rw[<-bC,Below.heap_alloc _ _ _ (by simp)];have:=heap_alloc_new (w.alloc (.cells #[.string A.p,.slice a A.ts.length c] 79)) (.cells (zV ⟨{ data:=#[] },[]⟩).toArray 88);rw[World.size_alloc] at this;exact this
 have x3:w0.heap[w.heap.size+1+1]?=some (.cells (zV ⟨A.p,[]⟩).toArray 88 (0,0)):=by
  rw[<-bC];have:=heap_alloc_new ((w.alloc (.cells #[.string A.p,.slice a A.ts.length c] 79)).alloc (.cells (zV ⟨{ data:=#[] },[]⟩).toArray 88)) (.cells (zV ⟨A.p,[]⟩).toArray 88);rw[World.size_alloc,World.size_alloc] at this;exact this
 have s0:w.heap.size+1+1+1=w0.heap.size:=by rw[<-bC];simp
 have fu:=zZ (zA H) (λ g e=>k0.block g ((zA H).lt g e).2);have HG:=zC (λ g (e1:(Value.slice a A.ts.length c).ownBlock=some g)=>((zA H).lt g e1).2);clear bC H;have lV:=zC s0;have FA:=zC x3;have JD:=zC x2;have py:=zC fu;have dr:=zC k0;obtain⟨p1,-⟩:=zB x1 1;simp only[List.getElem?_toArray,List.getElem?_cons_zero,List.getElem?_cons_succ] at p1;clear x1 x2 x3 fu k0 s0;go_wp2_with fail
 go_loopg [15] A.ts.length (λ gg i wr=>∃ (k:Nat) (L:List B8),k<=A.ts.length/\gg=A.ts.length-k/\i=.int .i64 k/\L=(A.ts.take k).map (·.2)/\(A.ts.take k).any (·.1)=false/\wr.heap[w.heap.size+1+1]?=some (.cells (zV ⟨A.p,L⟩).toArray 88 (0,0))/\zK [w.heap.size+1+1] w0 wr)
 exact⟨0,[],Nat.zero_le _,rfl,rfl,rfl,rfl,zA FA,zK.refl _ _⟩
 case round=>
  obtain⟨k,L,hk,eD,rfl,hL,zj,hx,dX⟩:=hrel;have hZ:L.length=k:=by rw[hL];simp;omega
  have EO:=zA lV;have rR:=zC (show Below w.heap.size w wr from ⟨dX.os.trans (zA dr).os,dX.tape.trans (zA dr).tape,dX.output.trans (zA dr).output,Nat.le_trans (zA dr).size dX.size,λ i hi=>(dX.block i (by omega) (by simp;omega)).trans ((zA dr).block i hi)⟩);have HX:=zC hx;have ow:=zC dX;have HL:=zC hL;have BY:=zC hZ;have N2:=zC zj;have yq:=zC ((dX.block (w.heap.size+1) (by omega) (by simp)).trans (zA JD))
  by_cases aF:k<A.ts.length
  ·obtain⟨g,rfl,xi,bO,bQ,hc⟩:=zu9 (zA py) k aF;have jg:=zA HG g rfl;have gY:wr.cell? ⟨g,k,none⟩=some (zc3 A.ts[k]):=((zA ow).cell (p:=⟨g,k,none⟩) xi (by simp;omega)).trans hc;obtain⟨cd,Im⟩:=zB hx (1+k);replace cd:wr.cell? ⟨w.heap.size+1+1,1+k,none⟩=some (.string (xW L k)):=by
    rw[cd,List.getElem?_toArray];exact zdg ⟨A.p,L⟩ (by omega)
   have nu:(k:Int)<A.ts.length:=(by omega);have my:(1+k:Int)<5:=(by omega);clear hc EO hx dX hL hZ zj
   cases hv:A.ts[k].1 with
   | false=>
    have nS:wr.cell? ⟨g,k,none⟩=some (.iface 193 (.string A.ts[k].2)):=(by rw[gY];unfold zc3;rw[hv];rfl);have HV:=zC hv;clear gY hv;go_wp2_with fail;go_roundg (A.ts.length-(k+1))
    case measure=>omega
    case rel=>
     have:=zpe (zA HX) (by rw[zA BY];omega) A.ts[k].2;rw[zA BY] at this;refine⟨k+1,L++[A.ts[k].2],by omega,rfl,by go_num,?_,?_,this,(zA ow).setCell (by simp) _⟩
     ·rw[List.take_succ_eq_append_getElem aF,List.map_append,zA HL];rfl
     ·rw[List.take_succ_eq_append_getElem aF,List.any_append,zA N2];simp[zA HV]
   | true=>
    have nS:wr.cell? ⟨g,k,none⟩=some (.iface 130 (.string A.ts[k].2)):=(by rw[gY];unfold zc3;rw[hv];rfl);have HE:=zC (show z55 A=none by unfold z55;rw[if_pos (List.any_eq_true.2 ⟨_,List.getElem_mem aF,hv⟩)]);clear gY hv;go_wp2_with (first | (refine wpList_store_row rfl 88 _ _ rfl _ _ rfl rfl _ _ (zA yq) (by rw[zh8];rfl) rfl (zez ({ data:=#[] },[])) ?_) | fail);refine bodyPost_ret (v:=.tuple #[thV ({ data:=#[] },[]),.bool false]) (zjc Tryz.results65 _ _ _ _ rfl (setRow_heap _ _ _ _ _ _ (zA yq))) rfl ?_;rw[zA HE];exact⟨xN (zA rR) (by omega) _,rfl⟩
  ·have HE:=zC (show z55 A=some (A.p,L) by unfold z55;rw[List.take_of_length_le (by omega)] at hL zj;rw[zj,hL];rfl);clear EO hx dX hL hZ zj;go_wp2_with (first | (refine wpList_load_row rfl 88 _ rfl _ rfl _ _ _ _ (zA HX) Tryz.underlying88 rfl (by rw[zh8];rfl) ?_) | (refine wpList_store_row rfl 88 _ _ rfl _ _ rfl rfl _ _ (zA yq) (by rw[zh8];rfl) rfl (zez _) ?_) | fail);refine bodyPost_ret (v:=.tuple #[thV (A.p,L),.bool true]) (zjc Tryz.results65 _ _ _ _ rfl (setRow_heap _ _ _ _ _ _ (zA yq))) rfl ?_;rw[zA HE];exact⟨xN (zA rR) (by omega) _,rfl⟩
end
end Go.Proofs.YtldkpahaocjdpaaGreat
