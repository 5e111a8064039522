/-
  waysFrom and Ways: the iterator is made.
-/
import Derived.Test.YtldkpahaocjdpaaGreatE21
set_option maxHeartbeats 16000000
set_option maxRecDepth 1000000
namespace Go.Proofs.YtldkpahaocjdpaaGreat
section
open Go.RowKit Go.Maps
attribute [local go_sem ↓] zcf zba zc1 j2
attribute [local go_sem] qS zbo
def zkt (No:Nat->Prop)(w:W8)(mb:Nat)(pd:B8)(hv bv:Value)(base:Nat)(ls:List (vK × Value))(K:List (Th × Nat))(e:yR)(en:Ending)(w':W8):Prop:=
 ∃ rb xb eb,en=.returned (.func (.func 233) #[] #[.pointer (some ⟨rb,0,none⟩),.pointer (some ⟨xb,0,none⟩),.pointer (some ⟨eb,0,none⟩)])/\Below w.heap.size w w'/\IF No w' rb xb eb mb pd hv bv base ls K e
structure EX (No:Nat->Prop)(w:W8)(mb:Nat)(hv bv:Value)(base:Nat)(ls:List (vK × Value))(K:List (Th × Nat)):Prop where
 l:iL w base bv ls
 m:qR w mb K
 nm:¬ No mb
 nt:∀ x∈ls,∀ g,x.2.ownBlock=some g->¬ No g
 no:∀ g,No g->g<w.heap.size
 l3:ls.length<=3
 t4:∀ x∈ls,x.1.ts.length<=4
 h:∃ a n c,hv=.slice a n c
theorem EX.below {No:Nat->Prop}{w w':W8}{mb:Nat}{hv bv:Value}{base:Nat}{ls:List (vK × Value)}{K:List (Th × Nat)}(h:EX No w mb hv bv base ls K)(k:Below w.heap.size w w'):EX No w' mb hv bv base ls K:=
 ⟨h.l.below k,h.m.block (k.block _ h.m.lt),h.nm,h.nt,λ g hg=>by have:=h.no g hg;have:=k.size;omega,h.l3,h.t4,h.h⟩
theorem zj1 (No:Nat->Prop)(w:W8)(mb:Nat)(pd:B8)(hv bv:Value)(base:Nat)(ls:List (vK × Value))(K:List (Th × Nat))(e:yR)(h:EX No w mb hv bv base ls K):
  Calls Tryz.prog 200 #[zav e,.agg #[.string pd,hv,bv],.map (some mb)] w (zkt No w mb pd hv bv base ls K e):=by
 obtain⟨ah,nh,ch,rfl⟩:=h.h;obtain⟨ab,cb,rfl⟩:=zD h.l.row;have H:=zC h;clear h;have Ho:=zC (BV.new w e);obtain⟨cs,ij⟩:∃ cs,cs=(yQ e).toArray:=⟨_,rfl⟩;unfold zav;rw[<-ij] at Ho ⊢;clear ij;go_enter Tryz.func200,Tryz.ntmps200;go_wp2_with fail;go_ret;have k0:Below w.heap.size w (((w.alloc (.cells cs 135)).alloc (.cells #[.string pd,.slice ah nh ch,.slice ab ls.length cb] 123)).alloc (.cells #[.map (some mb)] 82)):=
  (((Below.refl w.heap.size w).alloc L9 _).alloc (by simp) _).alloc (by simp only[World.size_alloc];omega) _
 have hA:=(zA H).below k0;refine⟨_,_,_,rfl,k0,⟨?_,?_,?_,hA.l,hA.m,hA.nm,hA.nt,hA.no,hA.l3,hA.t4,hA.h⟩⟩
 ·rw[Below.heap_alloc _ _ _ (by simp)];have:=heap_alloc_new (w.alloc (.cells cs 135)) (.cells #[.string pd,.slice ah nh ch,.slice ab ls.length cb] 123);rw[World.size_alloc] at this;exact this
 ·have:=heap_alloc_new ((w.alloc (.cells cs 135)).alloc (.cells #[.string pd,.slice ah nh ch,.slice ab ls.length cb] 123)) (.cells #[.map (some mb)] 82);rw[World.size_alloc,World.size_alloc] at this;exact this
 ·exact ((zA Ho).alloc _).alloc _
theorem z5x (No:Nat->Prop)(w:W8)(mb:Nat)(pd:B8)(hv bv:Value)(base:Nat)(ls:List (vK × Value))(K:List (Th × Nat))(h:EX No w mb hv bv base ls K):
  Calls Tryz.prog 145 #[.agg #[.string pd,hv,bv],.map (some mb)] w (zkt No w mb pd hv bv base ls K []):=by
 obtain⟨ah,nh,ch,rfl⟩:=h.h;obtain⟨ab,cb,rfl⟩:=zD h.l.row;have b1:=(Below.refl w.heap.size w).alloc L9 (.cells #[.string pd,.slice ah nh ch,.slice ab ls.length cb] 123);have HC:=zC (zj1 No _ mb pd _ _ base ls K [] (h.below b1));have fN:=zC b1;clear h b1;go_enter Tryz.func145,Tryz.ntmps145;go_wp2_with (go_at_call 200;refine (zA HC).mono ?_;rintro en w1 ⟨rb,xb,eb,rfl,hb,hw⟩;have HB:=zC hb;have HW:=zC hw;clear hb hw);go_ret;exact⟨_,_,_,rfl,(zA fN).trans ((zA HB).mono (by simp)),zA HW⟩
end
section
open Go.RowKit Go.Maps
theorem zut (r:PR):r.cells.length=3:=rfl
def gw (r:PR):jZ:=⟨r.R.pd,r.R.ts⟩
def ztm (rs:List PR)(K:List (Th × Nat))(t:Th):Prop:=yS K t=none/\∃ r∈rs,∃ e∈zbe K (zcv r.bs) (yP r.bs) [],xV e (gw r)=t
structure z9i (K:List (Th × Nat))(r:PR):Prop where
 l3:r.bs.length<=3
 t4:∀ x∈r.bs,x.1.ts.length<=4
 h4:r.R.ts.length<=4
 neg:∀ e∈yD K (yP r.bs) [],∀ x∈zcv r.bs,zdu (xV e x)
 hd:∀ e∈yD K (yP r.bs) [],zdu (xV e (gw r))
 len:∀ e∈yD K (yP r.bs) [],e.length<=12
structure E5 (rs:List PR)(K:List (Th × Nat))(done:List PR)(r:PR)(pre:List yR)(h:Nat)(L:List (Th × Nat)):Prop where
 hs:∀ p∈L,p.2=h
 nd:(L.map (·.1)).Nodup
 new:∀ p∈L,ztm rs K p.1
 all:∀ q∈done,∀ e∈zbe K (zcv q.bs) (yP q.bs) [],yS K (xV e (gw q))=none->(yS L (xV e (gw q))).isSome=true
 now:∀ e∈pre,yS K (xV e (gw r))=none->(yS L (xV e (gw r))).isSome=true
def z6d (w:W8)(rs:List PR)(K:List (Th × Nat))(h limit:Nat)(en:Ending)(w':W8):Prop:=
 Below w.heap.size w w'/\((∃ fb L,en=.returned (.tuple #[.map (some fb),.bool true])/\w.heap.size<=fb/\qR w' fb L/\(∀ p∈L,p.2=h)/\(∀ t,(yS L t).isSome=true↔ztm rs K t)/\K.length+L.length<=limit) \/
  (en=.returned (.tuple #[.map none,.bool false])/\∃ L:List Th,L.Nodup/\(∀ t∈L,ztm rs K t)/\limit<K.length+L.length))
structure rP (w:W8)(kb fb h limit:Nat)(K L:List (Th × Nat))(wr:W8):Prop where
 k4:wr.heap[w.heap.size]?=some (.cells #[.map (some kb)] 83 (0,0))
 h6:wr.heap[w.heap.size+1]?=some (.cells #[.int .i64 (h:Nat)] 3 (0,0))
 l7:wr.heap[w.heap.size+1+1]?=some (.cells #[.int .i64 (limit:Nat)] 3 (0,0))
 r8:wr.heap[w.heap.size+1+1+1]?=some (.cells #[.map none] 83 (0,0))
 o9:wr.heap[w.heap.size+1+1+1+1]?=some (.cells #[.bool false] 4 (0,0))
 f10:wr.heap[w.heap.size+1+1+1+1+1+1]?=some (.cells #[.map (some fb)] 83 (0,0))
 fe:fb=w.heap.size+1+1+1+1+1
 mK:qR wr kb K
 mF:qR wr fb L
 kl:kb<w.heap.size
 bw:Below w.heap.size w wr
variable {row:Option Nat} {wr w' w:W8} {K L:List (Th × Nat)} {kb fb h limit:Nat}
theorem rP.grown (x:rP w kb fb h limit K L wr)(hg:wr.grownBy w' row)(hr:∀ r,row=some r->w.heap.size+1+1+1+1+1+1<r):rP w kb fb h limit K L w':=by
 have bp:∀ i,i<=w.heap.size+1+1+1+1+1+1->w'.heap[i]?=wr.heap[i]?:=λ i hi=>hg.block i (by have:=(Array.getElem?_eq_some_iff.1 x.f10).1;omega) (λ e=>by have:=hr i e.symm;omega)
 have hk:=x.kl;have hf:=x.fe;exact⟨(bp _ (by omega)).trans x.k4,(bp _ (by omega)).trans x.h6,(bp _ (by omega)).trans x.l7,(bp _ (by omega)).trans x.r8,(bp _ (by omega)).trans x.o9,(bp _ (by omega)).trans x.f10,x.fe,x.mK.block (bp _ (by omega)),x.mF.block (bp _ (by omega)),x.kl,⟨hg.os.trans x.bw.os,hg.tape.trans x.bw.tape,hg.output.trans x.bw.output,Nat.le_trans x.bw.size hg.size,λ i hi=>(bp i (by omega)).trans (x.bw.block i hi)⟩⟩
theorem rP.below (x:rP w kb fb h limit K L wr)(k:Below wr.heap.size wr w'):rP w kb fb h limit K L w':=x.grown (row:=none) ⟨k.os,k.tape,k.output,k.size,λ i hi _=>k.block i hi⟩ (λ _ e=>by cases e)
theorem rP.start (w:W8)(kb h limit:Nat)(K:List (Th × Nat))(hm:qR w kb K):rP w kb (w.heap.size+1+1+1+1+1) h limit K [] (((((((w.alloc (.cells #[.map (some kb)] 83)).alloc (.cells #[.int .i64 (h:Nat)] 3)).alloc (.cells #[.int .i64 (limit:Nat)] 3)).alloc (.cells #[.map none] 83)).alloc (.cells #[.bool false] 4)).alloc (.map #[] 0)).alloc (.cells #[.map (some (w.heap.size+1+1+1+1+1))] 83)):=by
 have kk:Below w.heap.size w (((((((w.alloc (.cells #[.map (some kb)] 83)).alloc (.cells #[.int .i64 (h:Nat)] 3)).alloc (.cells #[.int .i64 (limit:Nat)] 3)).alloc (.cells #[.map none] 83)).alloc (.cells #[.bool false] 4)).alloc (.map #[] 0)).alloc (.cells #[.map (some (w.heap.size+1+1+1+1+1))] 83)):=
  (((((((Below.refl w.heap.size w).alloc L9 _).alloc (by simp) _).alloc (by simp only[World.size_alloc];omega) _).alloc (by simp only[World.size_alloc];omega) _).alloc (by simp only[World.size_alloc];omega) _).alloc (by simp only[World.size_alloc];omega) _).alloc (by simp only[World.size_alloc];omega) _
 refine⟨?_,?_,?_,?_,?_,?_,rfl,hm.block (kk.block _ hm.lt),?_,hm.lt,kk⟩
 ·rw[Below.heap_alloc _ _ _ (by simp only[World.size_alloc];omega),Below.heap_alloc _ _ _ (by simp only[World.size_alloc];omega),Below.heap_alloc _ _ _ (by simp only[World.size_alloc];omega),Below.heap_alloc _ _ _ (by simp only[World.size_alloc];omega),Below.heap_alloc _ _ _ (by simp only[World.size_alloc];omega),Below.heap_alloc _ _ _ (by simp)];exact heap_alloc_new w _
 ·rw[Below.heap_alloc _ _ _ (by simp only[World.size_alloc];omega),Below.heap_alloc _ _ _ (by simp only[World.size_alloc];omega),Below.heap_alloc _ _ _ (by simp only[World.size_alloc];omega),Below.heap_alloc _ _ _ (by simp only[World.size_alloc];omega),Below.heap_alloc _ _ _ (by simp)];have:=heap_alloc_new (w.alloc (.cells #[.map (some kb)] 83)) (.cells #[.int .i64 (h:Nat)] 3);simpa only[World.size_alloc] using this
 ·rw[Below.heap_alloc _ _ _ (by simp only[World.size_alloc];omega),Below.heap_alloc _ _ _ (by simp only[World.size_alloc];omega),Below.heap_alloc _ _ _ (by simp only[World.size_alloc];omega),Below.heap_alloc _ _ _ (by simp)];have:=heap_alloc_new ((w.alloc (.cells #[.map (some kb)] 83)).alloc (.cells #[.int .i64 (h:Nat)] 3)) (.cells #[.int .i64 (limit:Nat)] 3);simpa only[World.size_alloc] using this
 ·rw[Below.heap_alloc _ _ _ (by simp only[World.size_alloc];omega),Below.heap_alloc _ _ _ (by simp only[World.size_alloc];omega),Below.heap_alloc _ _ _ (by simp)];have:=heap_alloc_new (((w.alloc (.cells #[.map (some kb)] 83)).alloc (.cells #[.int .i64 (h:Nat)] 3)).alloc (.cells #[.int .i64 (limit:Nat)] 3)) (.cells #[.map none] 83);simpa only[World.size_alloc] using this
 ·rw[Below.heap_alloc _ _ _ (by simp only[World.size_alloc];omega),Below.heap_alloc _ _ _ (by simp)];have:=heap_alloc_new ((((w.alloc (.cells #[.map (some kb)] 83)).alloc (.cells #[.int .i64 (h:Nat)] 3)).alloc (.cells #[.int .i64 (limit:Nat)] 3)).alloc (.cells #[.map none] 83)) (.cells #[.bool false] 4);simpa only[World.size_alloc] using this
 ·have:=heap_alloc_new ((((((w.alloc (.cells #[.map (some kb)] 83)).alloc (.cells #[.int .i64 (h:Nat)] 3)).alloc (.cells #[.int .i64 (limit:Nat)] 3)).alloc (.cells #[.map none] 83)).alloc (.cells #[.bool false] 4)).alloc (.map #[] 0)) (.cells #[.map (some (w.heap.size+1+1+1+1+1))] 83);simpa only[World.size_alloc] using this
 ·have:=(qR.made (((((w.alloc (.cells #[.map (some kb)] 83)).alloc (.cells #[.int .i64 (h:Nat)] 3)).alloc (.cells #[.int .i64 (limit:Nat)] 3)).alloc (.cells #[.map none] 83)).alloc (.cells #[.bool false] 4))).alloc (.cells #[.map (some (w.heap.size+1+1+1+1+1))] 83);simpa only[World.size_alloc] using this
def z9n (ds:List Nat):List Deferred:=ds.map λ D=>{ target:=.collected D,args:=#[] }
structure IK (w:W8)(ds:List Nat)(wr:W8):Prop where
 nd:ds.Nodup
 at_:∀ D∈ds,w.heap.size+1+1+1+1+1+1<D/\wr.heap[D]?=some (.deferred (some []))
theorem zhe {No:Nat->Prop}(W:W8)(l:Nat)(o o':Obj)(h:W.heap[l]?=some o)(h1:o.isCells=false)(h2:o.isWalk=false):qH No W (W.putObj l o'):=by
 have hg:=grownBy_putObj' W l o';refine⟨hg.os,hg.tape,hg.output,hg.size,λ k ob hk _ hc=>?_⟩;rw[World.putObj_heap_other (λ e=>?_)]
 ·exact hk
 ·subst e;rw[h] at hk
  cases hk
  rcases hc with hc | hc
  ·rw[h1] at hc;cases hc
  ·rw[h2] at hc;cases hc
structure yep (ds:List Nat)(w w':W8):Prop where
 os:w'.os=w.os
 tape:w'.tape=w.tape
 output:w'.output=w.output
 size:w'.heap.size=w.heap.size
 block:∀ i,i∉ds->w'.heap[i]?=w.heap[i]?
theorem zbm {n:Nat}{P:Program}{fn:Func}{tmps:Array Value}{R:Ending->W8->Prop}:∀ (ds:List Nat) (w:W8),ds.Nodup->(∀ D∈ds,w.heap[D]?=some (.deferred (some [])))->(∀ w',yep ds w w'->LeavesIn Fence.wide n P fn tmps R [] .returning w')->LeavesInM Fence.wide n P fn tmps R (z9n ds) .returning w
 | [],w,_,_,h=>h w ⟨rfl,rfl,rfl,rfl,λ _ _=>rfl⟩
 | D::ds,w,hn,hD,h=>by
  obtain⟨h1,h2⟩:=List.nodup_cons.1 hn;refine⟨by simp,.inl ⟨D,_,rfl,run_takeDeferred (hD D List.mem_cons_self),?_⟩⟩;refine zbm ds _ h2 (λ E hE=>?_) (λ w' hs=>h w' ?_)
  ·rw[World.putObj_heap_other (λ e=>h1 (by rw[<-e];exact hE))];exact hD E (List.mem_cons_of_mem _ hE)
  ·have hg:=grownBy_putObj' w D (.deferred none);exact⟨hs.os.trans hg.os,hs.tape.trans hg.tape,hs.output.trans hg.output,hs.size.trans (by simp),λ i hi=>(hs.block i (λ hm=>hi (List.mem_cons_of_mem _ hm))).trans (World.putObj_heap_other (λ e=>hi (by rw[e];exact List.mem_cons_self)))⟩
theorem rP.oS {L2:List (Th × Nat)}(x:rP w kb fb h limit K L wr)(hg:wr.grownBy w' (some fb))(hm:qR w' fb L2):rP w kb fb h limit K L2 w':=by
 have hk:=x.kl;have hf:=x.fe;have bp:∀ i,i<=w.heap.size+1+1+1+1+1+1->i≠fb->w'.heap[i]?=wr.heap[i]?:=λ i hi bF=>hg.block i (by have:=(Array.getElem?_eq_some_iff.1 x.f10).1;omega) (λ e=>bF (by cases e;rfl))
 exact⟨(bp _ (by omega) (by omega)).trans x.k4,(bp _ (by omega) (by omega)).trans x.h6,(bp _ (by omega) (by omega)).trans x.l7,(bp _ (by omega) (by omega)).trans x.r8,(bp _ (by omega) (by omega)).trans x.o9,(bp _ (by omega) (by omega)).trans x.f10,x.fe,x.mK.block (bp _ (by omega) (by omega)),hm,x.kl,⟨hg.os.trans x.bw.os,hg.tape.trans x.bw.tape,hg.output.trans x.bw.output,Nat.le_trans x.bw.size hg.size,λ i hi=>(bp i (by omega) (by omega)).trans (x.bw.block i hi)⟩⟩
variable {b:Nat} {W:W8}
theorem zoo {j:Nat}{cs:Array Value}{t:TypeId}{fr:Nat × Nat}{v:Value}(h:W.heap[b]?=some (.cells cs t fr))(hv:cs[j]?=some v):(W.setCell ⟨b,j,none⟩ v)=W:=by
 rw[setCell_eq_setRow W b j cs t fr v h];have e:cs.setIfInBounds j v=cs:=by
  apply Array.ext_getElem?;intro i;rw[Array.getElem?_setIfInBounds]
  split
  ·rename_i e;subst e;have:=(Array.getElem?_eq_some_iff.1 hv).1;rw[if_pos this,hv]
  ·rfl
 rw[e];have aH:b<W.heap.size:=(Array.getElem?_eq_some_iff.1 h).1;have hb:W.heap[b]=.cells cs t fr:=(Array.getElem?_eq_some_iff.1 h).2;unfold World.setRow
 cases W with
 | mk heap tape drawn os output=>
  congr 1
  apply Array.ext
  ·simp
  ·intro k h1 h2;simp only[Array.getElem_modify]
   split
   ·rename_i hk;subst hk;simp at hb;simp[hb]
   ·rfl
variable {e:yR} {pre:List yR} {r:PR} {rs done:List PR}
theorem E5.old (x:E5 rs K done r pre h L)(ho:(yS K (xV e (gw r))).isSome=true):E5 rs K done r (pre++[e]) h L:=
 ⟨x.hs,x.nd,x.new,x.all,λ y hy hn=>by
  rcases List.mem_append.1 hy with hy | hy
  ·exact x.now y hy hn
  ·rw[List.mem_singleton.1 hy] at hn;rw[hn] at ho;cases ho⟩
theorem zrv (hd:(L.map (·.1)).Nodup){t s:Th}{n:Nat}(h:(yS L s).isSome=true):(yS (zjw L t n) s).isSome=true:=by
 obtain⟨m,hm⟩:=Option.isSome_iff_exists.1 h
 by_cases e:s=t
 ·subst e;rw[za5 (Ml hd) (RN L s n)];rfl
 ·rw[za5 (Ml hd) (zgv (jV hm) e)];rfl
theorem E5.put (x:E5 rs K done r pre h L)(hr:r∈rs)(he:e∈zbe K (zcv r.bs) (yP r.bs) [])(hn:yS K (xV e (gw r))=none):E5 rs K done r (pre++[e]) h (zjw L (xV e (gw r)) h):=by
 refine⟨λ p hp=>?_,Ml x.nd,λ p hp=>?_,λ q hq y hy hn'=>zrv x.nd (x.all q hq y hy hn'),λ y hy hn'=>?_⟩
 ·rcases zkn hp with rfl | ⟨hp,_⟩
  ·rfl
  ·exact x.hs p hp
 ·rcases zkn hp with rfl | ⟨hp,_⟩
  ·exact⟨hn,r,hr,e,he,rfl⟩
  ·exact x.new p hp
 ·rcases List.mem_append.1 hy with hy | hy
  ·exact zrv x.nd (x.now y hy hn')
  ·rw[List.mem_singleton.1 hy,za5 (Ml x.nd) (RN L _ h)];rfl
structure IN (w:W8)(kb h limit:Nat)(K:List (Th × Nat))(rs done:List PR)(r:PR)(JM:Nat)(ah ab:O8)(ch cb:Nat)(ds:List Nat)(pre:List yR)(L:List (Th × Nat))(W:W8):Prop where
 box:rP w kb (w.heap.size+1+1+1+1+1) h limit K L W
 new:E5 rs K done r pre h L
 len:K.length+L.length<=limit
 oQ:IK w ds W
 rl:W.heap[JM]?=some (.cells #[.string r.R.pd,.slice ah r.R.ts.length ch,.slice ab r.bs.length cb] 123 (0,0))
structure NP (w:W8)(kb h limit:Nat)(K:List (Th × Nat))(rs:List PR)(ds:List Nat)(L:List (Th × Nat))(W:W8):Prop where
 box:rP w kb (w.heap.size+1+1+1+1+1) h limit K L W
 nd:(L.map (·.1)).Nodup
 new:∀ p∈L,ztm rs K p.1
 len:limit<K.length+L.length
 oQ:IK w ds W
variable {W':W8}
theorem IK.grown {ds:List Nat}(h:IK w ds W)(hg:W.grownBy W' row)(hr:∀ r,row=some r->∀ D∈ds,D<r):IK w ds W':=
 ⟨h.nd,λ D hD=>⟨(h.at_ D hD).1,(hg.block D (Array.getElem?_eq_some_iff.1 (h.at_ D hD).2).1 (λ e=>by have:=hr D e.symm D hD;omega)).trans (h.at_ D hD).2⟩⟩
theorem IN.grown {w:W8}{kb h limit:Nat}{K:List (Th × Nat)}{rs done:List PR}{r:PR}{JM:Nat}{ah ab:O8}{ch cb:Nat}{ds:List Nat}{pre:List yR}{L:List (Th × Nat)}{W W':W8}(x:IN w kb h limit K rs done r JM ah ab ch cb ds pre L W){row:Option Nat}(hg:W.grownBy W' row){B:Nat}(hr:∀ i,row=some i->B<=i)(h1:w.heap.size+1+1+1+1+1+1<B)(h2:JM<B)(h3:∀ D∈ds,D<B):IN w kb h limit K rs done r JM ah ab ch cb ds pre L W':=
 ⟨x.box.grown hg (λ i e=>by have:=hr i e;omega),x.new,x.len,x.oQ.grown hg (λ i e D hD=>by have:=hr i e;have:=h3 D hD;omega),(hg.block _ (Array.getElem?_eq_some_iff.1 x.rl).1 (λ e=>by have:=hr _ e.symm;omega)).trans x.rl⟩
theorem NP.grown {w:W8}{kb h limit:Nat}{K:List (Th × Nat)}{rs:List PR}{ds:List Nat}{L:List (Th × Nat)}{W W':W8}(x:NP w kb h limit K rs ds L W){row:Option Nat}(hg:W.grownBy W' row){B:Nat}(hr:∀ i,row=some i->B<=i)(h1:w.heap.size+1+1+1+1+1+1<B)(h3:∀ D∈ds,D<B):NP w kb h limit K rs ds L W':=
 ⟨x.box.grown hg (λ i e=>by have:=hr i e;omega),x.nd,x.new,x.len,x.oQ.grown hg (λ i e D hD=>by have:=hr i e;have:=h3 D hD;omega)⟩
theorem BV.grown (h:BV W b e)(hg:W.grownBy W' row)(hr:∀ i,row=some i->∃ o:Obj,W.heap[i]?=some o/\o.isCells=false):BV W' b e:=
 (hg.block b h.lt (λ e1=>by obtain⟨o,ho,hc⟩:=hr b e1.symm;rw[show W.heap[b]?=_ from h] at ho;cases ho;cases hc)).trans h
end
section
open Go.RowKit Go.Maps
attribute [local go_sem ↓] zcf zba zc1 j2 zbb qQ qP qO
attribute [local go_sem] Oper.semAt_some
attribute [local go_sem] qS zbo jY jX
theorem z7q (w:W8)(kb base:Nat)(ar:O8)(cr:Nat)(rs:List PR)(K:List (Th × Nat))(h limit:Nat)(hm:qR w kb K)(hr:iq w base (.slice ar rs.length cr) rs)(bR:∀ r∈rs,z9i K r)(hK:K.length<=limit)(hl:limit<=50):
  Calls Tryz.prog 99 #[.map (some kb),.slice ar rs.length cr,.int .i64 (h:Nat),.int .i64 (limit:Nat)] w (z6d w rs K h limit):=by
 have gR:=yU hr.row;unfold maxLen at gR;have HM:=zC hm;have HR:=zC hr;have iN:=zC bR;have dF:=hm.lt;clear hm hr bR;refine callsIn_wide.1 (callsIn_of_wp_marks (F:=Fence.wide) (n:=5) Tryz.func99 rfl trivial (wpIn_wide.2 ?_) rfl);simp only[Tryz.ntmps99,List.size_toArray,List.length_cons,List.length_nil,Nat.reduceAdd,Nat.reduceSub,Array.replicate_succ,Array.replicate_zero,List.push_toArray,List.append_toArray,List.nil_append,List.cons_append];have nx:=@run_makeMap Tryz.prog;go_wp2_with fail;generalize bC:World.alloc (World.alloc (World.alloc (World.alloc (World.alloc (World.alloc (World.alloc w _) _) _) _) _) _) _=w0;have eY:rP w kb (w.heap.size+1+1+1+1+1) h limit K [] w0:=by
  rw[<-bC];exact rP.start w kb h limit K (zA HM)
 have B0:=zC eY;clear bC eY;refine wp_loop_ghost_k (λ gg a wr=>∃ (k:Nat) (ds:List Nat) (u:Nat->Value) (L:List (Th × Nat)),k<=rs.length/\gg=rs.length-k/\a={ tmps:=#[Value.map (some kb),.slice ar rs.length cr,.int IntKind.i64 (h:Nat),.int IntKind.i64 (limit:Nat),.pointer (some ⟨w.heap.size,0,none⟩),undef,.pointer (some ⟨w.heap.size+1,0,none⟩),.pointer (some ⟨w.heap.size+1+1,0,none⟩),.pointer (some ⟨w.heap.size+1+1+1,0,none⟩),.pointer (some ⟨w.heap.size+1+1+1+1,0,none⟩),.pointer (some ⟨w.heap.size+1+1+1+1+1+1,0,none⟩),undef,u 12,u 13,u 14,u 15,u 16,Value.map (some (w.heap.size+1+1+1+1+1)),.slice ar rs.length cr,.int IntKind.i64 (rs.length:Nat),.int IntKind.i64 (k:Nat),u 21,u 22,u 23,u 24,u 25,u 26,u 27,u 28,u 29,u 30,u 31,u 32,u 33,u 34,u 35,u 36,u 37,u 38,u 39,u 40,u 41,u 42,u 43,u 44,u 45,u 46,u 47,u 48,u 49,u 50],defers:=z9n ds }/\rP w kb (w.heap.size+1+1+1+1+1) h limit K L wr/\E5 rs K (rs.take k) ⟨⟨{ data:=#[] },[],[]⟩,undef,[],undef⟩ [] h L/\IK w ds wr/\K.length+L.length<=limit) rs.length ?_ ?_
 ·exact⟨0,[],λ _=>undef,[],Nat.zero_le _,rfl,rfl,zA B0,⟨by simp,by simp,by simp,by simp,by simp⟩,⟨by simp,by simp⟩,by simpa using hK⟩
 ·intro gk a wr hI Jl Kl hJl Te;obtain⟨k,ds,u,L,hk,eD,rfl,eY,bX,ji,hlen⟩:=hI;have B0:=zC eY;have pT:=zC bX;have wV:=zC ji;clear eY bX ji
  by_cases aF:k<rs.length
  ·have eY:=zA B0;obtain⟨r,ny⟩:∃ r,r=rs[k]:=⟨_,rfl⟩;have cg:r∈rs:=(by rw[ny];exact List.getElem_mem aF);have ax:=(zA HR).each r cg;have Ex:=zA iN r cg;obtain⟨ah,ch,sJ⟩:=zD ax.hd;obtain⟨ab,cb,sI⟩:=zD ax.bo.row;obtain⟨g,cap,hv,iF,aZ,bO,bQ,hc⟩:=vX zut (zA HR).row k aF;injection hv with h1 h2 h3
   subst h1 h3;have eo:=eY.bw;have e0:wr.cell? ⟨g,k*3,none⟩=some (.string r.R.pd):=(by rw[ny];exact (eo.cell (p:=⟨g,k*3,none⟩) aZ).trans (hc 0 (by omega)));have e1:wr.cell? ⟨g,k*3+1,none⟩=some (.slice ah r.R.ts.length ch):=(by rw[<-sJ,ny];exact (eo.cell (p:=⟨g,k*3+1,none⟩) aZ).trans (hc 1 (by omega)));have e2:wr.cell? ⟨g,k*3+2,none⟩=some (.slice ab r.bs.length cb):=(by rw[<-sI,ny];exact (eo.cell (p:=⟨g,k*3+2,none⟩) aZ).trans (hc 2 (by omega)));obtain⟨c4,-⟩:=zB eY.k4 0;simp only[List.getElem?_toArray,List.getElem?_cons_zero] at c4;have nu:(k:Int)<rs.length:=(by omega);have xq:w.heap.size<wr.heap.size:=(Array.getElem?_eq_some_iff.1 eY.k4).1;obtain⟨SQ,-⟩:=zB ((Below.heap_alloc wr (.cells #[.string r.R.pd,.slice ah r.R.ts.length ch,.slice ab r.bs.length cb] 123) _ xq).trans eY.k4) 0;have hA:EX (λ i=>i=w.heap.size+1+1+1+1+1) (wr.alloc (.cells #[.string r.R.pd,.slice ah r.R.ts.length ch,.slice ab r.bs.length cb] 123)) kb (.slice ah r.R.ts.length ch) (.slice ab r.bs.length cb) base r.bs K:=by
    have kA:Below w.heap.size w (wr.alloc (.cells #[.string r.R.pd,.slice ah r.R.ts.length ch,.slice ab r.bs.length cb] 123)):=eo.alloc eo.size _;have iz:=ax.bo;rw[sI] at iz;refine⟨iz.below kA,(zA HM).block (kA.block _ dF),by omega,λ x hx g hg=>by have:=((ax.bo.each x hx).lt g hg).2;omega,λ i hi=>by have:=(Array.getElem?_eq_some_iff.1 eY.f10).1;simp;omega,Ex.l3,Ex.t4,_,_,_,rfl⟩
   have HW:=zC (z5x _ _ kb r.R.pd _ _ base r.bs K hA);have bT:=zC ax;have Hv:=zC Ex;have kr:=zC cg;have wZ:=zC ny;have Oe:=zC sJ;simp only[List.getElem?_toArray,List.getElem?_cons_zero] at SQ;clear eY ax Ex cg ny hc hA sI sJ h2 eo;go_wp2_with (go_at_call 145;refine (zA HW).mono ?_;rintro en w1 ⟨rb,xb,eb,rfl,aL,dY⟩;have fN:=zC aL;have OZ:=zC dY;clear aL dY);have aL:=zA fN;have dY:=zA OZ;have eY:=zA B0;have sg:wr.heap.size+1<=w1.heap.size:=(by have:=aL.size;simpa using this);have PT:∀ D∈ds,D<w1.heap.size:=λ D hD=>by have:=(Array.getElem?_eq_some_iff.1 ((zA wV).at_ D hD).2).1;omega
   have KF:=(Array.getElem?_eq_some_iff.1 eY.f10).1;have kw:Below wr.heap.size wr w1:=(B9.alloc L9 _).trans (aL.mono (by simp));have AO:IN w kb h limit K rs (rs.take k) r wr.heap.size ah ab ch cb ds [] L w1:=by
    have hn:=zA pT;refine⟨eY.below kw,⟨hn.hs,hn.nd,hn.new,hn.all,by simp⟩,hlen,⟨(zA wV).nd,λ D hD=>⟨((zA wV).at_ D hD).1,(kw.block D (Array.getElem?_eq_some_iff.1 ((zA wV).at_ D hD).2).1).trans ((zA wV).at_ D hD).2⟩⟩,(aL.block _ (by simp)).trans (heap_alloc_new wr _)⟩
   have dB:=zC AO;have Se:=zC kw;have pP:=zC KF;have Fc:=zC PT;have ox:=zC sg;clear aL eY AO kw KF PT sg e0 e1 e2 c4 SQ xq;refine (wpIn_wide (n:=5)).1 ?_;refine wpIn_rangeFunc_ownH (α:=nO K r.bs []) rfl (by omega) (gf:=233) (lb:=#[.pointer (some ⟨rb,0,none⟩),.pointer (some ⟨xb,0,none⟩),.pointer (some ⟨eb,0,none⟩)]) rfl trivial (enters_of Tryz.func233 (by kernel_rfl) rfl)
    (zm9 _ _ w1 rb xb eb kb r.R.pd _ _ base r.bs K [] dY (zA Hv).neg (vZ.nil _)) (λ h1 h2=>qH.trans h1 h2) (λ W l o o' _ hl hc EI=>zhe W l o o' hl hc EI) B9 (λ _=>rfl)
    (λ (pre:List (nO K r.bs [])) (W:W8)=>∃ L',IN w kb h limit K rs (rs.take k) r wr.heap.size ah ab ch cb ds (pre.map (λ y:nO K r.bs []=>y.1)) L' W/\w1.heap.size<=W.heap.size)
    (λ (c:Code) (_:List (nO K r.bs [])) (W:W8)=>c=.ret/\∃ L',NP w kb h limit K rs ds L' W)
    (λ pre A B row hs hg hr=>let ⟨L',hL,hz⟩:=hs;⟨L',hL.grown hg (λ i e=>(hr i e).1) (by have:=zA pP;have:=zA ox;omega) (by have:=zA ox;omega) (zA Fc),Nat.le_trans hz hg.size⟩)
    (λ c pre A B row hs hg hr=>let ⟨hc,L',hL⟩:=hs;⟨hc,L',hL.grown hg (λ i e=>(hr i e).1) (by have:=zA pP;have:=zA ox;omega) (zA Fc)⟩)
    ⟨L,zA dB,Nat.le_refl _⟩
    (λ (x:nO K r.bs []) (a':Act) (W:W8)=>∃ Bx,w1.heap.size<=Bx/\BV W Bx x.1/\a'={ tmps:=List.toArray ((Value.map (some kb))::(Value.slice (some ⟨g,0,none⟩) rs.length cr)::(Value.int IntKind.i64 (h:Nat))::(Value.int IntKind.i64 (limit:Nat))::(Value.pointer (some ⟨w.heap.size,0,none⟩))::(undef)::(Value.pointer (some ⟨w.heap.size+1,0,none⟩))::(Value.pointer (some ⟨w.heap.size+1+1,0,none⟩))::(Value.pointer (some ⟨w.heap.size+1+1+1,0,none⟩))::(Value.pointer (some ⟨w.heap.size+1+1+1+1,0,none⟩))::(Value.pointer (some ⟨w.heap.size+1+1+1+1+1+1,0,none⟩))::(undef)::(Value.pointer (some ⟨wr.heap.size,0,none⟩))::(Value.pointer (some ⟨Bx,0,none⟩))::(u 14)::(u 15)::(u 16)::(Value.map (some (w.heap.size+1+1+1+1+1)))::(Value.slice (some ⟨g,0,none⟩) rs.length cr)::(Value.int IntKind.i64 (rs.length:Nat))::(Value.int IntKind.i64 (k:Nat))::(Value.bool true)::(Value.pointer (some ⟨g,k*3,none⟩))::(Value.agg #[.string r.R.pd,.slice ah r.R.ts.length ch,.slice ab r.bs.length cb])::(Value.agg #[.string r.R.pd,.slice ah r.R.ts.length ch,.slice ab r.bs.length cb])::(Value.map (some kb))::(Value.func (.func 233) #[] #[.pointer (some ⟨rb,0,none⟩),.pointer (some ⟨xb,0,none⟩),.pointer (some ⟨eb,0,none⟩)])::(zav x.1)::(u 28)::(u 29)::(u 30)::(u 31)::(u 32)::(u 33)::(u 34)::(u 35)::(u 36)::(u 37)::(u 38)::(u 39)::(u 40)::(u 41)::(u 42)::(u 43)::(u 44)::(u 45)::(u 46)::(u 47)::(u 48)::(u 49)::(u 50)::[]),defers:=[] })
    (λ x a' _ A B row hs hg hr=>let ⟨Bx,h1,h2,h3⟩:=hs;⟨Bx,h1,h2.grown hg (λ i e=>(hr i e).2),h3⟩)
    ?assign ?body ?done ?stop
   case assign=>
    intro l pre x W K2 hI ur;obtain⟨L',hL,hz⟩:=hI;have wR:=zC ur;have HL:=zC hL;clear ur hL
    gi_wp2
    exact zA wR _ _ ((KeepsOthers.alloc _ _).from _) ((qH.refl _ _).alloc _) ⟨L',(zA HL).grown (World.grownBy_alloc W _ none) (B:=w1.heap.size) (λ _ e=>by cases e) (by have:=zA pP;have:=zA ox;omega) (by have:=zA ox;omega) (zA Fc),by simp;omega⟩ ⟨W.heap.size,hz,BV.new _ _,rfl⟩
   case body=>
    rintro l pre x a' W T5-⟨L',hL,hz⟩ ⟨Bx,S8,gT,rfl⟩ -;obtain⟨T,M1⟩:∃ T,T=xV x.1 (gw r):=⟨_,rfl⟩;have GD:=(List.mem_filter.1 x.2).1;have hT:zdu T:=(by rw[M1];exact (zA Hv).hd x.1 GD);have Dx:=(zA Hv).len x.1 GD;have Iq:=gT.load;obtain⟨q0,-⟩:=zB hL.rl 0;obtain⟨q1,-⟩:=zB hL.rl 1;simp only[List.getElem?_toArray,List.getElem?_cons_zero,List.getElem?_cons_succ] at q0 q1;have aB:W.ownsRow base 191 1 (.slice ah (gw r).ts.length ch) (gw r).ts.length ((gw r).ts.map zc3):=by
     have:=zJ (zA bT).hd hL.box.bw (λ g e=>((zA bT).hd.lt g e).2);rw[zA Oe] at this;exact this
    have lJ:=zC (zmg W base x.1 (gw r) ah ch aB (zA Hv).h4 Dx);rw[<-M1] at lJ;have HL:=zC hL;have Ju:=zC M1;have HT:=zC hT;have Ho:=zC gT;clear hL M1 hT gT aB GD Dx
    have Oz:=zC (λ (w4:W8) (bZ:Below W.heap.size W w4)=>(show IN w kb h limit K rs (rs.take k) r wr.heap.size ah ab ch cb ds (pre.map (λ y:nO K r.bs []=>y.1)) L' (w4.alloc (.cells (zV T).toArray 88))/\Below W.heap.size W (w4.alloc (.cells (zV T).toArray 88)) from by
     have kk:Below W.heap.size W (w4.alloc (.cells (zV T).toArray 88)):=bZ.alloc bZ.size _
     exact⟨(zA HL).grown (row:=none) ⟨kk.os,kk.tape,kk.output,kk.size,λ i hi _=>kk.block i hi⟩ (B:=w1.heap.size) (λ _ e=>by cases e) (by have:=zA pP;have:=zA ox;omega) (by have:=zA ox;omega) (zA Fc),kk⟩))
    have Fb:=zC (λ (V:W8) (L2:List (Th × Nat)) (hV:rP w kb (w.heap.size+1+1+1+1+1) h limit K L2 V)=>(show V.cell? ⟨w.heap.size,0,none⟩=some (.map (some kb))/\V.cell? ⟨w.heap.size+1,0,none⟩=some (.int .i64 (h:Nat))/\V.cell? ⟨w.heap.size+1+1,0,none⟩=some (.int .i64 (limit:Nat))/\V.cell? ⟨w.heap.size+1+1+1+1+1+1,0,none⟩=some (.map (some (w.heap.size+1+1+1+1+1))) from ⟨(zB hV.k4 0).1,(zB hV.h6 0).1,(zB hV.l7 0).1,(zB hV.f10 0).1⟩));have Fa:=zC (show w.heap.size+1+1+1+1+1+1<w1.heap.size by have:=zA pP;have:=zA ox;omega)
    cases ho:(yS K T).isSome with
    | true=>
     gi_wp2_with (refine⟨trivial,?_⟩;gi_at_call 146;refine (CallsIn.inRound l (callsIn_wide.2 (zA lJ))).mono ?_;rintro en w4 ⟨bZ,rfl⟩;obtain⟨n5,b5⟩:=zA Oz w4 bZ;obtain⟨m0,m1,m2,m3⟩:=zA Fb _ _ n5.box;have t5:=(TV.new w4 T).load;have LZ:=n5.box.mK.look (zA HT) Tryz.underlying83;rw[ho] at LZ;have HN:=zC n5;have ov:=zC b5;clear n5 b5 bZ)
     refine⟨(KeepsOthers.of_grownBy (row:=none) ⟨(zA ov).os,(zA ov).tape,(zA ov).output,(zA ov).size,λ i hi _=>(zA ov).block i hi⟩ (λ _ _ e=>by cases e)).from _,qH.ak (zA ov),L',?_,Nat.le_trans hz (zA ov).size⟩;have n5:=zA HN;refine⟨n5.box,?_,n5.len,n5.oQ,n5.rl⟩;rw[List.map_append];exact n5.new.old (by rw[<-zA Ju];exact ho)
    | false=>
     have aX:yS K T=none:=(by simpa using ho);have pU:=zC aX;clear aX;have lh:=zml L' T h;have mf:(zjw L' T h).length<=L'.length+1:=(by rw[lh];split <;> omega);have hZ:=(zA HL).len;have Hs:=zC lh;clear lh;have mu:=zA Fa
     by_cases AB:limit<K.length+(zjw L' T h).length
     ·have Yy:(limit:Int)<(K.length:Int)+((zjw L' T h).length:Int):=by omega
      gi_wp2_with (refine⟨trivial,?_⟩;gi_at_call 146;refine (CallsIn.inRound l (callsIn_wide.2 (zA lJ))).mono ?_;rintro en w4 ⟨bZ,rfl⟩;obtain⟨n5,b5⟩:=zA Oz w4 bZ;obtain⟨m0,m1,m2,m3⟩:=zA Fb _ _ n5.box;have t5:=(TV.new w4 T).load;have LZ:=n5.box.mK.look (zA HT) Tryz.underlying83;rw[ho] at LZ;obtain⟨w6,jl,Ep,Gy⟩:=n5.box.mF.put (zA HT) h (by unfold maxLen;omega) Tryz.underlying83;have n6:=n5.box.oS Gy.grown Ep;obtain⟨p0,p1,p2,p3⟩:=zA Fb _ _ n6;have Y1:=n6.mK.len Tryz.underlying83;have Y2:=n6.mF.len Tryz.underlying83;have HN:=zC n5;have ov:=zC b5;have Ht:=zC n6;have OS:=zC Gy.grown;obtain⟨v8,z8⟩:=zB n6.r8 0;obtain⟨v9,z9⟩:=zB n6.o9 0;simp only[List.getElem?_toArray,List.getElem?_cons_zero] at v8 v9;clear n5 b5 bZ n6 Gy Ep)
      have n5:=zA HN;have b5:=zA ov;have n6:=zA Ht;have g6:=zA OS;have Nb:KeepsFrom w1.heap.size W w6:=((KeepsOthers.of_grownBy (row:=none) ⟨b5.os,b5.tape,b5.output,b5.size,λ i hi _=>b5.block i hi⟩ (λ _ _ e=>by cases e)).from _).trans (KeepsFrom.of_grownBy g6 (λ j e=>by cases e;omega));rw[zoo n6.r8 rfl,zoo n6.o9 rfl];have Ix:=n5.new.put (e:=x.1) (zA kr) x.2 (by rw[<-zA Ju];exact zA pU);rw[<-zA Ju] at Ix;exact⟨Nb,rfl,zjw L' T h,n6,Ix.nd,Ix.new,AB,⟨n5.oQ.nd,λ D hD=>⟨(n5.oQ.at_ D hD).1,(g6.block D (Array.getElem?_eq_some_iff.1 (n5.oQ.at_ D hD).2).1 (λ e=>by cases e;have:=(n5.oQ.at_ _ hD).1;omega)).trans (n5.oQ.at_ D hD).2⟩⟩⟩
     ·have Yy:¬ ((limit:Int)<(K.length:Int)+((zjw L' T h).length:Int)):=by omega
      gi_wp2_with (refine⟨trivial,?_⟩;gi_at_call 146;refine (CallsIn.inRound l (callsIn_wide.2 (zA lJ))).mono ?_;rintro en w4 ⟨bZ,rfl⟩;obtain⟨n5,b5⟩:=zA Oz w4 bZ;obtain⟨m0,m1,m2,m3⟩:=zA Fb _ _ n5.box;have t5:=(TV.new w4 T).load;have LZ:=n5.box.mK.look (zA HT) Tryz.underlying83;rw[ho] at LZ;obtain⟨w6,jl,Ep,Gy⟩:=n5.box.mF.put (zA HT) h (by unfold maxLen;omega) Tryz.underlying83;have n6:=n5.box.oS Gy.grown Ep;obtain⟨p0,p1,p2,p3⟩:=zA Fb _ _ n6;have Y1:=n6.mK.len Tryz.underlying83;have Y2:=n6.mF.len Tryz.underlying83;have HN:=zC n5;have ov:=zC b5;have Ht:=zC n6;have OS:=zC Gy.grown;clear n5 b5 bZ n6 Gy Ep)
      have n5:=zA HN;have b5:=zA ov;have n6:=zA Ht;have g6:=zA OS;have Nb:KeepsFrom w1.heap.size W w6:=((KeepsOthers.of_grownBy (row:=none) ⟨b5.os,b5.tape,b5.output,b5.size,λ i hi _=>b5.block i hi⟩ (λ _ _ e=>by cases e)).from _).trans (KeepsFrom.of_grownBy g6 (λ j e=>by cases e;omega));refine⟨Nb,(qH.ak b5).trans ((qH.refl _ _).grown g6 (λ r e=>.inr (by cases e;rfl))),zjw L' T h,?_,Nat.le_trans hz Nb.size⟩;have PT:=zA Fc;refine⟨n6,?_,by omega,⟨n5.oQ.nd,λ D hD=>⟨(n5.oQ.at_ D hD).1,(g6.block D (Array.getElem?_eq_some_iff.1 (n5.oQ.at_ D hD).2).1 (λ e=>by cases e;have:=(n5.oQ.at_ _ hD).1;omega)).trans (n5.oQ.at_ D hD).2⟩⟩,(g6.block _ (Array.getElem?_eq_some_iff.1 n5.rl).1 (λ e=>by injection e with e;have:=zA pP;omega)).trans n5.rl⟩;rw[List.map_append];have:=n5.new.put (e:=x.1) (zA kr) x.2 (by rw[<-zA Ju];exact zA pU);rw[<-zA Ju] at this;exact this
   case done=>
    rintro D xs W hD hS ⟨L',hL,hz⟩ kL;have HL:=zC hL;have HD:=zC hD;have HS:=zC hS;have yi:=zC kL;have V1:=zC hJl;clear hL hD hS kL hJl;go_wp2_with fail;have hL:=zA HL;have hD:=zA HD;have ly:w.heap.size+1+1+1+1+1+1<w1.heap.size:=(by have:=zA pP;have:=zA ox;omega);refine Handed.intro (rs.length-(k+1)) (by omega) (zA V1 _ _ _ ⟨k+1,D::ds,λ i=>if i=12 then Value.pointer (some ⟨wr.heap.size,0,none⟩) else if i=21 then Value.bool true else if i=22 then Value.pointer (some ⟨g,k*3,none⟩) else if i=23 then Value.agg #[.string r.R.pd,.slice ah r.R.ts.length ch,.slice ab r.bs.length cb] else if i=24 then Value.agg #[.string r.R.pd,.slice ah r.R.ts.length ch,.slice ab r.bs.length cb] else if i=25 then Value.map (some kb) else if i=26 then Value.func (.func 233) #[] #[.pointer (some ⟨rb,0,none⟩),.pointer (some ⟨xb,0,none⟩),.pointer (some ⟨eb,0,none⟩)] else if i=49 then Value.int IntKind.i64 ((k:Int)+1) else u i,L',by omega,rfl,rfl,hL.box,?_,⟨List.nodup_cons.2 ⟨λ hm=>by have:=zA Fc D hm;omega,hL.oQ.nd⟩,λ E hE=>?_⟩,hL.len⟩)
    ·have hn:=hL.new;refine⟨hn.hs,hn.nd,hn.new,λ q hq e he aX=>?_,by simp⟩;rw[List.take_succ_eq_append_getElem aF] at hq;rcases List.mem_append.1 hq with hq | hq
     ·exact hn.all q hq e he aX
     ·rw[List.mem_singleton.1 hq,<-zA wZ] at he aX ⊢;exact hn.now e (List.mem_map.2 ⟨⟨e,he⟩,zA HS _,rfl⟩) aX
    ·rcases List.mem_cons.1 hE with rfl | hE
     ·exact⟨by omega,zA yi⟩
     ·exact hL.oQ.at_ E hE
   case stop=>
    rintro D c pre W hD-⟨rfl,L',hL⟩ kL;have HL:=zC hL;have HD:=zC hD;have yi:=zC kL;clear hL hD kL
    gi_wp2
    have hL:=zA HL;have hD:=zA HD;have ly:w.heap.size+1+1+1+1+1+1<w1.heap.size:=(by have:=zA pP;have:=zA ox;omega);refine zbm (D::ds) _ (List.nodup_cons.2 ⟨λ hm=>by have:=zA Fc D hm;omega,hL.oQ.nd⟩) (λ E hE=>?_) (λ w' hs=>?_)
    ·rcases List.mem_cons.1 hE with rfl | hE
     ·exact zA yi
     ·exact (hL.oQ.at_ E hE).2
    ·have aX:∀ i,i<=w.heap.size+1+1+1+1+1+1->i∉D::ds:=λ i hi hm=>by
      rcases List.mem_cons.1 hm with rfl | hm
      ·omega
      ·have:=(hL.oQ.at_ i hm).1;omega
     have q8:w'.cell? ⟨w.heap.size+1+1+1,0,none⟩=some (.map none):=(zB ((hs.block (w.heap.size+1+1+1) (aX _ (by omega))).trans hL.box.r8) 0).1;have q9:w'.cell? ⟨w.heap.size+1+1+1+1,0,none⟩=some (.bool false):=(zB ((hs.block (w.heap.size+1+1+1+1) (aX _ (by omega))).trans hL.box.o9) 0).1;refine⟨.tuple #[.map none,.bool false],by simp[results,Tryz.results99,go_sem,q8,q9],?_⟩;refine⟨⟨hs.os.trans hL.box.bw.os,hs.tape.trans hL.box.bw.tape,hs.output.trans hL.box.bw.output,by rw[hs.size];exact hL.box.bw.size,λ i hi=>(hs.block i (aX i (by omega))).trans (hL.box.bw.block i hi)⟩,.inr ⟨rfl,L'.map (·.1),hL.nd,λ t ht=>?_,by rw[List.length_map];exact hL.len⟩⟩;obtain⟨p,hp,rfl⟩:=List.mem_map.1 ht;exact hL.new p hp
  ·have eY:=zA B0;obtain⟨gD,-⟩:=zB eY.f10 0;obtain⟨c8,z8⟩:=zB eY.r8 0;obtain⟨c9,z9⟩:=zB eY.o9 0;simp only[List.getElem?_toArray,List.getElem?_cons_zero] at gD c8 c9;clear eY hJl Te;go_wp2_with fail;refine zbm ds _ (zA wV).nd (λ D hD=>?_) (λ w' hs=>?_)
   ·have:=((zA wV).at_ D hD).1;rw[Below.heap_setCell _ _ _ _ (by simp;omega),Below.heap_setCell _ _ _ _ (by simp;omega)];exact ((zA wV).at_ D hD).2
   ·have aX:∀ i,i<=w.heap.size+1+1+1+1+1+1->i∉ds:=λ i hi hm=>by have:=((zA wV).at_ i hm).1;omega
    have q8:w'.cell? ⟨w.heap.size+1+1+1,0,none⟩=some (.map (some (w.heap.size+1+1+1+1+1))):=by
     rw[World.cell?_of_block (by exact hs.block (w.heap.size+1+1+1) (aX _ (by omega))),World.cell?_setCell_other _ _ _ _ (by simp),World.cell?_setCell_same' _ _ _ (by rw[c8];rfl)]
    have q9:w'.cell? ⟨w.heap.size+1+1+1+1,0,none⟩=some (.bool true):=by
     rw[World.cell?_of_block (by exact hs.block (w.heap.size+1+1+1+1) (aX _ (by omega))),World.cell?_setCell_same' _ _ _ (by rw[World.cell?_setCell_other _ _ _ _ (by simp),c9];rfl)]
    refine⟨.tuple #[.map (some (w.heap.size+1+1+1+1+1)),.bool true],by simp[results,Tryz.results99,go_sem,q8,q9],?_⟩;have eY:=zA B0;have bX:=zA pT;have Kq:∀ i,i<=w.heap.size+1+1+1+1+1+1->i≠w.heap.size+1+1+1->i≠w.heap.size+1+1+1+1->w'.heap[i]?=wr.heap[i]?:=λ i hi h1 h2=>by
     rw[hs.block _ (aX _ hi),Below.heap_setCell _ _ _ _ (by simpa using h2),Below.heap_setCell _ _ _ _ (by simpa using h1)]
    refine⟨⟨hs.os.trans eY.bw.os,hs.tape.trans eY.bw.tape,hs.output.trans eY.bw.output,by rw[hs.size];simp;exact eY.bw.size,λ i hi=>(Kq i (by omega) (by omega) (by omega)).trans (eY.bw.block i hi)⟩,.inl ⟨_,L,rfl,by omega,eY.mF.block (Kq _ (by omega) (by omega) (by omega)),bX.hs,λ t=>?_,hlen⟩⟩
    constructor
    ·intro ht;obtain⟨n,hn⟩:=Option.isSome_iff_exists.1 ht;exact bX.new _ (jV hn)
    ·rintro⟨h1,r,hr,e,he,rfl⟩;exact bX.all r (by rw[List.take_of_length_le (by omega)];exact hr) e he h1
end
section
open Go.RowKit Go.Maps
attribute [local go_sem ↓] zcf zba zc1 j2 zbb qQ qP qO
attribute [local go_sem] qS zbo jY jX
def yak (No:Nat->Prop)(w:W8)(mb:Nat)(pd:B8)(hv bv:Value)(base:Nat)(ls:List (vK × Value))(K:List (Th × Nat))(r:Option yR)(en:Ending)(w':W8):Prop:=
 (r=none->en=.returned (.func (.func 218) #[] #[])/\Below w.heap.size w w')/\∀ s,r=some s->zkt No w mb pd hv bv base ls K s en w'
theorem ycp (No:Nat->Prop)(w:W8)(mb:Nat)(pd:B8)(pH:List zdy)(hv bv:Value)(base:Nat)(ls:List (vK × Value))(K:List (Th × Nat))(t:Th)(h:EX No w mb hv bv base ls K)(hh:w.ownsRow base 191 1 hv pH.length (pH.map zc3))(h4:pH.length<=4):
  Calls Tryz.prog 165 #[.agg #[.string pd,hv,bv],thV t,.map (some mb)] w (yak No w mb pd hv bv base ls K (xG [] ⟨pd,pH⟩ t)):=by
 obtain⟨ah,ch,rfl⟩:=zD hh;obtain⟨ab,cb,rfl⟩:=zD h.l.row;have H:=zC h;have HH:=zC hh;clear h hh;obtain⟨ct,lL⟩:∃ ct,ct=(zV t).toArray:=⟨_,rfl⟩;have pw:=zC lL;unfold thV;rw[<-lL];clear lL;go_enter Tryz.func165,Tryz.ntmps165;go_upto_region 1 with fail;generalize bC:World.alloc (World.alloc w _) _=w0;have k0:Below w.heap.size w w0:=by
  rw[<-bC];exact ((Below.refl w.heap.size w).alloc L9 _).alloc (by simp) _
 have x0:w0.heap[w.heap.size]?=some (.cells #[.string pd,.slice ah pH.length ch,.slice ab ls.length cb] 123 (0,0)):=by
  rw[<-bC,Below.heap_alloc _ _ _ (by simp)];exact heap_alloc_new w _
 have x1:TV w0 (w.heap.size+1) t:=by
  rw[<-bC,zA pw];have:=heap_alloc_new (w.alloc (.cells #[.string pd,.slice ah pH.length ch,.slice ab ls.length cb] 123)) (.cells (zV t).toArray 88);rw[World.size_alloc] at this;exact this
 have s0:w0.heap.size=w.heap.size+1+1:=by rw[<-bC];simp
 clear bC;have t3:=x1.load;obtain⟨c0,-⟩:=zB x0 0;obtain⟨c1,-⟩:=zB x0 1;simp only[List.getElem?_toArray,List.getElem?_cons_zero,List.getElem?_cons_succ] at c0 c1;have HM:=zC (zof w0 base [] ⟨pd,pH⟩ ah ch t (zZ (zA HH) (λ g e=>k0.block g ((zA HH).lt g e).2)) h4 (pH.map (·.2)) (by simp;omega) (vZ.nil _) (λ t ht _=>List.mem_map_of_mem ht));have dr:=zC k0;have rT:=zC x0;have lV:=zC s0;clear k0 x0 x1 s0;generalize xG [] ⟨pd,pH⟩ t=R at *;go_upto_region 2 with (go_at_call 62;refine (zA HM).mono ?_;rintro en w4 ⟨bZ,rfl⟩;have iM:=zC bZ;clear bZ);generalize AU:World.alloc w4 _=w5;have b5:Below w.heap.size w w5:=by
  rw[<-AU];exact ((zA dr).trans ((zA iM).mono (zA dr).size)).alloc (Nat.le_trans (zA dr).size (zA iM).size) _
 have e5:BV w5 w4.heap.size (R.getD []):=by rw[<-AU];exact BV.new w4 _
 have y0:w5.heap[w.heap.size]?=some (.cells #[.string pd,.slice ah pH.length ch,.slice ab ls.length cb] 123 (0,0)):=by
  have h1:=zA lV;have h2:=(zA iM).size;rw[<-AU,Below.heap_alloc _ _ _ (by omega),(zA iM).block _ (by omega)];exact zA rT
 have l5:=e5.load;obtain⟨d0,-⟩:=zB y0 0;obtain⟨d1,-⟩:=zB y0 1;obtain⟨d2,-⟩:=zB y0 2;simp only[List.getElem?_toArray,List.getElem?_cons_zero,List.getElem?_cons_succ] at d0 d1 d2;have Cq:=zC b5;clear AU e5 y0 t3 c0 c1
 cases R with
 | none=>
  clear l5;go_wp2_with fail;go_ret;exact⟨λ _=>⟨rfl,zA Cq⟩,λ s e=>by cases e⟩
 | some s=>
  simp only[Option.getD_some] at l5;have HC:=zC (zj1 No w5 mb pd _ _ base ls K s ((zA H).below b5));clear b5;go_wp2_with (go_at_call 200;refine (zA HC).mono ?_;rintro en w6 ⟨rb,xb,eb,rfl,FT,Uz⟩;have VE:=zC FT;have WO:=zC Uz;clear FT Uz);go_ret;exact⟨λ e=>(by cases e),λ s' e=>by cases e;exact⟨_,_,_,rfl,(zA Cq).trans ((zA VE).mono (zA Cq).size),zA WO⟩⟩
end
end Go.Proofs.YtldkpahaocjdpaaGreat
