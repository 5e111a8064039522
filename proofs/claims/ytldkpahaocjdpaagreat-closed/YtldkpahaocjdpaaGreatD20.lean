/-
  waysFrom and Ways: the iterator is made.
-/
import Derived.Test.YtldkpahaocjdpaaGreatD19
set_option maxHeartbeats 16000000
set_option maxRecDepth 1000000
namespace Go.Proofs.YtldkpahaocjdpaaGreat
section
open Go.RowKit Go.Maps
attribute [local go_sem ↓] qR jO qP xQ
attribute [local go_sem] jC qB
def zkk (No:Nat->Prop)(w:W8)(mb:Nat)(pd:B8)(hv bv:Value)(base:Nat)(ls:List (yX × Value))(K:List (Th × Nat))(e:zX)(en:Ending)(w':W8):Prop:=
 ∃ rb xb eb,en=.returned (.func (.func 233) #[] #[.pointer (some ⟨rb,0,none⟩),.pointer (some ⟨xb,0,none⟩),.pointer (some ⟨eb,0,none⟩)])/\Below w.heap.size w w'/\Kt No w' rb xb eb mb pd hv bv base ls K e
structure lM (No:Nat->Prop)(w:W8)(mb:Nat)(hv bv:Value)(base:Nat)(ls:List (yX × Value))(K:List (Th × Nat)):Prop where
 l:aK w base bv ls
 m:jA w mb K
 nm:¬ No mb
 nt:∀ x∈ls,∀ g,x.2.ownBlock=some g->¬ No g
 no:∀ g,No g->g<w.heap.size
 l3:ls.length<=3
 t4:∀ x∈ls,x.1.ts.length<=4
 h:∃ a n c,hv=.slice a n c
theorem lM.below {No:Nat->Prop}{w w':W8}{mb:Nat}{hv bv:Value}{base:Nat}{ls:List (yX × Value)}{K:List (Th × Nat)}(h:lM No w mb hv bv base ls K)(k:Below w.heap.size w w'):lM No w' mb hv bv base ls K:=
 ⟨h.l.below k,h.m.block (k.block _ h.m.lt),h.nm,h.nt,λ g hg=>by have:=h.no g hg;have:=k.size;omega,h.l3,h.t4,h.h⟩
theorem zjx (No:Nat->Prop)(w:W8)(mb:Nat)(pd:B8)(hv bv:Value)(base:Nat)(ls:List (yX × Value))(K:List (Th × Nat))(e:zX)(h:lM No w mb hv bv base ls K):
  Calls Tryz.prog 200 #[jD e,.agg #[.string pd,hv,bv],.map (some mb)] w (zkk No w mb pd hv bv base ls K e):=by
 obtain⟨ah,nh,ch,rfl⟩:=h.h;obtain⟨ab,cb,rfl⟩:=zE h.l.row;have H:=zC h;clear h;have vj:=zC (BV.new w e);obtain⟨cs,eZ⟩:∃ cs,cs=(zW e).toArray:=⟨_,rfl⟩;unfold jD;rw[<-eZ] at vj ⊢;clear eZ;go_enter Tryz.func200,Tryz.ntmps200;go_wp2_with fail;go_ret;have k0:Below w.heap.size w (((w.alloc (.cells cs 135)).alloc (.cells #[.string pd,.slice ah nh ch,.slice ab ls.length cb] 123)).alloc (.cells #[.map (some mb)] 82)):=
  (((Below.refl w.heap.size w).alloc L9 _).alloc (by simp) _).alloc (by simp only[World.size_alloc];omega) _
 have hA:=(zA H).below k0;refine⟨_,_,_,rfl,k0,⟨?_,?_,?_,hA.l,hA.m,hA.nm,hA.nt,hA.no,hA.l3,hA.t4,hA.h⟩⟩
 ·rw[Below.heap_alloc _ _ _ (by simp)];have:=heap_alloc_new (w.alloc (.cells cs 135)) (.cells #[.string pd,.slice ah nh ch,.slice ab ls.length cb] 123);rw[World.size_alloc] at this;exact this
 ·have:=heap_alloc_new ((w.alloc (.cells cs 135)).alloc (.cells #[.string pd,.slice ah nh ch,.slice ab ls.length cb] 123)) (.cells #[.map (some mb)] 82);rw[World.size_alloc,World.size_alloc] at this;exact this
 ·exact ((zA vj).alloc _).alloc _
theorem zs5 (No:Nat->Prop)(w:W8)(mb:Nat)(pd:B8)(hv bv:Value)(base:Nat)(ls:List (yX × Value))(K:List (Th × Nat))(h:lM No w mb hv bv base ls K):
  Calls Tryz.prog 145 #[.agg #[.string pd,hv,bv],.map (some mb)] w (zkk No w mb pd hv bv base ls K []):=by
 obtain⟨ah,nh,ch,rfl⟩:=h.h;obtain⟨ab,cb,rfl⟩:=zE h.l.row;have b1:=(Below.refl w.heap.size w).alloc L9 (.cells #[.string pd,.slice ah nh ch,.slice ab ls.length cb] 123);have HC:=zC (zjx No _ mb pd _ _ base ls K [] (h.below b1));have cR:=zC b1;clear h b1;go_enter Tryz.func145,Tryz.ntmps145;go_wp2_with (go_at_call 200;refine (zA HC).mono ?_;rintro en w1 ⟨rb,xb,eb,rfl,hb,hw⟩;have HB:=zC hb;have HW:=zC hw;clear hb hw);go_ret;exact⟨_,_,_,rfl,(zA cR).trans ((zA HB).mono (by simp)),zA HW⟩
end
section
open Go.RowKit Go.Maps
theorem zpy (r:PR):r.cells.length=3:=rfl
def vJ (r:PR):yY:=⟨r.R.pd,r.R.ts⟩
def zmn (rs:List PR)(K:List (Th × Nat))(t:Th):Prop:=z7 K t=none/\∃ r∈rs,∃ e∈qO K (xU r.bs) (zK r.bs) [],zT e (vJ r)=t
structure zu9 (K:List (Th × Nat))(r:PR):Prop where
 l3:r.bs.length<=3
 t4:∀ x∈r.bs,x.1.ts.length<=4
 h4:r.R.ts.length<=4
 neg:∀ e∈zQ K (zK r.bs) [],∀ x∈xU r.bs,zbj (zT e x)
 hd:∀ e∈zQ K (zK r.bs) [],zbj (zT e (vJ r))
 len:∀ e∈zQ K (zK r.bs) [],e.length<=12
structure pX (rs:List PR)(K:List (Th × Nat))(done:List PR)(r:PR)(pre:List zX)(h:Nat)(L:List (Th × Nat)):Prop where
 hs:∀ p∈L,p.2=h
 nd:(L.map (·.1)).Nodup
 new:∀ p∈L,zmn rs K p.1
 all:∀ q∈done,∀ e∈qO K (xU q.bs) (zK q.bs) [],z7 K (zT e (vJ q))=none->(z7 L (zT e (vJ q))).isSome=true
 now:∀ e∈pre,z7 K (zT e (vJ r))=none->(z7 L (zT e (vJ r))).isSome=true
def z48 (w:W8)(rs:List PR)(K:List (Th × Nat))(h limit:Nat)(en:Ending)(w':W8):Prop:=
 Below w.heap.size w w'/\((∃ fb L,en=.returned (.tuple #[.map (some fb),.bool true])/\w.heap.size<=fb/\jA w' fb L/\(∀ p∈L,p.2=h)/\(∀ t,(z7 L t).isSome=true↔zmn rs K t)/\K.length+L.length<=limit) \/
  (en=.returned (.tuple #[.map none,.bool false])/\∃ L:List Th,L.Nodup/\(∀ t∈L,zmn rs K t)/\limit<K.length+L.length))
structure dS (w:W8)(kb fb h limit:Nat)(K L:List (Th × Nat))(wr:W8):Prop where
 k4:wr.heap[w.heap.size]?=some (.cells #[.map (some kb)] 83 (0,0))
 h6:wr.heap[w.heap.size+1]?=some (.cells #[.int .i64 (h:Nat)] 3 (0,0))
 l7:wr.heap[w.heap.size+1+1]?=some (.cells #[.int .i64 (limit:Nat)] 3 (0,0))
 r8:wr.heap[w.heap.size+1+1+1]?=some (.cells #[.map none] 83 (0,0))
 o9:wr.heap[w.heap.size+1+1+1+1]?=some (.cells #[.bool false] 4 (0,0))
 f10:wr.heap[w.heap.size+1+1+1+1+1+1]?=some (.cells #[.map (some fb)] 83 (0,0))
 fe:fb=w.heap.size+1+1+1+1+1
 mK:jA wr kb K
 mF:jA wr fb L
 kl:kb<w.heap.size
 bw:Below w.heap.size w wr
variable {row:Option Nat} {wr w' w:W8} {K L:List (Th × Nat)} {kb fb h limit:Nat}
theorem dS.grown (x:dS w kb fb h limit K L wr)(hg:wr.grownBy w' row)(hr:∀ r,row=some r->w.heap.size+1+1+1+1+1+1<r):dS w kb fb h limit K L w':=by
 have blk:∀ i,i<=w.heap.size+1+1+1+1+1+1->w'.heap[i]?=wr.heap[i]?:=λ i hi=>hg.block i (by have:=(Array.getElem?_eq_some_iff.1 x.f10).1;omega) (λ e=>by have:=hr i e.symm;omega)
 have hk:=x.kl;have hf:=x.fe;exact⟨(blk _ (by omega)).trans x.k4,(blk _ (by omega)).trans x.h6,(blk _ (by omega)).trans x.l7,(blk _ (by omega)).trans x.r8,(blk _ (by omega)).trans x.o9,(blk _ (by omega)).trans x.f10,x.fe,x.mK.block (blk _ (by omega)),x.mF.block (blk _ (by omega)),x.kl,⟨hg.os.trans x.bw.os,hg.tape.trans x.bw.tape,hg.output.trans x.bw.output,Nat.le_trans x.bw.size hg.size,λ i hi=>(blk i (by omega)).trans (x.bw.block i hi)⟩⟩
theorem dS.below (x:dS w kb fb h limit K L wr)(k:Below wr.heap.size wr w'):dS w kb fb h limit K L w':=x.grown (row:=none) ⟨k.os,k.tape,k.output,k.size,λ i hi _=>k.block i hi⟩ (λ _ e=>by cases e)
theorem dS.start (w:W8)(kb h limit:Nat)(K:List (Th × Nat))(hm:jA w kb K):dS w kb (w.heap.size+1+1+1+1+1) h limit K [] (((((((w.alloc (.cells #[.map (some kb)] 83)).alloc (.cells #[.int .i64 (h:Nat)] 3)).alloc (.cells #[.int .i64 (limit:Nat)] 3)).alloc (.cells #[.map none] 83)).alloc (.cells #[.bool false] 4)).alloc (.map #[] 0)).alloc (.cells #[.map (some (w.heap.size+1+1+1+1+1))] 83)):=by
 have kk:Below w.heap.size w (((((((w.alloc (.cells #[.map (some kb)] 83)).alloc (.cells #[.int .i64 (h:Nat)] 3)).alloc (.cells #[.int .i64 (limit:Nat)] 3)).alloc (.cells #[.map none] 83)).alloc (.cells #[.bool false] 4)).alloc (.map #[] 0)).alloc (.cells #[.map (some (w.heap.size+1+1+1+1+1))] 83)):=
  (((((((Below.refl w.heap.size w).alloc L9 _).alloc (by simp) _).alloc (by simp only[World.size_alloc];omega) _).alloc (by simp only[World.size_alloc];omega) _).alloc (by simp only[World.size_alloc];omega) _).alloc (by simp only[World.size_alloc];omega) _).alloc (by simp only[World.size_alloc];omega) _
 refine⟨?_,?_,?_,?_,?_,?_,rfl,hm.block (kk.block _ hm.lt),?_,hm.lt,kk⟩
 ·rw[Below.heap_alloc _ _ _ (by simp only[World.size_alloc];omega),Below.heap_alloc _ _ _ (by simp only[World.size_alloc];omega),Below.heap_alloc _ _ _ (by simp only[World.size_alloc];omega),Below.heap_alloc _ _ _ (by simp only[World.size_alloc];omega),Below.heap_alloc _ _ _ (by simp only[World.size_alloc];omega),Below.heap_alloc _ _ _ (by simp)];exact heap_alloc_new w _
 ·rw[Below.heap_alloc _ _ _ (by simp only[World.size_alloc];omega),Below.heap_alloc _ _ _ (by simp only[World.size_alloc];omega),Below.heap_alloc _ _ _ (by simp only[World.size_alloc];omega),Below.heap_alloc _ _ _ (by simp only[World.size_alloc];omega),Below.heap_alloc _ _ _ (by simp)];have:=heap_alloc_new (w.alloc (.cells #[.map (some kb)] 83)) (.cells #[.int .i64 (h:Nat)] 3);simpa only[World.size_alloc] using this
 ·rw[Below.heap_alloc _ _ _ (by simp only[World.size_alloc];omega),Below.heap_alloc _ _ _ (by simp only[World.size_alloc];omega),Below.heap_alloc _ _ _ (by simp only[World.size_alloc];omega),Below.heap_alloc _ _ _ (by simp)];have:=heap_alloc_new ((w.alloc (.cells #[.map (some kb)] 83)).alloc (.cells #[.int .i64 (h:Nat)] 3)) (.cells #[.int .i64 (limit:Nat)] 3);simpa only[World.size_alloc] using this
 ·rw[Below.heap_alloc _ _ _ (by simp only[World.size_alloc];omega),Below.heap_alloc _ _ _ (by simp only[World.size_alloc];omega),Below.heap_alloc _ _ _ (by simp)];have:=heap_alloc_new (((w.alloc (.cells #[.map (some kb)] 83)).alloc (.cells #[.int .i64 (h:Nat)] 3)).alloc (.cells #[.int .i64 (limit:Nat)] 3)) (.cells #[.map none] 83);simpa only[World.size_alloc] using this
 ·rw[Below.heap_alloc _ _ _ (by simp only[World.size_alloc];omega),Below.heap_alloc _ _ _ (by simp)];have:=heap_alloc_new ((((w.alloc (.cells #[.map (some kb)] 83)).alloc (.cells #[.int .i64 (h:Nat)] 3)).alloc (.cells #[.int .i64 (limit:Nat)] 3)).alloc (.cells #[.map none] 83)) (.cells #[.bool false] 4);simpa only[World.size_alloc] using this
 ·have:=heap_alloc_new ((((((w.alloc (.cells #[.map (some kb)] 83)).alloc (.cells #[.int .i64 (h:Nat)] 3)).alloc (.cells #[.int .i64 (limit:Nat)] 3)).alloc (.cells #[.map none] 83)).alloc (.cells #[.bool false] 4)).alloc (.map #[] 0)) (.cells #[.map (some (w.heap.size+1+1+1+1+1))] 83);simpa only[World.size_alloc] using this
 ·have:=(jA.made (((((w.alloc (.cells #[.map (some kb)] 83)).alloc (.cells #[.int .i64 (h:Nat)] 3)).alloc (.cells #[.int .i64 (limit:Nat)] 3)).alloc (.cells #[.map none] 83)).alloc (.cells #[.bool false] 4))).alloc (.cells #[.map (some (w.heap.size+1+1+1+1+1))] 83);simpa only[World.size_alloc] using this
def z80 (ds:List Nat):List Deferred:=ds.map λ D=>{ target:=.collected D,args:=#[] }
structure KQ (w:W8)(ds:List Nat)(wr:W8):Prop where
 nd:ds.Nodup
 at_:∀ D∈ds,w.heap.size+1+1+1+1+1+1<D/\wr.heap[D]?=some (.deferred (some []))
theorem zds {No:Nat->Prop}(W:W8)(l:Nat)(o o':Obj)(h:W.heap[l]?=some o)(h1:o.isCells=false)(h2:o.isWalk=false):jQ No W (W.putObj l o'):=by
 have hg:=grownBy_putObj' W l o';refine⟨hg.os,hg.tape,hg.output,hg.size,λ k ob hk _ hc=>?_⟩;rw[World.putObj_heap_other (λ e=>?_)]
 ·exact hk
 ·subst e;rw[h] at hk
  cases hk
  rcases hc with hc | hc
  ·rw[h1] at hc;cases hc
  ·rw[h2] at hc;cases hc
structure yev (ds:List Nat)(w w':W8):Prop where
 os:w'.os=w.os
 tape:w'.tape=w.tape
 output:w'.output=w.output
 size:w'.heap.size=w.heap.size
 block:∀ i,i∉ds->w'.heap[i]?=w.heap[i]?
theorem j4 {n:Nat}{P:Program}{fn:Func}{tmps:Array Value}{R:Ending->W8->Prop}:∀ (ds:List Nat) (w:W8),ds.Nodup->(∀ D∈ds,w.heap[D]?=some (.deferred (some [])))->(∀ w',yev ds w w'->LeavesIn Fence.wide n P fn tmps R [] .returning w')->LeavesInM Fence.wide n P fn tmps R (z80 ds) .returning w
 | [],w,_,_,h=>h w ⟨rfl,rfl,rfl,rfl,λ _ _=>rfl⟩
 | D::ds,w,hn,hD,h=>by
  obtain⟨h1,h2⟩:=List.nodup_cons.1 hn;refine⟨by simp,.inl ⟨D,_,rfl,run_takeDeferred (hD D List.mem_cons_self),?_⟩⟩;refine j4 ds _ h2 (λ E hE=>?_) (λ w' hs=>h w' ?_)
  ·rw[World.putObj_heap_other (λ e=>h1 (by rw[<-e];exact hE))];exact hD E (List.mem_cons_of_mem _ hE)
  ·have hg:=grownBy_putObj' w D (.deferred none);exact⟨hs.os.trans hg.os,hs.tape.trans hg.tape,hs.output.trans hg.output,hs.size.trans (by simp),λ i hi=>(hs.block i (λ hm=>hi (List.mem_cons_of_mem _ hm))).trans (World.putObj_heap_other (λ e=>hi (by rw[e];exact List.mem_cons_self)))⟩
theorem dS.mi {L2:List (Th × Nat)}(x:dS w kb fb h limit K L wr)(hg:wr.grownBy w' (some fb))(hm:jA w' fb L2):dS w kb fb h limit K L2 w':=by
 have hk:=x.kl;have hf:=x.fe;have blk:∀ i,i<=w.heap.size+1+1+1+1+1+1->i≠fb->w'.heap[i]?=wr.heap[i]?:=λ i hi bG=>hg.block i (by have:=(Array.getElem?_eq_some_iff.1 x.f10).1;omega) (λ e=>bG (by cases e;rfl))
 exact⟨(blk _ (by omega) (by omega)).trans x.k4,(blk _ (by omega) (by omega)).trans x.h6,(blk _ (by omega) (by omega)).trans x.l7,(blk _ (by omega) (by omega)).trans x.r8,(blk _ (by omega) (by omega)).trans x.o9,(blk _ (by omega) (by omega)).trans x.f10,x.fe,x.mK.block (blk _ (by omega) (by omega)),hm,x.kl,⟨hg.os.trans x.bw.os,hg.tape.trans x.bw.tape,hg.output.trans x.bw.output,Nat.le_trans x.bw.size hg.size,λ i hi=>(blk i (by omega) (by omega)).trans (x.bw.block i hi)⟩⟩
variable {b:Nat} {W:W8}
theorem zi5 {j:Nat}{cs:Array Value}{t:TypeId}{fr:Nat × Nat}{v:Value}(h:W.heap[b]?=some (.cells cs t fr))(hv:cs[j]?=some v):(W.setCell ⟨b,j,none⟩ v)=W:=by
 rw[setCell_eq_setRow W b j cs t fr v h];have e:cs.setIfInBounds j v=cs:=by
  apply Array.ext_getElem?;intro i;rw[Array.getElem?_setIfInBounds]
  split
  ·rename_i e;subst e;have:=(Array.getElem?_eq_some_iff.1 hv).1;rw[if_pos this,hv]
  ·rfl
 rw[e];have bP:b<W.heap.size:=(Array.getElem?_eq_some_iff.1 h).1;have hb:W.heap[b]=.cells cs t fr:=(Array.getElem?_eq_some_iff.1 h).2;unfold World.setRow
 cases W with
 | mk heap tape drawn os output=>
  congr 1
  apply Array.ext
  ·simp
  ·intro k h1 h2;simp only[Array.getElem_modify]
   split
   ·rename_i hk;subst hk;simp at hb;simp[hb]
   ·rfl
variable {e:zX} {pre:List zX} {r:PR} {rs done:List PR}
theorem pX.old (x:pX rs K done r pre h L)(ho:(z7 K (zT e (vJ r))).isSome=true):pX rs K done r (pre++[e]) h L:=
 ⟨x.hs,x.nd,x.new,x.all,λ y hy hn=>by
  rcases List.mem_append.1 hy with hy | hy
  ·exact x.now y hy hn
  ·rw[List.mem_singleton.1 hy] at hn;rw[hn] at ho;cases ho⟩
theorem zrm (hd:(L.map (·.1)).Nodup){t s:Th}{n:Nat}(h:(z7 L s).isSome=true):(z7 (zia L t n) s).isSome=true:=by
 obtain⟨m,hm⟩:=Option.isSome_iff_exists.1 h
 by_cases e:s=t
 ·subst e;rw[zaf (Ml hd) (M4 L s n)];rfl
 ·rw[zaf (Ml hd) (zge (vP hm) e)];rfl
theorem pX.put (x:pX rs K done r pre h L)(hr:r∈rs)(he:e∈qO K (xU r.bs) (zK r.bs) [])(hn:z7 K (zT e (vJ r))=none):pX rs K done r (pre++[e]) h (zia L (zT e (vJ r)) h):=by
 refine⟨λ p hp=>?_,Ml x.nd,λ p hp=>?_,λ q hq y hy qk=>zrm x.nd (x.all q hq y hy qk),λ y hy qk=>?_⟩
 ·rcases zke hp with rfl | ⟨hp,_⟩
  ·rfl
  ·exact x.hs p hp
 ·rcases zke hp with rfl | ⟨hp,_⟩
  ·exact⟨hn,r,hr,e,he,rfl⟩
  ·exact x.new p hp
 ·rcases List.mem_append.1 hy with hy | hy
  ·exact zrm x.nd (x.now y hy qk)
  ·rw[List.mem_singleton.1 hy,zaf (Ml x.nd) (M4 L _ h)];rfl
structure KR (w:W8)(kb h limit:Nat)(K:List (Th × Nat))(rs done:List PR)(r:PR)(xy:Nat)(ah ab:O8)(ch cb:Nat)(ds:List Nat)(pre:List zX)(L:List (Th × Nat))(W:W8):Prop where
 box:dS w kb (w.heap.size+1+1+1+1+1) h limit K L W
 new:pX rs K done r pre h L
 len:K.length+L.length<=limit
 cX:KQ w ds W
 rl:W.heap[xy]?=some (.cells #[.string r.R.pd,.slice ah r.R.ts.length ch,.slice ab r.bs.length cb] 123 (0,0))
structure MJ (w:W8)(kb h limit:Nat)(K:List (Th × Nat))(rs:List PR)(ds:List Nat)(L:List (Th × Nat))(W:W8):Prop where
 box:dS w kb (w.heap.size+1+1+1+1+1) h limit K L W
 nd:(L.map (·.1)).Nodup
 new:∀ p∈L,zmn rs K p.1
 len:limit<K.length+L.length
 cX:KQ w ds W
variable {W':W8}
theorem KQ.grown {ds:List Nat}(h:KQ w ds W)(hg:W.grownBy W' row)(hr:∀ r,row=some r->∀ D∈ds,D<r):KQ w ds W':=
 ⟨h.nd,λ D hD=>⟨(h.at_ D hD).1,(hg.block D (Array.getElem?_eq_some_iff.1 (h.at_ D hD).2).1 (λ e=>by have:=hr D e.symm D hD;omega)).trans (h.at_ D hD).2⟩⟩
theorem KR.grown {w:W8}{kb h limit:Nat}{K:List (Th × Nat)}{rs done:List PR}{r:PR}{xy:Nat}{ah ab:O8}{ch cb:Nat}{ds:List Nat}{pre:List zX}{L:List (Th × Nat)}{W W':W8}(x:KR w kb h limit K rs done r xy ah ab ch cb ds pre L W){row:Option Nat}(hg:W.grownBy W' row){B:Nat}(hr:∀ i,row=some i->B<=i)(h1:w.heap.size+1+1+1+1+1+1<B)(h2:xy<B)(h3:∀ D∈ds,D<B):KR w kb h limit K rs done r xy ah ab ch cb ds pre L W':=
 ⟨x.box.grown hg (λ i e=>by have:=hr i e;omega),x.new,x.len,x.cX.grown hg (λ i e D hD=>by have:=hr i e;have:=h3 D hD;omega),(hg.block _ (Array.getElem?_eq_some_iff.1 x.rl).1 (λ e=>by have:=hr _ e.symm;omega)).trans x.rl⟩
theorem MJ.grown {w:W8}{kb h limit:Nat}{K:List (Th × Nat)}{rs:List PR}{ds:List Nat}{L:List (Th × Nat)}{W W':W8}(x:MJ w kb h limit K rs ds L W){row:Option Nat}(hg:W.grownBy W' row){B:Nat}(hr:∀ i,row=some i->B<=i)(h1:w.heap.size+1+1+1+1+1+1<B)(h3:∀ D∈ds,D<B):MJ w kb h limit K rs ds L W':=
 ⟨x.box.grown hg (λ i e=>by have:=hr i e;omega),x.nd,x.new,x.len,x.cX.grown hg (λ i e D hD=>by have:=hr i e;have:=h3 D hD;omega)⟩
theorem BV.grown (h:BV W b e)(hg:W.grownBy W' row)(hr:∀ i,row=some i->∃ o:Obj,W.heap[i]?=some o/\o.isCells=false):BV W' b e:=
 (hg.block b h.lt (λ e1=>by obtain⟨o,ho,hc⟩:=hr b e1.symm;rw[show W.heap[b]?=_ from h] at ho;cases ho;cases hc)).trans h
end
section
open Go.RowKit Go.Maps
attribute [local go_sem ↓] qR jO qP xQ vU xY xX xW
attribute [local go_sem] jC qB vD vC
def z90 (No:Nat->Prop)(w:W8)(mb:Nat)(pd:B8)(hv bv:Value)(base:Nat)(ls:List (yX × Value))(K:List (Th × Nat))(r:Option zX)(en:Ending)(w':W8):Prop:=
 (r=none->en=.returned (.func (.func 218) #[] #[])/\Below w.heap.size w w')/\∀ s,r=some s->zkk No w mb pd hv bv base ls K s en w'
theorem yb2 (No:Nat->Prop)(w:W8)(mb:Nat)(pd:B8)(jh:List zb8)(hv bv:Value)(base:Nat)(ls:List (yX × Value))(K:List (Th × Nat))(t:Th)(h:lM No w mb hv bv base ls K)(hh:w.ownsRow base 191 1 hv jh.length (jh.map zaz))(h4:jh.length<=4):
  Calls Tryz.prog 165 #[.agg #[.string pd,hv,bv],thV t,.map (some mb)] w (z90 No w mb pd hv bv base ls K (zV [] ⟨pd,jh⟩ t)):=by
 obtain⟨ah,ch,rfl⟩:=zE hh;obtain⟨ab,cb,rfl⟩:=zE h.l.row;have H:=zC h;have HH:=zC hh;clear h hh;obtain⟨ct,eM⟩:∃ ct,ct=(zJ t).toArray:=⟨_,rfl⟩;have fw:=zC eM;unfold thV;rw[<-eM];clear eM;go_enter Tryz.func165,Tryz.ntmps165;go_upto_region 1 with fail;generalize hw0:World.alloc (World.alloc w _) _=w0;have k0:Below w.heap.size w w0:=by
  rw[<-hw0];exact ((Below.refl w.heap.size w).alloc L9 _).alloc (by simp) _
 have x0:w0.heap[w.heap.size]?=some (.cells #[.string pd,.slice ah jh.length ch,.slice ab ls.length cb] 123 (0,0)):=by
  rw[<-hw0,Below.heap_alloc _ _ _ (by simp)];exact heap_alloc_new w _
 have x1:TV w0 (w.heap.size+1) t:=by
  rw[<-hw0,zA fw];have:=heap_alloc_new (w.alloc (.cells #[.string pd,.slice ah jh.length ch,.slice ab ls.length cb] 123)) (.cells (zJ t).toArray 88);rw[World.size_alloc] at this;exact this
 have s0:w0.heap.size=w.heap.size+1+1:=by rw[<-hw0];simp
 clear hw0;have t3:=x1.load;obtain⟨c0,-⟩:=zB x0 0;obtain⟨c1,-⟩:=zB x0 1;simp only[List.getElem?_toArray,List.getElem?_cons_zero,List.getElem?_cons_succ] at c0 c1;have HM:=zC (zfs w0 base [] ⟨pd,jh⟩ ah ch t (zP (zA HH) (λ g e=>k0.block g ((zA HH).lt g e).2)) h4 (jh.map (·.2)) (by simp;omega) (xN.nil _) (λ t ht _=>List.mem_map_of_mem ht));have cq:=zC k0;have mo:=zC x0;have fH:=zC s0;clear k0 x0 x1 s0;generalize zV [] ⟨pd,jh⟩ t=R at *;go_upto_region 2 with (go_at_call 62;refine (zA HM).mono ?_;rintro en w4 ⟨bQ,rfl⟩;have eC:=zC bQ;clear bQ);generalize pI:World.alloc w4 _=w5;have b5:Below w.heap.size w w5:=by
  rw[<-pI];exact ((zA cq).trans ((zA eC).mono (zA cq).size)).alloc (Nat.le_trans (zA cq).size (zA eC).size) _
 have e5:BV w5 w4.heap.size (R.getD []):=by rw[<-pI];exact BV.new w4 _
 have y0:w5.heap[w.heap.size]?=some (.cells #[.string pd,.slice ah jh.length ch,.slice ab ls.length cb] 123 (0,0)):=by
  have h1:=zA fH;have h2:=(zA eC).size;rw[<-pI,Below.heap_alloc _ _ _ (by omega),(zA eC).block _ (by omega)];exact zA mo
 have l5:=e5.load;obtain⟨d0,-⟩:=zB y0 0;obtain⟨d1,-⟩:=zB y0 1;obtain⟨d2,-⟩:=zB y0 2;simp only[List.getElem?_toArray,List.getElem?_cons_zero,List.getElem?_cons_succ] at d0 d1 d2;have jn:=zC b5;clear pI e5 y0 t3 c0 c1
 cases R with
 | none=>
  clear l5;go_wp2_with fail;go_ret;exact⟨λ _=>⟨rfl,zA jn⟩,λ s e=>by cases e⟩
 | some s=>
  simp only[Option.getD_some] at l5;have HC:=zC (zjx No w5 mb pd _ _ base ls K s ((zA H).below b5));clear b5;go_wp2_with (go_at_call 200;refine (zA HC).mono ?_;rintro en w6 ⟨rb,xb,eb,rfl,iA,Du⟩;have mU:=zC iA;have Is:=zC Du;clear iA Du);go_ret;exact⟨λ e=>(by cases e),λ s' e=>by cases e;exact⟨_,_,_,rfl,(zA jn).trans ((zA mU).mono (zA jn).size),zA Is⟩⟩
end
end Go.Proofs.YtldkpahaocjdpaaGreat
