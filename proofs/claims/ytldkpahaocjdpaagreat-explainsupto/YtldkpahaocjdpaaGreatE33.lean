/-
  waysFrom's function, as an iterator: what comes of it, for every loop body that keeps what it reads.
-/
import Derived.Test.YtldkpahaocjdpaaGreatE32
set_option maxHeartbeats 16000000
set_option maxRecDepth 1000000
namespace Go.Proofs.YtldkpahaocjdpaaGreat
section
open Go.RowKit Go.Maps
attribute [local go_sem ↓] zcf zba zc1 j2 z5h z5g
attribute [local go_sem] qS zbo zzk
variable {W:W8}
theorem zth {m m' l:Nat}{args:Array Value}{R:Ending->W8->Prop}(h:YieldAt Fence.wide m Tryz.prog l args W R):YieldAt Fence.wide m' Tryz.prog l args W R:=by
 obtain⟨fn,tmps,assign,body,hy,hF,hR⟩:=h;exact⟨fn,tmps,assign,body,hy,hF,λ c cs _=>hR c cs (room_wide _)⟩
structure IF (No:Nat->Prop)(w:W8)(rb xb eb mb:Nat)(pd:B8)(hv bv:Value)(base:Nat)(ls:List (vK × Value))(K:List (Th × Nat))(e:yR):Prop where
 r:w.heap[rb]?=some (.cells #[.string pd,hv,bv] 123 (0,0))
 x:w.heap[xb]?=some (.cells #[.map (some mb)] 82 (0,0))
 b:BV w eb e
 l:iL w base bv ls
 m:qR w mb K
 nm:¬ No mb
 nt:∀ x∈ls,∀ g,x.2.ownBlock=some g->¬ No g
 no:∀ g,No g->g<w.heap.size
 l3:ls.length<=3
 t4:∀ x∈ls,x.1.ts.length<=4
 h:∃ a n c,hv=.slice a n c
theorem IF.below {No:Nat->Prop}{w w':W8}{rb xb eb mb:Nat}{pd:B8}{hv bv:Value}{base:Nat}{ls:List (vK × Value)}{K:List (Th × Nat)}{e:yR}(h:IF No w rb xb eb mb pd hv bv base ls K e)(k:Below w.heap.size w w'):IF No w' rb xb eb mb pd hv bv base ls K e:=
 ⟨(k.block _ (Array.getElem?_eq_some_iff.1 h.r).1).trans h.r,(k.block _ (Array.getElem?_eq_some_iff.1 h.x).1).trans h.x,h.b.below k,h.l.below k,h.m.block (k.block _ h.m.lt),h.nm,h.nt,λ g hg=>by have:=h.no g hg;have:=k.size;omega,h.l3,h.t4,h.h⟩
theorem SV.new (w:W8)(pv nv mv fv:Value):SV (w.alloc (.cells #[pv,nv,mv,fv] 361)) w.heap.size pv nv mv fv:=heap_alloc_new w _
variable {pv nv:Value} {w w':W8}
theorem SV.below {b:Nat}{mv fv:Value}(h:SV w b pv nv mv fv)(k:Below w.heap.size w w'):SV w' b pv nv mv fv:=(k.block b (Array.getElem?_eq_some_iff.1 h).1).trans h
theorem SV.put {b:Nat}{p0 n0 m0 f0:Value}(h:SV w b p0 n0 m0 f0)(a a':O8)(n n' c c' m l:Nat):(zsx (.pointer (some ⟨b,0,none⟩)) (.agg #[.slice a n c,.slice a' n' c',.map (some m),.func (.yield l) #[] #[]])).run Tryz.prog w=.ok () (w.setRow b #[.slice a n c,.slice a' n' c',.map (some m),.func (.yield l) #[] #[]]):=h.store rfl rfl rfl rfl
theorem zzl (w:W8)(p0 n0 m0 f0:Value)(a a':O8)(n n' c c' m l:Nat):(zsx (.pointer (some ⟨w.heap.size,0,none⟩)) (.agg #[.slice a n c,.slice a' n' c',.map (some m),.func (.yield l) #[] #[]])).run Tryz.prog (w.alloc (.cells #[p0,n0,m0,f0] 361))=.ok () (w.alloc (.cells #[.slice a n c,.slice a' n' c',.map (some m),.func (.yield l) #[] #[]] 361)):=by
 rw[(SV.new w p0 n0 m0 f0).put,World.setRow_alloc_new]
variable {sb:Nat} {As:List (jZ × Value)} {v:Value} {No:Nat->Prop}
theorem j1.setRow (h:j1 No w v As)(cs:Array Value)(h1:∀ g,v.ownBlock=some g->g≠sb)(h2:∀ x∈As,∀ g,x.2.ownBlock=some g->g≠sb):j1 No (w.setRow sb cs) v As:=
 ⟨let ⟨b,hb⟩:=h.row;⟨b,zZ hb (λ g hg=>setRow_other w sb g cs (h1 g hg))⟩,λ x hx=>let ⟨b,hb⟩:=h.ae x hx;⟨b,zZ hb (λ g hg=>setRow_other w sb g cs (h2 x hx g hg))⟩,h.ap,h.O7,h.eJ⟩
theorem j1.below (h:j1 No w v As)(k:Below w.heap.size w w'):j1 No w' v As:=h.kZ (qH.ak k)
structure RL (No:Nat->Prop)(W:W8)(ls:List (vK × Value))(sb:Nat)(pv nv:Value)(V:W8):Prop where
 p:j1 No V pv (vV false ls)
 n:j1 No V nv (vV true ls)
 pb:∀ g,pv.ownBlock=some g->g≠sb
 nb:∀ g,nv.ownBlock=some g->g≠sb
 tb:∀ x∈ls,∀ g,x.2.ownBlock=some g->g<W.heap.size
 k:Below W.heap.size W V
variable {ls:List (vK × Value)}
theorem zi8 {b:Bool}{x:jZ × Value}(hx:x∈vV b ls):∃ y∈ls,x=zl2 y:=by
 obtain⟨y,hy,rfl⟩:=List.mem_map.1 hx;exact⟨y,(List.mem_filter.1 hy).1,rfl⟩
theorem RL.set {V:W8}(h:RL No W ls sb pv nv V)(hs:W.heap.size<=sb)(cs:Array Value):j1 No (V.setRow sb cs) pv (vV false ls)/\j1 No (V.setRow sb cs) nv (vV true ls)/\Below W.heap.size W (V.setRow sb cs):=
 ⟨h.p.setRow cs h.pb (λ x hx g hg=>by obtain⟨y,hy,rfl⟩:=zi8 hx;have:=h.tb y hy g hg;omega),h.n.setRow cs h.nb (λ x hx g hg=>by obtain⟨y,hy,rfl⟩:=zi8 hx;have:=h.tb y hy g hg;omega),xN h.k hs cs⟩
theorem zu3 {w5:W8}{rb xb eb mb:Nat}{pd:B8}{hv bv:Value}{base:Nat}{K:List (Th × Nat)}{e:yR}(h:IF No W rb xb eb mb pd hv bv base ls K e)(hB:Below W.heap.size W w5){V4 V5:Nat}(hp:w5.ownsRow (V4+1) 79 2 pv (ls.filter (vA false)).length ((ls.filter (vA false)).flatMap vQ))(hn:w5.ownsRow (V5+1) 79 2 nv (ls.filter (vA true)).length ((ls.filter (vA true)).flatMap vQ))(h4:W.heap.size<=V4)(h5:W.heap.size<=V5)(sb:Nat)(pb:∀ g,pv.ownBlock=some g->g≠sb)(nb:∀ g,nv.ownBlock=some g->g≠sb):RL No W ls sb pv nv w5:=
 ⟨zo5 h.l hB hp (λ g hg=>by have:=h.no g hg;omega) h.nt h.t4,zo5 h.l hB hn (λ g hg=>by have:=h.no g hg;omega) h.nt h.t4,pb,nb,λ x hx g hg=>((h.l.each x hx).lt g hg).2,hB⟩
def yP (ls:List (vK × Value)):List jZ:=(vV false ls).map (·.1)
def zcv (ls:List (vK × Value)):List jZ:=(vV true ls).map (·.1)
abbrev nO (K:List (Th × Nat))(ls:List (vK × Value))(e:yR):={ x:yR // x∈zbe K (zcv ls) (yP ls) e }
def zhl (ls:List (vK × Value)):List B8:=(yP ls).flatMap λ x=>x.ts.map (·.2)
theorem zhm {x:jZ}(hx:x∈yP ls){t:zdy}(ht:t∈x.ts):t.2∈zhl ls:=List.mem_flatMap.2 ⟨x,hx,List.mem_map_of_mem ht⟩
theorem zlx {α β:Type}{f:α->List β}{n:Nat}:∀ (l:List α),(∀ x∈l,(f x).length<=n)->(l.flatMap f).length<=n*l.length
 | [],_=>by simp
 | x::l,h=>by
  have h1:=h x List.mem_cons_self;have h2:=zlx l (λ y hy=>h y (List.mem_cons_of_mem _ hy));rw[List.flatMap_cons,List.length_append,List.length_cons,Nat.mul_succ];omega
theorem zmj (h3:ls.length<=3)(h4:∀ x∈ls,x.1.ts.length<=4):(zhl ls).length<=12:=by
 have h1:=zlx (n:=4) (f:=λ x:jZ=>x.ts.map (·.2)) (yP ls) (λ x hx=>by
  obtain⟨y,hy,rfl⟩:=List.mem_map.1 hx;obtain⟨z,hz,rfl⟩:=zi8 hy;rw[List.length_map]
  exact h4 z hz)
 have h2:(yP ls).length<=3:=by unfold yP;rw[List.length_map,Mj];exact Nat.le_trans (List.length_filter_le _ _) h3
 unfold zhl;omega
theorem zm9 (No:Nat->Prop)(n:Nat)(w:W8)(rb xb eb mb:Nat)(pd:B8)(hv bv:Value)(base:Nat)(ls:List (vK × Value))(K:List (Th × Nat))(e:yR)(h:IF No w rb xb eb mb pd hv bv base ls K e)(bR:∀ e'∈yD K (yP ls) e,∀ x∈zcv ls,zdu (xV e' x))(xh:vZ (zhl ls) e):
  SeqStopsK Fence.wide n Tryz.prog 233 #[.pointer (some ⟨rb,0,none⟩),.pointer (some ⟨xb,0,none⟩),.pointer (some ⟨eb,0,none⟩)] (λ x:nO K ls e=>#[zav x.1]) (qH No) (λ xs=>∀ x,x∈xs) (λ _=>True) (K.length ^ (yP ls).length) w:=by
 intro l J' SH W hW MW hJx' hY JW;have hI:=h.below hW;obtain⟨J,Ic⟩:∃ J:List yR->W8->Prop,J=λ pre V=>∃ Ba:List (nO K ls e),Ba.map (·.1)=pre/\J' Ba V:=⟨_,rfl⟩
 obtain⟨Jx,FN⟩:∃ Jx:List yR->W8->Prop,Jx=λ pre V=>∃ Ba:List (nO K ls e),Ba.map (·.1)=pre/\SH Ba V:=⟨_,rfl⟩
 have hJ:AbidesFrom W.heap.size J:=λ s A B row hs hg hr=>by
  rw[Ic] at hs ⊢;obtain⟨p',h1,h2⟩:=hs;exact⟨p',h1,MW p' A B row h2 hg hr⟩
 have h0:J [] W:=by rw[Ic];exact⟨[],rfl,JW⟩
 have hR:z0z No l (K.length ^ (yP ls).length) (λ x=>x∈zbe K (zcv ls) (yP ls) e) J Jx:=λ m pre x W1 hx h1 h2=>by
  rw[Ic] at h1;obtain⟨p',Gr,h1⟩:=h1;refine zth (YieldAt.mono (hY p' ⟨x,hx⟩ W1 h1 (by rw[<-Gr,List.length_map] at h2;exact h2)) ?_);rintro en W' (⟨rfl,h3,h4⟩ | ⟨rfl,h3⟩)
  ·exact⟨true,rfl,λ _=>⟨by rw[Ic];exact⟨p'++[⟨x,hx⟩],by simp[Gr],h3⟩,h4⟩,λ h=>by cases h⟩
  ·exact⟨false,rfl,(λ h=>by cases h),λ _=>by rw[FN];exact⟨p'++[⟨x,hx⟩],by simp[Gr],h3⟩⟩
 have V0:=zC Ic;have On:=zC FN;refine callsIn_wide.2 ?_;obtain⟨ab,cb,rfl⟩:=zD h.l.row;obtain⟨ah,nh,ch,rfl⟩:=h.h;obtain⟨c0,-⟩:=zB hI.r 0;obtain⟨c1,-⟩:=zB hI.r 1;obtain⟨c2,-⟩:=zB hI.r 2;obtain⟨d0,-⟩:=zB hI.x 0;have l3:=hI.l3;have nH:=(Array.getElem?_eq_some_iff.1 hI.r).1;have EK:=(Array.getElem?_eq_some_iff.1 hI.x).1;have HI:=zC hI;have HJ:=zC hJ;have HR:=zC hR;have Oj:=zC h0;have iN:=zC bR;have Ff:=zC xh;simp only[List.getElem?_toArray,List.getElem?_cons_zero,List.getElem?_cons_succ] at c0 c1 c2 d0;have HP:=zC (λ (V:W8) (hV:Below W.heap.size W V)=>zfo V base pd ah nh ch ab cb ls (hI.l.below hV) (by omega));have HN:=zC (λ (V:W8) (hV:Below W.heap.size W V)=>zr6 V base pd ah nh ch ab cb ls (hI.l.below hV) (by omega));have HA:=zC (λ (V:W8) (hV:Below W.heap.size W V)=>(show V.cell? ⟨rb,0,none⟩=some (.string pd)/\V.cell? ⟨rb,1,none⟩=some (.slice ah nh ch)/\V.cell? ⟨rb,2,none⟩=some (.slice ab ls.length cb)/\V.cell? ⟨xb,0,none⟩=some (.map (some mb)) from ⟨(hV.cell (p:=⟨rb,0,none⟩) nH).trans c0,(hV.cell (p:=⟨rb,1,none⟩) nH).trans c1,(hV.cell (p:=⟨rb,2,none⟩) nH).trans c2,(hV.cell (p:=⟨xb,0,none⟩) EK).trans d0⟩));clear h hI hR hJ MW hJx' hY h0 JW bR xh hW Ic FN;go_enter Tryz.func233,Tryz.ntmps233;go_upto_region 0 with fail
 go_cut [5] from 6 to 15 (λ p wc=>∃ sb pv nv,p=.pointer (some ⟨sb,0,none⟩)/\W.heap.size<=sb/\SV wc sb pv nv (.map (some mb)) (.func (.yield l) #[] #[])/\j1 No wc pv (vV false ls)/\j1 No wc nv (vV true ls)/\Below W.heap.size W wc)
 case first=>
  have QU:=zzl
  go_region_held3 (λ V=>V.cell? ⟨rb,0,none⟩=some (.string pd)/\V.cell? ⟨rb,1,none⟩=some (.slice ah nh ch)/\V.cell? ⟨rb,2,none⟩=some (.slice ab ls.length cb)/\V.cell? ⟨xb,0,none⟩=some (.map (some mb))) ((refine zA HA _ ?_;first | exact B9.drew | exact (B9.alloc L9 _).drew | exact dN | exact dN.alloc dN.size _ | exact lY | exact lY.alloc lY.size _ | exact xN lY L9 _ | exact xN lY dN.size _)) ((first
   | (go_at_call 164;refine (zA HP _ (by first | exact B9.drew | exact (B9.alloc L9 _).drew)).mono ?_;rintro en w4 ⟨a4,c4,rfl,il,bZ,sl⟩;have dN:Below W.heap.size W w4:=(by first | exact yA bZ | exact zf3 (B9.alloc L9 _) bZ);have B3:=zC il;clear il)
   | (go_at_call 223;refine (zA HN _ (by first | exact dN | exact dN.alloc dN.size _)).mono ?_;rintro en w5 ⟨a5,c5,rfl,Dk,dC,LQ⟩;have lY:Below W.heap.size W w5:=(by first | exact dN.trans (dC.mono dN.size) | exact (dN.alloc dN.size _).trans (dC.mono (by simp;have:=dN.size;omega)));have Hu:=zC Dk;clear Dk;first | (have QV:=(((SV.new W _ _ _ _).below (yA bZ)).below dC).put a4 a5 (ls.filter (vA false)).length (ls.filter (vA true)).length c4 c5 mb l) | (have QV:=((SV.new w4 _ _ _ _).below dC).put a4 a5 (ls.filter (vA false)).length (ls.filter (vA true)).length c4 c5 mb l) | skip)))
  all_goals
   go_wp2_with fail;go_meet
   case rel=>
    have Iw:=zA Hu
    first
     | (have Cg:=zJ (zA B3) dC (λ g e=>((zA B3).lt g e).2);have hR:=zu3 (zA HI) lY Cg Iw L9 dN.size w5.heap.size (λ g hg=>by have:=(Cg.lt g hg).2;omega) (λ g hg=>by have:=(Iw.lt g hg).2;omega);exact⟨_,_,_,rfl,lY.size,SV.new _ _ _ _ _,hR.p.below (B9.alloc L9 _),hR.n.below (B9.alloc L9 _),lY.alloc lY.size _⟩)
     | (have Cg:=zJ (zA B3) ((((Below.refl _ w4).alloc L9 _)).trans (dC.mono (by simp))) (λ g e=>((zA B3).lt g e).2);have hR:=zu3 (zA HI) lY Cg Iw L9 (by simp;have:=dN.size;omega) w4.heap.size (λ g hg=>by have:=((zA B3).lt g hg).2;omega) (λ g hg=>by have:=(Iw.lt g hg).1;simp at this;omega);obtain⟨q1,q2,q3⟩:=hR.set dN.size #[.slice a4 (ls.filter (vA false)).length c4,.slice a5 (ls.filter (vA true)).length c5,.map (some mb),.func (.yield l) #[] #[]];exact⟨_,_,_,rfl,dN.size,setRow_heap _ _ _ _ _ _ ((SV.new w4 _ _ _ _).below dC),q1,q2,q3⟩)
     | (have Cg:=zJ (zA B3) dC (λ g e=>((zA B3).lt g e).2);have hR:=zu3 (zA HI) lY Cg Iw (by simp) dN.size W.heap.size (λ g hg=>by have:=(Cg.lt g hg).1;simp at this;omega) (λ g hg=>by have:=(Iw.lt g hg).1;have:=dN.size;omega);obtain⟨q1,q2,q3⟩:=hR.set L9 #[.slice a4 (ls.filter (vA false)).length c4,.slice a5 (ls.filter (vA true)).length c5,.map (some mb),.func (.yield l) #[] #[]];exact⟨_,_,_,rfl,Nat.le_refl _,setRow_heap _ _ _ _ _ _ (((SV.new W _ _ _ _).below (yA bZ)).below dC),q1,q2,q3⟩)
 case rest=>
  obtain⟨sb,pv,nv,rfl,Lx,Nq,zk,Kh,eo⟩:=hcut;have dG:=(zA HI).below eo;have aX:=(zA HI).no;have hC:Hj No wc sb mb l (vV false ls) (vV true ls) pv nv K:=⟨Nq,λ hn=>by have:=aX _ hn;omega,zk,Kh,dG.m,dG.nm,by rw[Mj];exact Nat.le_trans (List.length_filter_le _ _) dG.l3⟩;have bt:(yP ls).length=(vV false ls).length:=by unfold yP;simp
  have HF:=zC (z65 No sb mb l (vV false ls) (vV true ls) pv nv K (λ x=>x∈zbe K (zcv ls) (yP ls) e) J Jx W.heap.size (K.length ^ (yP ls).length) (zA HJ) (zA HR) aX (zhl ls) (zmj (zA HI).l3 (zA HI).t4) (λ x hx t ht _=>zhm (List.mem_map_of_mem hx) ht) (vV false ls).length 0 e wc [] (Nat.zero_add _) hC (zap (zA HJ) (zA Oj) eo) eo.size (zA Ff) (λ e' ma x hx=>zA iN e' ma x.1 (List.mem_map_of_mem hx)) (by rw[bt];simp) (λ x hx=>hx));have Iq:=dG.b.load;clear dG hC Nq zk Kh;go_wp2_with (go_at_call 234;refine (zA HF).mono ?_;rintro en w6 (⟨rfl,h6⟩ | ⟨rfl,h6⟩) <;> (have H6:=zC h6;clear h6))
  ·go_end0;obtain⟨ys,h1,_,h3,_⟩:=zA H6;rw[List.nil_append,zA V0] at h3;obtain⟨NO,hy,h3⟩:=h3;refine⟨⟨_,rfl⟩,.inl ⟨NO,λ x=>?_,h3⟩⟩;have h4:x.1∈NO.map (·.1):=(by rw[hy];exact (h1 x.1).2 x.2);obtain⟨y,IA,Rc⟩:=List.mem_map.1 h4;rw[<-Subtype.ext Rc];exact IA
  ·go_end0;obtain⟨ys,h1,h3⟩:=zA H6;rw[List.nil_append,zA On] at h3;obtain⟨NO,hy,h3⟩:=h3;exact⟨⟨_,rfl⟩,.inr ⟨NO,trivial,h3⟩⟩
end
section
open Go.RowKit Go.Maps
attribute [local go_sem ↓] zcf zba zc1 j2
attribute [local go_sem] qS zbo
def zkt (No:Nat->Prop)(w:W8)(mb:Nat)(pd:B8)(hv bv:Value)(base:Nat)(ls:List (vK × Value))(K:List (Th × Nat))(e:yR)(en:Ending)(w':W8):Prop:=
 ∃ rb xb eb,en=.returned (.func (.func 233) #[] #[.pointer (some ⟨rb,0,none⟩),.pointer (some ⟨xb,0,none⟩),.pointer (some ⟨eb,0,none⟩)])/\Below w.heap.size w w'/\IF No w' rb xb eb mb pd hv bv base ls K e
structure EX (No:Nat->Prop)(w:W8)(mb:Nat)(hv bv:Value)(base:Nat)(ls:List (vK × Value))(K:List (Th × Nat)):Prop where
 l:iL w base bv ls
 m:qR w mb K
 nm:¬ No mb
 nt:∀ x∈ls,∀ g,x.2.ownBlock=some g->¬ No g
 no:∀ g,No g->g<w.heap.size
 l3:ls.length<=3
 t4:∀ x∈ls,x.1.ts.length<=4
 h:∃ a n c,hv=.slice a n c
theorem EX.below {No:Nat->Prop}{w w':W8}{mb:Nat}{hv bv:Value}{base:Nat}{ls:List (vK × Value)}{K:List (Th × Nat)}(h:EX No w mb hv bv base ls K)(k:Below w.heap.size w w'):EX No w' mb hv bv base ls K:=
 ⟨h.l.below k,h.m.block (k.block _ h.m.lt),h.nm,h.nt,λ g hg=>by have:=h.no g hg;have:=k.size;omega,h.l3,h.t4,h.h⟩
theorem zj1 (No:Nat->Prop)(w:W8)(mb:Nat)(pd:B8)(hv bv:Value)(base:Nat)(ls:List (vK × Value))(K:List (Th × Nat))(e:yR)(h:EX No w mb hv bv base ls K):
  Calls Tryz.prog 200 #[zav e,.agg #[.string pd,hv,bv],.map (some mb)] w (zkt No w mb pd hv bv base ls K e):=by
 obtain⟨ah,nh,ch,rfl⟩:=h.h;obtain⟨ab,cb,rfl⟩:=zD h.l.row;have H:=zC h;clear h;have Ho:=zC (BV.new w e);obtain⟨cs,ij⟩:∃ cs,cs=(yQ e).toArray:=⟨_,rfl⟩;unfold zav;rw[<-ij] at Ho ⊢;clear ij;go_enter Tryz.func200,Tryz.ntmps200;go_wp2_with fail;go_ret;have k0:Below w.heap.size w (((w.alloc (.cells cs 135)).alloc (.cells #[.string pd,.slice ah nh ch,.slice ab ls.length cb] 123)).alloc (.cells #[.map (some mb)] 82)):=
  (((Below.refl w.heap.size w).alloc L9 _).alloc (by simp) _).alloc (by simp only[World.size_alloc];omega) _
 have hA:=(zA H).below k0;refine⟨_,_,_,rfl,k0,⟨?_,?_,?_,hA.l,hA.m,hA.nm,hA.nt,hA.no,hA.l3,hA.t4,hA.h⟩⟩
 ·rw[Below.heap_alloc _ _ _ (by simp)];have:=heap_alloc_new (w.alloc (.cells cs 135)) (.cells #[.string pd,.slice ah nh ch,.slice ab ls.length cb] 123);rw[World.size_alloc] at this;exact this
 ·have:=heap_alloc_new ((w.alloc (.cells cs 135)).alloc (.cells #[.string pd,.slice ah nh ch,.slice ab ls.length cb] 123)) (.cells #[.map (some mb)] 82);rw[World.size_alloc,World.size_alloc] at this;exact this
 ·exact ((zA Ho).alloc _).alloc _
theorem z5x (No:Nat->Prop)(w:W8)(mb:Nat)(pd:B8)(hv bv:Value)(base:Nat)(ls:List (vK × Value))(K:List (Th × Nat))(h:EX No w mb hv bv base ls K):
  Calls Tryz.prog 145 #[.agg #[.string pd,hv,bv],.map (some mb)] w (zkt No w mb pd hv bv base ls K []):=by
 obtain⟨ah,nh,ch,rfl⟩:=h.h;obtain⟨ab,cb,rfl⟩:=zD h.l.row;have b1:=(Below.refl w.heap.size w).alloc L9 (.cells #[.string pd,.slice ah nh ch,.slice ab ls.length cb] 123);have HC:=zC (zj1 No _ mb pd _ _ base ls K [] (h.below b1));have fN:=zC b1;clear h b1;go_enter Tryz.func145,Tryz.ntmps145;go_wp2_with (go_at_call 200;refine (zA HC).mono ?_;rintro en w1 ⟨rb,xb,eb,rfl,hb,hw⟩;have HB:=zC hb;have HW:=zC hw;clear hb hw);go_ret;exact⟨_,_,_,rfl,(zA fN).trans ((zA HB).mono (by simp)),zA HW⟩
end
section
open Go.RowKit Go.Maps
theorem zut (r:PR):r.cells.length=3:=rfl
def gw (r:PR):jZ:=⟨r.R.pd,r.R.ts⟩
def ztm (rs:List PR)(K:List (Th × Nat))(t:Th):Prop:=yS K t=none/\∃ r∈rs,∃ e∈zbe K (zcv r.bs) (yP r.bs) [],xV e (gw r)=t
structure z9i (K:List (Th × Nat))(r:PR):Prop where
 l3:r.bs.length<=3
 t4:∀ x∈r.bs,x.1.ts.length<=4
 h4:r.R.ts.length<=4
 neg:∀ e∈yD K (yP r.bs) [],∀ x∈zcv r.bs,zdu (xV e x)
 hd:∀ e∈yD K (yP r.bs) [],zdu (xV e (gw r))
 len:∀ e∈yD K (yP r.bs) [],e.length<=12
structure E5 (rs:List PR)(K:List (Th × Nat))(done:List PR)(r:PR)(pre:List yR)(h:Nat)(L:List (Th × Nat)):Prop where
 hs:∀ p∈L,p.2=h
 nd:(L.map (·.1)).Nodup
 new:∀ p∈L,ztm rs K p.1
 all:∀ q∈done,∀ e∈zbe K (zcv q.bs) (yP q.bs) [],yS K (xV e (gw q))=none->(yS L (xV e (gw q))).isSome=true
 now:∀ e∈pre,yS K (xV e (gw r))=none->(yS L (xV e (gw r))).isSome=true
def z6d (w:W8)(rs:List PR)(K:List (Th × Nat))(h limit:Nat)(en:Ending)(w':W8):Prop:=
 Below w.heap.size w w'/\((∃ fb L,en=.returned (.tuple #[.map (some fb),.bool true])/\w.heap.size<=fb/\qR w' fb L/\(∀ p∈L,p.2=h)/\(∀ t,(yS L t).isSome=true↔ztm rs K t)/\K.length+L.length<=limit) \/
  (en=.returned (.tuple #[.map none,.bool false])/\∃ L:List Th,L.Nodup/\(∀ t∈L,ztm rs K t)/\limit<K.length+L.length))
structure rP (w:W8)(kb fb h limit:Nat)(K L:List (Th × Nat))(wr:W8):Prop where
 k4:wr.heap[w.heap.size]?=some (.cells #[.map (some kb)] 83 (0,0))
 h6:wr.heap[w.heap.size+1]?=some (.cells #[.int .i64 (h:Nat)] 3 (0,0))
 l7:wr.heap[w.heap.size+1+1]?=some (.cells #[.int .i64 (limit:Nat)] 3 (0,0))
 r8:wr.heap[w.heap.size+1+1+1]?=some (.cells #[.map none] 83 (0,0))
 o9:wr.heap[w.heap.size+1+1+1+1]?=some (.cells #[.bool false] 4 (0,0))
 f10:wr.heap[w.heap.size+1+1+1+1+1+1]?=some (.cells #[.map (some fb)] 83 (0,0))
 fe:fb=w.heap.size+1+1+1+1+1
 mK:qR wr kb K
 mF:qR wr fb L
 kl:kb<w.heap.size
 bw:Below w.heap.size w wr
variable {row:Option Nat} {wr w' w:W8} {K L:List (Th × Nat)} {kb fb h limit:Nat}
theorem rP.grown (x:rP w kb fb h limit K L wr)(hg:wr.grownBy w' row)(hr:∀ r,row=some r->w.heap.size+1+1+1+1+1+1<r):rP w kb fb h limit K L w':=by
 have bp:∀ i,i<=w.heap.size+1+1+1+1+1+1->w'.heap[i]?=wr.heap[i]?:=λ i hi=>hg.block i (by have:=(Array.getElem?_eq_some_iff.1 x.f10).1;omega) (λ e=>by have:=hr i e.symm;omega)
 have hk:=x.kl;have hf:=x.fe;exact⟨(bp _ (by omega)).trans x.k4,(bp _ (by omega)).trans x.h6,(bp _ (by omega)).trans x.l7,(bp _ (by omega)).trans x.r8,(bp _ (by omega)).trans x.o9,(bp _ (by omega)).trans x.f10,x.fe,x.mK.block (bp _ (by omega)),x.mF.block (bp _ (by omega)),x.kl,⟨hg.os.trans x.bw.os,hg.tape.trans x.bw.tape,hg.output.trans x.bw.output,Nat.le_trans x.bw.size hg.size,λ i hi=>(bp i (by omega)).trans (x.bw.block i hi)⟩⟩
theorem rP.below (x:rP w kb fb h limit K L wr)(k:Below wr.heap.size wr w'):rP w kb fb h limit K L w':=x.grown (row:=none) ⟨k.os,k.tape,k.output,k.size,λ i hi _=>k.block i hi⟩ (λ _ e=>by cases e)
theorem rP.start (w:W8)(kb h limit:Nat)(K:List (Th × Nat))(hm:qR w kb K):rP w kb (w.heap.size+1+1+1+1+1) h limit K [] (((((((w.alloc (.cells #[.map (some kb)] 83)).alloc (.cells #[.int .i64 (h:Nat)] 3)).alloc (.cells #[.int .i64 (limit:Nat)] 3)).alloc (.cells #[.map none] 83)).alloc (.cells #[.bool false] 4)).alloc (.map #[] 0)).alloc (.cells #[.map (some (w.heap.size+1+1+1+1+1))] 83)):=by
 have kk:Below w.heap.size w (((((((w.alloc (.cells #[.map (some kb)] 83)).alloc (.cells #[.int .i64 (h:Nat)] 3)).alloc (.cells #[.int .i64 (limit:Nat)] 3)).alloc (.cells #[.map none] 83)).alloc (.cells #[.bool false] 4)).alloc (.map #[] 0)).alloc (.cells #[.map (some (w.heap.size+1+1+1+1+1))] 83)):=
  (((((((Below.refl w.heap.size w).alloc L9 _).alloc (by simp) _).alloc (by simp only[World.size_alloc];omega) _).alloc (by simp only[World.size_alloc];omega) _).alloc (by simp only[World.size_alloc];omega) _).alloc (by simp only[World.size_alloc];omega) _).alloc (by simp only[World.size_alloc];omega) _
 refine⟨?_,?_,?_,?_,?_,?_,rfl,hm.block (kk.block _ hm.lt),?_,hm.lt,kk⟩
 ·rw[Below.heap_alloc _ _ _ (by simp only[World.size_alloc];omega),Below.heap_alloc _ _ _ (by simp only[World.size_alloc];omega),Below.heap_alloc _ _ _ (by simp only[World.size_alloc];omega),Below.heap_alloc _ _ _ (by simp only[World.size_alloc];omega),Below.heap_alloc _ _ _ (by simp only[World.size_alloc];omega),Below.heap_alloc _ _ _ (by simp)];exact heap_alloc_new w _
 ·rw[Below.heap_alloc _ _ _ (by simp only[World.size_alloc];omega),Below.heap_alloc _ _ _ (by simp only[World.size_alloc];omega),Below.heap_alloc _ _ _ (by simp only[World.size_alloc];omega),Below.heap_alloc _ _ _ (by simp only[World.size_alloc];omega),Below.heap_alloc _ _ _ (by simp)];have:=heap_alloc_new (w.alloc (.cells #[.map (some kb)] 83)) (.cells #[.int .i64 (h:Nat)] 3);simpa only[World.size_alloc] using this
 ·rw[Below.heap_alloc _ _ _ (by simp only[World.size_alloc];omega),Below.heap_alloc _ _ _ (by simp only[World.size_alloc];omega),Below.heap_alloc _ _ _ (by simp only[World.size_alloc];omega),Below.heap_alloc _ _ _ (by simp)];have:=heap_alloc_new ((w.alloc (.cells #[.map (some kb)] 83)).alloc (.cells #[.int .i64 (h:Nat)] 3)) (.cells #[.int .i64 (limit:Nat)] 3);simpa only[World.size_alloc] using this
 ·rw[Below.heap_alloc _ _ _ (by simp only[World.size_alloc];omega),Below.heap_alloc _ _ _ (by simp only[World.size_alloc];omega),Below.heap_alloc _ _ _ (by simp)];have:=heap_alloc_new (((w.alloc (.cells #[.map (some kb)] 83)).alloc (.cells #[.int .i64 (h:Nat)] 3)).alloc (.cells #[.int .i64 (limit:Nat)] 3)) (.cells #[.map none] 83);simpa only[World.size_alloc] using this
 ·rw[Below.heap_alloc _ _ _ (by simp only[World.size_alloc];omega),Below.heap_alloc _ _ _ (by simp)];have:=heap_alloc_new ((((w.alloc (.cells #[.map (some kb)] 83)).alloc (.cells #[.int .i64 (h:Nat)] 3)).alloc (.cells #[.int .i64 (limit:Nat)] 3)).alloc (.cells #[.map none] 83)) (.cells #[.bool false] 4);simpa only[World.size_alloc] using this
 ·have:=heap_alloc_new ((((((w.alloc (.cells #[.map (some kb)] 83)).alloc (.cells #[.int .i64 (h:Nat)] 3)).alloc (.cells #[.int .i64 (limit:Nat)] 3)).alloc (.cells #[.map none] 83)).alloc (.cells #[.bool false] 4)).alloc (.map #[] 0)) (.cells #[.map (some (w.heap.size+1+1+1+1+1))] 83);simpa only[World.size_alloc] using this
 ·have:=(qR.made (((((w.alloc (.cells #[.map (some kb)] 83)).alloc (.cells #[.int .i64 (h:Nat)] 3)).alloc (.cells #[.int .i64 (limit:Nat)] 3)).alloc (.cells #[.map none] 83)).alloc (.cells #[.bool false] 4))).alloc (.cells #[.map (some (w.heap.size+1+1+1+1+1))] 83);simpa only[World.size_alloc] using this
def z9n (ds:List Nat):List Deferred:=ds.map λ D=>{ target:=.collected D,args:=#[] }
structure IK (w:W8)(ds:List Nat)(wr:W8):Prop where
 nd:ds.Nodup
 at_:∀ D∈ds,w.heap.size+1+1+1+1+1+1<D/\wr.heap[D]?=some (.deferred (some []))
theorem zhe {No:Nat->Prop}(W:W8)(l:Nat)(o o':Obj)(h:W.heap[l]?=some o)(h1:o.isCells=false)(h2:o.isWalk=false):qH No W (W.putObj l o'):=by
 have hg:=grownBy_putObj' W l o';refine⟨hg.os,hg.tape,hg.output,hg.size,λ k ob hk _ hc=>?_⟩;rw[World.putObj_heap_other (λ e=>?_)]
 ·exact hk
 ·subst e;rw[h] at hk
  cases hk
  rcases hc with hc | hc
  ·rw[h1] at hc;cases hc
  ·rw[h2] at hc;cases hc
structure yep (ds:List Nat)(w w':W8):Prop where
 os:w'.os=w.os
 tape:w'.tape=w.tape
 output:w'.output=w.output
 size:w'.heap.size=w.heap.size
 block:∀ i,i∉ds->w'.heap[i]?=w.heap[i]?
theorem zbm {n:Nat}{P:Program}{fn:Func}{tmps:Array Value}{R:Ending->W8->Prop}:∀ (ds:List Nat) (w:W8),ds.Nodup->(∀ D∈ds,w.heap[D]?=some (.deferred (some [])))->(∀ w',yep ds w w'->LeavesIn Fence.wide n P fn tmps R [] .returning w')->LeavesInM Fence.wide n P fn tmps R (z9n ds) .returning w
 | [],w,_,_,h=>h w ⟨rfl,rfl,rfl,rfl,λ _ _=>rfl⟩
 | D::ds,w,hn,hD,h=>by
  obtain⟨h1,h2⟩:=List.nodup_cons.1 hn;refine⟨by simp,.inl ⟨D,_,rfl,run_takeDeferred (hD D List.mem_cons_self),?_⟩⟩;refine zbm ds _ h2 (λ E hE=>?_) (λ w' hs=>h w' ?_)
  ·rw[World.putObj_heap_other (λ e=>h1 (by rw[<-e];exact hE))];exact hD E (List.mem_cons_of_mem _ hE)
  ·have hg:=grownBy_putObj' w D (.deferred none);exact⟨hs.os.trans hg.os,hs.tape.trans hg.tape,hs.output.trans hg.output,hs.size.trans (by simp),λ i hi=>(hs.block i (λ hm=>hi (List.mem_cons_of_mem _ hm))).trans (World.putObj_heap_other (λ e=>hi (by rw[e];exact List.mem_cons_self)))⟩
theorem rP.oS {L2:List (Th × Nat)}(x:rP w kb fb h limit K L wr)(hg:wr.grownBy w' (some fb))(hm:qR w' fb L2):rP w kb fb h limit K L2 w':=by
 have hk:=x.kl;have hf:=x.fe;have bp:∀ i,i<=w.heap.size+1+1+1+1+1+1->i≠fb->w'.heap[i]?=wr.heap[i]?:=λ i hi bF=>hg.block i (by have:=(Array.getElem?_eq_some_iff.1 x.f10).1;omega) (λ e=>bF (by cases e;rfl))
 exact⟨(bp _ (by omega) (by omega)).trans x.k4,(bp _ (by omega) (by omega)).trans x.h6,(bp _ (by omega) (by omega)).trans x.l7,(bp _ (by omega) (by omega)).trans x.r8,(bp _ (by omega) (by omega)).trans x.o9,(bp _ (by omega) (by omega)).trans x.f10,x.fe,x.mK.block (bp _ (by omega) (by omega)),hm,x.kl,⟨hg.os.trans x.bw.os,hg.tape.trans x.bw.tape,hg.output.trans x.bw.output,Nat.le_trans x.bw.size hg.size,λ i hi=>(bp i (by omega) (by omega)).trans (x.bw.block i hi)⟩⟩
variable {b:Nat} {W:W8}
theorem zoo {j:Nat}{cs:Array Value}{t:TypeId}{fr:Nat × Nat}{v:Value}(h:W.heap[b]?=some (.cells cs t fr))(hv:cs[j]?=some v):(W.setCell ⟨b,j,none⟩ v)=W:=by
 rw[setCell_eq_setRow W b j cs t fr v h];have e:cs.setIfInBounds j v=cs:=by
  apply Array.ext_getElem?;intro i;rw[Array.getElem?_setIfInBounds]
  split
  ·rename_i e;subst e;have:=(Array.getElem?_eq_some_iff.1 hv).1;rw[if_pos this,hv]
  ·rfl
 rw[e];have aH:b<W.heap.size:=(Array.getElem?_eq_some_iff.1 h).1;have hb:W.heap[b]=.cells cs t fr:=(Array.getElem?_eq_some_iff.1 h).2;unfold World.setRow
 cases W with
 | mk heap tape drawn os output=>
  congr 1
  apply Array.ext
  ·simp
  ·intro k h1 h2;simp only[Array.getElem_modify]
   split
   ·rename_i hk;subst hk;simp at hb;simp[hb]
   ·rfl
variable {e:yR} {pre:List yR} {r:PR} {rs done:List PR}
theorem E5.old (x:E5 rs K done r pre h L)(ho:(yS K (xV e (gw r))).isSome=true):E5 rs K done r (pre++[e]) h L:=
 ⟨x.hs,x.nd,x.new,x.all,λ y hy hn=>by
  rcases List.mem_append.1 hy with hy | hy
  ·exact x.now y hy hn
  ·rw[List.mem_singleton.1 hy] at hn;rw[hn] at ho;cases ho⟩
theorem zrv (hd:(L.map (·.1)).Nodup){t s:Th}{n:Nat}(h:(yS L s).isSome=true):(yS (zjw L t n) s).isSome=true:=by
 obtain⟨m,hm⟩:=Option.isSome_iff_exists.1 h
 by_cases e:s=t
 ·subst e;rw[za5 (Ml hd) (RN L s n)];rfl
 ·rw[za5 (Ml hd) (zgv (jV hm) e)];rfl
theorem E5.put (x:E5 rs K done r pre h L)(hr:r∈rs)(he:e∈zbe K (zcv r.bs) (yP r.bs) [])(hn:yS K (xV e (gw r))=none):E5 rs K done r (pre++[e]) h (zjw L (xV e (gw r)) h):=by
 refine⟨λ p hp=>?_,Ml x.nd,λ p hp=>?_,λ q hq y hy hn'=>zrv x.nd (x.all q hq y hy hn'),λ y hy hn'=>?_⟩
 ·rcases zkn hp with rfl | ⟨hp,_⟩
  ·rfl
  ·exact x.hs p hp
 ·rcases zkn hp with rfl | ⟨hp,_⟩
  ·exact⟨hn,r,hr,e,he,rfl⟩
  ·exact x.new p hp
 ·rcases List.mem_append.1 hy with hy | hy
  ·exact zrv x.nd (x.now y hy hn')
  ·rw[List.mem_singleton.1 hy,za5 (Ml x.nd) (RN L _ h)];rfl
structure IN (w:W8)(kb h limit:Nat)(K:List (Th × Nat))(rs done:List PR)(r:PR)(JM:Nat)(ah ab:O8)(ch cb:Nat)(ds:List Nat)(pre:List yR)(L:List (Th × Nat))(W:W8):Prop where
 box:rP w kb (w.heap.size+1+1+1+1+1) h limit K L W
 new:E5 rs K done r pre h L
 len:K.length+L.length<=limit
 oQ:IK w ds W
 rl:W.heap[JM]?=some (.cells #[.string r.R.pd,.slice ah r.R.ts.length ch,.slice ab r.bs.length cb] 123 (0,0))
structure NP (w:W8)(kb h limit:Nat)(K:List (Th × Nat))(rs:List PR)(ds:List Nat)(L:List (Th × Nat))(W:W8):Prop where
 box:rP w kb (w.heap.size+1+1+1+1+1) h limit K L W
 nd:(L.map (·.1)).Nodup
 new:∀ p∈L,ztm rs K p.1
 len:limit<K.length+L.length
 oQ:IK w ds W
variable {W':W8}
theorem IK.grown {ds:List Nat}(h:IK w ds W)(hg:W.grownBy W' row)(hr:∀ r,row=some r->∀ D∈ds,D<r):IK w ds W':=
 ⟨h.nd,λ D hD=>⟨(h.at_ D hD).1,(hg.block D (Array.getElem?_eq_some_iff.1 (h.at_ D hD).2).1 (λ e=>by have:=hr D e.symm D hD;omega)).trans (h.at_ D hD).2⟩⟩
theorem IN.grown {w:W8}{kb h limit:Nat}{K:List (Th × Nat)}{rs done:List PR}{r:PR}{JM:Nat}{ah ab:O8}{ch cb:Nat}{ds:List Nat}{pre:List yR}{L:List (Th × Nat)}{W W':W8}(x:IN w kb h limit K rs done r JM ah ab ch cb ds pre L W){row:Option Nat}(hg:W.grownBy W' row){B:Nat}(hr:∀ i,row=some i->B<=i)(h1:w.heap.size+1+1+1+1+1+1<B)(h2:JM<B)(h3:∀ D∈ds,D<B):IN w kb h limit K rs done r JM ah ab ch cb ds pre L W':=
 ⟨x.box.grown hg (λ i e=>by have:=hr i e;omega),x.new,x.len,x.oQ.grown hg (λ i e D hD=>by have:=hr i e;have:=h3 D hD;omega),(hg.block _ (Array.getElem?_eq_some_iff.1 x.rl).1 (λ e=>by have:=hr _ e.symm;omega)).trans x.rl⟩
theorem NP.grown {w:W8}{kb h limit:Nat}{K:List (Th × Nat)}{rs:List PR}{ds:List Nat}{L:List (Th × Nat)}{W W':W8}(x:NP w kb h limit K rs ds L W){row:Option Nat}(hg:W.grownBy W' row){B:Nat}(hr:∀ i,row=some i->B<=i)(h1:w.heap.size+1+1+1+1+1+1<B)(h3:∀ D∈ds,D<B):NP w kb h limit K rs ds L W':=
 ⟨x.box.grown hg (λ i e=>by have:=hr i e;omega),x.nd,x.new,x.len,x.oQ.grown hg (λ i e D hD=>by have:=hr i e;have:=h3 D hD;omega)⟩
theorem BV.grown (h:BV W b e)(hg:W.grownBy W' row)(hr:∀ i,row=some i->∃ o:Obj,W.heap[i]?=some o/\o.isCells=false):BV W' b e:=
 (hg.block b h.lt (λ e1=>by obtain⟨o,ho,hc⟩:=hr b e1.symm;rw[show W.heap[b]?=_ from h] at ho;cases ho;cases hc)).trans h
end
end Go.Proofs.YtldkpahaocjdpaaGreat
