/-
  waysFrom's function, as an iterator: what comes of it, for every loop body that keeps what it reads.
-/
import Derived.Test.YtldkpahaocjdpaaGreatE32
set_option maxHeartbeats 16000000
set_option maxRecDepth 1000000
namespace Go.Proofs.YtldkpahaocjdpaaGreat
section
open Go.RowKit Go.Maps
attribute [local go_sem ↓] zcf zbb zct j8 z5z z2h
attribute [local go_sem] qR zbi zzh
variable {W:W8}
theorem zs1 {m m' l:Nat}{args:Array Value}{R:Ending->W8->Prop}(h:YieldAt Fence.wide m Tryz.prog l args W R):YieldAt Fence.wide m' Tryz.prog l args W R:=by
 obtain⟨fn,tmps,assign,body,hy,hF,hR⟩:=h;exact⟨fn,tmps,assign,body,hy,hF,λ c cs _=>hR c cs (room_wide _)⟩
structure IF (No:Nat->Prop)(w:W8)(rb xb eb mb:Nat)(pd:B8)(hv bv:Value)(base:Nat)(ls:List (vK × Value))(K:List (Th × Nat))(e:yR):Prop where
 r:w.heap[rb]?=some (.cells #[.string pd,hv,bv] 123 (0,0))
 x:w.heap[xb]?=some (.cells #[.map (some mb)] 82 (0,0))
 b:BV w eb e
 l:iK w base bv ls
 m:qU w mb K
 nm:¬ No mb
 nt:∀ x∈ls,∀ g,x.2.ownBlock=some g->¬ No g
 no:∀ g,No g->g<w.heap.size
 l3:ls.length<=3
 t4:∀ x∈ls,x.1.ts.length<=4
 h:∃ a n c,hv=.slice a n c
theorem IF.below {No:Nat->Prop}{w w':W8}{rb xb eb mb:Nat}{pd:B8}{hv bv:Value}{base:Nat}{ls:List (vK × Value)}{K:List (Th × Nat)}{e:yR}(h:IF No w rb xb eb mb pd hv bv base ls K e)(k:Below w.heap.size w w'):IF No w' rb xb eb mb pd hv bv base ls K e:=
 ⟨(k.block _ (Array.getElem?_eq_some_iff.1 h.r).1).trans h.r,(k.block _ (Array.getElem?_eq_some_iff.1 h.x).1).trans h.x,h.b.below k,h.l.below k,h.m.block (k.block _ h.m.lt),h.nm,h.nt,λ g hg=>by have:=h.no g hg;have:=k.size;omega,h.l3,h.t4,h.h⟩
theorem SV.new (w:W8)(pv nv mv fv:Value):SV (w.alloc (.cells #[pv,nv,mv,fv] 361)) w.heap.size pv nv mv fv:=heap_alloc_new w _
variable {pv nv:Value} {b:Nat} {w w':W8}
theorem SV.below {mv fv:Value}(h:SV w b pv nv mv fv)(k:Below w.heap.size w w'):SV w' b pv nv mv fv:=(k.block b (Array.getElem?_eq_some_iff.1 h).1).trans h
theorem SV.put {p0 n0 m0 f0:Value}(h:SV w b p0 n0 m0 f0)(a a':O8)(n n' c c' m l:Nat):(zra (.pointer (some ⟨b,0,none⟩)) (.agg #[.slice a n c,.slice a' n' c',.map (some m),.func (.yield l) #[] #[]])).run Tryz.prog w=.ok () (w.setRow b #[.slice a n c,.slice a' n' c',.map (some m),.func (.yield l) #[] #[]]):=h.store rfl rfl rfl rfl
theorem zyu (w:W8)(p0 n0 m0 f0:Value)(a a':O8)(n n' c c' m l:Nat):(zra (.pointer (some ⟨w.heap.size,0,none⟩)) (.agg #[.slice a n c,.slice a' n' c',.map (some m),.func (.yield l) #[] #[]])).run Tryz.prog (w.alloc (.cells #[p0,n0,m0,f0] 361))=.ok () (w.alloc (.cells #[.slice a n c,.slice a' n' c',.map (some m),.func (.yield l) #[] #[]] 361)):=by
 rw[(SV.new w p0 n0 m0 f0).put,World.setRow_alloc_new]
variable {sb:Nat} {As:List (jZ × Value)} {v:Value} {No:Nat->Prop}
theorem j2.setRow (h:j2 No w v As)(cs:Array Value)(h1:∀ g,v.ownBlock=some g->g≠sb)(h2:∀ x∈As,∀ g,x.2.ownBlock=some g->g≠sb):j2 No (w.setRow sb cs) v As:=
 ⟨let ⟨b,hb⟩:=h.row;⟨b,zZ hb (λ g hg=>setRow_other w sb g cs (h1 g hg))⟩,λ x hx=>let ⟨b,hb⟩:=h.ae x hx;⟨b,zZ hb (λ g hg=>setRow_other w sb g cs (h2 x hx g hg))⟩,h.ap,h.O2,h.eJ⟩
theorem j2.below (h:j2 No w v As)(k:Below w.heap.size w w'):j2 No w' v As:=h.kt (qH.ak k)
structure O0 (No:Nat->Prop)(W:W8)(ls:List (vK × Value))(sb:Nat)(pv nv:Value)(V:W8):Prop where
 p:j2 No V pv (vW false ls)
 n:j2 No V nv (vW true ls)
 pb:∀ g,pv.ownBlock=some g->g≠sb
 nb:∀ g,nv.ownBlock=some g->g≠sb
 tb:∀ x∈ls,∀ g,x.2.ownBlock=some g->g<W.heap.size
 k:Below W.heap.size W V
variable {ls:List (vK × Value)}
theorem zi3 {b:Bool}{x:jZ × Value}(hx:x∈vW b ls):∃ y∈ls,x=zk9 y:=by
 obtain⟨y,hy,rfl⟩:=List.mem_map.1 hx;exact⟨y,(List.mem_filter.1 hy).1,rfl⟩
theorem O0.set {V:W8}(h:O0 No W ls sb pv nv V)(hs:W.heap.size<=sb)(cs:Array Value):j2 No (V.setRow sb cs) pv (vW false ls)/\j2 No (V.setRow sb cs) nv (vW true ls)/\Below W.heap.size W (V.setRow sb cs):=
 ⟨h.p.setRow cs h.pb (λ x hx g hg=>by obtain⟨y,hy,rfl⟩:=zi3 hx;have:=h.tb y hy g hg;omega),h.n.setRow cs h.nb (λ x hx g hg=>by obtain⟨y,hy,rfl⟩:=zi3 hx;have:=h.tb y hy g hg;omega),xN h.k hs cs⟩
theorem zuc {w5:W8}{rb xb eb mb:Nat}{pd:B8}{hv bv:Value}{base:Nat}{K:List (Th × Nat)}{e:yR}(h:IF No W rb xb eb mb pd hv bv base ls K e)(hB:Below W.heap.size W w5){V4 V5:Nat}(hp:w5.ownsRow (V4+1) 79 2 pv (ls.filter (vA false)).length ((ls.filter (vA false)).flatMap vQ))(hn:w5.ownsRow (V5+1) 79 2 nv (ls.filter (vA true)).length ((ls.filter (vA true)).flatMap vQ))(h4:W.heap.size<=V4)(h5:W.heap.size<=V5)(sb:Nat)(pb:∀ g,pv.ownBlock=some g->g≠sb)(nb:∀ g,nv.ownBlock=some g->g≠sb):O0 No W ls sb pv nv w5:=
 ⟨zqc h.l hB hp (λ g hg=>by have:=h.no g hg;omega) h.nt h.t4,zqc h.l hB hn (λ g hg=>by have:=h.no g hg;omega) h.nt h.t4,pb,nb,λ x hx g hg=>((h.l.each x hx).lt g hg).2,hB⟩
def yP (ls:List (vK × Value)):List jZ:=(vW false ls).map (·.1)
def zco (ls:List (vK × Value)):List jZ:=(vW true ls).map (·.1)
abbrev nO (K:List (Th × Nat))(ls:List (vK × Value))(e:yR):={ x:yR // x∈zbg K (zco ls) (yP ls) e }
def zg9 (ls:List (vK × Value)):List B8:=(yP ls).flatMap λ x=>x.ts.map (·.2)
theorem zg3 {x:jZ}(hx:x∈yP ls){t:zd8}(ht:t∈x.ts):t.2∈zg9 ls:=List.mem_flatMap.2 ⟨x,hx,List.mem_map_of_mem ht⟩
theorem zlx {α β:Type}{f:α->List β}{n:Nat}:∀ (l:List α),(∀ x∈l,(f x).length<=n)->(l.flatMap f).length<=n*l.length
 | [],_=>by simp
 | x::l,h=>by
  have h1:=h x List.mem_cons_self;have h2:=zlx l (λ y hy=>h y (List.mem_cons_of_mem _ hy));rw[List.flatMap_cons,List.length_append,List.length_cons,Nat.mul_succ];omega
theorem zlu (h3:ls.length<=3)(h4:∀ x∈ls,x.1.ts.length<=4):(zg9 ls).length<=12:=by
 have h1:=zlx (n:=4) (f:=λ x:jZ=>x.ts.map (·.2)) (yP ls) (λ x hx=>by
  obtain⟨y,hy,rfl⟩:=List.mem_map.1 hx;obtain⟨z,hz,rfl⟩:=zi3 hy;rw[List.length_map]
  exact h4 z hz)
 have h2:(yP ls).length<=3:=by unfold yP;rw[List.length_map,Js];exact Nat.le_trans (List.length_filter_le _ _) h3
 unfold zg9;omega
theorem zmt (No:Nat->Prop)(n:Nat)(w:W8)(rb xb eb mb:Nat)(pd:B8)(hv bv:Value)(base:Nat)(ls:List (vK × Value))(K:List (Th × Nat))(e:yR)(h:IF No w rb xb eb mb pd hv bv base ls K e)(bQ:∀ e'∈yD K (yP ls) e,∀ x∈zco ls,zdu (xV e' x))(wS:vZ (zg9 ls) e):
  SeqStopsK Fence.wide n Tryz.prog 233 #[.pointer (some ⟨rb,0,none⟩),.pointer (some ⟨xb,0,none⟩),.pointer (some ⟨eb,0,none⟩)] (λ x:nO K ls e=>#[zau x.1]) (qH No) (λ xs=>∀ x,x∈xs) (λ _=>True) (K.length ^ (yP ls).length) w:=by
 intro l J' Vc W hW MJ hJx' hY Mm;have hI:=h.below hW;obtain⟨J,Iq⟩:∃ J:List yR->W8->Prop,J=λ pre V=>∃ yj:List (nO K ls e),yj.map (·.1)=pre/\J' yj V:=⟨_,rfl⟩
 obtain⟨Jx,GQ⟩:∃ Jx:List yR->W8->Prop,Jx=λ pre V=>∃ yj:List (nO K ls e),yj.map (·.1)=pre/\Vc yj V:=⟨_,rfl⟩
 have hJ:AbidesFrom W.heap.size J:=λ s A B row hs hg hr=>by
  rw[Iq] at hs ⊢;obtain⟨p',h1,h2⟩:=hs;exact⟨p',h1,MJ p' A B row h2 hg hr⟩
 have h0:J [] W:=by rw[Iq];exact⟨[],rfl,Mm⟩
 have hR:z0f No l (K.length ^ (yP ls).length) (λ x=>x∈zbg K (zco ls) (yP ls) e) J Jx:=λ m pre x W1 hx h1 h2=>by
  rw[Iq] at h1;obtain⟨p',Gb,h1⟩:=h1;refine zs1 (YieldAt.mono (hY p' ⟨x,hx⟩ W1 h1 (by rw[<-Gb,List.length_map] at h2;exact h2)) ?_);rintro en W' (⟨rfl,h3,h4⟩ | ⟨rfl,h3⟩)
  ·exact⟨true,rfl,λ _=>⟨by rw[Iq];exact⟨p'++[⟨x,hx⟩],by simp[Gb],h3⟩,h4⟩,λ h=>by cases h⟩
  ·exact⟨false,rfl,(λ h=>by cases h),λ _=>by rw[GQ];exact⟨p'++[⟨x,hx⟩],by simp[Gb],h3⟩⟩
 have X9:=zC Iq;have Pd:=zC GQ;refine callsIn_wide.2 ?_;obtain⟨ab,cb,rfl⟩:=zD h.l.row;obtain⟨ah,nh,ch,rfl⟩:=h.h;obtain⟨c0,-⟩:=zB hI.r 0;obtain⟨c1,-⟩:=zB hI.r 1;obtain⟨c2,-⟩:=zB hI.r 2;obtain⟨d0,-⟩:=zB hI.x 0;have l3:=hI.l3;have nM:=(Array.getElem?_eq_some_iff.1 hI.r).1;have EC:=(Array.getElem?_eq_some_iff.1 hI.x).1;have HI:=zC hI;have HJ:=zC hJ;have HR:=zC hR;have Om:=zC h0;have iX:=zC bQ;have Hj:=zC wS;simp only[List.getElem?_toArray,List.getElem?_cons_zero,List.getElem?_cons_succ] at c0 c1 c2 d0;have HP:=zC (λ (V:W8) (hV:Below W.heap.size W V)=>zff V base pd ah nh ch ab cb ls (hI.l.below hV) (by omega));have HN:=zC (λ (V:W8) (hV:Below W.heap.size W V)=>zsb V base pd ah nh ch ab cb ls (hI.l.below hV) (by omega));have HA:=zC (λ (V:W8) (hV:Below W.heap.size W V)=>(show V.cell? ⟨rb,0,none⟩=some (.string pd)/\V.cell? ⟨rb,1,none⟩=some (.slice ah nh ch)/\V.cell? ⟨rb,2,none⟩=some (.slice ab ls.length cb)/\V.cell? ⟨xb,0,none⟩=some (.map (some mb)) from ⟨(hV.cell (p:=⟨rb,0,none⟩) nM).trans c0,(hV.cell (p:=⟨rb,1,none⟩) nM).trans c1,(hV.cell (p:=⟨rb,2,none⟩) nM).trans c2,(hV.cell (p:=⟨xb,0,none⟩) EC).trans d0⟩));clear h hI hR hJ MJ hJx' hY h0 Mm bQ wS hW Iq GQ;go_enter Tryz.func233,Tryz.ntmps233;go_upto_region 0 with fail
 go_cut [5] from 6 to 15 (λ p wc=>∃ sb pv nv,p=.pointer (some ⟨sb,0,none⟩)/\W.heap.size<=sb/\SV wc sb pv nv (.map (some mb)) (.func (.yield l) #[] #[])/\j2 No wc pv (vW false ls)/\j2 No wc nv (vW true ls)/\Below W.heap.size W wc)
 case first=>
  have RU:=zyu
  go_region_held3 (λ V=>V.cell? ⟨rb,0,none⟩=some (.string pd)/\V.cell? ⟨rb,1,none⟩=some (.slice ah nh ch)/\V.cell? ⟨rb,2,none⟩=some (.slice ab ls.length cb)/\V.cell? ⟨xb,0,none⟩=some (.map (some mb))) ((refine zA HA _ ?_;first | exact B9.drew | exact (B9.alloc L9 _).drew | exact dP | exact dP.alloc dP.size _ | exact mf | exact mf.alloc mf.size _ | exact xN mf L9 _ | exact xN mf dP.size _)) ((first
   | (go_at_call 164;refine (zA HP _ (by first | exact B9.drew | exact (B9.alloc L9 _).drew)).mono ?_;rintro en w4 ⟨a4,c4,rfl,ik,bZ,sj⟩;have dP:Below W.heap.size W w4:=(by first | exact yA bZ | exact zfx (B9.alloc L9 _) bZ);have Cd:=zC ik;clear ik)
   | (go_at_call 223;refine (zA HN _ (by first | exact dP | exact dP.alloc dP.size _)).mono ?_;rintro en w5 ⟨a5,c5,rfl,Di,dB,I3⟩;have mf:Below W.heap.size W w5:=(by first | exact dP.trans (dB.mono dP.size) | exact (dP.alloc dP.size _).trans (dB.mono (by simp;have:=dP.size;omega)));have Iv:=zC Di;clear Di;first | (have Ow:=(((SV.new W _ _ _ _).below (yA bZ)).below dB).put a4 a5 (ls.filter (vA false)).length (ls.filter (vA true)).length c4 c5 mb l) | (have Ow:=((SV.new w4 _ _ _ _).below dB).put a4 a5 (ls.filter (vA false)).length (ls.filter (vA true)).length c4 c5 mb l) | skip)))
  all_goals
   go_wp2_with fail;go_meet
   case rel=>
    have Ib:=zA Iv
    first
     | (have Cf:=zJ (zA Cd) dB (λ g e=>((zA Cd).lt g e).2);have hR:=zuc (zA HI) mf Cf Ib L9 dP.size w5.heap.size (λ g hg=>by have:=(Cf.lt g hg).2;omega) (λ g hg=>by have:=(Ib.lt g hg).2;omega);exact⟨_,_,_,rfl,mf.size,SV.new _ _ _ _ _,hR.p.below (B9.alloc L9 _),hR.n.below (B9.alloc L9 _),mf.alloc mf.size _⟩)
     | (have Cf:=zJ (zA Cd) ((((Below.refl _ w4).alloc L9 _)).trans (dB.mono (by simp))) (λ g e=>((zA Cd).lt g e).2);have hR:=zuc (zA HI) mf Cf Ib L9 (by simp;have:=dP.size;omega) w4.heap.size (λ g hg=>by have:=((zA Cd).lt g hg).2;omega) (λ g hg=>by have:=(Ib.lt g hg).1;simp at this;omega);obtain⟨q1,q2,q3⟩:=hR.set dP.size #[.slice a4 (ls.filter (vA false)).length c4,.slice a5 (ls.filter (vA true)).length c5,.map (some mb),.func (.yield l) #[] #[]];exact⟨_,_,_,rfl,dP.size,setRow_heap _ _ _ _ _ _ ((SV.new w4 _ _ _ _).below dB),q1,q2,q3⟩)
     | (have Cf:=zJ (zA Cd) dB (λ g e=>((zA Cd).lt g e).2);have hR:=zuc (zA HI) mf Cf Ib (by simp) dP.size W.heap.size (λ g hg=>by have:=(Cf.lt g hg).1;simp at this;omega) (λ g hg=>by have:=(Ib.lt g hg).1;have:=dP.size;omega);obtain⟨q1,q2,q3⟩:=hR.set L9 #[.slice a4 (ls.filter (vA false)).length c4,.slice a5 (ls.filter (vA true)).length c5,.map (some mb),.func (.yield l) #[] #[]];exact⟨_,_,_,rfl,Nat.le_refl _,setRow_heap _ _ _ _ _ _ (((SV.new W _ _ _ _).below (yA bZ)).below dB),q1,q2,q3⟩)
 case rest=>
  obtain⟨sb,pv,nv,rfl,Mn,NZ,Ah,Kd,eo⟩:=hcut;have dI:=(zA HI).below eo;have aW:=(zA HI).no;have hC:Fu No wc sb mb l (vW false ls) (vW true ls) pv nv K:=⟨NZ,λ hn=>by have:=aW _ hn;omega,Ah,Kd,dI.m,dI.nm,by rw[Js];exact Nat.le_trans (List.length_filter_le _ _) dI.l3⟩;have bt:(yP ls).length=(vW false ls).length:=by unfold yP;simp
  have HF:=zC (z6x No sb mb l (vW false ls) (vW true ls) pv nv K (λ x=>x∈zbg K (zco ls) (yP ls) e) J Jx W.heap.size (K.length ^ (yP ls).length) (zA HJ) (zA HR) aW (zg9 ls) (zlu (zA HI).l3 (zA HI).t4) (λ x hx t ht _=>zg3 (List.mem_map_of_mem hx) ht) (vW false ls).length 0 e wc [] (Nat.zero_add _) hC (zaq (zA HJ) (zA Om) eo) eo.size (zA Hj) (λ e' lW x hx=>zA iX e' lW x.1 (List.mem_map_of_mem hx)) (by rw[bt];simp) (λ x hx=>hx));have IA:=dI.b.load;clear dI hC NZ Ah Kd;go_wp2_with (go_at_call 234;refine (zA HF).mono ?_;rintro en w6 (⟨rfl,h6⟩ | ⟨rfl,h6⟩) <;> (have H6:=zC h6;clear h6))
  ·go_end0;obtain⟨ys,h1,_,h3,_⟩:=zA H6;rw[List.nil_append,zA X9] at h3;obtain⟨NT,hy,h3⟩:=h3;refine⟨⟨_,rfl⟩,.inl ⟨NT,λ x=>?_,h3⟩⟩;have h4:x.1∈NT.map (·.1):=(by rw[hy];exact (h1 x.1).2 x.2);obtain⟨y,Ij,RD⟩:=List.mem_map.1 h4;rw[<-Subtype.ext RD];exact Ij
  ·go_end0;obtain⟨ys,h1,h3⟩:=zA H6;rw[List.nil_append,zA Pd] at h3;obtain⟨NT,hy,h3⟩:=h3;exact⟨⟨_,rfl⟩,.inr ⟨NT,trivial,h3⟩⟩
end
section
open Go.RowKit Go.Maps
attribute [local go_sem ↓] zcf zbb zct j8
attribute [local go_sem] qR zbi
def zmf (No:Nat->Prop)(w:W8)(mb:Nat)(pd:B8)(hv bv:Value)(base:Nat)(ls:List (vK × Value))(K:List (Th × Nat))(e:yR)(en:Ending)(w':W8):Prop:=
 ∃ rb xb eb,en=.returned (.func (.func 233) #[] #[.pointer (some ⟨rb,0,none⟩),.pointer (some ⟨xb,0,none⟩),.pointer (some ⟨eb,0,none⟩)])/\Below w.heap.size w w'/\IF No w' rb xb eb mb pd hv bv base ls K e
structure z91 (No:Nat->Prop)(w:W8)(mb:Nat)(hv bv:Value)(base:Nat)(ls:List (vK × Value))(K:List (Th × Nat)):Prop where
 l:iK w base bv ls
 m:qU w mb K
 nm:¬ No mb
 nt:∀ x∈ls,∀ g,x.2.ownBlock=some g->¬ No g
 no:∀ g,No g->g<w.heap.size
 l3:ls.length<=3
 t4:∀ x∈ls,x.1.ts.length<=4
 h:∃ a n c,hv=.slice a n c
theorem z91.below {No:Nat->Prop}{w w':W8}{mb:Nat}{hv bv:Value}{base:Nat}{ls:List (vK × Value)}{K:List (Th × Nat)}(h:z91 No w mb hv bv base ls K)(k:Below w.heap.size w w'):z91 No w' mb hv bv base ls K:=
 ⟨h.l.below k,h.m.block (k.block _ h.m.lt),h.nm,h.nt,λ g hg=>by have:=h.no g hg;have:=k.size;omega,h.l3,h.t4,h.h⟩
theorem zjq (No:Nat->Prop)(w:W8)(mb:Nat)(pd:B8)(hv bv:Value)(base:Nat)(ls:List (vK × Value))(K:List (Th × Nat))(e:yR)(h:z91 No w mb hv bv base ls K):
  Calls Tryz.prog 200 #[zau e,.agg #[.string pd,hv,bv],.map (some mb)] w (zmf No w mb pd hv bv base ls K e):=by
 obtain⟨ah,nh,ch,rfl⟩:=h.h;obtain⟨ab,cb,rfl⟩:=zD h.l.row;have H:=zC h;clear h;have IH:=zC (BV.new w e);obtain⟨cs,iq⟩:∃ cs,cs=(yQ e).toArray:=⟨_,rfl⟩;unfold zau;rw[<-iq] at IH ⊢;clear iq;go_enter Tryz.func200,Tryz.ntmps200;go_wp2_with fail;go_ret;have k0:Below w.heap.size w (((w.alloc (.cells cs 135)).alloc (.cells #[.string pd,.slice ah nh ch,.slice ab ls.length cb] 123)).alloc (.cells #[.map (some mb)] 82)):=
  (((Below.refl w.heap.size w).alloc L9 _).alloc (by simp) _).alloc (by simp only[World.size_alloc];omega) _
 have hA:=(zA H).below k0;refine⟨_,_,_,rfl,k0,⟨?_,?_,?_,hA.l,hA.m,hA.nm,hA.nt,hA.no,hA.l3,hA.t4,hA.h⟩⟩
 ·rw[Below.heap_alloc _ _ _ (by simp)];have:=heap_alloc_new (w.alloc (.cells cs 135)) (.cells #[.string pd,.slice ah nh ch,.slice ab ls.length cb] 123);rw[World.size_alloc] at this;exact this
 ·have:=heap_alloc_new ((w.alloc (.cells cs 135)).alloc (.cells #[.string pd,.slice ah nh ch,.slice ab ls.length cb] 123)) (.cells #[.map (some mb)] 82);rw[World.size_alloc,World.size_alloc] at this;exact this
 ·exact ((zA IH).alloc _).alloc _
theorem z0l (No:Nat->Prop)(w:W8)(mb:Nat)(pd:B8)(hv bv:Value)(base:Nat)(ls:List (vK × Value))(K:List (Th × Nat))(h:z91 No w mb hv bv base ls K):
  Calls Tryz.prog 145 #[.agg #[.string pd,hv,bv],.map (some mb)] w (zmf No w mb pd hv bv base ls K []):=by
 obtain⟨ah,nh,ch,rfl⟩:=h.h;obtain⟨ab,cb,rfl⟩:=zD h.l.row;have b1:=(Below.refl w.heap.size w).alloc L9 (.cells #[.string pd,.slice ah nh ch,.slice ab ls.length cb] 123);have HC:=zC (zjq No _ mb pd _ _ base ls K [] (h.below b1));have gh:=zC b1;clear h b1;go_enter Tryz.func145,Tryz.ntmps145;go_wp2_with (go_at_call 200;refine (zA HC).mono ?_;rintro en w1 ⟨rb,xb,eb,rfl,hb,hw⟩;have HB:=zC hb;have HW:=zC hw;clear hb hw);go_ret;exact⟨_,_,_,rfl,(zA gh).trans ((zA HB).mono (by simp)),zA HW⟩
end
section
open Go.RowKit Go.Maps
theorem zu6 (r:PR):r.cells.length=3:=rfl
def fU (r:PR):jZ:=⟨r.R.pd,r.R.ts⟩
def zu3 (rs:List PR)(K:List (Th × Nat))(t:Th):Prop:=yS K t=none/\∃ r∈rs,∃ e∈zbg K (zco r.bs) (yP r.bs) [],xV e (fU r)=t
structure z9c (K:List (Th × Nat))(r:PR):Prop where
 l3:r.bs.length<=3
 t4:∀ x∈r.bs,x.1.ts.length<=4
 h4:r.R.ts.length<=4
 neg:∀ e∈yD K (yP r.bs) [],∀ x∈zco r.bs,zdu (xV e x)
 hd:∀ e∈yD K (yP r.bs) [],zdu (xV e (fU r))
 len:∀ e∈yD K (yP r.bs) [],e.length<=12
structure E0 (rs:List PR)(K:List (Th × Nat))(done:List PR)(r:PR)(pre:List yR)(h:Nat)(L:List (Th × Nat)):Prop where
 hs:∀ p∈L,p.2=h
 nd:(L.map (·.1)).Nodup
 new:∀ p∈L,zu3 rs K p.1
 all:∀ q∈done,∀ e∈zbg K (zco q.bs) (yP q.bs) [],yS K (xV e (fU q))=none->(yS L (xV e (fU q))).isSome=true
 now:∀ e∈pre,yS K (xV e (fU r))=none->(yS L (xV e (fU r))).isSome=true
def z8q (w:W8)(rs:List PR)(K:List (Th × Nat))(h limit:Nat)(en:Ending)(w':W8):Prop:=
 Below w.heap.size w w'/\((∃ fb L,en=.returned (.tuple #[.map (some fb),.bool true])/\w.heap.size<=fb/\qU w' fb L/\(∀ p∈L,p.2=h)/\(∀ t,(yS L t).isSome=true↔zu3 rs K t)/\K.length+L.length<=limit) \/
  (en=.returned (.tuple #[.map none,.bool false])/\∃ L:List Th,L.Nodup/\(∀ t∈L,zu3 rs K t)/\limit<K.length+L.length))
structure pS (w:W8)(kb fb h limit:Nat)(K L:List (Th × Nat))(wr:W8):Prop where
 k4:wr.heap[w.heap.size]?=some (.cells #[.map (some kb)] 83 (0,0))
 h6:wr.heap[w.heap.size+1]?=some (.cells #[.int .i64 (h:Nat)] 3 (0,0))
 l7:wr.heap[w.heap.size+1+1]?=some (.cells #[.int .i64 (limit:Nat)] 3 (0,0))
 r8:wr.heap[w.heap.size+1+1+1]?=some (.cells #[.map none] 83 (0,0))
 o9:wr.heap[w.heap.size+1+1+1+1]?=some (.cells #[.bool false] 4 (0,0))
 f10:wr.heap[w.heap.size+1+1+1+1+1+1]?=some (.cells #[.map (some fb)] 83 (0,0))
 fe:fb=w.heap.size+1+1+1+1+1
 mK:qU wr kb K
 mF:qU wr fb L
 kl:kb<w.heap.size
 bw:Below w.heap.size w wr
variable {row:Option Nat} {wr w' w:W8} {K L:List (Th × Nat)} {kb fb h limit:Nat}
theorem pS.grown (x:pS w kb fb h limit K L wr)(hg:wr.grownBy w' row)(hr:∀ r,row=some r->w.heap.size+1+1+1+1+1+1<r):pS w kb fb h limit K L w':=by
 have bq:∀ i,i<=w.heap.size+1+1+1+1+1+1->w'.heap[i]?=wr.heap[i]?:=λ i hi=>hg.block i (by have:=(Array.getElem?_eq_some_iff.1 x.f10).1;omega) (λ e=>by have:=hr i e.symm;omega)
 have hk:=x.kl;have hf:=x.fe;exact⟨(bq _ (by omega)).trans x.k4,(bq _ (by omega)).trans x.h6,(bq _ (by omega)).trans x.l7,(bq _ (by omega)).trans x.r8,(bq _ (by omega)).trans x.o9,(bq _ (by omega)).trans x.f10,x.fe,x.mK.block (bq _ (by omega)),x.mF.block (bq _ (by omega)),x.kl,⟨hg.os.trans x.bw.os,hg.tape.trans x.bw.tape,hg.output.trans x.bw.output,Nat.le_trans x.bw.size hg.size,λ i hi=>(bq i (by omega)).trans (x.bw.block i hi)⟩⟩
theorem pS.below (x:pS w kb fb h limit K L wr)(k:Below wr.heap.size wr w'):pS w kb fb h limit K L w':=x.grown (row:=none) ⟨k.os,k.tape,k.output,k.size,λ i hi _=>k.block i hi⟩ (λ _ e=>by cases e)
theorem pS.start (w:W8)(kb h limit:Nat)(K:List (Th × Nat))(hm:qU w kb K):pS w kb (w.heap.size+1+1+1+1+1) h limit K [] (((((((w.alloc (.cells #[.map (some kb)] 83)).alloc (.cells #[.int .i64 (h:Nat)] 3)).alloc (.cells #[.int .i64 (limit:Nat)] 3)).alloc (.cells #[.map none] 83)).alloc (.cells #[.bool false] 4)).alloc (.map #[] 0)).alloc (.cells #[.map (some (w.heap.size+1+1+1+1+1))] 83)):=by
 have kk:Below w.heap.size w (((((((w.alloc (.cells #[.map (some kb)] 83)).alloc (.cells #[.int .i64 (h:Nat)] 3)).alloc (.cells #[.int .i64 (limit:Nat)] 3)).alloc (.cells #[.map none] 83)).alloc (.cells #[.bool false] 4)).alloc (.map #[] 0)).alloc (.cells #[.map (some (w.heap.size+1+1+1+1+1))] 83)):=
  (((((((Below.refl w.heap.size w).alloc L9 _).alloc (by simp) _).alloc (by simp only[World.size_alloc];omega) _).alloc (by simp only[World.size_alloc];omega) _).alloc (by simp only[World.size_alloc];omega) _).alloc (by simp only[World.size_alloc];omega) _).alloc (by simp only[World.size_alloc];omega) _
 refine⟨?_,?_,?_,?_,?_,?_,rfl,hm.block (kk.block _ hm.lt),?_,hm.lt,kk⟩
 ·rw[Below.heap_alloc _ _ _ (by simp only[World.size_alloc];omega),Below.heap_alloc _ _ _ (by simp only[World.size_alloc];omega),Below.heap_alloc _ _ _ (by simp only[World.size_alloc];omega),Below.heap_alloc _ _ _ (by simp only[World.size_alloc];omega),Below.heap_alloc _ _ _ (by simp only[World.size_alloc];omega),Below.heap_alloc _ _ _ (by simp)];exact heap_alloc_new w _
 ·rw[Below.heap_alloc _ _ _ (by simp only[World.size_alloc];omega),Below.heap_alloc _ _ _ (by simp only[World.size_alloc];omega),Below.heap_alloc _ _ _ (by simp only[World.size_alloc];omega),Below.heap_alloc _ _ _ (by simp only[World.size_alloc];omega),Below.heap_alloc _ _ _ (by simp)];have:=heap_alloc_new (w.alloc (.cells #[.map (some kb)] 83)) (.cells #[.int .i64 (h:Nat)] 3);simpa only[World.size_alloc] using this
 ·rw[Below.heap_alloc _ _ _ (by simp only[World.size_alloc];omega),Below.heap_alloc _ _ _ (by simp only[World.size_alloc];omega),Below.heap_alloc _ _ _ (by simp only[World.size_alloc];omega),Below.heap_alloc _ _ _ (by simp)];have:=heap_alloc_new ((w.alloc (.cells #[.map (some kb)] 83)).alloc (.cells #[.int .i64 (h:Nat)] 3)) (.cells #[.int .i64 (limit:Nat)] 3);simpa only[World.size_alloc] using this
 ·rw[Below.heap_alloc _ _ _ (by simp only[World.size_alloc];omega),Below.heap_alloc _ _ _ (by simp only[World.size_alloc];omega),Below.heap_alloc _ _ _ (by simp)];have:=heap_alloc_new (((w.alloc (.cells #[.map (some kb)] 83)).alloc (.cells #[.int .i64 (h:Nat)] 3)).alloc (.cells #[.int .i64 (limit:Nat)] 3)) (.cells #[.map none] 83);simpa only[World.size_alloc] using this
 ·rw[Below.heap_alloc _ _ _ (by simp only[World.size_alloc];omega),Below.heap_alloc _ _ _ (by simp)];have:=heap_alloc_new ((((w.alloc (.cells #[.map (some kb)] 83)).alloc (.cells #[.int .i64 (h:Nat)] 3)).alloc (.cells #[.int .i64 (limit:Nat)] 3)).alloc (.cells #[.map none] 83)) (.cells #[.bool false] 4);simpa only[World.size_alloc] using this
 ·have:=heap_alloc_new ((((((w.alloc (.cells #[.map (some kb)] 83)).alloc (.cells #[.int .i64 (h:Nat)] 3)).alloc (.cells #[.int .i64 (limit:Nat)] 3)).alloc (.cells #[.map none] 83)).alloc (.cells #[.bool false] 4)).alloc (.map #[] 0)) (.cells #[.map (some (w.heap.size+1+1+1+1+1))] 83);simpa only[World.size_alloc] using this
 ·have:=(qU.made (((((w.alloc (.cells #[.map (some kb)] 83)).alloc (.cells #[.int .i64 (h:Nat)] 3)).alloc (.cells #[.int .i64 (limit:Nat)] 3)).alloc (.cells #[.map none] 83)).alloc (.cells #[.bool false] 4))).alloc (.cells #[.map (some (w.heap.size+1+1+1+1+1))] 83);simpa only[World.size_alloc] using this
def z9h (ds:List Nat):List Deferred:=ds.map λ D=>{ target:=.collected D,args:=#[] }
structure Hr (w:W8)(ds:List Nat)(wr:W8):Prop where
 nd:ds.Nodup
 at_:∀ D∈ds,w.heap.size+1+1+1+1+1+1<D/\wr.heap[D]?=some (.deferred (some []))
theorem zg6 {No:Nat->Prop}(W:W8)(l:Nat)(o o':Obj)(h:W.heap[l]?=some o)(h1:o.isCells=false)(h2:o.isWalk=false):qH No W (W.putObj l o'):=by
 have hg:=grownBy_putObj' W l o';refine⟨hg.os,hg.tape,hg.output,hg.size,λ k ob hk _ hc=>?_⟩;rw[World.putObj_heap_other (λ e=>?_)]
 ·exact hk
 ·subst e;rw[h] at hk
  cases hk
  rcases hc with hc | hc
  ·rw[h1] at hc;cases hc
  ·rw[h2] at hc;cases hc
structure yet (ds:List Nat)(w w':W8):Prop where
 os:w'.os=w.os
 tape:w'.tape=w.tape
 output:w'.output=w.output
 size:w'.heap.size=w.heap.size
 block:∀ i,i∉ds->w'.heap[i]?=w.heap[i]?
theorem zbm {n:Nat}{P:Program}{fn:Func}{tmps:Array Value}{R:Ending->W8->Prop}:∀ (ds:List Nat) (w:W8),ds.Nodup->(∀ D∈ds,w.heap[D]?=some (.deferred (some [])))->(∀ w',yet ds w w'->LeavesIn Fence.wide n P fn tmps R [] .returning w')->LeavesInM Fence.wide n P fn tmps R (z9h ds) .returning w
 | [],w,_,_,h=>h w ⟨rfl,rfl,rfl,rfl,λ _ _=>rfl⟩
 | D::ds,w,hn,hD,h=>by
  obtain⟨h1,h2⟩:=List.nodup_cons.1 hn;refine⟨by simp,.inl ⟨D,_,rfl,run_takeDeferred (hD D List.mem_cons_self),?_⟩⟩;refine zbm ds _ h2 (λ E hE=>?_) (λ w' hs=>h w' ?_)
  ·rw[World.putObj_heap_other (λ e=>h1 (by rw[<-e];exact hE))];exact hD E (List.mem_cons_of_mem _ hE)
  ·have hg:=grownBy_putObj' w D (.deferred none);exact⟨hs.os.trans hg.os,hs.tape.trans hg.tape,hs.output.trans hg.output,hs.size.trans (by simp),λ i hi=>(hs.block i (λ hm=>hi (List.mem_cons_of_mem _ hm))).trans (World.putObj_heap_other (λ e=>hi (by rw[e];exact List.mem_cons_self)))⟩
theorem pS.pr {L2:List (Th × Nat)}(x:pS w kb fb h limit K L wr)(hg:wr.grownBy w' (some fb))(hm:qU w' fb L2):pS w kb fb h limit K L2 w':=by
 have hk:=x.kl;have hf:=x.fe;have bq:∀ i,i<=w.heap.size+1+1+1+1+1+1->i≠fb->w'.heap[i]?=wr.heap[i]?:=λ i hi bF=>hg.block i (by have:=(Array.getElem?_eq_some_iff.1 x.f10).1;omega) (λ e=>bF (by cases e;rfl))
 exact⟨(bq _ (by omega) (by omega)).trans x.k4,(bq _ (by omega) (by omega)).trans x.h6,(bq _ (by omega) (by omega)).trans x.l7,(bq _ (by omega) (by omega)).trans x.r8,(bq _ (by omega) (by omega)).trans x.o9,(bq _ (by omega) (by omega)).trans x.f10,x.fe,x.mK.block (bq _ (by omega) (by omega)),hm,x.kl,⟨hg.os.trans x.bw.os,hg.tape.trans x.bw.tape,hg.output.trans x.bw.output,Nat.le_trans x.bw.size hg.size,λ i hi=>(bq i (by omega) (by omega)).trans (x.bw.block i hi)⟩⟩
variable {b:Nat} {W:W8}
theorem zoq {j:Nat}{cs:Array Value}{t:TypeId}{fr:Nat × Nat}{v:Value}(h:W.heap[b]?=some (.cells cs t fr))(hv:cs[j]?=some v):(W.setCell ⟨b,j,none⟩ v)=W:=by
 rw[setCell_eq_setRow W b j cs t fr v h];have e:cs.setIfInBounds j v=cs:=by
  apply Array.ext_getElem?;intro i;rw[Array.getElem?_setIfInBounds]
  split
  ·rename_i e;subst e;have:=(Array.getElem?_eq_some_iff.1 hv).1;rw[if_pos this,hv]
  ·rfl
 rw[e];have aH:b<W.heap.size:=(Array.getElem?_eq_some_iff.1 h).1;have hb:W.heap[b]=.cells cs t fr:=(Array.getElem?_eq_some_iff.1 h).2;unfold World.setRow
 cases W with
 | mk heap tape drawn os output=>
  congr 1
  apply Array.ext
  ·simp
  ·intro k h1 h2;simp only[Array.getElem_modify]
   split
   ·rename_i hk;subst hk;simp at hb;simp[hb]
   ·rfl
variable {e:yR} {pre:List yR} {r:PR} {rs done:List PR}
theorem E0.old (x:E0 rs K done r pre h L)(ho:(yS K (xV e (fU r))).isSome=true):E0 rs K done r (pre++[e]) h L:=
 ⟨x.hs,x.nd,x.new,x.all,λ y hy hn=>by
  rcases List.mem_append.1 hy with hy | hy
  ·exact x.now y hy hn
  ·rw[List.mem_singleton.1 hy] at hn;rw[hn] at ho;cases ho⟩
theorem zrn (hd:(L.map (·.1)).Nodup){t s:Th}{n:Nat}(h:(yS L s).isSome=true):(yS (zjo L t n) s).isSome=true:=by
 obtain⟨m,hm⟩:=Option.isSome_iff_exists.1 h
 by_cases e:s=t
 ·subst e;rw[zbd (KP hd) (Rv L s n)];rfl
 ·rw[zbd (KP hd) (zgy (jU hm) e)];rfl
theorem E0.put (x:E0 rs K done r pre h L)(hr:r∈rs)(he:e∈zbg K (zco r.bs) (yP r.bs) [])(hn:yS K (xV e (fU r))=none):E0 rs K done r (pre++[e]) h (zjo L (xV e (fU r)) h):=by
 refine⟨λ p hp=>?_,KP x.nd,λ p hp=>?_,λ q hq y hy hn'=>zrn x.nd (x.all q hq y hy hn'),λ y hy hn'=>?_⟩
 ·rcases zko hp with rfl | ⟨hp,_⟩
  ·rfl
  ·exact x.hs p hp
 ·rcases zko hp with rfl | ⟨hp,_⟩
  ·exact⟨hn,r,hr,e,he,rfl⟩
  ·exact x.new p hp
 ·rcases List.mem_append.1 hy with hy | hy
  ·exact zrn x.nd (x.now y hy hn')
  ·rw[List.mem_singleton.1 hy,zbd (KP x.nd) (Rv L _ h)];rfl
structure Ip (w:W8)(kb h limit:Nat)(K:List (Th × Nat))(rs done:List PR)(r:PR)(L9:Nat)(ah ab:O8)(ch cb:Nat)(ds:List Nat)(pre:List yR)(L:List (Th × Nat))(W:W8):Prop where
 box:pS w kb (w.heap.size+1+1+1+1+1) h limit K L W
 new:E0 rs K done r pre h L
 len:K.length+L.length<=limit
 pk:Hr w ds W
 rl:W.heap[L9]?=some (.cells #[.string r.R.pd,.slice ah r.R.ts.length ch,.slice ab r.bs.length cb] 123 (0,0))
structure Nb (w:W8)(kb h limit:Nat)(K:List (Th × Nat))(rs:List PR)(ds:List Nat)(L:List (Th × Nat))(W:W8):Prop where
 box:pS w kb (w.heap.size+1+1+1+1+1) h limit K L W
 nd:(L.map (·.1)).Nodup
 new:∀ p∈L,zu3 rs K p.1
 len:limit<K.length+L.length
 pk:Hr w ds W
variable {W':W8}
theorem Hr.grown {ds:List Nat}(h:Hr w ds W)(hg:W.grownBy W' row)(hr:∀ r,row=some r->∀ D∈ds,D<r):Hr w ds W':=
 ⟨h.nd,λ D hD=>⟨(h.at_ D hD).1,(hg.block D (Array.getElem?_eq_some_iff.1 (h.at_ D hD).2).1 (λ e=>by have:=hr D e.symm D hD;omega)).trans (h.at_ D hD).2⟩⟩
theorem Ip.grown {w:W8}{kb h limit:Nat}{K:List (Th × Nat)}{rs done:List PR}{r:PR}{L9:Nat}{ah ab:O8}{ch cb:Nat}{ds:List Nat}{pre:List yR}{L:List (Th × Nat)}{W W':W8}(x:Ip w kb h limit K rs done r L9 ah ab ch cb ds pre L W){row:Option Nat}(hg:W.grownBy W' row){B:Nat}(hr:∀ i,row=some i->B<=i)(h1:w.heap.size+1+1+1+1+1+1<B)(h2:L9<B)(h3:∀ D∈ds,D<B):Ip w kb h limit K rs done r L9 ah ab ch cb ds pre L W':=
 ⟨x.box.grown hg (λ i e=>by have:=hr i e;omega),x.new,x.len,x.pk.grown hg (λ i e D hD=>by have:=hr i e;have:=h3 D hD;omega),(hg.block _ (Array.getElem?_eq_some_iff.1 x.rl).1 (λ e=>by have:=hr _ e.symm;omega)).trans x.rl⟩
theorem Nb.grown {w:W8}{kb h limit:Nat}{K:List (Th × Nat)}{rs:List PR}{ds:List Nat}{L:List (Th × Nat)}{W W':W8}(x:Nb w kb h limit K rs ds L W){row:Option Nat}(hg:W.grownBy W' row){B:Nat}(hr:∀ i,row=some i->B<=i)(h1:w.heap.size+1+1+1+1+1+1<B)(h3:∀ D∈ds,D<B):Nb w kb h limit K rs ds L W':=
 ⟨x.box.grown hg (λ i e=>by have:=hr i e;omega),x.nd,x.new,x.len,x.pk.grown hg (λ i e D hD=>by have:=hr i e;have:=h3 D hD;omega)⟩
theorem BV.grown (h:BV W b e)(hg:W.grownBy W' row)(hr:∀ i,row=some i->∃ o:Obj,W.heap[i]?=some o/\o.isCells=false):BV W' b e:=
 (hg.block b h.lt (λ e1=>by obtain⟨o,ho,hc⟩:=hr b e1.symm;rw[show W.heap[b]?=_ from h] at ho;cases ho;cases hc)).trans h
end
end Go.Proofs.YtldkpahaocjdpaaGreat
