/-
  The law's load: one Load of the program and one of the document's answer, side by side: always true; the list of programs grows by one where the text is taken.
-/
import Derived.Test.YtldkpahaocjdpaaGreatC34
set_option maxHeartbeats 16000000
set_option maxRecDepth 1000000
namespace Go.Proofs.YtldkpahaocjdpaaGreat
section
open Go.RowKit
theorem z3s:(Tryz.prog.info? 112).map (λ i=>(i.zero,i.size,i.bytes))=some (some (.agg #[.pointer none,.pointer none,.string { data:=#[] }]),3,32):=by kernel_rfl
end
section
open Go.RowKit
def It (C:List Nat)(w:W8)(F:W8->Nat->Prop):Prop:=∃ w0 lo,zN (List.range lo) w0 w/\(∀ c∈C,c<lo\/w0.heap.size<=c)/\F w0 lo
theorem It.step {C C' D:List Nat}{w w':W8}{F:W8->Nat->Prop}(h:It C w F)(k:zN D w w')(hD:∀ d∈D,d∈C\/w.heap.size<=d)(hC:∀ c∈C',c∈C\/w.heap.size<=c):It C' w' F:=by
 obtain⟨w0,lo,k0,h0,hF⟩:=h;have hs:=k0.size;refine⟨w0,lo,k0.step k (λ x hx=>?_),λ c hc=>?_,hF⟩
 ·rcases hD x hx with h | h
  ·rcases h0 x h with h | h
   ·exact .inl (List.mem_range.2 h)
   ·exact .inr h
  ·exact .inr (by omega)
 ·rcases hC c hc with h | h
  ·exact h0 c h
  ·exact .inr (by omega)
structure uq (s:B8)(xb yb:Nat)(w:W8)(lo:Nat):Prop where
 ok:(yH s).1=true
 x:∃ rs:List PR,yu w lo xb rs/\rs.map (·.R)=(yS s).2.2.1
 y:∃ (rs:List RR) (ps:P9) (rv pv tv:Value) (gs:Nat) (S:Nat->Nat),lo<=yb/\yb<gs/\ziv w yb rs ps rv pv tv (.slice (some ⟨gs,0,none⟩) ps.length ps.length)/\nk w gs ps.length S/\zdf ps (rs.map (·.R)) S/\Low ps (rs.map (·.R)) S/\rs.map (·.R)=(yO s).1/\ps=(yA s).2/\zd2 ps ((yO s).1.flatMap zP.atoms)
variable {b:Nat} {w w':W8}
theorem yu.Mq {lo:Nat}{rs:List PR}(h:yu w lo b rs)(k:zN (List.range lo) w w'):yu w' lo b rs:=by
 obtain⟨a,c,hb,qo,hr⟩:=h;exact⟨a,c,yX hb k (λ x hx=>.inl (by have:=List.mem_range.1 hx;omega)),qo,hr.cq k (λ x hx=>.inl (List.mem_range.1 hx))⟩
theorem nk.rN {B:List Nat}{gs n:Nat}{S:Nat->Nat}(h:nk w gs n S)(k:zN B w w')(hB:gs∉B):nk w' gs n S:=
 ⟨Nat.lt_of_lt_of_le h.sz k.size,λ i hi=>(k.cell (p:=⟨gs,i,none⟩) h.sz hB).trans (h.cell i hi),λ j=>(k.frozen (p:=⟨gs,j,none⟩) h.sz hB).trans (h.fz j)⟩
theorem uq.kept {s:B8}{xb yb:Nat}{w w':W8}{lo:Nat}(h:uq s xb yb w lo)(k:zN (List.range lo) w w'):uq s xb yb w' lo:=by
 obtain⟨rs,hp,hr⟩:=h.x;obtain⟨RP,ps,rv,pv,tv,gs,S,h1,h2,h3,h4,h5⟩:=h.y;exact⟨h.ok,⟨rs,hp.Mq k,hr⟩,RP,ps,rv,pv,tv,gs,S,h1,h2,oS.kept h3 k (λ x hx=>by have:=List.mem_range.1 hx;omega),h4.rN k (λ hm=>by have:=List.mem_range.1 hm;omega),h5⟩
theorem It.Ki {C:List Nat}{s:B8}{xb yb:Nat}(h:It C w (uq s xb yb)):∃ lo,uq s xb yb w lo:=by
 obtain⟨w0,lo,k0,_,hF⟩:=h;exact⟨lo,hF.kept k0⟩
structure PE where
 x:Nat
 y:Nat
 s:B8
def PE.cells (p:PE):V8:=[.pointer (some ⟨p.x,0,none⟩),.pointer (some ⟨p.y,0,none⟩),.string p.s]
def mkB (n:Nat):V8:=[.int .u8 (n%251:Nat)]
def mkT (n:Nat):V8:=[.string { data:=#[35,UInt8.ofNat n,UInt8.ofNat (n/256)] }]
structure LW (w:W8)(b:Nat)(cG bv tv sv:Value)(es:List PE)(mb mt ms:List MB):Prop where
 cP:w.heap[b]?=some (.cells #[cG,bv,tv,sv] 69 (0,0))
 row:w.ownsRow (b+1) 112 3 cG es.length (es.flatMap PE.cells)
 Ki:∀ p∈es,It (b::(cG.ownBlock.toList++bv.ownBlock.toList++tv.ownBlock.toList++sv.ownBlock.toList)) w (uq p.s p.x p.y)
 bs:sK w (b+1) 115 5 mkB bv mb
 ts:sK w (b+1) 117 9 mkT tv mt
 ss:sK w (b+1) 120 185 ziy sv ms
abbrev chg (b:Nat)(cG bv tv sv:Value):List Nat:=b::(cG.ownBlock.toList++bv.ownBlock.toList++tv.ownBlock.toList++sv.ownBlock.toList)
variable {mb mt ms:List MB} {es:List PE} {cG bv tv sv:Value}
theorem LW.lt (h:LW w b cG bv tv sv es mb mt ms):b<w.heap.size:=(Array.getElem?_eq_some_iff.1 h.cP).1
theorem LW.Be (h:LW w b cG bv tv sv es mb mt ms):∀ x∈chg b cG bv tv sv,b<=x/\x<w.heap.size:=by
 intro x hx;rcases List.mem_cons.1 hx with rfl | hx
 ·exact⟨Nat.le_refl _,h.lt⟩
 ·simp only[List.mem_append] at hx;rcases hx with ((hx | hx) | hx) | hx
  ·have:=h.row.lt x (by simpa using hx);omega
  ·have:=h.bs.row.lt x (by simpa using hx);omega
  ·have:=h.ts.row.lt x (by simpa using hx);omega
  ·have:=h.ss.row.lt x (by simpa using hx);omega
theorem LW.below {w w':W8}{b:Nat}{cG bv tv sv:Value}{es:List PE}{mb mt ms:List MB}(h:LW w b cG bv tv sv es mb mt ms)(k:Below w.heap.size w w'):LW w' b cG bv tv sv es mb mt ms:=
 have k':zN [] w w':=(zN.refl [] w).ai k
 ⟨(k.block b h.lt).trans h.cP,xC h.row k' (by simp),λ p hp=>(h.Ki p hp).step k' (by simp) (λ c hc=>.inl hc),h.bs.below k,h.ts.below k,h.ss.below k⟩
theorem LW.start (w:W8)(b:Nat)(h:w.heap[b]?=some (.cells #[.slice none 0 0,.slice none 0 0,.slice none 0 0,.slice none 0 0] 69 (0,0))):LW w b (.slice none 0 0) (.slice none 0 0) (.slice none 0 0) (.slice none 0 0) [] [] [] []:=
 ⟨h,World.ownsRow_nil _ _ _ _,by simp,sK.nil _ _ _ _ _,sK.nil _ _ _ _ _,sK.nil _ _ _ _ _⟩
theorem LW.Pn {w2 W w5:W8}(h:LW w b cG bv tv sv es mb mt ms)(hb:Below w.heap.size w w2){p:PE}(hp:uq p.s p.x p.y w2 w.heap.size)
  (hW:zN [] w2 W) (hg:W.grownBy w5 cG.ownBlock) {a':O8} {c':Nat} (aC:w5.ownsRow (b+1) 112 3 (.slice a' (es.length+1) c') (es.length+1) (es.flatMap PE.cells++p.cells)) (eS:(Value.slice a' (es.length+1) c').ownBlock=cG.ownBlock\/∀ g,(Value.slice a' (es.length+1) c').ownBlock=some g->W.heap.size<=g):
  LW (w5.setCell ⟨b,0,none⟩ (.slice a' (es.length+1) c')) b (.slice a' (es.length+1) c') bv tv sv (es++[p]) mb mt ms/\zN (chg b cG bv tv sv) w (w5.setCell ⟨b,0,none⟩ (.slice a' (es.length+1) c'))/\w5.heap[b]?=some (.cells #[cG,bv,tv,sv] 69 (0,0)):=by
 have h2:=h.below hb;have k2:zN (b::cG.ownBlock.toList) w2 (w5.setCell ⟨b,0,none⟩ (.slice a' (es.length+1) c')):=by
  refine zN.setCell (p:=⟨b,0,none⟩) ?_ (.inl List.mem_cons_self) _;exact ((hW.mono (by simp)).trans ((zN.aN hg).mono λ k hk=>.inl (List.mem_cons_of_mem _ hk)))
 have k5:zN cG.ownBlock.toList w2 w5:=(hW.mono (by simp)).trans (zN.aN hg);have eH:w5.heap[b]?=some (.cells #[cG,bv,tv,sv] 69 (0,0)):=
  yX h2.cP k5 (λ x hx=>.inr (yP h2.row (by decide) x hx))
 have aT:=hW.size;have I8:=hb.size;have sub:∀ x∈b::cG.ownBlock.toList,x∈chg b cG bv tv sv:=λ x hx=>by
  rcases List.mem_cons.1 hx with rfl | hx
  ·exact List.mem_cons_self
  ·exact List.mem_cons_of_mem _ (by simp only[List.mem_append];exact .inl (.inl (.inl hx)))
 have nt:∀ (e:TypeId),69≠e->112≠e->∀ x∈b::cG.ownBlock.toList,iq w2 e x:=λ e e0 e1 x hx=>by
  rcases List.mem_cons.1 hx with rfl | hx
  ·exact zf9 h2.cP e0
  ·exact yP h2.row e1 x hx
 have Ms:∀ c∈chg b (.slice a' (es.length+1) c') bv tv sv,c∈chg b cG bv tv sv\/w2.heap.size<=c:=λ c hc=>by
  rcases List.mem_cons.1 hc with rfl | hc
  ·exact .inl List.mem_cons_self
  ·simp only[List.mem_append] at hc;have rest:c∈bv.ownBlock.toList\/c∈tv.ownBlock.toList\/c∈sv.ownBlock.toList->c∈chg b cG bv tv sv:=λ hr=>List.mem_cons_of_mem _ (by simp only[List.mem_append];rcases hr with hr | hr | hr <;> simp[hr])
   rcases hc with ((hc | hc) | hc) | hc
   ·rcases eS with e1 | e1
    ·rw[e1] at hc;exact .inl (sub c (List.mem_cons_of_mem _ hc))
    ·exact .inr (Nat.le_trans aT (e1 c (by simpa using hc)))
   ·exact .inl (rest (.inl hc))
   ·exact .inl (rest (.inr (.inl hc)))
   ·exact .inl (rest (.inr (.inr hc)))
 refine⟨⟨?_,?_,λ q hq=>?_,h2.bs.kept k2 (λ x hx=>.inr (nt _ (by decide) (by decide) x hx)) (λ x hx=>.inl (nt _ (by decide) (by decide) x hx)),h2.ts.kept k2 (λ x hx=>.inr (nt _ (by decide) (by decide) x hx)) (λ x hx=>.inl (nt _ (by decide) (by decide) x hx)),h2.ss.kept k2 (λ x hx=>.inr (nt _ (by decide) (by decide) x hx)) (λ x hx=>.inl (nt _ (by decide) (by decide) x hx))⟩,?_,eH⟩
 ·unfold World.setCell;simp only[Array.getElem?_modify,if_true,eH];rfl
 ·rw[List.length_append,List.flatMap_append];have:=ownsRow_setCell_below (a:=⟨b,0,none⟩) aC (by simp) (.slice a' (es.length+1) c');simpa using this
 ·rcases List.mem_append.1 hq with hq | hq
  ·exact (h2.Ki q hq).step k2 (λ d hd=>.inl (sub d hd)) Ms
  ·rw[List.mem_singleton.1 hq];have h0:It (chg b cG bv tv sv) w2 (uq p.s p.x p.y):=⟨w2,w.heap.size,zN.refl _ _,λ c hc=>.inl (h.Be c hc).2,hp⟩;exact h0.step k2 (λ d hd=>.inl (sub d hd)) Ms
 ·exact ((zN.refl _ w).ai hb).step k2 (λ x hx=>.inl (sub x hx))
end
section
open Go.RowKit
def N7 (s:B8)(w:W8)(b:Nat)(cG bv tv sv:Value)(es:List PE)(mb mt ms:List MB)(e:Ending)(w':W8):Prop:=e=.returned (.bool true)/\∃ sB kj,LW w' b sB bv tv sv kj mb mt ms/\es.length<=kj.length/\kj.length<=es.length+1/\((yH s).1=true->kj.length=es.length+1)/\zN (chg b cG bv tv sv) w w'
theorem z84 {g H n c:Nat}(e:g=H):∀ g',(Value.slice (some ⟨g,0,none⟩) n c).ownBlock=some g'->H<=g':=λ g' e'=>by
 have:g=g':=by simpa[Value.ownBlock] using e'
 omega
theorem yu.low {w:W8}{lo U0 b:Nat}{rs:List PR}(h:yu w lo b rs)(hl:U0<=lo):yu w U0 b rs:=by
 obtain⟨a,c,hb,qo,hr⟩:=h;exact⟨a,c,hb,by omega,hr.low hl⟩
theorem yu.below {w w':W8}{lo b:Nat}{rs:List PR}(h:yu w lo b rs)(k:Below w.heap.size w w'):yu w' lo b rs:=by
 obtain⟨a,c,hb,qo,hr⟩:=h;exact⟨a,c,(k.block b (Array.getElem?_eq_some_iff.1 hb).1).trans hb,qo,hr.below k⟩
theorem z66 {s:B8}{w w0 w1 w2:W8}{pb:Nat}{rs:List PR}{ya:Addr}(cd:(yH s).1=true)(hx:yu w1 w0.heap.size pb rs)(hr:rs.map (·.R)=(yS s).2.2.1)(h0:w.heap.size<=w0.heap.size)(h1:w0.heap.size<=w1.heap.size)(hb:Below w1.heap.size w1 w2)(hy:zxv s w1 (some ya) w2):∃ yb,ya=⟨yb,0,none⟩/\uq s pb yb w2 w.heap.size:=by
 obtain⟨o,RP,ps,rv,pv,tv,gs,S,e,h2,h3,h4,h5,h6,h7,h8,h9,Px⟩:=hy ya rfl;exact⟨o,e,cd,⟨rs,(hx.low h0).below hb,hr⟩,RP,ps,rv,pv,tv,gs,S,by omega,h3,h4,h5,h6,h7,h8,h9,Px⟩
theorem zzq (w:W8)(b:Nat)(cG bv tv sv:Value)(es:List PE)(mb mt ms:List MB)(kd a bb:Int)(s t u:B8)(at_:O8)(nt ct:Nat)(h:LW w b cG bv tv sv es mb mt ms)(hs:s.size<=maxLen)(hn:(es.length+1)*32<=140737488355328):
  Calls Tryz.prog 48 #[.pointer (some ⟨b,0,none⟩),.agg #[.int .i64 kd,.int .i64 a,.int .i64 bb,.string s,.string t,.string u,.slice at_ nt ct]] w (N7 s w b cG bv tv sv es mb mt ms):=by
 obtain⟨i0,hi,cQ,cz,cx⟩:=info_parts z3s;have b0:=(Below.refl w.heap.size w).alloc L9 (.cells #[.int .i64 kd,.int .i64 a,.int .i64 bb,.string s,.string t,.string u,.slice at_ nt ct] 26);have ed:(w.alloc (.cells #[.int .i64 kd,.int .i64 a,.int .i64 bb,.string s,.string t,.string u,.slice at_ nt ct] 26)).heap[w.heap.size]?=_:=heap_alloc_new w _;have hP:=zp6 (w.alloc (.cells #[.int .i64 kd,.int .i64 a,.int .i64 bb,.string s,.string t,.string u,.slice at_ nt ct] 26)) s hs;rw[zzz] at hP;have aG:=h.lt;go_enter Tryz.func48,Tryz.ntmps48;go_wp2_with fail;refine hP.mono ?_;rintro e w1 ⟨aM,aR,ri⟩;have nz:=(aM.block w.heap.size (by simp)).trans ed;obtain⟨x3,Jg⟩:=zB nz 3;have Hq:=aM.size;have Cr:=Hq;rw[World.size_alloc] at Hq;have oM:=b0.trans (aM.mono (by simp));clear hP ed aM b0
 cases hr:(yH s).1 with
 | false=>
  have he:=aR hr;subst he;clear aR ri Cr;go_wp2_with fail;refine (zsh s w1).mono ?_;rintro e w2 ⟨y,rfl,hy,aH⟩;have YR:y=none:=by rw[hr] at hy;cases y with | none=>rfl | some _=>cases hy
  subst YR;have HB:=zC (oM.trans (aH.mono (by omega)));have HH:=zC h;clear aH oM x3 Jg hy nz h;go_wp2_with fail;go_ret;exact⟨rfl,cG,es,(zA HH).below (zA HB),Nat.le_refl _,Nat.le_succ _,(λ h=>by rw[hr] at h;cases h),(zN.refl _ _).ai (zA HB)⟩
 | true=>
  obtain⟨pb,rs,he,NJ,sX⟩:=ri hr;subst he;have VU:=zC NJ;have Aw:=zC sX;have Ws:=zC Cr;clear aR ri NJ sX Cr;go_wp2_with fail;refine (zej s w1).mono ?_;rintro e w2 ⟨y,rfl,hy,aH,Ch⟩;obtain⟨ya,rfl⟩:∃ ya,y=some ya:=by rw[hr] at hy;cases y with | none=>cases hy | some z=>exact⟨z,rfl⟩
  obtain⟨yb,rfl,BF⟩:=z66 (w:=w) hr (zA VU) (zA Aw) (by simp) (zA Ws) aH Ch;have lV:=(aH.block w.heap.size (by omega)).trans nz;have YS:=aH.size;have lf:=oM.trans (aH.mono (by omega));have h2:=h.below lf;have aB:=h2.row;obtain⟨ap,cp,rfl⟩:=zD aB;have hblk:=h2.cP;obtain⟨y3,Vd⟩:=zB lV 3;obtain⟨p0,FL⟩:=zB hblk 0;have vc:=h2.lt;have s1:Hid (((w2.alloc (Obj.cells #[.pointer (some ⟨pb,0,none⟩),.pointer (some ⟨yb,0,none⟩),.string s] 112)).drew).ownsRow (b+1) 112 3 (.slice ap es.length cp) es.length (es.flatMap PE.cells)):=aB.alloc _;have s2:Hid (∀ j u,([Value.pointer (some ⟨pb,0,none⟩),.pointer (some ⟨yb,0,none⟩),.string s]:V8)[j]?=some u->((w2.alloc (Obj.cells #[.pointer (some ⟨pb,0,none⟩),.pointer (some ⟨yb,0,none⟩),.string s] 112)).drew).cell? ((⟨w2.heap.size,0,none⟩:Addr).add j)=some u):=World.news_of_block (heap_alloc_new w2 _);have s3:Hid (∀ u∈([Value.pointer (some ⟨pb,0,none⟩),.pointer (some ⟨yb,0,none⟩),.string s]:V8),u.oneCell'=true):=by
   show ∀ u∈_,_
   intro u hu;simp at hu;rcases hu with rfl | rfl | rfl <;> rfl
  have s4:Hid (es.length+1<=maxLen):=by show _<=_;unfold maxLen;omega
  have s5:Hid ((es.length+1)*32<=140737488355328):=hn;have s6:Hid (b+1<=((w2.alloc (Obj.cells #[.pointer (some ⟨pb,0,none⟩),.pointer (some ⟨yb,0,none⟩),.string s] 112)).drew).heap.size):=by show _<=_;simp;omega
  have s8:=zC (λ (w5:W8) (g cap:Nat) (hg:((w2.alloc (Obj.cells #[.pointer (some ⟨pb,0,none⟩),.pointer (some ⟨yb,0,none⟩),.string s] 112)).drew).grownBy w5 (Value.slice ap es.length cp).ownBlock) (aC:w5.ownsRow (b+1) 112 3 (.slice (some ⟨g,0,none⟩) (es.length+1) cap) (es.length+1) (es.flatMap PE.cells++[Value.pointer (some ⟨pb,0,none⟩),.pointer (some ⟨yb,0,none⟩),.string s])) (eS:(Value.slice ap es.length cp).ownBlock=some g\/g=((w2.alloc (Obj.cells #[.pointer (some ⟨pb,0,none⟩),.pointer (some ⟨yb,0,none⟩),.string s] 112)).drew).heap.size)=>LW.Pn (W:=(w2.alloc (Obj.cells #[.pointer (some ⟨pb,0,none⟩),.pointer (some ⟨yb,0,none⟩),.string s] 112)).drew) (p:=⟨pb,yb,s⟩) h lf BF (((zN.refl [] w2).alloc _).drew) hg aC (eS.imp (λ e=>e.symm) (λ e=>z84 e)));have HB:=zC lf;clear aH oM x3 Jg hy nz h lV h2 aB hblk lf BF Ch;go_wp2_with fail
  go_region_law (refine step_append_lies _ rfl (.tmp 46) (.tmp 52) 62 rfl (b+1) 112 i0 (.agg #[.pointer none,.pointer none,.string { data:=#[] }]) 3 32 Tryz.underlying62 hi cQ cz cx rfl (by decide) (Value.slice ap es.length cp) es.length (es.flatMap PE.cells) (by simp[Act.eval]) (zA s1) ⟨w2.heap.size,0,none⟩ 1 1 [Value.pointer (some ⟨pb,0,none⟩),.pointer (some ⟨yb,0,none⟩),.string s] (by simp[Act.eval]) rfl (zA s2) (zA s3) (by decide) (zA s4) (zA s5) (zA s6) _ rfl ?_;intro g cap w5 aj aU cN hlt5;obtain⟨e1,e2,e3⟩:=zA s8 w5 g cap aU aj cN;obtain⟨z0,An⟩:=zB e3 0)
  all_goals
   clear s1 s2 s3 s4 s5 s6 s8;go_wp2_with fail;go_ret;exact⟨rfl,_,_,e1,by simp,by simp,λ _=>by simp,e2⟩
end
section
open Go.RowKit
structure OpV where
 kd:Int
 a:Int
 b:Int
 s:B8
 t:B8
 u:B8
 at_:O8
 nt:Nat
 ct:Nat
structure IF (w:W8)(sa:O8)(len:Nat)(O:Nat->OpV):Prop where
 el:∀ i,i<len->∃ g off,sa=some ⟨g,off,none⟩/\g<w.heap.size/\w.cell? ⟨g,off+i*7,none⟩=some (.int .i64 (O i).kd)/\w.cell? ⟨g,off+i*7+1,none⟩=some (.int .i64 (O i).a)/\w.cell? ⟨g,off+i*7+2,none⟩=some (.int .i64 (O i).b)/\w.cell? ⟨g,off+i*7+3,none⟩=some (.string (O i).s)/\w.cell? ⟨g,off+i*7+4,none⟩=some (.string (O i).t)/\w.cell? ⟨g,off+i*7+5,none⟩=some (.string (O i).u)/\w.cell? ⟨g,off+i*7+6,none⟩=some (.slice (O i).at_ (O i).nt (O i).ct)/\(O i).s.size<=maxLen
theorem IF.below {w w1:W8}{sa:O8}{len:Nat}{O:Nat->OpV}(h:IF w sa len O)(hb:Below w.heap.size w w1):IF w1 sa len O:=
 ⟨λ i hi=>by
  obtain⟨g,off,h1,h2,c0,c1,c2,c3,c4,c5,c6,h3⟩:=h.el i hi;have hz:=hb.size;refine⟨g,off,h1,by omega,?_,?_,?_,?_,?_,?_,?_,h3⟩
  all_goals (rw[hb.cell (by simpa using h2)];assumption)⟩
def zti:B8:={ data:=#[101,100,103,101,40,97,44,98,41,46,32,101,100,103,101,40,98,44,99,41,46,32,112,97,116,104,40,88,44,89,41,32,58,45,32,101,100,103,101,40,88,44,89,41,46,32,112,97,116,104,40,88,44,90,41,32,58,45,32,101,100,103,101,40,88,44,89,41,44,32,112,97,116,104,40,89,44,90,41,46,32,102,97,114,40,88,41,32,58,45,32,112,97,116,104,40,97,44,88,41,44,32,110,111,116,32,101,100,103,101,40,97,44,88,41,46] }
theorem yaf:(yH zti).1=true:=by decide +kernel
theorem z68:zti.size<=maxLen:=by decide +kernel
end
end Go.Proofs.YtldkpahaocjdpaaGreat
