/-
  The law's load: one Load of the program and one of the document's answer, side by side: always true; the list of programs grows by one where the text is taken.
-/
import Derived.Test.YtldkpahaocjdpaaGreatE29
set_option maxHeartbeats 16000000
set_option maxRecDepth 1000000
namespace Go.Proofs.YtldkpahaocjdpaaGreat
section
open Go.RowKit
theorem z7a:(Tryz.prog.info? 112).map (λ i=>(i.zero,i.size,i.bytes))=some (some (.agg #[.pointer none,.pointer none,.string { data:=#[] }]),3,32):=by kernel_rfl
end
section
open Go.RowKit
def Hn (C:List Nat)(w:W8)(F:W8->Nat->Prop):Prop:=∃ w0 lo,zK (List.range lo) w0 w/\(∀ c∈C,c<lo\/w0.heap.size<=c)/\F w0 lo
theorem Hn.step {C C' D:List Nat}{w w':W8}{F:W8->Nat->Prop}(h:Hn C w F)(k:zK D w w')(hD:∀ d∈D,d∈C\/w.heap.size<=d)(hC:∀ c∈C',c∈C\/w.heap.size<=c):Hn C' w' F:=by
 obtain⟨w0,lo,k0,h0,hF⟩:=h;have hs:=k0.size;refine⟨w0,lo,k0.step k (λ x hx=>?_),λ c hc=>?_,hF⟩
 ·rcases hD x hx with h | h
  ·rcases h0 x h with h | h
   ·exact .inl (List.mem_range.2 h)
   ·exact .inr h
  ·exact .inr (by omega)
 ·rcases hC c hc with h | h
  ·exact h0 c h
  ·exact .inr (by omega)
structure pt (s:B8)(xb yb:Nat)(w:W8)(lo:Nat):Prop where
 ok:(yY s).1=true
 x:∃ rs:List PR,wK w lo xb rs/\rs.map (·.R)=(yL s).2.2.1
 y:∃ (rs:List RR) (ps:P9) (rv pv tv:Value) (gs:Nat) (S:Nat->Nat),lo<=yb/\yb<gs/\znv w yb rs ps rv pv tv (.slice (some ⟨gs,0,none⟩) ps.length ps.length)/\ng w gs ps.length S/\zef ps (rs.map (·.R)) S/\Low ps (rs.map (·.R)) S/\rs.map (·.R)=(yG s).1/\ps=(zT s).2/\zgi ps ((yG s).1.flatMap zS.atoms)
variable {b:Nat} {w w':W8}
theorem wK.LY {lo:Nat}{rs:List PR}(h:wK w lo b rs)(k:zK (List.range lo) w w'):wK w' lo b rs:=by
 obtain⟨a,c,hb,Aq,hr⟩:=h;exact⟨a,c,yK hb k (λ x hx=>.inl (by have:=List.mem_range.1 hx;omega)),Aq,hr.bu k (λ x hx=>.inl (List.mem_range.1 hx))⟩
theorem ng.od {B:List Nat}{gs n:Nat}{S:Nat->Nat}(h:ng w gs n S)(k:zK B w w')(hB:gs∉B):ng w' gs n S:=
 ⟨Nat.lt_of_lt_of_le h.sz k.size,λ i hi=>(k.cell (p:=⟨gs,i,none⟩) h.sz hB).trans (h.cell i hi),λ j=>(k.frozen (p:=⟨gs,j,none⟩) h.sz hB).trans (h.fz j)⟩
theorem pt.kept {s:B8}{xb yb:Nat}{w w':W8}{lo:Nat}(h:pt s xb yb w lo)(k:zK (List.range lo) w w'):pt s xb yb w' lo:=by
 obtain⟨rs,hp,hr⟩:=h.x;obtain⟨Rt,ps,rv,pv,tv,gs,S,h1,h2,h3,h4,h5⟩:=h.y;exact⟨h.ok,⟨rs,hp.LY k,hr⟩,Rt,ps,rv,pv,tv,gs,S,h1,h2,mB.kept h3 k (λ x hx=>by have:=List.mem_range.1 hx;omega),h4.od k (λ hm=>by have:=List.mem_range.1 hm;omega),h5⟩
theorem Hn.Ia {C:List Nat}{s:B8}{xb yb:Nat}(h:Hn C w (pt s xb yb)):∃ lo,pt s xb yb w lo:=by
 obtain⟨w0,lo,k0,_,hF⟩:=h;exact⟨lo,hF.kept k0⟩
structure PE where
 x:Nat
 y:Nat
 s:B8
def PE.cells (p:PE):V8:=[.pointer (some ⟨p.x,0,none⟩),.pointer (some ⟨p.y,0,none⟩),.string p.s]
def iI (n:Nat):V8:=[.int .u8 (n%251:Nat)]
def mkT (n:Nat):V8:=[.string { data:=#[35,UInt8.ofNat n,UInt8.ofNat (n/256)] }]
structure LW (w:W8)(b:Nat)(bz bv tv sv:Value)(es:List PE)(mb mt ms:List MB):Prop where
 bp:w.heap[b]?=some (.cells #[bz,bv,tv,sv] 69 (0,0))
 row:w.ownsRow (b+1) 112 3 bz es.length (es.flatMap PE.cells)
 Ia:∀ p∈es,Hn (b::(bz.ownBlock.toList++bv.ownBlock.toList++tv.ownBlock.toList++sv.ownBlock.toList)) w (pt p.s p.x p.y)
 bs:jS w (b+1) 115 5 iI bv mb
 ts:jS w (b+1) 117 9 mkT tv mt
 ss:jS w (b+1) 120 185 zj5 sv ms
abbrev chg (b:Nat)(bz bv tv sv:Value):List Nat:=b::(bz.ownBlock.toList++bv.ownBlock.toList++tv.ownBlock.toList++sv.ownBlock.toList)
variable {mb mt ms:List MB} {es:List PE} {bz bv tv sv:Value}
theorem LW.lt (h:LW w b bz bv tv sv es mb mt ms):b<w.heap.size:=(Array.getElem?_eq_some_iff.1 h.bp).1
theorem LW.sH (h:LW w b bz bv tv sv es mb mt ms):∀ x∈chg b bz bv tv sv,b<=x/\x<w.heap.size:=by
 intro x hx;rcases List.mem_cons.1 hx with rfl | hx
 ·exact⟨Nat.le_refl _,h.lt⟩
 ·simp only[List.mem_append] at hx;rcases hx with ((hx | hx) | hx) | hx
  ·have:=h.row.lt x (by simpa using hx);omega
  ·have:=h.bs.row.lt x (by simpa using hx);omega
  ·have:=h.ts.row.lt x (by simpa using hx);omega
  ·have:=h.ss.row.lt x (by simpa using hx);omega
theorem LW.below {w w':W8}{b:Nat}{bz bv tv sv:Value}{es:List PE}{mb mt ms:List MB}(h:LW w b bz bv tv sv es mb mt ms)(k:Below w.heap.size w w'):LW w' b bz bv tv sv es mb mt ms:=
 have k':zK [] w w':=(zK.refl [] w).ak k
 ⟨(k.block b h.lt).trans h.bp,xF h.row k' (by simp),λ p hp=>(h.Ia p hp).step k' (by simp) (λ c hc=>.inl hc),h.bs.below k,h.ts.below k,h.ss.below k⟩
theorem LW.start (w:W8)(b:Nat)(h:w.heap[b]?=some (.cells #[.slice none 0 0,.slice none 0 0,.slice none 0 0,.slice none 0 0] 69 (0,0))):LW w b (.slice none 0 0) (.slice none 0 0) (.slice none 0 0) (.slice none 0 0) [] [] [] []:=
 ⟨h,World.ownsRow_nil _ _ _ _,by simp,jS.nil _ _ _ _ _,jS.nil _ _ _ _ _,jS.nil _ _ _ _ _⟩
theorem LW.O6 {w2 W w5:W8}(h:LW w b bz bv tv sv es mb mt ms)(hb:Below w.heap.size w w2){p:PE}(hp:pt p.s p.x p.y w2 w.heap.size)
  (hW:zK [] w2 W) (hg:W.grownBy w5 bz.ownBlock) {a':O8} {c':Nat} (ay:w5.ownsRow (b+1) 112 3 (.slice a' (es.length+1) c') (es.length+1) (es.flatMap PE.cells++p.cells)) (du:(Value.slice a' (es.length+1) c').ownBlock=bz.ownBlock\/∀ g,(Value.slice a' (es.length+1) c').ownBlock=some g->W.heap.size<=g):
  LW (w5.setCell ⟨b,0,none⟩ (.slice a' (es.length+1) c')) b (.slice a' (es.length+1) c') bv tv sv (es++[p]) mb mt ms/\zK (chg b bz bv tv sv) w (w5.setCell ⟨b,0,none⟩ (.slice a' (es.length+1) c'))/\w5.heap[b]?=some (.cells #[bz,bv,tv,sv] 69 (0,0)):=by
 have h2:=h.below hb;have k2:zK (b::bz.ownBlock.toList) w2 (w5.setCell ⟨b,0,none⟩ (.slice a' (es.length+1) c')):=by
  refine zK.setCell (p:=⟨b,0,none⟩) ?_ (.inl List.mem_cons_self) _;exact ((hW.mono (by simp)).trans ((zK.aR hg).mono λ k hk=>.inl (List.mem_cons_of_mem _ hk)))
 have k5:zK bz.ownBlock.toList w2 w5:=(hW.mono (by simp)).trans (zK.aR hg);have dC:w5.heap[b]?=some (.cells #[bz,bv,tv,sv] 69 (0,0)):=
  yK h2.bp k5 (λ x hx=>.inr (yH h2.row (by decide) x hx))
 have bj:=hW.size;have Lx:=hb.size;have sub:∀ x∈b::bz.ownBlock.toList,x∈chg b bz bv tv sv:=λ x hx=>by
  rcases List.mem_cons.1 hx with rfl | hx
  ·exact List.mem_cons_self
  ·exact List.mem_cons_of_mem _ (by simp only[List.mem_append];exact .inl (.inl (.inl hx)))
 have nt:∀ (e:TypeId),69≠e->112≠e->∀ x∈b::bz.ownBlock.toList,dW w2 e x:=λ e e0 e1 x hx=>by
  rcases List.mem_cons.1 hx with rfl | hx
  ·exact zds h2.bp e0
  ·exact yH h2.row e1 x hx
 have DA:∀ c∈chg b (.slice a' (es.length+1) c') bv tv sv,c∈chg b bz bv tv sv\/w2.heap.size<=c:=λ c hc=>by
  rcases List.mem_cons.1 hc with rfl | hc
  ·exact .inl List.mem_cons_self
  ·simp only[List.mem_append] at hc;have rest:c∈bv.ownBlock.toList\/c∈tv.ownBlock.toList\/c∈sv.ownBlock.toList->c∈chg b bz bv tv sv:=λ hr=>List.mem_cons_of_mem _ (by simp only[List.mem_append];rcases hr with hr | hr | hr <;> simp[hr])
   rcases hc with ((hc | hc) | hc) | hc
   ·rcases du with e1 | e1
    ·rw[e1] at hc;exact .inl (sub c (List.mem_cons_of_mem _ hc))
    ·exact .inr (Nat.le_trans bj (e1 c (by simpa using hc)))
   ·exact .inl (rest (.inl hc))
   ·exact .inl (rest (.inr (.inl hc)))
   ·exact .inl (rest (.inr (.inr hc)))
 refine⟨⟨?_,?_,λ q hq=>?_,h2.bs.kept k2 (λ x hx=>.inr (nt _ (by decide) (by decide) x hx)) (λ x hx=>.inl (nt _ (by decide) (by decide) x hx)),h2.ts.kept k2 (λ x hx=>.inr (nt _ (by decide) (by decide) x hx)) (λ x hx=>.inl (nt _ (by decide) (by decide) x hx)),h2.ss.kept k2 (λ x hx=>.inr (nt _ (by decide) (by decide) x hx)) (λ x hx=>.inl (nt _ (by decide) (by decide) x hx))⟩,?_,dC⟩
 ·unfold World.setCell;simp only[Array.getElem?_modify,if_true,dC];rfl
 ·rw[List.length_append,List.flatMap_append];have:=ownsRow_setCell_below (a:=⟨b,0,none⟩) ay (by simp) (.slice a' (es.length+1) c');simpa using this
 ·rcases List.mem_append.1 hq with hq | hq
  ·exact (h2.Ia q hq).step k2 (λ d hd=>.inl (sub d hd)) DA
  ·rw[List.mem_singleton.1 hq];have h0:Hn (chg b bz bv tv sv) w2 (pt p.s p.x p.y):=⟨w2,w.heap.size,zK.refl _ _,λ c hc=>.inl (h.sH c hc).2,hp⟩;exact h0.step k2 (λ d hd=>.inl (sub d hd)) DA
 ·exact ((zK.refl _ w).ak hb).step k2 (λ x hx=>.inl (sub x hx))
end
section
open Go.RowKit
def NY (s:B8)(w:W8)(b:Nat)(bz bv tv sv:Value)(es:List PE)(mb mt ms:List MB)(e:Ending)(w':W8):Prop:=e=.returned (.bool true)/\∃ oR uq,LW w' b oR bv tv sv uq mb mt ms/\es.length<=uq.length/\uq.length<=es.length+1/\((yY s).1=true->uq.length=es.length+1)/\zK (chg b bz bv tv sv) w w'
theorem yda {g H n c:Nat}(e:g=H):∀ g',(Value.slice (some ⟨g,0,none⟩) n c).ownBlock=some g'->H<=g':=λ g' e'=>by
 have:g=g':=by simpa[Value.ownBlock] using e'
 omega
theorem wK.low {w:W8}{lo US b:Nat}{rs:List PR}(h:wK w lo b rs)(hl:US<=lo):wK w US b rs:=by
 obtain⟨a,c,hb,Aq,hr⟩:=h;exact⟨a,c,hb,by omega,hr.low hl⟩
theorem wK.below {w w':W8}{lo b:Nat}{rs:List PR}(h:wK w lo b rs)(k:Below w.heap.size w w'):wK w' lo b rs:=by
 obtain⟨a,c,hb,Aq,hr⟩:=h;exact⟨a,c,(k.block b (Array.getElem?_eq_some_iff.1 hb).1).trans hb,Aq,hr.below k⟩
theorem yax {s:B8}{w w0 w1 w2:W8}{pb:Nat}{rs:List PR}{ya:Addr}(bR:(yY s).1=true)(hx:wK w1 w0.heap.size pb rs)(hr:rs.map (·.R)=(yL s).2.2.1)(h0:w.heap.size<=w0.heap.size)(h1:w0.heap.size<=w1.heap.size)(hb:Below w1.heap.size w1 w2)(hy:z0s s w1 (some ya) w2):∃ yb,ya=⟨yb,0,none⟩/\pt s pb yb w2 w.heap.size:=by
 obtain⟨o,Rt,ps,rv,pv,tv,gs,S,e,h2,h3,h4,h5,h6,h7,h8,h9,Xk⟩:=hy ya rfl;exact⟨o,e,bR,⟨rs,(hx.low h0).below hb,hr⟩,Rt,ps,rv,pv,tv,gs,S,by omega,h3,h4,h5,h6,h7,h8,h9,Xk⟩
theorem z20 (w:W8)(b:Nat)(bz bv tv sv:Value)(es:List PE)(mb mt ms:List MB)(kd a bb:Int)(s t u:B8)(at_:O8)(nt ct:Nat)(h:LW w b bz bv tv sv es mb mt ms)(hs:s.size<=maxLen)(hn:(es.length+1)*32<=140737488355328):
  Calls Tryz.prog 48 #[.pointer (some ⟨b,0,none⟩),.agg #[.int .i64 kd,.int .i64 a,.int .i64 bb,.string s,.string t,.string u,.slice at_ nt ct]] w (NY s w b bz bv tv sv es mb mt ms):=by
 obtain⟨i0,hi,bL,aY,bg⟩:=info_parts z7a;have b0:=(Below.refl w.heap.size w).alloc L9 (.cells #[.int .i64 kd,.int .i64 a,.int .i64 bb,.string s,.string t,.string u,.slice at_ nt ct] 26);have dq:(w.alloc (.cells #[.int .i64 kd,.int .i64 a,.int .i64 bb,.string s,.string t,.string u,.slice at_ nt ct] 26)).heap[w.heap.size]?=_:=heap_alloc_new w _;have hP:=z4f (w.alloc (.cells #[.int .i64 kd,.int .i64 a,.int .i64 bb,.string s,.string t,.string u,.slice at_ nt ct] 26)) s hs;rw[ybf] at hP;have aH:=h.lt;go_enter Tryz.func48,Tryz.ntmps48;go_wp2_with fail;refine hP.mono ?_;rintro e w1 ⟨aL,aX,kY⟩;have dP:=(aL.block w.heap.size (by simp)).trans dq;obtain⟨x3,ER⟩:=zB dP 3;have GK:=aL.size;have A0:=GK;rw[World.size_alloc] at GK;have gz:=b0.trans (aL.mono (by simp));clear hP dq aL b0
 cases hr:(yY s).1 with
 | false=>
  have he:=aX hr;subst he;clear aX kY A0;go_wp2_with fail;refine (zu1 s w1).mono ?_;rintro e w2 ⟨y,rfl,hy,aK⟩;have YV:y=none:=by rw[hr] at hy;cases y with | none=>rfl | some _=>cases hy
  subst YV;have HB:=zC (gz.trans (aK.mono (by omega)));have HH:=zC h;clear aK gz x3 ER hy dP h;go_wp2_with fail;go_ret;exact⟨rfl,bz,es,(zA HH).below (zA HB),Nat.le_refl _,Nat.le_succ _,(λ h=>by rw[hr] at h;cases h),(zK.refl _ _).ak (zA HB)⟩
 | true=>
  obtain⟨pb,rs,he,QK,AL⟩:=kY hr;subst he;have Wq:=zC QK;have DX:=zC AL;have MO:=zC A0;clear aX kY QK AL A0;go_wp2_with fail;refine (zjx s w1).mono ?_;rintro e w2 ⟨y,rfl,hy,aK,oM⟩;obtain⟨ya,rfl⟩:∃ ya,y=some ya:=by rw[hr] at hy;cases y with | none=>cases hy | some z=>exact⟨z,rfl⟩
  obtain⟨yb,rfl,zz⟩:=yax (w:=w) hr (zA Wq) (zA DX) (by simp) (zA MO) aK oM;have mM:=(aK.block w.heap.size (by omega)).trans dP;have YW:=aK.size;have lu:=gz.trans (aK.mono (by omega));have h2:=h.below lu;have aB:=h2.row;obtain⟨ap,cp,rfl⟩:=zD aB;have hblk:=h2.bp;obtain⟨y3,RJ⟩:=zB mM 3;obtain⟨p0,Cj⟩:=zB hblk 0;have uZ:=h2.lt;have s1:Hid (((w2.alloc (Obj.cells #[.pointer (some ⟨pb,0,none⟩),.pointer (some ⟨yb,0,none⟩),.string s] 112)).drew).ownsRow (b+1) 112 3 (.slice ap es.length cp) es.length (es.flatMap PE.cells)):=aB.alloc _;have s2:Hid (∀ j u,([Value.pointer (some ⟨pb,0,none⟩),.pointer (some ⟨yb,0,none⟩),.string s]:V8)[j]?=some u->((w2.alloc (Obj.cells #[.pointer (some ⟨pb,0,none⟩),.pointer (some ⟨yb,0,none⟩),.string s] 112)).drew).cell? ((⟨w2.heap.size,0,none⟩:Addr).add j)=some u):=World.news_of_block (heap_alloc_new w2 _);have s3:Hid (∀ u∈([Value.pointer (some ⟨pb,0,none⟩),.pointer (some ⟨yb,0,none⟩),.string s]:V8),u.oneCell'=true):=by
   show ∀ u∈_,_
   intro u hu;simp at hu;rcases hu with rfl | rfl | rfl <;> rfl
  have s4:Hid (es.length+1<=maxLen):=by show _<=_;unfold maxLen;omega
  have s5:Hid ((es.length+1)*32<=140737488355328):=hn;have s6:Hid (b+1<=((w2.alloc (Obj.cells #[.pointer (some ⟨pb,0,none⟩),.pointer (some ⟨yb,0,none⟩),.string s] 112)).drew).heap.size):=by show _<=_;simp;omega
  have s8:=zC (λ (w5:W8) (g cap:Nat) (hg:((w2.alloc (Obj.cells #[.pointer (some ⟨pb,0,none⟩),.pointer (some ⟨yb,0,none⟩),.string s] 112)).drew).grownBy w5 (Value.slice ap es.length cp).ownBlock) (ay:w5.ownsRow (b+1) 112 3 (.slice (some ⟨g,0,none⟩) (es.length+1) cap) (es.length+1) (es.flatMap PE.cells++[Value.pointer (some ⟨pb,0,none⟩),.pointer (some ⟨yb,0,none⟩),.string s])) (du:(Value.slice ap es.length cp).ownBlock=some g\/g=((w2.alloc (Obj.cells #[.pointer (some ⟨pb,0,none⟩),.pointer (some ⟨yb,0,none⟩),.string s] 112)).drew).heap.size)=>LW.O6 (W:=(w2.alloc (Obj.cells #[.pointer (some ⟨pb,0,none⟩),.pointer (some ⟨yb,0,none⟩),.string s] 112)).drew) (p:=⟨pb,yb,s⟩) h lu zz (((zK.refl [] w2).alloc _).drew) hg ay (du.imp (λ e=>e.symm) (λ e=>yda e)));have HB:=zC lu;clear aK gz x3 ER hy dP h mM h2 aB hblk lu zz oM;go_wp2_with fail
  go_region_law (refine step_append_lies _ rfl (.tmp 46) (.tmp 52) 62 rfl (b+1) 112 i0 (.agg #[.pointer none,.pointer none,.string { data:=#[] }]) 3 32 Tryz.underlying62 hi bL aY bg rfl (by decide) (Value.slice ap es.length cp) es.length (es.flatMap PE.cells) (by simp[Act.eval]) (zA s1) ⟨w2.heap.size,0,none⟩ 1 1 [Value.pointer (some ⟨pb,0,none⟩),.pointer (some ⟨yb,0,none⟩),.string s] (by simp[Act.eval]) rfl (zA s2) (zA s3) (by decide) (zA s4) (zA s5) (zA s6) _ rfl ?_;intro g cap w5 aq aU bW hlt5;obtain⟨e1,e2,e3⟩:=zA s8 w5 g cap aU aq bW;obtain⟨z0,na⟩:=zB e3 0)
  all_goals
   clear s1 s2 s3 s4 s5 s6 s8;go_wp2_with fail;go_ret;exact⟨rfl,_,_,e1,by simp,by simp,λ _=>by simp,e2⟩
end
section
open Go.RowKit
structure OpV where
 kd:Int
 a:Int
 b:Int
 s:B8
 t:B8
 u:B8
 at_:O8
 nt:Nat
 ct:Nat
structure H7 (w:W8)(sa:O8)(len:Nat)(O:Nat->OpV):Prop where
 el:∀ i,i<len->∃ g off,sa=some ⟨g,off,none⟩/\g<w.heap.size/\w.cell? ⟨g,off+i*7,none⟩=some (.int .i64 (O i).kd)/\w.cell? ⟨g,off+i*7+1,none⟩=some (.int .i64 (O i).a)/\w.cell? ⟨g,off+i*7+2,none⟩=some (.int .i64 (O i).b)/\w.cell? ⟨g,off+i*7+3,none⟩=some (.string (O i).s)/\w.cell? ⟨g,off+i*7+4,none⟩=some (.string (O i).t)/\w.cell? ⟨g,off+i*7+5,none⟩=some (.string (O i).u)/\w.cell? ⟨g,off+i*7+6,none⟩=some (.slice (O i).at_ (O i).nt (O i).ct)/\(O i).s.size<=maxLen
theorem H7.below {w w1:W8}{sa:O8}{len:Nat}{O:Nat->OpV}(h:H7 w sa len O)(hb:Below w.heap.size w w1):H7 w1 sa len O:=
 ⟨λ i hi=>by
  obtain⟨g,off,h1,h2,c0,c1,c2,c3,c4,c5,c6,h3⟩:=h.el i hi;have hz:=hb.size;refine⟨g,off,h1,by omega,?_,?_,?_,?_,?_,?_,?_,h3⟩
  all_goals (rw[hb.cell (by simpa using h2)];assumption)⟩
def zv4:B8:={ data:=#[101,100,103,101,40,97,44,98,41,46,32,101,100,103,101,40,98,44,99,41,46,32,112,97,116,104,40,88,44,89,41,32,58,45,32,101,100,103,101,40,88,44,89,41,46,32,112,97,116,104,40,88,44,90,41,32,58,45,32,101,100,103,101,40,88,44,89,41,44,32,112,97,116,104,40,89,44,90,41,46,32,102,97,114,40,88,41,32,58,45,32,112,97,116,104,40,97,44,88,41,44,32,110,111,116,32,101,100,103,101,40,97,44,88,41,46] }
theorem yec:(yY zv4).1=true:=by decide +kernel
theorem yaz:zv4.size<=maxLen:=by decide +kernel
end
section
open Go.RowKit
theorem LW.O5 {w w':W8}{b:Nat}{bz bv tv sv nC:Value}{es:List PE}{mb mt ms xw:List MB}(h:LW w b bz bv tv sv es mb mt ms)(K:zK (b::bv.ownBlock.toList) w w')(hblk:w'.heap[b]?=some (.cells #[bz,nC,tv,sv] 69 (0,0)))(Ks:jS w' (b+1) 115 5 iI nC xw)(Nq:∀ g∈nC.ownBlock.toList,g∈bv.ownBlock.toList\/w.heap.size<=g):LW w' b bz nC tv sv es xw mt ms/\zK (chg b bz bv tv sv) w w':=by
 have sub:∀ x∈b::bv.ownBlock.toList,x∈chg b bz bv tv sv:=λ x hx=>by
  rcases List.mem_cons.1 hx with rfl | hx
  ·exact List.mem_cons_self
  ·exact List.mem_cons_of_mem _ (by simp only[List.mem_append];exact .inl (.inl (.inr hx)))
 have nt:∀ (e:TypeId),69≠e->115≠e->∀ x∈b::bv.ownBlock.toList,dW w e x:=λ e e0 e1 x hx=>by
  rcases List.mem_cons.1 hx with rfl | hx
  ·exact zds h.bp e0
  ·exact yH h.bs.row e1 x hx
 have DA:∀ c∈chg b bz nC tv sv,c∈chg b bz bv tv sv\/w.heap.size<=c:=λ c hc=>by
  rcases List.mem_cons.1 hc with rfl | hc
  ·exact .inl List.mem_cons_self
  ·simp only[List.mem_append] at hc;have rest:c∈bz.ownBlock.toList\/c∈tv.ownBlock.toList\/c∈sv.ownBlock.toList->c∈chg b bz bv tv sv:=λ hr=>List.mem_cons_of_mem _ (by simp only[List.mem_append];rcases hr with hr | hr | hr <;> simp[hr])
   rcases hc with ((hc | hc) | hc) | hc
   ·exact .inl (rest (.inl hc))
   ·exact (Nq c hc).imp (λ hm=>sub c (List.mem_cons_of_mem _ hm)) id
   ·exact .inl (rest (.inr (.inl hc)))
   ·exact .inl (rest (.inr (.inr hc)))
 exact⟨⟨hblk,xF h.row K (λ x hx=>.inr (nt _ (by decide) (by decide) x hx)),λ p hp=>(h.Ia p hp).step K (λ d hd=>.inl (sub d hd)) DA,Ks,h.ts.kept K (λ x hx=>.inr (nt _ (by decide) (by decide) x hx)) (λ x hx=>.inl (nt _ (by decide) (by decide) x hx)),h.ss.kept K (λ x hx=>.inr (nt _ (by decide) (by decide) x hx)) (λ x hx=>.inl (nt _ (by decide) (by decide) x hx))⟩,K.mono λ x hx=>.inl (sub x hx)⟩
end
end Go.Proofs.YtldkpahaocjdpaaGreat
