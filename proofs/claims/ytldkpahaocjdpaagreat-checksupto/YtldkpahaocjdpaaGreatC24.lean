/-
  The reference's Load: at every text the answer is the plain text's (refLoad); it ends, and no old memory has turned.
-/
import Derived.Test.YtldkpahaocjdpaaGreatC23
set_option maxHeartbeats 16000000
set_option maxRecDepth 1000000
namespace Go.Proofs.YtldkpahaocjdpaaGreat
section
open Go.RowKit
theorem z3t:(Tryz.prog.info? 246).map (λ i=>(i.zero,i.size,i.bytes))=some (some (.agg #[.string { data:=#[] },.slice none 0 0,.bool false,.int .i64 0,.int .i64 0,.slice none 0 0]),6,88):=by kernel_rfl
structure FY (w:W8)(b o:Nat)(s:B8)(rs:List RR)(p:Nat)(bd:Int)(rv:Value)(wr:W8):Prop where
 b9:ib wr b s p bd
 hp:p<=s.size
 mem:oS wr o rs [] [] rv (.slice none 0 0) (.slice none 0 0) (.slice none 0 0)
 bo:b<o
 bw:w.heap.size<=b
 below:Below w.heap.size w wr
 gH:∀ r∈rs,r.R.body.length<=4
variable {w1 w:W8} {s:B8}
theorem FY.call {b o:Nat}{rs:List RR}{p:Nat}{bd:Int}{rv:Value}{wr:W8}{p':Nat}{E1:Int}(h:FY w b o s rs p bd rv wr)(k:zN [b] wr w1)(hp:ib w1 b s p' E1)(hl:p'<=s.size):FY w b o s rs p' E1 rv w1:=
 have h1:=h.bo;have h2:=h.bw
 ⟨hp,hl,h.mem.kept k (by simp;omega),h.bo,h.bw,h.below.trans ⟨k.os,k.tape,k.output,k.size,λ i hi=>k.block i (Nat.lt_of_lt_of_le hi h.below.size) (by simp;omega)⟩,h.gH⟩
theorem z3v (aM:Below (w.alloc (Obj.cells #[.string s,.int .u8 0,.string { data:=#[] },.int .i64 0,.int .i64 0,.int .i64 (-1)] 235)).heap.size (w.alloc (Obj.cells #[.string s,.int .u8 0,.string { data:=#[] },.int .i64 0,.int .i64 0,.int .i64 (-1)] 235)) w1):
  FY w w.heap.size w1.heap.size s [] 0 (-1) (.slice none 0 0) (((((w1.setCell ⟨w.heap.size,1,none⟩ (.int .u8 (tok s 0).kind)).setCell ⟨w.heap.size,2,none⟩ (.string (tok s 0).text)).setCell ⟨w.heap.size,3,none⟩ (.int .i64 (tok s 0).at_)).setCell ⟨w.heap.size,4,none⟩ (.int .i64 (tok s 0).to)).alloc (Obj.cells #[.slice none 0 0,.slice none 0 0,.slice none 0 0,.slice none 0 0] 240)):=by
 have hz:=aM.size;simp at hz;have x:∀ j,w1.cell? ⟨w.heap.size,j,none⟩=#[.string s,.int .u8 0,.string { data:=#[] },.int .i64 0,.int .i64 0,.int .i64 (-1)][j]?:=λ j=>(aM.cell (p:=⟨w.heap.size,j,none⟩) (by simp)).trans (by rw[World.cell?_alloc_at _ _ _ _ rfl])
 have xf:∀ j,w1.frozen? ⟨w.heap.size,j,none⟩=false:=λ j=>(aM.frozen (p:=⟨w.heap.size,j,none⟩) (by simp)).trans (by rw[World.frozen?_alloc_at _ _ _ _ rfl])
 have x0:w1.cell? ⟨w.heap.size,0,none⟩=some (.string s):=x 0;have x1:w1.cell? ⟨w.heap.size,1,none⟩=some (.int .u8 0):=x 1;have x2:w1.cell? ⟨w.heap.size,2,none⟩=some (.string { data:=#[] }):=x 2;have x3:w1.cell? ⟨w.heap.size,3,none⟩=some (.int .i64 0):=x 3;have x4:w1.cell? ⟨w.heap.size,4,none⟩=some (.int .i64 0):=x 4;have x5:w1.cell? ⟨w.heap.size,5,none⟩=some (.int .i64 (-1)):=x 5;clear x;have kk:=zj5 w1 w.heap.size (.int .u8 (tok s 0).kind) (.string (tok s 0).text) (.int .i64 (tok s 0).at_) (.int .i64 (tok s 0).to);have hp:ib ((((w1.setCell ⟨w.heap.size,1,none⟩ (.int .u8 (tok s 0).kind)).setCell ⟨w.heap.size,2,none⟩ (.string (tok s 0).text)).setCell ⟨w.heap.size,3,none⟩ (.int .i64 (tok s 0).at_)).setCell ⟨w.heap.size,4,none⟩ (.int .i64 (tok s 0).to)) w.heap.size s 0 (-1):=by
  refine⟨by simp;omega,?_,?_,?_,?_,?_,?_,?_⟩
  all_goals go_simp
 have nx:Below w.heap.size w w1:=(B9.alloc L9 _).trans (aM.mono (by simp));generalize hW:(((w1.setCell ⟨w.heap.size,1,none⟩ (.int .u8 (tok s 0).kind)).setCell ⟨w.heap.size,2,none⟩ (.string (tok s 0).text)).setCell ⟨w.heap.size,3,none⟩ (.int .i64 (tok s 0).at_)).setCell ⟨w.heap.size,4,none⟩ (.int .i64 (tok s 0).to)=W at *;have Xb:W.heap.size=w1.heap.size:=by rw[<-hW];simp
 refine⟨hp.kept ((zN.refl [] _).alloc _) (by simp),Nat.zero_le _,?_,by omega,Nat.le_refl _,?_,by simp⟩
 ·rw[<-Xb];refine⟨by simp,?_,?_,?_,?_,?_,World.ownsRow_nil _ _ _ _,by simp,World.ownsRow_nil _ _ _ _,World.ownsRow_nil _ _ _ _⟩
  all_goals first | (rw[World.cell?_alloc_at _ _ _ _ rfl];rfl) | (intro o;rw[World.frozen?_alloc_at _ _ _ _ rfl])
 ·have k1:Below w.heap.size w1 W:=⟨kk.os,kk.tape,kk.output,kk.size,λ i hi=>kk.block i (by omega) (by simp;omega)⟩;exact (nx.trans k1).alloc (by omega) _
theorem zl1 (w1:W8)(o:Obj)(r:RR):(((w1.alloc o).alloc (Obj.cells #[.string r.R.head.pred,r.hv,.bool r.R.head.no,.int .i64 r.R.head.at_,.int .i64 r.R.head.ak,r.bv] 246)).drew).heap[w1.heap.size+1]?=some (.cells #[.string r.R.head.pred,r.hv,.bool r.R.head.no,.int .i64 r.R.head.at_,.int .i64 r.R.head.ak,r.bv] 246 (0,0)):=by
 have:=heap_alloc_new (w1.alloc o) (Obj.cells #[.string r.R.head.pred,r.hv,.bool r.R.head.no,.int .i64 r.R.head.at_,.int .i64 r.R.head.ak,r.bv] 246);rw[World.size_alloc] at this;exact this
theorem z6b (R:zP)(a b:O8)(n m c d:Nat)(bs:List (zL × Value)):∀ u∈(RR.mk R (.slice a n c) bs (.slice b m d)).cells,u.oneCell'=true:=by
 intro u hu;simp[RR.cells] at hu;rcases hu with rfl | rfl | rfl | rfl | rfl | rfl <;> rfl
def zxv (s:B8)(w:W8)(y:O8)(w':W8):Prop:=∀ a,y=some a->∃ (o:Nat) (rs:List RR) (ps:P9) (rv pv tv:Value) (gs:Nat) (S:Nat->Nat),a=⟨o,0,none⟩/\w.heap.size<=o/\o<gs/\ziv w' o rs ps rv pv tv (.slice (some ⟨gs,0,none⟩) ps.length ps.length)/\nk w' gs ps.length S/\zdf ps (rs.map (·.R)) S/\Low ps (rs.map (·.R)) S/\rs.map (·.R)=(yO s).1/\ps=(yA s).2/\zd2 ps ((yO s).1.flatMap zP.atoms)
theorem Jm (s:B8)(w w':W8):zxv s w none w':=λ _ h=>by cases h
theorem zv0 (s:B8)(w:W8)(hs:s.size<=800):
  Calls Tryz.prog 79 #[.string s] w λ e w'=>∃ y:O8,e=.returned (.tuple #[.pointer y,.int .i64 (yH s).2.1,.int .i64 (yH s).2.2])/\y.isSome=(yH s).1/\Below w.heap.size w w'/\zxv s w y w':=by
 have cE:s.size<=maxLen:=by unfold maxLen;omega
 have Yy:(s.size:Int)<=800:=by omega
 obtain⟨i0,hi,cQ,cz,cx⟩:=info_parts z3t;go_enter Tryz.func79,Tryz.ntmps79;go_wp2_with fail;refine (zm6 s 0 (Nat.zero_le _) cE _).mono ?_;rintro e w1 ⟨rfl,aM⟩;obtain⟨r1,r2⟩:=zkd aM;have hz:w.heap.size<w1.heap.size:=by have:=aM.size;simp at this;omega
 have eN:=zC (z3v aM);go_wp2_with fail;clear r1 r2 aM
 go_loopg [7] 32 (λ gg r7 wr=>∃ (rs:List RR) (p:Nat) (bd:Int) (rv:Value),rs.length<=31/\(rs.length=31->0<=bd)/\gg=32-rs.length/\FY w w.heap.size w1.heap.size s rs p bd rv wr/\yO s=zbd s (31-(rs.map (·.R)).length) p bd (rs.map (·.R)))
 exact⟨[],0,-1,_,by simp,by simp,rfl,zA eN,rfl⟩
 case round=>
  clear eN;obtain⟨rs,p,bd,rv,Qp,Fm,dI,hinv,ax⟩:=hrel;have HF:=zC ax;clear ax;obtain⟨ar,eR,rfl⟩:=zD hinv.mem.rules;obtain⟨Ly,c0,c1,c2,c3,c4,c5,fz⟩:=hinv.b9;have gX:=hinv.bo
  cases hgo:zbb s p bd with
  | true=>
   have GQ:((tok s p).kind != 46)=true:=(by unfold zbb at hgo;simp at hgo;simpa using hgo.1);have cX:bd<0:=(by unfold zbb at hgo;simp at hgo;exact hgo.2);have Qo:rs.length<=30:=(by rcases Nat.lt_or_ge rs.length 31 with h1 | h1;omega;have:=Fm (by omega);omega);have aP:=(zA HF).trans (zwr s p bd (rs.map (·.R)) (by simpa using Qo) hgo);rw[List.length_map] at aP;have az:=zC aP;have d0:=hinv.mem.c0;have AL:=hinv.mem.lt;have Qs:(rs.length:Int)<=30:=(by omega);clear HF aP hgo Qp Fm
   by_cases t30:rs.length=30
   ·have tb:zE s p bd rs.length=zab s p bd:=(by simp[zE,t30]);have RQ:((rs.length:Int)==30)=true:=(by simp;omega);have TB:=zC tb;clear tb t30;go_wp2_with fail;refine (zai s p bd w.heap.size _ hinv.b9).mono ?_;rintro e w0 ⟨rfl,iW,lp⟩;rw[<-zA TB] at lp;have aK:=hinv.call iW lp hinv.hp;clear iW lp c0 c1 c2 c3 c4 c5 fz hinv d0;go_wp2_with fail;refine (zuc s p (zE s p bd rs.length) w.heap.size _ aK.b9 aK.hp cE).mono ?_;rintro e w3 ⟨hv,bs,bv,rfl,mf,rH,nR,kV⟩;obtain⟨ah,ch,BK⟩:=zD kV.hd;obtain⟨ab,cb,kN⟩:=zD kV.bo;generalize hnh:(zP.mk (zK s p (zE s p bd rs.length)) (jI s p (zE s p bd rs.length)).1).head.ae.length=nh at BK;generalize nc:bs.length=nb at kN;subst BK kN;have QW:=aK.mem.lt;have aY:=aK.call mf rH nR;have BL:j7 w3 (w1.heap.size+1) (qZ s p (zE s p bd rs.length)) (.slice ah nh ch) bs (.slice ab nb cb):=⟨zF kV.hd (by omega),zF kV.bo (by omega),λ x hx=>zF (kV.bl x hx) (by omega),kV.eq⟩;have aB:=aY.mem.rules;have B6:=aY.mem.lt;have s1:Hid ((((w3.alloc (Obj.cells #[.string (zK s p (zE s p bd rs.length)).pred,.slice ah nh ch,.bool (zK s p (zE s p bd rs.length)).no,.int .i64 (zK s p (zE s p bd rs.length)).at_,.int .i64 (zK s p (zE s p bd rs.length)).ak,.slice ab nb cb] 246)).alloc (Obj.cells #[.string (zK s p (zE s p bd rs.length)).pred,.slice ah nh ch,.bool (zK s p (zE s p bd rs.length)).no,.int .i64 (zK s p (zE s p bd rs.length)).at_,.int .i64 (zK s p (zE s p bd rs.length)).ak,.slice ab nb cb] 246)).drew).ownsRow (w1.heap.size+1) 246 6 (.slice ar rs.length eR) rs.length (qM rs)):=(aB.alloc _).alloc _;have s2:Hid (∀ j u,([Value.string (zK s p (zE s p bd rs.length)).pred,.slice ah nh ch,.bool (zK s p (zE s p bd rs.length)).no,.int .i64 (zK s p (zE s p bd rs.length)).at_,.int .i64 (zK s p (zE s p bd rs.length)).ak,.slice ab nb cb]:V8)[j]?=some u->(((w3.alloc (Obj.cells #[.string (zK s p (zE s p bd rs.length)).pred,.slice ah nh ch,.bool (zK s p (zE s p bd rs.length)).no,.int .i64 (zK s p (zE s p bd rs.length)).at_,.int .i64 (zK s p (zE s p bd rs.length)).ak,.slice ab nb cb] 246)).alloc (Obj.cells #[.string (zK s p (zE s p bd rs.length)).pred,.slice ah nh ch,.bool (zK s p (zE s p bd rs.length)).no,.int .i64 (zK s p (zE s p bd rs.length)).at_,.int .i64 (zK s p (zE s p bd rs.length)).ak,.slice ab nb cb] 246)).drew).cell? ((⟨w3.heap.size+1,0,none⟩:Addr).add j)=some u):=World.news_of_block (zl1 w3 (Obj.cells #[.string (zK s p (zE s p bd rs.length)).pred,.slice ah nh ch,.bool (zK s p (zE s p bd rs.length)).no,.int .i64 (zK s p (zE s p bd rs.length)).at_,.int .i64 (zK s p (zE s p bd rs.length)).ak,.slice ab nb cb] 246) (RR.mk (qZ s p (zE s p bd rs.length)) (.slice ah nh ch) bs (.slice ab nb cb)))
    have s3:Hid (∀ u∈([Value.string (zK s p (zE s p bd rs.length)).pred,.slice ah nh ch,.bool (zK s p (zE s p bd rs.length)).no,.int .i64 (zK s p (zE s p bd rs.length)).at_,.int .i64 (zK s p (zE s p bd rs.length)).ak,.slice ab nb cb]:V8),u.oneCell'=true):=z6b (qZ s p (zE s p bd rs.length)) ah ab nh nb ch cb bs;have s4:Hid (rs.length+1<=maxLen):=(by show _<=_;unfold maxLen;omega);have s5:Hid ((rs.length+1)*88<=140737488355328):=(by show _<=_;omega);have s6:Hid (w1.heap.size+1<=(((w3.alloc (Obj.cells #[.string (zK s p (zE s p bd rs.length)).pred,.slice ah nh ch,.bool (zK s p (zE s p bd rs.length)).no,.int .i64 (zK s p (zE s p bd rs.length)).at_,.int .i64 (zK s p (zE s p bd rs.length)).ak,.slice ab nb cb] 246)).alloc (Obj.cells #[.string (zK s p (zE s p bd rs.length)).pred,.slice ah nh ch,.bool (zK s p (zE s p bd rs.length)).no,.int .i64 (zK s p (zE s p bd rs.length)).at_,.int .i64 (zK s p (zE s p bd rs.length)).ak,.slice ab nb cb] 246)).drew).heap.size):=(by show _<=_;simp;omega);have hW:∀ k,k<w3.heap.size->(((w3.alloc (Obj.cells #[.string (zK s p (zE s p bd rs.length)).pred,.slice ah nh ch,.bool (zK s p (zE s p bd rs.length)).no,.int .i64 (zK s p (zE s p bd rs.length)).at_,.int .i64 (zK s p (zE s p bd rs.length)).ak,.slice ab nb cb] 246)).alloc (Obj.cells #[.string (zK s p (zE s p bd rs.length)).pred,.slice ah nh ch,.bool (zK s p (zE s p bd rs.length)).no,.int .i64 (zK s p (zE s p bd rs.length)).at_,.int .i64 (zK s p (zE s p bd rs.length)).ak,.slice ab nb cb] 246)).drew).heap[k]?=w3.heap[k]?:=λ k hk=>(((zN.refl [] w3).alloc _).alloc _).block k hk (by simp)
    have hS:w3.heap.size<=(((w3.alloc (Obj.cells #[.string (zK s p (zE s p bd rs.length)).pred,.slice ah nh ch,.bool (zK s p (zE s p bd rs.length)).no,.int .i64 (zK s p (zE s p bd rs.length)).at_,.int .i64 (zK s p (zE s p bd rs.length)).ak,.slice ab nb cb] 246)).alloc (Obj.cells #[.string (zK s p (zE s p bd rs.length)).pred,.slice ah nh ch,.bool (zK s p (zE s p bd rs.length)).no,.int .i64 (zK s p (zE s p bd rs.length)).at_,.int .i64 (zK s p (zE s p bd rs.length)).ak,.slice ab nb cb] 246)).drew).heap.size:=(((zN.refl [] w3).alloc _).alloc _).size;have s7:Hid (∀ w5:W8,(((w3.alloc (Obj.cells #[.string (zK s p (zE s p bd rs.length)).pred,.slice ah nh ch,.bool (zK s p (zE s p bd rs.length)).no,.int .i64 (zK s p (zE s p bd rs.length)).at_,.int .i64 (zK s p (zE s p bd rs.length)).ak,.slice ab nb cb] 246)).alloc (Obj.cells #[.string (zK s p (zE s p bd rs.length)).pred,.slice ah nh ch,.bool (zK s p (zE s p bd rs.length)).no,.int .i64 (zK s p (zE s p bd rs.length)).at_,.int .i64 (zK s p (zE s p bd rs.length)).ak,.slice ab nb cb] 246)).drew).grownBy w5 (Value.slice ar rs.length eR).ownBlock->w5.cell? ⟨w1.heap.size,0,none⟩=some (.slice ar rs.length eR)/\w5.frozen? ⟨w1.heap.size,0,none⟩=false):=λ w5 hg=>
     have hb:=zeu hW hS aB hg B6
     ⟨(World.cell?_of_block hb).trans aY.mem.c0,(World.frozen?_of_block hb).trans (aY.mem.fz 0)⟩
    have s8:Hid (∀ (w5:W8) (g cap:Nat),(((w3.alloc (Obj.cells #[.string (zK s p (zE s p bd rs.length)).pred,.slice ah nh ch,.bool (zK s p (zE s p bd rs.length)).no,.int .i64 (zK s p (zE s p bd rs.length)).at_,.int .i64 (zK s p (zE s p bd rs.length)).ak,.slice ab nb cb] 246)).alloc (Obj.cells #[.string (zK s p (zE s p bd rs.length)).pred,.slice ah nh ch,.bool (zK s p (zE s p bd rs.length)).no,.int .i64 (zK s p (zE s p bd rs.length)).at_,.int .i64 (zK s p (zE s p bd rs.length)).ak,.slice ab nb cb] 246)).drew).grownBy w5 (Value.slice ar rs.length eR).ownBlock->w5.ownsRow (w1.heap.size+1) 246 6 (.slice (some ⟨g,0,none⟩) (rs.length+1) cap) (rs.length+1) (qM rs++[Value.string (zK s p (zE s p bd rs.length)).pred,.slice ah nh ch,.bool (zK s p (zE s p bd rs.length)).no,.int .i64 (zK s p (zE s p bd rs.length)).at_,.int .i64 (zK s p (zE s p bd rs.length)).ak,.slice ab nb cb])->FY w w.heap.size w1.heap.size s (rs++[(RR.mk (qZ s p (zE s p bd rs.length)) (.slice ah nh ch) bs (.slice ab nb cb))]) (zbi s p (zE s p bd rs.length)) (jG s p (zE s p bd rs.length)) (.slice (some ⟨g,0,none⟩) (rs.length+1) cap) (w5.setCell ⟨w1.heap.size,0,none⟩ (.slice (some ⟨g,0,none⟩) (rs.length+1) cap))):=λ w5 g cap hg aC=>by
     have eK:=zgw (j:=0) (u:=.slice (some ⟨g,0,none⟩) (rs.length+1) cap) hW hS rfl rfl rfl aB hg B6;have pc:=aY.bw;refine⟨?_,nR,aY.mem.tV hW hS hg BL aC,aY.bo,aY.bw,aY.below.trans (eK.mono (by omega)),λ r hr=>?_⟩
     ·exact aY.b9.kept (⟨eK.os,eK.tape,eK.output,eK.size,λ k hk hn=>by
       by_cases hko:k<w1.heap.size
       ·exact eK.block k hko
       ·exact absurd (List.mem_range'_1.2 ⟨by omega,by omega⟩) hn⟩:zN (List.range' w1.heap.size w3.heap.size) w3 _) (by intro hm;have:=(List.mem_range'_1.1 hm).1;omega)
     ·rcases List.mem_append.1 hr with hr | hr
      ·exact aY.gH r hr
      ·simp at hr;subst hr;exact zs9 s p _
    have x1:w3.cell? ⟨w1.heap.size,0,none⟩=some (.slice ar rs.length eR):=aY.mem.c0;have sg:Hid (rs.length=30->0<=jG s p (zE s p bd rs.length)):=λ e=>zl2 e
    clear hW hS aB kV BL mf rH aK aY hnh nc;unfold jU;go_wp2_with fail
    go_region_law (refine step_append_lies _ rfl (.tmp 55) (.tmp 57) 238 rfl (w1.heap.size+1) 246 i0 (.agg #[.string { data:=#[] },.slice none 0 0,.bool false,.int .i64 0,.int .i64 0,.slice none 0 0]) 6 88 Tryz.underlying238 hi cQ cz cx rfl (by decide) (.slice ar rs.length eR) rs.length (qM rs) (by simp[Act.eval]) (zA s1) ⟨w3.heap.size+1,0,none⟩ 1 1 [Value.string (zK s p (zE s p bd rs.length)).pred,.slice ah nh ch,.bool (zK s p (zE s p bd rs.length)).no,.int .i64 (zK s p (zE s p bd rs.length)).at_,.int .i64 (zK s p (zE s p bd rs.length)).ak,.slice ab nb cb] (by simp[Act.eval]) rfl (zA s2) (zA s3) (by decide) (zA s4) (zA s5) (zA s6) _ rfl ?_;intro g cap w5 aj aU cN hlt5;obtain⟨y1,y2⟩:=zA s7 w5 aU)
    all_goals
     go_wp2_with fail;go_roundg (32-(rs.length+1));exact⟨_,_,_,_,by simp;omega,λ e=>zA sg (by simp at e;omega),by simp,zA s8 w5 g cap aU aj,by rw[List.map_append];exact zA az⟩;omega
   ·have tb:zE s p bd rs.length=bd:=(by simp[zE,t30]);have RQ:((rs.length:Int)==30)=false:=(by simp;omega);have TB:=zC tb;clear tb t30;go_wp2_with fail;have aK:FY w w.heap.size w1.heap.size s rs p (zE s p bd rs.length) (.slice ar rs.length eR) wr:=(by rw[zA TB];exact hinv);clear c0 c1 c2 c3 c4 c5 fz hinv d0;refine (zuc s p (zE s p bd rs.length) w.heap.size _ aK.b9 aK.hp cE).mono ?_;rintro e w3 ⟨hv,bs,bv,rfl,mf,rH,nR,kV⟩;obtain⟨ah,ch,BK⟩:=zD kV.hd;obtain⟨ab,cb,kN⟩:=zD kV.bo;generalize hnh:(zP.mk (zK s p (zE s p bd rs.length)) (jI s p (zE s p bd rs.length)).1).head.ae.length=nh at BK;generalize nc:bs.length=nb at kN;subst BK kN;have QW:=aK.mem.lt;have aY:=aK.call mf rH nR;have BL:j7 w3 (w1.heap.size+1) (qZ s p (zE s p bd rs.length)) (.slice ah nh ch) bs (.slice ab nb cb):=⟨zF kV.hd (by omega),zF kV.bo (by omega),λ x hx=>zF (kV.bl x hx) (by omega),kV.eq⟩;have aB:=aY.mem.rules;have B6:=aY.mem.lt;have s1:Hid ((((w3.alloc (Obj.cells #[.string (zK s p (zE s p bd rs.length)).pred,.slice ah nh ch,.bool (zK s p (zE s p bd rs.length)).no,.int .i64 (zK s p (zE s p bd rs.length)).at_,.int .i64 (zK s p (zE s p bd rs.length)).ak,.slice ab nb cb] 246)).alloc (Obj.cells #[.string (zK s p (zE s p bd rs.length)).pred,.slice ah nh ch,.bool (zK s p (zE s p bd rs.length)).no,.int .i64 (zK s p (zE s p bd rs.length)).at_,.int .i64 (zK s p (zE s p bd rs.length)).ak,.slice ab nb cb] 246)).drew).ownsRow (w1.heap.size+1) 246 6 (.slice ar rs.length eR) rs.length (qM rs)):=(aB.alloc _).alloc _;have s2:Hid (∀ j u,([Value.string (zK s p (zE s p bd rs.length)).pred,.slice ah nh ch,.bool (zK s p (zE s p bd rs.length)).no,.int .i64 (zK s p (zE s p bd rs.length)).at_,.int .i64 (zK s p (zE s p bd rs.length)).ak,.slice ab nb cb]:V8)[j]?=some u->(((w3.alloc (Obj.cells #[.string (zK s p (zE s p bd rs.length)).pred,.slice ah nh ch,.bool (zK s p (zE s p bd rs.length)).no,.int .i64 (zK s p (zE s p bd rs.length)).at_,.int .i64 (zK s p (zE s p bd rs.length)).ak,.slice ab nb cb] 246)).alloc (Obj.cells #[.string (zK s p (zE s p bd rs.length)).pred,.slice ah nh ch,.bool (zK s p (zE s p bd rs.length)).no,.int .i64 (zK s p (zE s p bd rs.length)).at_,.int .i64 (zK s p (zE s p bd rs.length)).ak,.slice ab nb cb] 246)).drew).cell? ((⟨w3.heap.size+1,0,none⟩:Addr).add j)=some u):=World.news_of_block (zl1 w3 (Obj.cells #[.string (zK s p (zE s p bd rs.length)).pred,.slice ah nh ch,.bool (zK s p (zE s p bd rs.length)).no,.int .i64 (zK s p (zE s p bd rs.length)).at_,.int .i64 (zK s p (zE s p bd rs.length)).ak,.slice ab nb cb] 246) (RR.mk (qZ s p (zE s p bd rs.length)) (.slice ah nh ch) bs (.slice ab nb cb)))
    have s3:Hid (∀ u∈([Value.string (zK s p (zE s p bd rs.length)).pred,.slice ah nh ch,.bool (zK s p (zE s p bd rs.length)).no,.int .i64 (zK s p (zE s p bd rs.length)).at_,.int .i64 (zK s p (zE s p bd rs.length)).ak,.slice ab nb cb]:V8),u.oneCell'=true):=z6b (qZ s p (zE s p bd rs.length)) ah ab nh nb ch cb bs;have s4:Hid (rs.length+1<=maxLen):=(by show _<=_;unfold maxLen;omega);have s5:Hid ((rs.length+1)*88<=140737488355328):=(by show _<=_;omega);have s6:Hid (w1.heap.size+1<=(((w3.alloc (Obj.cells #[.string (zK s p (zE s p bd rs.length)).pred,.slice ah nh ch,.bool (zK s p (zE s p bd rs.length)).no,.int .i64 (zK s p (zE s p bd rs.length)).at_,.int .i64 (zK s p (zE s p bd rs.length)).ak,.slice ab nb cb] 246)).alloc (Obj.cells #[.string (zK s p (zE s p bd rs.length)).pred,.slice ah nh ch,.bool (zK s p (zE s p bd rs.length)).no,.int .i64 (zK s p (zE s p bd rs.length)).at_,.int .i64 (zK s p (zE s p bd rs.length)).ak,.slice ab nb cb] 246)).drew).heap.size):=(by show _<=_;simp;omega);have hW:∀ k,k<w3.heap.size->(((w3.alloc (Obj.cells #[.string (zK s p (zE s p bd rs.length)).pred,.slice ah nh ch,.bool (zK s p (zE s p bd rs.length)).no,.int .i64 (zK s p (zE s p bd rs.length)).at_,.int .i64 (zK s p (zE s p bd rs.length)).ak,.slice ab nb cb] 246)).alloc (Obj.cells #[.string (zK s p (zE s p bd rs.length)).pred,.slice ah nh ch,.bool (zK s p (zE s p bd rs.length)).no,.int .i64 (zK s p (zE s p bd rs.length)).at_,.int .i64 (zK s p (zE s p bd rs.length)).ak,.slice ab nb cb] 246)).drew).heap[k]?=w3.heap[k]?:=λ k hk=>(((zN.refl [] w3).alloc _).alloc _).block k hk (by simp)
    have hS:w3.heap.size<=(((w3.alloc (Obj.cells #[.string (zK s p (zE s p bd rs.length)).pred,.slice ah nh ch,.bool (zK s p (zE s p bd rs.length)).no,.int .i64 (zK s p (zE s p bd rs.length)).at_,.int .i64 (zK s p (zE s p bd rs.length)).ak,.slice ab nb cb] 246)).alloc (Obj.cells #[.string (zK s p (zE s p bd rs.length)).pred,.slice ah nh ch,.bool (zK s p (zE s p bd rs.length)).no,.int .i64 (zK s p (zE s p bd rs.length)).at_,.int .i64 (zK s p (zE s p bd rs.length)).ak,.slice ab nb cb] 246)).drew).heap.size:=(((zN.refl [] w3).alloc _).alloc _).size;have s7:Hid (∀ w5:W8,(((w3.alloc (Obj.cells #[.string (zK s p (zE s p bd rs.length)).pred,.slice ah nh ch,.bool (zK s p (zE s p bd rs.length)).no,.int .i64 (zK s p (zE s p bd rs.length)).at_,.int .i64 (zK s p (zE s p bd rs.length)).ak,.slice ab nb cb] 246)).alloc (Obj.cells #[.string (zK s p (zE s p bd rs.length)).pred,.slice ah nh ch,.bool (zK s p (zE s p bd rs.length)).no,.int .i64 (zK s p (zE s p bd rs.length)).at_,.int .i64 (zK s p (zE s p bd rs.length)).ak,.slice ab nb cb] 246)).drew).grownBy w5 (Value.slice ar rs.length eR).ownBlock->w5.cell? ⟨w1.heap.size,0,none⟩=some (.slice ar rs.length eR)/\w5.frozen? ⟨w1.heap.size,0,none⟩=false):=λ w5 hg=>
     have hb:=zeu hW hS aB hg B6
     ⟨(World.cell?_of_block hb).trans aY.mem.c0,(World.frozen?_of_block hb).trans (aY.mem.fz 0)⟩
    have s8:Hid (∀ (w5:W8) (g cap:Nat),(((w3.alloc (Obj.cells #[.string (zK s p (zE s p bd rs.length)).pred,.slice ah nh ch,.bool (zK s p (zE s p bd rs.length)).no,.int .i64 (zK s p (zE s p bd rs.length)).at_,.int .i64 (zK s p (zE s p bd rs.length)).ak,.slice ab nb cb] 246)).alloc (Obj.cells #[.string (zK s p (zE s p bd rs.length)).pred,.slice ah nh ch,.bool (zK s p (zE s p bd rs.length)).no,.int .i64 (zK s p (zE s p bd rs.length)).at_,.int .i64 (zK s p (zE s p bd rs.length)).ak,.slice ab nb cb] 246)).drew).grownBy w5 (Value.slice ar rs.length eR).ownBlock->w5.ownsRow (w1.heap.size+1) 246 6 (.slice (some ⟨g,0,none⟩) (rs.length+1) cap) (rs.length+1) (qM rs++[Value.string (zK s p (zE s p bd rs.length)).pred,.slice ah nh ch,.bool (zK s p (zE s p bd rs.length)).no,.int .i64 (zK s p (zE s p bd rs.length)).at_,.int .i64 (zK s p (zE s p bd rs.length)).ak,.slice ab nb cb])->FY w w.heap.size w1.heap.size s (rs++[(RR.mk (qZ s p (zE s p bd rs.length)) (.slice ah nh ch) bs (.slice ab nb cb))]) (zbi s p (zE s p bd rs.length)) (jG s p (zE s p bd rs.length)) (.slice (some ⟨g,0,none⟩) (rs.length+1) cap) (w5.setCell ⟨w1.heap.size,0,none⟩ (.slice (some ⟨g,0,none⟩) (rs.length+1) cap))):=λ w5 g cap hg aC=>by
     have eK:=zgw (j:=0) (u:=.slice (some ⟨g,0,none⟩) (rs.length+1) cap) hW hS rfl rfl rfl aB hg B6;have pc:=aY.bw;refine⟨?_,nR,aY.mem.tV hW hS hg BL aC,aY.bo,aY.bw,aY.below.trans (eK.mono (by omega)),λ r hr=>?_⟩
     ·exact aY.b9.kept (⟨eK.os,eK.tape,eK.output,eK.size,λ k hk hn=>by
       by_cases hko:k<w1.heap.size
       ·exact eK.block k hko
       ·exact absurd (List.mem_range'_1.2 ⟨by omega,by omega⟩) hn⟩:zN (List.range' w1.heap.size w3.heap.size) w3 _) (by intro hm;have:=(List.mem_range'_1.1 hm).1;omega)
     ·rcases List.mem_append.1 hr with hr | hr
      ·exact aY.gH r hr
      ·simp at hr;subst hr;exact zs9 s p _
    have x1:w3.cell? ⟨w1.heap.size,0,none⟩=some (.slice ar rs.length eR):=aY.mem.c0;have sg:Hid (rs.length=30->0<=jG s p (zE s p bd rs.length)):=λ e=>zl2 e
    clear hW hS aB kV BL mf rH aK aY hnh nc;unfold jU;go_wp2_with fail
    go_region_law (refine step_append_lies _ rfl (.tmp 55) (.tmp 57) 238 rfl (w1.heap.size+1) 246 i0 (.agg #[.string { data:=#[] },.slice none 0 0,.bool false,.int .i64 0,.int .i64 0,.slice none 0 0]) 6 88 Tryz.underlying238 hi cQ cz cx rfl (by decide) (.slice ar rs.length eR) rs.length (qM rs) (by simp[Act.eval]) (zA s1) ⟨w3.heap.size+1,0,none⟩ 1 1 [Value.string (zK s p (zE s p bd rs.length)).pred,.slice ah nh ch,.bool (zK s p (zE s p bd rs.length)).no,.int .i64 (zK s p (zE s p bd rs.length)).at_,.int .i64 (zK s p (zE s p bd rs.length)).ak,.slice ab nb cb] (by simp[Act.eval]) rfl (zA s2) (zA s3) (by decide) (zA s4) (zA s5) (zA s6) _ rfl ?_;intro g cap w5 aj aU cN hlt5;obtain⟨y1,y2⟩:=zA s7 w5 aU)
    all_goals
     go_wp2_with fail;go_roundg (32-(rs.length+1));exact⟨_,_,_,_,by simp;omega,λ e=>zA sg (by simp at e;omega),by simp,zA s8 w5 g cap aU aj,by rw[List.map_append];exact zA az⟩;omega
  | false=>
   have I5:yO s=(rs.map (·.R),p,bd):=(zA HF).trans (zqk s _ p bd _ hgo);have aT:¬ 800<s.size:=by omega
   by_cases cX:0<=bd
   ·have hR:yH s=(false,2,bd):=(by unfold yH;rw[if_neg aT,I5,if_pos cX]);have HR:=zC hR;clear HF hR I5
    by_cases GQ:((tok s p).kind != 46)=true
    ·go_wp2_with fail;go_quiet (fail)
     go_wp2
     go_ret3
     exact⟨none,by rw[zA HR];rfl,by rw[zA HR];rfl,below_drewN hinv.below _,Jm _ _ _⟩
    ·have Ls:((tok s p).kind != 46)=false:=(by simpa using GQ);clear GQ;go_wp2_with fail;go_quiet (fail)
     go_wp2
     go_ret3
     exact⟨none,by rw[zA HR];rfl,by rw[zA HR];rfl,below_drewN hinv.below _,Jm _ _ _⟩
   ·have Ls:((tok s p).kind != 46)=false:=by
     unfold zbb at hgo
     cases hk:(tok s p).kind != 46 with
     | false=>rfl
     | true=>rw[hk] at hgo;simp at hgo;omega
    have eS:(yR rs).length<=1000:=(by have:=zyf rs hinv.gH;omega);have Gw:yR rs=(yO s).1.flatMap zP.atoms:=(by rw[I5];exact zju rs);have Q8:yA s=yV (yR rs) []:=(by unfold yA;rw[Gw]);have TC:yH s=if 0<=(yV (yR rs) []).1 then (false,3,(yV (yR rs) []).1) else if 0<=xB (rs.map (·.R)) then (false,4,xB (rs.map (·.R))) else if 0<=vL (yV (yR rs) []).2 (vF (yV (yR rs) []).2 (rs.map (·.R))) (rs.map (·.R)) then (false,5,vL (yV (yR rs) []).2 (vF (yV (yR rs) []).2 (rs.map (·.R))) (rs.map (·.R))) else (true,0,0):=by
     unfold yH;rw[if_neg aT,Q8,I5,if_neg cX]
    have zh:=zC TC;have bh:=z31 (yR rs) [];have KJ:=zdh (yR rs);have Sg:=zC KJ;have b8:(yV (yR rs) []).2.length<=1000:=(by simp at bh;omega);have HB:=zC hinv.below;have VM:=zC hinv.mem;have pc:=hinv.bw;have Xd:bd<0:=(by omega);have Jr:=zC (zju rs);have V0:=zC (show rs.map (·.R)=(yO s).1 by rw[I5]);have VX:=zC (show (yV (yR rs) []).2=(yA s).2 by rw[Q8]);have Of:=zC Gw;clear HF I5 Gw Q8 TC bh KJ hgo cX aT hinv;go_wp2_with fail;refine (zx9 wr w1.heap.size rs _ _ _ _ (zA VM) eS).mono ?_;rintro e w2 ⟨rfl,NZ,Je,il,aH⟩;clear c0 c1 c2 c3 c4 c5 fz;generalize (yV (yR rs) []).1=n1 at *;generalize (yV (yR rs) []).2=ps at *
    by_cases tN:0<=n1
    ·have Av:=zC ((zA zh).trans (if_pos tN));clear zh;go_wp2_with fail
     go_ret3
     exact⟨none,by rw[zA Av];rfl,by rw[zA Av];rfl,(zA HB).trans (aH.mono (by omega)),Jm _ _ _⟩
    ·have Av:=zC ((zA zh).trans (if_neg tN));have aL:=zA Sg (by omega);have cY:=zC aL;have QO:n1<0:=(by omega);clear zh tN Sg;go_wp2_with fail;refine (zxa w2 w1.heap.size rs ps ps _ _ _ _ il).mono ?_;rintro e w3 ⟨rfl,eG⟩;have kP:=il.kept ((zN.refl [] _).ai eG) (by simp);have lU:Below w.heap.size w w3:=((zA HB).trans (aH.mono (by omega))).trans (eG.mono (by have:=(zA HB).size;have:=aH.size;omega));clear il aH eG HB
     by_cases uC:0<=xB (rs.map (·.R))
     ·have rU:=zC ((zA Av).trans (if_pos uC));clear Av;go_wp2_with fail
      go_ret3
      exact⟨none,by rw[zA rU];rfl,by rw[zA rU];rfl,lU,Jm _ _ _⟩
     ·have rU:=zC ((zA Av).trans (if_neg uC));have Ye:xB (rs.map (·.R))<0:=(by omega);clear Av uC;go_wp2_with fail;refine (zyv w3 w1.heap.size rs ps _ _ _ _ kP b8 (zA cY)).mono ?_;rintro e w4 ⟨rfl,cM⟩;have yg:=kP.kept ((zN.refl [] _).ai cM) (by simp);have dT:Below w.heap.size w w4:=lU.trans (cM.mono (by have:=lU.size;omega));clear kP cM
      by_cases Df:0<=vL ps (vF ps (rs.map (·.R))) (rs.map (·.R))
      ·have DG:=zC ((zA rU).trans (if_pos Df));clear rU;go_wp2_with fail
       go_ret3
       exact⟨none,by rw[zA DG];rfl,by rw[zA DG];rfl,dT,Jm _ _ _⟩
      ·have DG:=zC ((zA rU).trans (if_neg Df));obtain⟨f0,sS,nO⟩:=zfm ps (rs.map (·.R)) (by rw[<-zA Jr];exact zA cY) Df;have Yf:vL ps (vF ps (rs.map (·.R))) (rs.map (·.R))<0:=(by omega);have F6:=zC sS;have Dy:=zC nO;clear rU Df sS nO;go_wp2_with fail;refine (zzr w4 w1.heap.size rs ps _ _ _ _ yg b8 (zA cY) f0 (zA F6) (λ i=>Nat.le_trans (zA Dy i) b8)).mono ?_;rintro e w5 ⟨rfl,S,zz,I7,Aj,Qy,eH⟩;have QC:=yg.lt;go_wp2_with fail
       go_ret3
       refine⟨some ⟨w1.heap.size,0,none⟩,by rw[zA DG];rfl,by rw[zA DG];rfl,dT.trans (eH.mono (by omega)),λ a ha=>?_⟩;injection ha with ha
       subst ha;exact⟨_,rs,ps,_,_,_,_,S,rfl,by omega,QC,zz,I7,Aj,Qy,zA V0,zA VX,by rw[<-zA Of];exact zA cY⟩
theorem zz0 (s:B8)(w:W8)(hs:800<s.size):
  Calls Tryz.prog 79 #[.string s] w λ e w'=>∃ y:O8,e=.returned (.tuple #[.pointer y,.int .i64 (yH s).2.1,.int .i64 (yH s).2.2])/\y.isSome=(yH s).1/\Below w.heap.size w w'/\zxv s w y w':=by
 have Yy:(800:Int)<s.size:=by omega
 have hR:yH s=(false,1,0):=by unfold yH;rw[if_pos hs]
 have HR:=zC hR;clear hR;go_enter Tryz.func79,Tryz.ntmps79
 go_wp2
 go_ret3
 exact⟨none,by rw[zA HR];rfl,by rw[zA HR];rfl,Below.refl _ _,Jm _ _ _⟩
theorem zej (s:B8)(w:W8):
  Calls Tryz.prog 79 #[.string s] w λ e w'=>∃ y:O8,e=.returned (.tuple #[.pointer y,.int .i64 (yH s).2.1,.int .i64 (yH s).2.2])/\y.isSome=(yH s).1/\Below w.heap.size w w'/\zxv s w y w':=by
 rcases Nat.lt_or_ge 800 s.size with h | h
 ·exact zz0 s w h
 ·exact zv0 s w h
theorem zsh (s:B8)(w:W8):
  Calls Tryz.prog 79 #[.string s] w λ e w'=>∃ y:O8,e=.returned (.tuple #[.pointer y,.int .i64 (yH s).2.1,.int .i64 (yH s).2.2])/\y.isSome=(yH s).1/\Below w.heap.size w w':=by
 refine (zej s w).mono ?_;rintro e w' ⟨y,h1,h2,h3,_⟩;exact⟨y,h1,h2,h3⟩
end
end Go.Proofs.YtldkpahaocjdpaaGreat
