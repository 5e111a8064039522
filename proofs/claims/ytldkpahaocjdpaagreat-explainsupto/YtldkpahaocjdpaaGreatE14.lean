/-
  The reference's Load: at every text the answer is the plain text's (refLoad); it ends, and no old memory has turned.
-/
import Derived.Test.YtldkpahaocjdpaaGreatE13
set_option maxHeartbeats 16000000
set_option maxRecDepth 1000000
namespace Go.Proofs.YtldkpahaocjdpaaGreat
section
open Go.RowKit
theorem z8g:(Tryz.prog.info? 246).map (λ i=>(i.zero,i.size,i.bytes))=some (some (.agg #[.string { data:=#[] },.slice none 0 0,.bool false,.int .i64 0,.int .i64 0,.slice none 0 0]),6,88):=by kernel_rfl
structure EK (w:W8)(b o:Nat)(s:B8)(rs:List RR)(p:Nat)(bd:Int)(rv:Value)(wr:W8):Prop where
 bp:dR wr b s p bd
 hp:p<=s.size
 mem:mu wr o rs [] [] rv (.slice none 0 0) (.slice none 0 0) (.slice none 0 0)
 bo:b<o
 bw:w.heap.size<=b
 below:Below w.heap.size w wr
 eJ:∀ r∈rs,r.R.body.length<=4
variable {w1 w:W8} {s:B8}
theorem EK.call {b o:Nat}{rs:List RR}{p:Nat}{bd:Int}{rv:Value}{wr:W8}{p':Nat}{Eg:Int}(h:EK w b o s rs p bd rv wr)(k:zK [b] wr w1)(hp:dR w1 b s p' Eg)(hl:p'<=s.size):EK w b o s rs p' Eg rv w1:=
 have h1:=h.bo;have h2:=h.bw
 ⟨hp,hl,h.mem.kept k (by simp;omega),h.bo,h.bw,h.below.trans ⟨k.os,k.tape,k.output,k.size,λ i hi=>k.block i (Nat.lt_of_lt_of_le hi h.below.size) (by simp;omega)⟩,h.eJ⟩
theorem z83 (aL:Below (w.alloc (Obj.cells #[.string s,.int .u8 0,.string { data:=#[] },.int .i64 0,.int .i64 0,.int .i64 (-1)] 235)).heap.size (w.alloc (Obj.cells #[.string s,.int .u8 0,.string { data:=#[] },.int .i64 0,.int .i64 0,.int .i64 (-1)] 235)) w1):
  EK w w.heap.size w1.heap.size s [] 0 (-1) (.slice none 0 0) (((((w1.setCell ⟨w.heap.size,1,none⟩ (.int .u8 (tok s 0).kind)).setCell ⟨w.heap.size,2,none⟩ (.string (tok s 0).text)).setCell ⟨w.heap.size,3,none⟩ (.int .i64 (tok s 0).at_)).setCell ⟨w.heap.size,4,none⟩ (.int .i64 (tok s 0).to)).alloc (Obj.cells #[.slice none 0 0,.slice none 0 0,.slice none 0 0,.slice none 0 0] 240)):=by
 have hz:=aL.size;simp at hz;have x:∀ j,w1.cell? ⟨w.heap.size,j,none⟩=#[.string s,.int .u8 0,.string { data:=#[] },.int .i64 0,.int .i64 0,.int .i64 (-1)][j]?:=λ j=>(aL.cell (p:=⟨w.heap.size,j,none⟩) (by simp)).trans (by rw[World.cell?_alloc_at _ _ _ _ rfl])
 have xf:∀ j,w1.frozen? ⟨w.heap.size,j,none⟩=false:=λ j=>(aL.frozen (p:=⟨w.heap.size,j,none⟩) (by simp)).trans (by rw[World.frozen?_alloc_at _ _ _ _ rfl])
 have x0:w1.cell? ⟨w.heap.size,0,none⟩=some (.string s):=x 0;have x1:w1.cell? ⟨w.heap.size,1,none⟩=some (.int .u8 0):=x 1;have x2:w1.cell? ⟨w.heap.size,2,none⟩=some (.string { data:=#[] }):=x 2;have x3:w1.cell? ⟨w.heap.size,3,none⟩=some (.int .i64 0):=x 3;have x4:w1.cell? ⟨w.heap.size,4,none⟩=some (.int .i64 0):=x 4;have x5:w1.cell? ⟨w.heap.size,5,none⟩=some (.int .i64 (-1)):=x 5;clear x;have kk:=zmn w1 w.heap.size (.int .u8 (tok s 0).kind) (.string (tok s 0).text) (.int .i64 (tok s 0).at_) (.int .i64 (tok s 0).to);have hp:dR ((((w1.setCell ⟨w.heap.size,1,none⟩ (.int .u8 (tok s 0).kind)).setCell ⟨w.heap.size,2,none⟩ (.string (tok s 0).text)).setCell ⟨w.heap.size,3,none⟩ (.int .i64 (tok s 0).at_)).setCell ⟨w.heap.size,4,none⟩ (.int .i64 (tok s 0).to)) w.heap.size s 0 (-1):=by
  refine⟨by simp;omega,?_,?_,?_,?_,?_,?_,?_⟩
  all_goals go_simp
 have my:Below w.heap.size w w1:=(B9.alloc L9 _).trans (aL.mono (by simp));generalize hW:(((w1.setCell ⟨w.heap.size,1,none⟩ (.int .u8 (tok s 0).kind)).setCell ⟨w.heap.size,2,none⟩ (.string (tok s 0).text)).setCell ⟨w.heap.size,3,none⟩ (.int .i64 (tok s 0).at_)).setCell ⟨w.heap.size,4,none⟩ (.int .i64 (tok s 0).to)=W at *;have Yo:W.heap.size=w1.heap.size:=by rw[<-hW];simp
 refine⟨hp.kept ((zK.refl [] _).alloc _) (by simp),Nat.zero_le _,?_,by omega,Nat.le_refl _,?_,by simp⟩
 ·rw[<-Yo];refine⟨by simp,?_,?_,?_,?_,?_,World.ownsRow_nil _ _ _ _,by simp,World.ownsRow_nil _ _ _ _,World.ownsRow_nil _ _ _ _⟩
  all_goals first | (rw[World.cell?_alloc_at _ _ _ _ rfl];rfl) | (intro o;rw[World.frozen?_alloc_at _ _ _ _ rfl])
 ·have k1:Below w.heap.size w1 W:=⟨kk.os,kk.tape,kk.output,kk.size,λ i hi=>kk.block i (by omega) (by simp;omega)⟩;exact (my.trans k1).alloc (by omega) _
theorem znu (w1:W8)(o:Obj)(r:RR):(((w1.alloc o).alloc (Obj.cells #[.string r.R.head.pred,r.hv,.bool r.R.head.no,.int .i64 r.R.head.at_,.int .i64 r.R.head.az,r.bv] 246)).drew).heap[w1.heap.size+1]?=some (.cells #[.string r.R.head.pred,r.hv,.bool r.R.head.no,.int .i64 r.R.head.at_,.int .i64 r.R.head.az,r.bv] 246 (0,0)):=by
 have:=heap_alloc_new (w1.alloc o) (Obj.cells #[.string r.R.head.pred,r.hv,.bool r.R.head.no,.int .i64 r.R.head.at_,.int .i64 r.R.head.az,r.bv] 246);rw[World.size_alloc] at this;exact this
theorem z9m (R:zS)(a b:O8)(n m c d:Nat)(bs:List (zL × Value)):∀ u∈(RR.mk R (.slice a n c) bs (.slice b m d)).cells,u.oneCell'=true:=by
 intro u hu;simp[RR.cells] at hu;rcases hu with rfl | rfl | rfl | rfl | rfl | rfl <;> rfl
def z5u (s:B8)(w:W8)(y:O8)(w':W8):Prop:=∀ a,y=some a->∃ (o:Nat) (rs:List RR) (ps:P9) (rv pv tv:Value) (gs:Nat) (S:Nat->Nat),a=⟨o,0,none⟩/\w.heap.size<=o/\o<gs/\zok w' o rs ps rv pv tv (.slice (some ⟨gs,0,none⟩) ps.length ps.length)/\mR w' gs ps.length S/\zez ps (rs.map (·.R)) S/\Low ps (rs.map (·.R)) S/\rs.map (·.R)=(yG s).1/\ps=(zT s).2/\zgl ps ((yG s).1.flatMap zS.atoms)
theorem IJ (s:B8)(w w':W8):z5u s w none w':=λ _ h=>by cases h
theorem zzz (s:B8)(w:W8)(hs:s.size<=800):
  Calls Tryz.prog 79 #[.string s] w λ e w'=>∃ y:O8,e=.returned (.tuple #[.pointer y,.int .i64 (yW s).2.1,.int .i64 (yW s).2.2])/\y.isSome=(yW s).1/\Below w.heap.size w w'/\z5u s w y w':=by
 have bN:s.size<=maxLen:=by unfold maxLen;omega
 have YZ:(s.size:Int)<=800:=by omega
 obtain⟨i0,hi,bL,aY,bf⟩:=info_parts z8g;go_enter Tryz.func79,Tryz.ntmps79;go_wp2_with fail;refine (zpt s 0 (Nat.zero_le _) bN _).mono ?_;rintro e w1 ⟨rfl,aL⟩;obtain⟨r1,r2⟩:=zmi aL;have hz:w.heap.size<w1.heap.size:=by have:=aL.size;simp at this;omega
 have dD:=zC (z83 aL);go_wp2_with fail;clear r1 r2 aL
 go_loopg [7] 32 (λ gg r7 wr=>∃ (rs:List RR) (p:Nat) (bd:Int) (rv:Value),rs.length<=31/\(rs.length=31->0<=bd)/\gg=32-rs.length/\EK w w.heap.size w1.heap.size s rs p bd rv wr/\yG s=zbr s (31-(rs.map (·.R)).length) p bd (rs.map (·.R)))
 exact⟨[],0,-1,_,by simp,by simp,rfl,zA dD,rfl⟩
 case round=>
  clear dD;obtain⟨rs,p,bd,rv,PD,Er,bS,hinv,aE⟩:=hrel;have HF:=zC aE;clear aE;obtain⟨ar,dA,rfl⟩:=zD hinv.mem.rules;obtain⟨La,c0,c1,c2,c3,c4,c5,fz⟩:=hinv.bp;have iu:=hinv.bo
  cases hgo:zby s p bd with
  | true=>
   have FW:((tok s p).kind != 46)=true:=(by unfold zby at hgo;simp at hgo;simpa using hgo.1);have di:bd<0:=(by unfold zby at hgo;simp at hgo;exact hgo.2);have Pg:rs.length<=30:=(by rcases Nat.lt_or_ge rs.length 31 with h1 | h1;omega;have:=Er (by omega);omega);have aO:=(zA HF).trans (zy8 s p bd (rs.map (·.R)) (by simpa using Pg) hgo);rw[List.length_map] at aO;have aC:=zC aO;have d0:=hinv.mem.c0;have sn:=hinv.mem.lt;have Qy:(rs.length:Int)<=30:=(by omega);clear HF aO hgo PD Er
   by_cases t30:rs.length=30
   ·have tb:zE s p bd rs.length=zav s p bd:=(by simp[zE,t30]);have Oj:((rs.length:Int)==30)=true:=(by simp;omega);have TB:=zC tb;clear tb t30;go_wp2_with fail;refine (zba s p bd w.heap.size _ hinv.bp).mono ?_;rintro e w0 ⟨rfl,iz,dU⟩;rw[<-zA TB] at dU;have aM:=hinv.call iz dU hinv.hp;clear iz dU c0 c1 c2 c3 c4 c5 fz hinv d0;go_wp2_with fail;refine (zwh s p (zE s p bd rs.length) w.heap.size _ aM.bp aM.hp bN).mono ?_;rintro e w3 ⟨hv,bs,bv,rfl,eE,ug,ma,ja⟩;obtain⟨ah,ch,yv⟩:=zD ja.hd;obtain⟨ab,cb,gU⟩:=zD ja.bo;generalize hnh:(zS.mk (zI s p (zE s p bd rs.length)) (jN s p (zE s p bd rs.length)).1).head.ae.length=nh at yv;generalize eS:bs.length=nb at gU;subst yv gU;have Pn:=aM.mem.lt;have bg:=aM.call eE ug ma;have Ab:nA w3 (w1.heap.size+1) (zas s p (zE s p bd rs.length)) (.slice ah nh ch) bs (.slice ab nb cb):=⟨zG ja.hd (by omega),zG ja.bo (by omega),λ x hx=>zG (ja.bl x hx) (by omega),ja.eq⟩;have aB:=bg.mem.rules;have AH:=bg.mem.lt;have s1:Hid ((((w3.alloc (Obj.cells #[.string (zI s p (zE s p bd rs.length)).pred,.slice ah nh ch,.bool (zI s p (zE s p bd rs.length)).no,.int .i64 (zI s p (zE s p bd rs.length)).at_,.int .i64 (zI s p (zE s p bd rs.length)).az,.slice ab nb cb] 246)).alloc (Obj.cells #[.string (zI s p (zE s p bd rs.length)).pred,.slice ah nh ch,.bool (zI s p (zE s p bd rs.length)).no,.int .i64 (zI s p (zE s p bd rs.length)).at_,.int .i64 (zI s p (zE s p bd rs.length)).az,.slice ab nb cb] 246)).drew).ownsRow (w1.heap.size+1) 246 6 (.slice ar rs.length dA) rs.length (zab rs)):=(aB.alloc _).alloc _;have s2:Hid (∀ j u,([Value.string (zI s p (zE s p bd rs.length)).pred,.slice ah nh ch,.bool (zI s p (zE s p bd rs.length)).no,.int .i64 (zI s p (zE s p bd rs.length)).at_,.int .i64 (zI s p (zE s p bd rs.length)).az,.slice ab nb cb]:V8)[j]?=some u->(((w3.alloc (Obj.cells #[.string (zI s p (zE s p bd rs.length)).pred,.slice ah nh ch,.bool (zI s p (zE s p bd rs.length)).no,.int .i64 (zI s p (zE s p bd rs.length)).at_,.int .i64 (zI s p (zE s p bd rs.length)).az,.slice ab nb cb] 246)).alloc (Obj.cells #[.string (zI s p (zE s p bd rs.length)).pred,.slice ah nh ch,.bool (zI s p (zE s p bd rs.length)).no,.int .i64 (zI s p (zE s p bd rs.length)).at_,.int .i64 (zI s p (zE s p bd rs.length)).az,.slice ab nb cb] 246)).drew).cell? ((⟨w3.heap.size+1,0,none⟩:Addr).add j)=some u):=World.news_of_block (znu w3 (Obj.cells #[.string (zI s p (zE s p bd rs.length)).pred,.slice ah nh ch,.bool (zI s p (zE s p bd rs.length)).no,.int .i64 (zI s p (zE s p bd rs.length)).at_,.int .i64 (zI s p (zE s p bd rs.length)).az,.slice ab nb cb] 246) (RR.mk (zas s p (zE s p bd rs.length)) (.slice ah nh ch) bs (.slice ab nb cb)))
    have s3:Hid (∀ u∈([Value.string (zI s p (zE s p bd rs.length)).pred,.slice ah nh ch,.bool (zI s p (zE s p bd rs.length)).no,.int .i64 (zI s p (zE s p bd rs.length)).at_,.int .i64 (zI s p (zE s p bd rs.length)).az,.slice ab nb cb]:V8),u.oneCell'=true):=z9m (zas s p (zE s p bd rs.length)) ah ab nh nb ch cb bs;have s4:Hid (rs.length+1<=maxLen):=(by show _<=_;unfold maxLen;omega);have s5:Hid ((rs.length+1)*88<=140737488355328):=(by show _<=_;omega);have s6:Hid (w1.heap.size+1<=(((w3.alloc (Obj.cells #[.string (zI s p (zE s p bd rs.length)).pred,.slice ah nh ch,.bool (zI s p (zE s p bd rs.length)).no,.int .i64 (zI s p (zE s p bd rs.length)).at_,.int .i64 (zI s p (zE s p bd rs.length)).az,.slice ab nb cb] 246)).alloc (Obj.cells #[.string (zI s p (zE s p bd rs.length)).pred,.slice ah nh ch,.bool (zI s p (zE s p bd rs.length)).no,.int .i64 (zI s p (zE s p bd rs.length)).at_,.int .i64 (zI s p (zE s p bd rs.length)).az,.slice ab nb cb] 246)).drew).heap.size):=(by show _<=_;simp;omega);have hW:∀ k,k<w3.heap.size->(((w3.alloc (Obj.cells #[.string (zI s p (zE s p bd rs.length)).pred,.slice ah nh ch,.bool (zI s p (zE s p bd rs.length)).no,.int .i64 (zI s p (zE s p bd rs.length)).at_,.int .i64 (zI s p (zE s p bd rs.length)).az,.slice ab nb cb] 246)).alloc (Obj.cells #[.string (zI s p (zE s p bd rs.length)).pred,.slice ah nh ch,.bool (zI s p (zE s p bd rs.length)).no,.int .i64 (zI s p (zE s p bd rs.length)).at_,.int .i64 (zI s p (zE s p bd rs.length)).az,.slice ab nb cb] 246)).drew).heap[k]?=w3.heap[k]?:=λ k hk=>(((zK.refl [] w3).alloc _).alloc _).block k hk (by simp)
    have hS:w3.heap.size<=(((w3.alloc (Obj.cells #[.string (zI s p (zE s p bd rs.length)).pred,.slice ah nh ch,.bool (zI s p (zE s p bd rs.length)).no,.int .i64 (zI s p (zE s p bd rs.length)).at_,.int .i64 (zI s p (zE s p bd rs.length)).az,.slice ab nb cb] 246)).alloc (Obj.cells #[.string (zI s p (zE s p bd rs.length)).pred,.slice ah nh ch,.bool (zI s p (zE s p bd rs.length)).no,.int .i64 (zI s p (zE s p bd rs.length)).at_,.int .i64 (zI s p (zE s p bd rs.length)).az,.slice ab nb cb] 246)).drew).heap.size:=(((zK.refl [] w3).alloc _).alloc _).size;have s7:Hid (∀ w5:W8,(((w3.alloc (Obj.cells #[.string (zI s p (zE s p bd rs.length)).pred,.slice ah nh ch,.bool (zI s p (zE s p bd rs.length)).no,.int .i64 (zI s p (zE s p bd rs.length)).at_,.int .i64 (zI s p (zE s p bd rs.length)).az,.slice ab nb cb] 246)).alloc (Obj.cells #[.string (zI s p (zE s p bd rs.length)).pred,.slice ah nh ch,.bool (zI s p (zE s p bd rs.length)).no,.int .i64 (zI s p (zE s p bd rs.length)).at_,.int .i64 (zI s p (zE s p bd rs.length)).az,.slice ab nb cb] 246)).drew).grownBy w5 (Value.slice ar rs.length dA).ownBlock->w5.cell? ⟨w1.heap.size,0,none⟩=some (.slice ar rs.length dA)/\w5.frozen? ⟨w1.heap.size,0,none⟩=false):=λ w5 hg=>
     have hb:=zgg hW hS aB hg AH
     ⟨(World.cell?_of_block hb).trans bg.mem.c0,(World.frozen?_of_block hb).trans (bg.mem.fz 0)⟩
    have s8:Hid (∀ (w5:W8) (g cap:Nat),(((w3.alloc (Obj.cells #[.string (zI s p (zE s p bd rs.length)).pred,.slice ah nh ch,.bool (zI s p (zE s p bd rs.length)).no,.int .i64 (zI s p (zE s p bd rs.length)).at_,.int .i64 (zI s p (zE s p bd rs.length)).az,.slice ab nb cb] 246)).alloc (Obj.cells #[.string (zI s p (zE s p bd rs.length)).pred,.slice ah nh ch,.bool (zI s p (zE s p bd rs.length)).no,.int .i64 (zI s p (zE s p bd rs.length)).at_,.int .i64 (zI s p (zE s p bd rs.length)).az,.slice ab nb cb] 246)).drew).grownBy w5 (Value.slice ar rs.length dA).ownBlock->w5.ownsRow (w1.heap.size+1) 246 6 (.slice (some ⟨g,0,none⟩) (rs.length+1) cap) (rs.length+1) (zab rs++[Value.string (zI s p (zE s p bd rs.length)).pred,.slice ah nh ch,.bool (zI s p (zE s p bd rs.length)).no,.int .i64 (zI s p (zE s p bd rs.length)).at_,.int .i64 (zI s p (zE s p bd rs.length)).az,.slice ab nb cb])->EK w w.heap.size w1.heap.size s (rs++[(RR.mk (zas s p (zE s p bd rs.length)) (.slice ah nh ch) bs (.slice ab nb cb))]) (zb2 s p (zE s p bd rs.length)) (jK s p (zE s p bd rs.length)) (.slice (some ⟨g,0,none⟩) (rs.length+1) cap) (w5.setCell ⟨w1.heap.size,0,none⟩ (.slice (some ⟨g,0,none⟩) (rs.length+1) cap))):=λ w5 g cap hg ay=>by
     have dK:=zib (j:=0) (u:=.slice (some ⟨g,0,none⟩) (rs.length+1) cap) hW hS rfl rfl rfl aB hg AH;have eo:=bg.bw;refine⟨?_,ma,bg.mem.rH hW hS hg Ab ay,bg.bo,bg.bw,bg.below.trans (dK.mono (by omega)),λ r hr=>?_⟩
     ·exact bg.bp.kept (⟨dK.os,dK.tape,dK.output,dK.size,λ k hk hn=>by
       by_cases hko:k<w1.heap.size
       ·exact dK.block k hko
       ·exact absurd (List.mem_range'_1.2 ⟨by omega,by omega⟩) hn⟩:zK (List.range' w1.heap.size w3.heap.size) w3 _) (by intro hm;have:=(List.mem_range'_1.1 hm).1;omega)
     ·rcases List.mem_append.1 hr with hr | hr
      ·exact bg.eJ r hr
      ·simp at hr;subst hr;exact zwj s p _
    have x1:w3.cell? ⟨w1.heap.size,0,none⟩=some (.slice ar rs.length dA):=bg.mem.c0;have mG:Hid (rs.length=30->0<=jK s p (zE s p bd rs.length)):=λ e=>zot e
    clear hW hS aB ja Ab eE ug aM bg hnh eS;unfold zb1;go_wp2_with fail
    go_region_law (refine step_append_lies _ rfl (.tmp 55) (.tmp 57) 238 rfl (w1.heap.size+1) 246 i0 (.agg #[.string { data:=#[] },.slice none 0 0,.bool false,.int .i64 0,.int .i64 0,.slice none 0 0]) 6 88 Tryz.underlying238 hi bL aY bf rfl (by decide) (.slice ar rs.length dA) rs.length (zab rs) (by simp[Act.eval]) (zA s1) ⟨w3.heap.size+1,0,none⟩ 1 1 [Value.string (zI s p (zE s p bd rs.length)).pred,.slice ah nh ch,.bool (zI s p (zE s p bd rs.length)).no,.int .i64 (zI s p (zE s p bd rs.length)).at_,.int .i64 (zI s p (zE s p bd rs.length)).az,.slice ab nb cb] (by simp[Act.eval]) rfl (zA s2) (zA s3) (by decide) (zA s4) (zA s5) (zA s6) _ rfl ?_;intro g cap w5 aq aU bW hlt5;obtain⟨y1,y2⟩:=zA s7 w5 aU)
    all_goals
     go_wp2_with fail;go_roundg (32-(rs.length+1));exact⟨_,_,_,_,by simp;omega,λ e=>zA mG (by simp at e;omega),by simp,zA s8 w5 g cap aU aq,by rw[List.map_append];exact zA aC⟩;omega
   ·have tb:zE s p bd rs.length=bd:=(by simp[zE,t30]);have Oj:((rs.length:Int)==30)=false:=(by simp;omega);have TB:=zC tb;clear tb t30;go_wp2_with fail;have aM:EK w w.heap.size w1.heap.size s rs p (zE s p bd rs.length) (.slice ar rs.length dA) wr:=(by rw[zA TB];exact hinv);clear c0 c1 c2 c3 c4 c5 fz hinv d0;refine (zwh s p (zE s p bd rs.length) w.heap.size _ aM.bp aM.hp bN).mono ?_;rintro e w3 ⟨hv,bs,bv,rfl,eE,ug,ma,ja⟩;obtain⟨ah,ch,yv⟩:=zD ja.hd;obtain⟨ab,cb,gU⟩:=zD ja.bo;generalize hnh:(zS.mk (zI s p (zE s p bd rs.length)) (jN s p (zE s p bd rs.length)).1).head.ae.length=nh at yv;generalize eS:bs.length=nb at gU;subst yv gU;have Pn:=aM.mem.lt;have bg:=aM.call eE ug ma;have Ab:nA w3 (w1.heap.size+1) (zas s p (zE s p bd rs.length)) (.slice ah nh ch) bs (.slice ab nb cb):=⟨zG ja.hd (by omega),zG ja.bo (by omega),λ x hx=>zG (ja.bl x hx) (by omega),ja.eq⟩;have aB:=bg.mem.rules;have AH:=bg.mem.lt;have s1:Hid ((((w3.alloc (Obj.cells #[.string (zI s p (zE s p bd rs.length)).pred,.slice ah nh ch,.bool (zI s p (zE s p bd rs.length)).no,.int .i64 (zI s p (zE s p bd rs.length)).at_,.int .i64 (zI s p (zE s p bd rs.length)).az,.slice ab nb cb] 246)).alloc (Obj.cells #[.string (zI s p (zE s p bd rs.length)).pred,.slice ah nh ch,.bool (zI s p (zE s p bd rs.length)).no,.int .i64 (zI s p (zE s p bd rs.length)).at_,.int .i64 (zI s p (zE s p bd rs.length)).az,.slice ab nb cb] 246)).drew).ownsRow (w1.heap.size+1) 246 6 (.slice ar rs.length dA) rs.length (zab rs)):=(aB.alloc _).alloc _;have s2:Hid (∀ j u,([Value.string (zI s p (zE s p bd rs.length)).pred,.slice ah nh ch,.bool (zI s p (zE s p bd rs.length)).no,.int .i64 (zI s p (zE s p bd rs.length)).at_,.int .i64 (zI s p (zE s p bd rs.length)).az,.slice ab nb cb]:V8)[j]?=some u->(((w3.alloc (Obj.cells #[.string (zI s p (zE s p bd rs.length)).pred,.slice ah nh ch,.bool (zI s p (zE s p bd rs.length)).no,.int .i64 (zI s p (zE s p bd rs.length)).at_,.int .i64 (zI s p (zE s p bd rs.length)).az,.slice ab nb cb] 246)).alloc (Obj.cells #[.string (zI s p (zE s p bd rs.length)).pred,.slice ah nh ch,.bool (zI s p (zE s p bd rs.length)).no,.int .i64 (zI s p (zE s p bd rs.length)).at_,.int .i64 (zI s p (zE s p bd rs.length)).az,.slice ab nb cb] 246)).drew).cell? ((⟨w3.heap.size+1,0,none⟩:Addr).add j)=some u):=World.news_of_block (znu w3 (Obj.cells #[.string (zI s p (zE s p bd rs.length)).pred,.slice ah nh ch,.bool (zI s p (zE s p bd rs.length)).no,.int .i64 (zI s p (zE s p bd rs.length)).at_,.int .i64 (zI s p (zE s p bd rs.length)).az,.slice ab nb cb] 246) (RR.mk (zas s p (zE s p bd rs.length)) (.slice ah nh ch) bs (.slice ab nb cb)))
    have s3:Hid (∀ u∈([Value.string (zI s p (zE s p bd rs.length)).pred,.slice ah nh ch,.bool (zI s p (zE s p bd rs.length)).no,.int .i64 (zI s p (zE s p bd rs.length)).at_,.int .i64 (zI s p (zE s p bd rs.length)).az,.slice ab nb cb]:V8),u.oneCell'=true):=z9m (zas s p (zE s p bd rs.length)) ah ab nh nb ch cb bs;have s4:Hid (rs.length+1<=maxLen):=(by show _<=_;unfold maxLen;omega);have s5:Hid ((rs.length+1)*88<=140737488355328):=(by show _<=_;omega);have s6:Hid (w1.heap.size+1<=(((w3.alloc (Obj.cells #[.string (zI s p (zE s p bd rs.length)).pred,.slice ah nh ch,.bool (zI s p (zE s p bd rs.length)).no,.int .i64 (zI s p (zE s p bd rs.length)).at_,.int .i64 (zI s p (zE s p bd rs.length)).az,.slice ab nb cb] 246)).alloc (Obj.cells #[.string (zI s p (zE s p bd rs.length)).pred,.slice ah nh ch,.bool (zI s p (zE s p bd rs.length)).no,.int .i64 (zI s p (zE s p bd rs.length)).at_,.int .i64 (zI s p (zE s p bd rs.length)).az,.slice ab nb cb] 246)).drew).heap.size):=(by show _<=_;simp;omega);have hW:∀ k,k<w3.heap.size->(((w3.alloc (Obj.cells #[.string (zI s p (zE s p bd rs.length)).pred,.slice ah nh ch,.bool (zI s p (zE s p bd rs.length)).no,.int .i64 (zI s p (zE s p bd rs.length)).at_,.int .i64 (zI s p (zE s p bd rs.length)).az,.slice ab nb cb] 246)).alloc (Obj.cells #[.string (zI s p (zE s p bd rs.length)).pred,.slice ah nh ch,.bool (zI s p (zE s p bd rs.length)).no,.int .i64 (zI s p (zE s p bd rs.length)).at_,.int .i64 (zI s p (zE s p bd rs.length)).az,.slice ab nb cb] 246)).drew).heap[k]?=w3.heap[k]?:=λ k hk=>(((zK.refl [] w3).alloc _).alloc _).block k hk (by simp)
    have hS:w3.heap.size<=(((w3.alloc (Obj.cells #[.string (zI s p (zE s p bd rs.length)).pred,.slice ah nh ch,.bool (zI s p (zE s p bd rs.length)).no,.int .i64 (zI s p (zE s p bd rs.length)).at_,.int .i64 (zI s p (zE s p bd rs.length)).az,.slice ab nb cb] 246)).alloc (Obj.cells #[.string (zI s p (zE s p bd rs.length)).pred,.slice ah nh ch,.bool (zI s p (zE s p bd rs.length)).no,.int .i64 (zI s p (zE s p bd rs.length)).at_,.int .i64 (zI s p (zE s p bd rs.length)).az,.slice ab nb cb] 246)).drew).heap.size:=(((zK.refl [] w3).alloc _).alloc _).size;have s7:Hid (∀ w5:W8,(((w3.alloc (Obj.cells #[.string (zI s p (zE s p bd rs.length)).pred,.slice ah nh ch,.bool (zI s p (zE s p bd rs.length)).no,.int .i64 (zI s p (zE s p bd rs.length)).at_,.int .i64 (zI s p (zE s p bd rs.length)).az,.slice ab nb cb] 246)).alloc (Obj.cells #[.string (zI s p (zE s p bd rs.length)).pred,.slice ah nh ch,.bool (zI s p (zE s p bd rs.length)).no,.int .i64 (zI s p (zE s p bd rs.length)).at_,.int .i64 (zI s p (zE s p bd rs.length)).az,.slice ab nb cb] 246)).drew).grownBy w5 (Value.slice ar rs.length dA).ownBlock->w5.cell? ⟨w1.heap.size,0,none⟩=some (.slice ar rs.length dA)/\w5.frozen? ⟨w1.heap.size,0,none⟩=false):=λ w5 hg=>
     have hb:=zgg hW hS aB hg AH
     ⟨(World.cell?_of_block hb).trans bg.mem.c0,(World.frozen?_of_block hb).trans (bg.mem.fz 0)⟩
    have s8:Hid (∀ (w5:W8) (g cap:Nat),(((w3.alloc (Obj.cells #[.string (zI s p (zE s p bd rs.length)).pred,.slice ah nh ch,.bool (zI s p (zE s p bd rs.length)).no,.int .i64 (zI s p (zE s p bd rs.length)).at_,.int .i64 (zI s p (zE s p bd rs.length)).az,.slice ab nb cb] 246)).alloc (Obj.cells #[.string (zI s p (zE s p bd rs.length)).pred,.slice ah nh ch,.bool (zI s p (zE s p bd rs.length)).no,.int .i64 (zI s p (zE s p bd rs.length)).at_,.int .i64 (zI s p (zE s p bd rs.length)).az,.slice ab nb cb] 246)).drew).grownBy w5 (Value.slice ar rs.length dA).ownBlock->w5.ownsRow (w1.heap.size+1) 246 6 (.slice (some ⟨g,0,none⟩) (rs.length+1) cap) (rs.length+1) (zab rs++[Value.string (zI s p (zE s p bd rs.length)).pred,.slice ah nh ch,.bool (zI s p (zE s p bd rs.length)).no,.int .i64 (zI s p (zE s p bd rs.length)).at_,.int .i64 (zI s p (zE s p bd rs.length)).az,.slice ab nb cb])->EK w w.heap.size w1.heap.size s (rs++[(RR.mk (zas s p (zE s p bd rs.length)) (.slice ah nh ch) bs (.slice ab nb cb))]) (zb2 s p (zE s p bd rs.length)) (jK s p (zE s p bd rs.length)) (.slice (some ⟨g,0,none⟩) (rs.length+1) cap) (w5.setCell ⟨w1.heap.size,0,none⟩ (.slice (some ⟨g,0,none⟩) (rs.length+1) cap))):=λ w5 g cap hg ay=>by
     have dK:=zib (j:=0) (u:=.slice (some ⟨g,0,none⟩) (rs.length+1) cap) hW hS rfl rfl rfl aB hg AH;have eo:=bg.bw;refine⟨?_,ma,bg.mem.rH hW hS hg Ab ay,bg.bo,bg.bw,bg.below.trans (dK.mono (by omega)),λ r hr=>?_⟩
     ·exact bg.bp.kept (⟨dK.os,dK.tape,dK.output,dK.size,λ k hk hn=>by
       by_cases hko:k<w1.heap.size
       ·exact dK.block k hko
       ·exact absurd (List.mem_range'_1.2 ⟨by omega,by omega⟩) hn⟩:zK (List.range' w1.heap.size w3.heap.size) w3 _) (by intro hm;have:=(List.mem_range'_1.1 hm).1;omega)
     ·rcases List.mem_append.1 hr with hr | hr
      ·exact bg.eJ r hr
      ·simp at hr;subst hr;exact zwj s p _
    have x1:w3.cell? ⟨w1.heap.size,0,none⟩=some (.slice ar rs.length dA):=bg.mem.c0;have mG:Hid (rs.length=30->0<=jK s p (zE s p bd rs.length)):=λ e=>zot e
    clear hW hS aB ja Ab eE ug aM bg hnh eS;unfold zb1;go_wp2_with fail
    go_region_law (refine step_append_lies _ rfl (.tmp 55) (.tmp 57) 238 rfl (w1.heap.size+1) 246 i0 (.agg #[.string { data:=#[] },.slice none 0 0,.bool false,.int .i64 0,.int .i64 0,.slice none 0 0]) 6 88 Tryz.underlying238 hi bL aY bf rfl (by decide) (.slice ar rs.length dA) rs.length (zab rs) (by simp[Act.eval]) (zA s1) ⟨w3.heap.size+1,0,none⟩ 1 1 [Value.string (zI s p (zE s p bd rs.length)).pred,.slice ah nh ch,.bool (zI s p (zE s p bd rs.length)).no,.int .i64 (zI s p (zE s p bd rs.length)).at_,.int .i64 (zI s p (zE s p bd rs.length)).az,.slice ab nb cb] (by simp[Act.eval]) rfl (zA s2) (zA s3) (by decide) (zA s4) (zA s5) (zA s6) _ rfl ?_;intro g cap w5 aq aU bW hlt5;obtain⟨y1,y2⟩:=zA s7 w5 aU)
    all_goals
     go_wp2_with fail;go_roundg (32-(rs.length+1));exact⟨_,_,_,_,by simp;omega,λ e=>zA mG (by simp at e;omega),by simp,zA s8 w5 g cap aU aq,by rw[List.map_append];exact zA aC⟩;omega
  | false=>
   have EZ:yG s=(rs.map (·.R),p,bd):=(zA HF).trans (zrz s _ p bd _ hgo);have bj:¬ 800<s.size:=by omega
   by_cases di:0<=bd
   ·have hR:yW s=(false,2,bd):=(by unfold yW;rw[if_neg bj,EZ,if_pos di]);have HR:=zC hR;clear HF hR EZ
    by_cases FW:((tok s p).kind != 46)=true
    ·go_wp2_with fail;go_quiet (fail)
     go_wp2
     go_ret3
     exact⟨none,by rw[zA HR];rfl,by rw[zA HR];rfl,below_drewN hinv.below _,IJ _ _ _⟩
    ·have Le:((tok s p).kind != 46)=false:=(by simpa using FW);clear FW;go_wp2_with fail;go_quiet (fail)
     go_wp2
     go_ret3
     exact⟨none,by rw[zA HR];rfl,by rw[zA HR];rfl,below_drewN hinv.below _,IJ _ _ _⟩
   ·have Le:((tok s p).kind != 46)=false:=by
     unfold zby at hgo
     cases hk:(tok s p).kind != 46 with
     | false=>rfl
     | true=>rw[hk] at hgo;simp at hgo;omega
    have dv:(yJ rs).length<=1000:=(by have:=z4w rs hinv.eJ;omega);have He:yJ rs=(yG s).1.flatMap zS.atoms:=(by rw[EZ];exact zm6 rs);have QW:zT s=yO (yJ rs) []:=(by unfold zT;rw[He]);have Uk:yW s=if 0<=(yO (yJ rs) []).1 then (false,3,(yO (yJ rs) []).1) else if 0<=yT (rs.map (·.R)) then (false,4,yT (rs.map (·.R))) else if 0<=vO (yO (yJ rs) []).2 (vI (yO (yJ rs) []).2 (rs.map (·.R))) (rs.map (·.R)) then (false,5,vO (yO (yJ rs) []).2 (vI (yO (yJ rs) []).2 (rs.map (·.R))) (rs.map (·.R))) else (true,0,0):=by
     unfold yW;rw[if_neg bj,QW,EZ,if_neg di]
    have pE:=zC Uk;have bh:=z6g (yJ rs) [];have I7:=zel (yJ rs);have S9:=zC I7;have bt:(yO (yJ rs) []).2.length<=1000:=(by simp at bh;omega);have HB:=zC hinv.below;have YR:=zC hinv.mem;have eo:=hinv.bw;have XI:bd<0:=(by omega);have Wy:=zC (zm6 rs);have VK:=zC (show rs.map (·.R)=(yG s).1 by rw[EZ]);have RL:=zC (show (yO (yJ rs) []).2=(zT s).2 by rw[QW]);have QH:=zC He;clear HF EZ He QW Uk bh I7 hgo di bj hinv;go_wp2_with fail;refine (z5b wr w1.heap.size rs _ _ _ _ (zA YR) dv).mono ?_;rintro e w2 ⟨rfl,Mz,Iw,dC,aK⟩;clear c0 c1 c2 c3 c4 c5 fz;generalize (yO (yJ rs) []).1=n1 at *;generalize (yO (yJ rs) []).2=ps at *
    by_cases gW:0<=n1
    ·have xy:=zC ((zA pE).trans (if_pos gW));clear pE;go_wp2_with fail
     go_ret3
     exact⟨none,by rw[zA xy];rfl,by rw[zA xy];rfl,(zA HB).trans (aK.mono (by omega)),IJ _ _ _⟩
    ·have xy:=zC ((zA pE).trans (if_neg gW));have aS:=zA S9 (by omega);have fR:=zC aS;have Rc:n1<0:=(by omega);clear pE gW S9;go_wp2_with fail;refine (zx8 w2 w1.heap.size rs ps ps _ _ _ _ dC).mono ?_;rintro e w3 ⟨rfl,cI⟩;have fm:=dC.kept ((zK.refl [] _).ak cI) (by simp);have kh:Below w.heap.size w w3:=((zA HB).trans (aK.mono (by omega))).trans (cI.mono (by have:=(zA HB).size;have:=aK.size;omega));clear dC aK cI HB
     by_cases ou:0<=yT (rs.map (·.R))
     ·have na:=zC ((zA xy).trans (if_pos ou));clear xy;go_wp2_with fail
      go_ret3
      exact⟨none,by rw[zA na];rfl,by rw[zA na];rfl,kh,IJ _ _ _⟩
     ·have na:=zC ((zA xy).trans (if_neg ou));have VY:yT (rs.map (·.R))<0:=(by omega);clear xy ou;go_wp2_with fail;refine (z24 w3 w1.heap.size rs ps _ _ _ _ fm bt (zA fR)).mono ?_;rintro e w4 ⟨rfl,bZ⟩;have rV:=fm.kept ((zK.refl [] _).ak bZ) (by simp);have dP:Below w.heap.size w w4:=kh.trans (bZ.mono (by have:=kh.size;omega));clear fm bZ
      by_cases AL:0<=vO ps (vI ps (rs.map (·.R))) (rs.map (·.R))
      ·have Cx:=zC ((zA na).trans (if_pos AL));clear na;go_wp2_with fail
       go_ret3
       exact⟨none,by rw[zA Cx];rfl,by rw[zA Cx];rfl,dP,IJ _ _ _⟩
      ·have Cx:=zC ((zA na).trans (if_neg AL));obtain⟨f0,uo,lR⟩:=zgv ps (rs.map (·.R)) (by rw[<-zA Wy];exact zA fR) AL;have Vz:vO ps (vI ps (rs.map (·.R))) (rs.map (·.R))<0:=(by omega);have Gc:=zC uo;have G1:=zC lR;clear na AL uo lR;go_wp2_with fail;refine (z3c w4 w1.heap.size rs ps _ _ _ _ rV bt (zA fR) f0 (zA Gc) (λ i=>Nat.le_trans (zA G1 i) bt)).mono ?_;rintro e w5 ⟨rfl,S,BQ,G7,Db,QO,dB⟩;have Ri:=rV.lt;go_wp2_with fail
       go_ret3
       refine⟨some ⟨w1.heap.size,0,none⟩,by rw[zA Cx];rfl,by rw[zA Cx];rfl,dP.trans (dB.mono (by omega)),λ a ha=>?_⟩;injection ha with ha
       subst ha;exact⟨_,rs,ps,_,_,_,_,S,rfl,by omega,Ri,BQ,G7,Db,QO,zA VK,zA RL,by rw[<-zA QH];exact zA fR⟩
theorem z38 (s:B8)(w:W8)(hs:800<s.size):
  Calls Tryz.prog 79 #[.string s] w λ e w'=>∃ y:O8,e=.returned (.tuple #[.pointer y,.int .i64 (yW s).2.1,.int .i64 (yW s).2.2])/\y.isSome=(yW s).1/\Below w.heap.size w w'/\z5u s w y w':=by
 have YZ:(800:Int)<s.size:=by omega
 have hR:yW s=(false,1,0):=by unfold yW;rw[if_pos hs]
 have HR:=zC hR;clear hR;go_enter Tryz.func79,Tryz.ntmps79
 go_wp2
 go_ret3
 exact⟨none,by rw[zA HR];rfl,by rw[zA HR];rfl,Below.refl _ _,IJ _ _ _⟩
theorem zjt (s:B8)(w:W8):
  Calls Tryz.prog 79 #[.string s] w λ e w'=>∃ y:O8,e=.returned (.tuple #[.pointer y,.int .i64 (yW s).2.1,.int .i64 (yW s).2.2])/\y.isSome=(yW s).1/\Below w.heap.size w w'/\z5u s w y w':=by
 rcases Nat.lt_or_ge 800 s.size with h | h
 ·exact z38 s w h
 ·exact zzz s w h
theorem zvf (s:B8)(w:W8):
  Calls Tryz.prog 79 #[.string s] w λ e w'=>∃ y:O8,e=.returned (.tuple #[.pointer y,.int .i64 (yW s).2.1,.int .i64 (yW s).2.2])/\y.isSome=(yW s).1/\Below w.heap.size w w':=by
 refine (zjt s w).mono ?_;rintro e w' ⟨y,h1,h2,h3,_⟩;exact⟨y,h1,h2,h3⟩
end
end Go.Proofs.YtldkpahaocjdpaaGreat
