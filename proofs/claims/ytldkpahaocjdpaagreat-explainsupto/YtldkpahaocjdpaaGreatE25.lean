/-
  The reference's Load: at every text the answer is the plain text's (refLoad); it ends, and no old memory has turned.
-/
import Derived.Test.YtldkpahaocjdpaaGreatE24
set_option maxHeartbeats 16000000
set_option maxRecDepth 1000000
namespace Go.Proofs.YtldkpahaocjdpaaGreat
section
open Go.RowKit
theorem z7b:(Tryz.prog.info? 246).map (λ i=>(i.zero,i.size,i.bytes))=some (some (.agg #[.string { data:=#[] },.slice none 0 0,.bool false,.int .i64 0,.int .i64 0,.slice none 0 0]),6,88):=by kernel_rfl
structure EZ (w:W8)(b o:Nat)(s:B8)(rs:List RR)(p:Nat)(bd:Int)(rv:Value)(wr:W8):Prop where
 bq:dS wr b s p bd
 hp:p<=s.size
 mem:mB wr o rs [] [] rv (.slice none 0 0) (.slice none 0 0) (.slice none 0 0)
 bo:b<o
 bw:w.heap.size<=b
 below:Below w.heap.size w wr
 eJ:∀ r∈rs,r.R.body.length<=4
variable {w1 w:W8} {s:B8}
theorem EZ.call {b o:Nat}{rs:List RR}{p:Nat}{bd:Int}{rv:Value}{wr:W8}{p':Nat}{D5:Int}(h:EZ w b o s rs p bd rv wr)(k:zK [b] wr w1)(hp:dS w1 b s p' D5)(hl:p'<=s.size):EZ w b o s rs p' D5 rv w1:=
 have h1:=h.bo;have h2:=h.bw
 ⟨hp,hl,h.mem.kept k (by simp;omega),h.bo,h.bw,h.below.trans ⟨k.os,k.tape,k.output,k.size,λ i hi=>k.block i (Nat.lt_of_lt_of_le hi h.below.size) (by simp;omega)⟩,h.eJ⟩
theorem z7d (aL:Below (w.alloc (Obj.cells #[.string s,.int .u8 0,.string { data:=#[] },.int .i64 0,.int .i64 0,.int .i64 (-1)] 235)).heap.size (w.alloc (Obj.cells #[.string s,.int .u8 0,.string { data:=#[] },.int .i64 0,.int .i64 0,.int .i64 (-1)] 235)) w1):
  EZ w w.heap.size w1.heap.size s [] 0 (-1) (.slice none 0 0) (((((w1.setCell ⟨w.heap.size,1,none⟩ (.int .u8 (tok s 0).kind)).setCell ⟨w.heap.size,2,none⟩ (.string (tok s 0).text)).setCell ⟨w.heap.size,3,none⟩ (.int .i64 (tok s 0).at_)).setCell ⟨w.heap.size,4,none⟩ (.int .i64 (tok s 0).to)).alloc (Obj.cells #[.slice none 0 0,.slice none 0 0,.slice none 0 0,.slice none 0 0] 240)):=by
 have hz:=aL.size;simp at hz;have x:∀ j,w1.cell? ⟨w.heap.size,j,none⟩=#[.string s,.int .u8 0,.string { data:=#[] },.int .i64 0,.int .i64 0,.int .i64 (-1)][j]?:=λ j=>(aL.cell (p:=⟨w.heap.size,j,none⟩) (by simp)).trans (by rw[World.cell?_alloc_at _ _ _ _ rfl])
 have xf:∀ j,w1.frozen? ⟨w.heap.size,j,none⟩=false:=λ j=>(aL.frozen (p:=⟨w.heap.size,j,none⟩) (by simp)).trans (by rw[World.frozen?_alloc_at _ _ _ _ rfl])
 have x0:w1.cell? ⟨w.heap.size,0,none⟩=some (.string s):=x 0;have x1:w1.cell? ⟨w.heap.size,1,none⟩=some (.int .u8 0):=x 1;have x2:w1.cell? ⟨w.heap.size,2,none⟩=some (.string { data:=#[] }):=x 2;have x3:w1.cell? ⟨w.heap.size,3,none⟩=some (.int .i64 0):=x 3;have x4:w1.cell? ⟨w.heap.size,4,none⟩=some (.int .i64 0):=x 4;have x5:w1.cell? ⟨w.heap.size,5,none⟩=some (.int .i64 (-1)):=x 5;clear x;have kk:=zl0 w1 w.heap.size (.int .u8 (tok s 0).kind) (.string (tok s 0).text) (.int .i64 (tok s 0).at_) (.int .i64 (tok s 0).to);have hp:dS ((((w1.setCell ⟨w.heap.size,1,none⟩ (.int .u8 (tok s 0).kind)).setCell ⟨w.heap.size,2,none⟩ (.string (tok s 0).text)).setCell ⟨w.heap.size,3,none⟩ (.int .i64 (tok s 0).at_)).setCell ⟨w.heap.size,4,none⟩ (.int .i64 (tok s 0).to)) w.heap.size s 0 (-1):=by
  refine⟨by simp;omega,?_,?_,?_,?_,?_,?_,?_⟩
  all_goals go_simp
 have mu:Below w.heap.size w w1:=(B9.alloc L9 _).trans (aL.mono (by simp));generalize hW:(((w1.setCell ⟨w.heap.size,1,none⟩ (.int .u8 (tok s 0).kind)).setCell ⟨w.heap.size,2,none⟩ (.string (tok s 0).text)).setCell ⟨w.heap.size,3,none⟩ (.int .i64 (tok s 0).at_)).setCell ⟨w.heap.size,4,none⟩ (.int .i64 (tok s 0).to)=W at *;have Xy:W.heap.size=w1.heap.size:=by rw[<-hW];simp
 refine⟨hp.kept ((zK.refl [] _).alloc _) (by simp),Nat.zero_le _,?_,by omega,Nat.le_refl _,?_,by simp⟩
 ·rw[<-Xy];refine⟨by simp,?_,?_,?_,?_,?_,World.ownsRow_nil _ _ _ _,by simp,World.ownsRow_nil _ _ _ _,World.ownsRow_nil _ _ _ _⟩
  all_goals first | (rw[World.cell?_alloc_at _ _ _ _ rfl];rfl) | (intro o;rw[World.frozen?_alloc_at _ _ _ _ rfl])
 ·have k1:Below w.heap.size w1 W:=⟨kk.os,kk.tape,kk.output,kk.size,λ i hi=>kk.block i (by omega) (by simp;omega)⟩;exact (mu.trans k1).alloc (by omega) _
theorem zoj (w1:W8)(o:Obj)(r:RR):(((w1.alloc o).alloc (Obj.cells #[.string r.R.head.pred,r.hv,.bool r.R.head.no,.int .i64 r.R.head.at_,.int .i64 r.R.head.az,r.bv] 246)).drew).heap[w1.heap.size+1]?=some (.cells #[.string r.R.head.pred,r.hv,.bool r.R.head.no,.int .i64 r.R.head.at_,.int .i64 r.R.head.az,r.bv] 246 (0,0)):=by
 have:=heap_alloc_new (w1.alloc o) (Obj.cells #[.string r.R.head.pred,r.hv,.bool r.R.head.no,.int .i64 r.R.head.at_,.int .i64 r.R.head.az,r.bv] 246);rw[World.size_alloc] at this;exact this
theorem z92 (R:zS)(a b:O8)(n m c d:Nat)(bs:List (zL × Value)):∀ u∈(RR.mk R (.slice a n c) bs (.slice b m d)).cells,u.oneCell'=true:=by
 intro u hu;simp[RR.cells] at hu;rcases hu with rfl | rfl | rfl | rfl | rfl | rfl <;> rfl
def z0s (s:B8)(w:W8)(y:O8)(w':W8):Prop:=∀ a,y=some a->∃ (o:Nat) (rs:List RR) (ps:P9) (rv pv tv:Value) (gs:Nat) (S:Nat->Nat),a=⟨o,0,none⟩/\w.heap.size<=o/\o<gs/\znv w' o rs ps rv pv tv (.slice (some ⟨gs,0,none⟩) ps.length ps.length)/\ng w' gs ps.length S/\zef ps (rs.map (·.R)) S/\Low ps (rs.map (·.R)) S/\rs.map (·.R)=(yG s).1/\ps=(zT s).2/\zgi ps ((yG s).1.flatMap zS.atoms)
theorem IH (s:B8)(w w':W8):z0s s w none w':=λ _ h=>by cases h
theorem zyr (s:B8)(w:W8)(hs:s.size<=800):
  Calls Tryz.prog 79 #[.string s] w λ e w'=>∃ y:O8,e=.returned (.tuple #[.pointer y,.int .i64 (yY s).2.1,.int .i64 (yY s).2.2])/\y.isSome=(yY s).1/\Below w.heap.size w w'/\z0s s w y w':=by
 have bM:s.size<=maxLen:=by unfold maxLen;omega
 have YG:(s.size:Int)<=800:=by omega
 obtain⟨i0,hi,bL,aY,bg⟩:=info_parts z7b;go_enter Tryz.func79,Tryz.ntmps79;go_wp2_with fail;refine (zo8 s 0 (Nat.zero_le _) bM _).mono ?_;rintro e w1 ⟨rfl,aL⟩;obtain⟨r1,r2⟩:=zmc aL;have hz:w.heap.size<w1.heap.size:=by have:=aL.size;simp at this;omega
 have dB:=zC (z7d aL);go_wp2_with fail;clear r1 r2 aL
 go_loopg [7] 32 (λ gg r7 wr=>∃ (rs:List RR) (p:Nat) (bd:Int) (rv:Value),rs.length<=31/\(rs.length=31->0<=bd)/\gg=32-rs.length/\EZ w w.heap.size w1.heap.size s rs p bd rv wr/\yG s=zbz s (31-(rs.map (·.R)).length) p bd (rs.map (·.R)))
 exact⟨[],0,-1,_,by simp,by simp,rfl,zA dB,rfl⟩
 case round=>
  clear dB;obtain⟨rs,p,bd,rv,Qb,Ek,bS,hinv,aE⟩:=hrel;have HF:=zC aE;clear aE;obtain⟨ar,dz,rfl⟩:=zD hinv.mem.rules;obtain⟨KX,c0,c1,c2,c3,c4,c5,fz⟩:=hinv.bq;have iz:=hinv.bo
  cases hgo:zbu s p bd with
  | true=>
   have Ga:((tok s p).kind != 46)=true:=(by unfold zbu at hgo;simp at hgo;simpa using hgo.1);have dh:bd<0:=(by unfold zbu at hgo;simp at hgo;exact hgo.2);have Qa:rs.length<=30:=(by rcases Nat.lt_or_ge rs.length 31 with h1 | h1;omega;have:=Ek (by omega);omega);have aP:=(zA HF).trans (zzj s p bd (rs.map (·.R)) (by simpa using Qa) hgo);rw[List.length_map] at aP;have aC:=zC aP;have d0:=hinv.mem.c0;have rY:=hinv.mem.lt;have Qe:(rs.length:Int)<=30:=(by omega);clear HF aP hgo Qb Ek
   by_cases t30:rs.length=30
   ·have tb:zE s p bd rs.length=zaw s p bd:=(by simp[zE,t30]);have Rv:((rs.length:Int)==30)=true:=(by simp;omega);have TB:=zC tb;clear tb t30;go_wp2_with fail;refine (za0 s p bd w.heap.size _ hinv.bq).mono ?_;rintro e w0 ⟨rfl,iA,dV⟩;rw[<-zA TB] at dV;have aM:=hinv.call iA dV hinv.hp;clear iA dV c0 c1 c2 c3 c4 c5 fz hinv d0;go_wp2_with fail;refine (zw2 s p (zE s p bd rs.length) w.heap.size _ aM.bq aM.hp bM).mono ?_;rintro e w3 ⟨hv,bs,bv,rfl,eE,sW,mf,jh⟩;obtain⟨ah,ch,Ae⟩:=zD jh.hd;obtain⟨ab,cb,gT⟩:=zD jh.bo;generalize hnh:(zS.mk (zI s p (zE s p bd rs.length)) (jM s p (zE s p bd rs.length)).1).head.ae.length=nh at Ae;generalize eY:bs.length=nb at gT;subst Ae gT;have QG:=aM.mem.lt;have bf:=aM.call eE sW mf;have Ag:nA w3 (w1.heap.size+1) (zas s p (zE s p bd rs.length)) (.slice ah nh ch) bs (.slice ab nb cb):=⟨zG jh.hd (by omega),zG jh.bo (by omega),λ x hx=>zG (jh.bl x hx) (by omega),jh.eq⟩;have aB:=bf.mem.rules;have Az:=bf.mem.lt;have s1:Hid ((((w3.alloc (Obj.cells #[.string (zI s p (zE s p bd rs.length)).pred,.slice ah nh ch,.bool (zI s p (zE s p bd rs.length)).no,.int .i64 (zI s p (zE s p bd rs.length)).at_,.int .i64 (zI s p (zE s p bd rs.length)).az,.slice ab nb cb] 246)).alloc (Obj.cells #[.string (zI s p (zE s p bd rs.length)).pred,.slice ah nh ch,.bool (zI s p (zE s p bd rs.length)).no,.int .i64 (zI s p (zE s p bd rs.length)).at_,.int .i64 (zI s p (zE s p bd rs.length)).az,.slice ab nb cb] 246)).drew).ownsRow (w1.heap.size+1) 246 6 (.slice ar rs.length dz) rs.length (zab rs)):=(aB.alloc _).alloc _;have s2:Hid (∀ j u,([Value.string (zI s p (zE s p bd rs.length)).pred,.slice ah nh ch,.bool (zI s p (zE s p bd rs.length)).no,.int .i64 (zI s p (zE s p bd rs.length)).at_,.int .i64 (zI s p (zE s p bd rs.length)).az,.slice ab nb cb]:V8)[j]?=some u->(((w3.alloc (Obj.cells #[.string (zI s p (zE s p bd rs.length)).pred,.slice ah nh ch,.bool (zI s p (zE s p bd rs.length)).no,.int .i64 (zI s p (zE s p bd rs.length)).at_,.int .i64 (zI s p (zE s p bd rs.length)).az,.slice ab nb cb] 246)).alloc (Obj.cells #[.string (zI s p (zE s p bd rs.length)).pred,.slice ah nh ch,.bool (zI s p (zE s p bd rs.length)).no,.int .i64 (zI s p (zE s p bd rs.length)).at_,.int .i64 (zI s p (zE s p bd rs.length)).az,.slice ab nb cb] 246)).drew).cell? ((⟨w3.heap.size+1,0,none⟩:Addr).add j)=some u):=World.news_of_block (zoj w3 (Obj.cells #[.string (zI s p (zE s p bd rs.length)).pred,.slice ah nh ch,.bool (zI s p (zE s p bd rs.length)).no,.int .i64 (zI s p (zE s p bd rs.length)).at_,.int .i64 (zI s p (zE s p bd rs.length)).az,.slice ab nb cb] 246) (RR.mk (zas s p (zE s p bd rs.length)) (.slice ah nh ch) bs (.slice ab nb cb)))
    have s3:Hid (∀ u∈([Value.string (zI s p (zE s p bd rs.length)).pred,.slice ah nh ch,.bool (zI s p (zE s p bd rs.length)).no,.int .i64 (zI s p (zE s p bd rs.length)).at_,.int .i64 (zI s p (zE s p bd rs.length)).az,.slice ab nb cb]:V8),u.oneCell'=true):=z92 (zas s p (zE s p bd rs.length)) ah ab nh nb ch cb bs;have s4:Hid (rs.length+1<=maxLen):=(by show _<=_;unfold maxLen;omega);have s5:Hid ((rs.length+1)*88<=140737488355328):=(by show _<=_;omega);have s6:Hid (w1.heap.size+1<=(((w3.alloc (Obj.cells #[.string (zI s p (zE s p bd rs.length)).pred,.slice ah nh ch,.bool (zI s p (zE s p bd rs.length)).no,.int .i64 (zI s p (zE s p bd rs.length)).at_,.int .i64 (zI s p (zE s p bd rs.length)).az,.slice ab nb cb] 246)).alloc (Obj.cells #[.string (zI s p (zE s p bd rs.length)).pred,.slice ah nh ch,.bool (zI s p (zE s p bd rs.length)).no,.int .i64 (zI s p (zE s p bd rs.length)).at_,.int .i64 (zI s p (zE s p bd rs.length)).az,.slice ab nb cb] 246)).drew).heap.size):=(by show _<=_;simp;omega);have hW:∀ k,k<w3.heap.size->(((w3.alloc (Obj.cells #[.string (zI s p (zE s p bd rs.length)).pred,.slice ah nh ch,.bool (zI s p (zE s p bd rs.length)).no,.int .i64 (zI s p (zE s p bd rs.length)).at_,.int .i64 (zI s p (zE s p bd rs.length)).az,.slice ab nb cb] 246)).alloc (Obj.cells #[.string (zI s p (zE s p bd rs.length)).pred,.slice ah nh ch,.bool (zI s p (zE s p bd rs.length)).no,.int .i64 (zI s p (zE s p bd rs.length)).at_,.int .i64 (zI s p (zE s p bd rs.length)).az,.slice ab nb cb] 246)).drew).heap[k]?=w3.heap[k]?:=λ k hk=>(((zK.refl [] w3).alloc _).alloc _).block k hk (by simp)
    have hS:w3.heap.size<=(((w3.alloc (Obj.cells #[.string (zI s p (zE s p bd rs.length)).pred,.slice ah nh ch,.bool (zI s p (zE s p bd rs.length)).no,.int .i64 (zI s p (zE s p bd rs.length)).at_,.int .i64 (zI s p (zE s p bd rs.length)).az,.slice ab nb cb] 246)).alloc (Obj.cells #[.string (zI s p (zE s p bd rs.length)).pred,.slice ah nh ch,.bool (zI s p (zE s p bd rs.length)).no,.int .i64 (zI s p (zE s p bd rs.length)).at_,.int .i64 (zI s p (zE s p bd rs.length)).az,.slice ab nb cb] 246)).drew).heap.size:=(((zK.refl [] w3).alloc _).alloc _).size;have s7:Hid (∀ w5:W8,(((w3.alloc (Obj.cells #[.string (zI s p (zE s p bd rs.length)).pred,.slice ah nh ch,.bool (zI s p (zE s p bd rs.length)).no,.int .i64 (zI s p (zE s p bd rs.length)).at_,.int .i64 (zI s p (zE s p bd rs.length)).az,.slice ab nb cb] 246)).alloc (Obj.cells #[.string (zI s p (zE s p bd rs.length)).pred,.slice ah nh ch,.bool (zI s p (zE s p bd rs.length)).no,.int .i64 (zI s p (zE s p bd rs.length)).at_,.int .i64 (zI s p (zE s p bd rs.length)).az,.slice ab nb cb] 246)).drew).grownBy w5 (Value.slice ar rs.length dz).ownBlock->w5.cell? ⟨w1.heap.size,0,none⟩=some (.slice ar rs.length dz)/\w5.frozen? ⟨w1.heap.size,0,none⟩=false):=λ w5 hg=>
     have hb:=zf7 hW hS aB hg Az
     ⟨(World.cell?_of_block hb).trans bf.mem.c0,(World.frozen?_of_block hb).trans (bf.mem.fz 0)⟩
    have s8:Hid (∀ (w5:W8) (g cap:Nat),(((w3.alloc (Obj.cells #[.string (zI s p (zE s p bd rs.length)).pred,.slice ah nh ch,.bool (zI s p (zE s p bd rs.length)).no,.int .i64 (zI s p (zE s p bd rs.length)).at_,.int .i64 (zI s p (zE s p bd rs.length)).az,.slice ab nb cb] 246)).alloc (Obj.cells #[.string (zI s p (zE s p bd rs.length)).pred,.slice ah nh ch,.bool (zI s p (zE s p bd rs.length)).no,.int .i64 (zI s p (zE s p bd rs.length)).at_,.int .i64 (zI s p (zE s p bd rs.length)).az,.slice ab nb cb] 246)).drew).grownBy w5 (Value.slice ar rs.length dz).ownBlock->w5.ownsRow (w1.heap.size+1) 246 6 (.slice (some ⟨g,0,none⟩) (rs.length+1) cap) (rs.length+1) (zab rs++[Value.string (zI s p (zE s p bd rs.length)).pred,.slice ah nh ch,.bool (zI s p (zE s p bd rs.length)).no,.int .i64 (zI s p (zE s p bd rs.length)).at_,.int .i64 (zI s p (zE s p bd rs.length)).az,.slice ab nb cb])->EZ w w.heap.size w1.heap.size s (rs++[(RR.mk (zas s p (zE s p bd rs.length)) (.slice ah nh ch) bs (.slice ab nb cb))]) (zb2 s p (zE s p bd rs.length)) (jK s p (zE s p bd rs.length)) (.slice (some ⟨g,0,none⟩) (rs.length+1) cap) (w5.setCell ⟨w1.heap.size,0,none⟩ (.slice (some ⟨g,0,none⟩) (rs.length+1) cap))):=λ w5 g cap hg ay=>by
     have dK:=zhz (j:=0) (u:=.slice (some ⟨g,0,none⟩) (rs.length+1) cap) hW hS rfl rfl rfl aB hg Az;have eo:=bf.bw;refine⟨?_,mf,bf.mem.rm hW hS hg Ag ay,bf.bo,bf.bw,bf.below.trans (dK.mono (by omega)),λ r hr=>?_⟩
     ·exact bf.bq.kept (⟨dK.os,dK.tape,dK.output,dK.size,λ k hk hn=>by
       by_cases hko:k<w1.heap.size
       ·exact dK.block k hko
       ·exact absurd (List.mem_range'_1.2 ⟨by omega,by omega⟩) hn⟩:zK (List.range' w1.heap.size w3.heap.size) w3 _) (by intro hm;have:=(List.mem_range'_1.1 hm).1;omega)
     ·rcases List.mem_append.1 hr with hr | hr
      ·exact bf.eJ r hr
      ·simp at hr;subst hr;exact zvt s p _
    have x1:w3.cell? ⟨w1.heap.size,0,none⟩=some (.slice ar rs.length dz):=bf.mem.c0;have mP:Hid (rs.length=30->0<=jK s p (zE s p bd rs.length)):=λ e=>zok e
    clear hW hS aB jh Ag eE sW aM bf hnh eY;unfold zb3;go_wp2_with fail
    go_region_law (refine step_append_lies _ rfl (.tmp 55) (.tmp 57) 238 rfl (w1.heap.size+1) 246 i0 (.agg #[.string { data:=#[] },.slice none 0 0,.bool false,.int .i64 0,.int .i64 0,.slice none 0 0]) 6 88 Tryz.underlying238 hi bL aY bg rfl (by decide) (.slice ar rs.length dz) rs.length (zab rs) (by simp[Act.eval]) (zA s1) ⟨w3.heap.size+1,0,none⟩ 1 1 [Value.string (zI s p (zE s p bd rs.length)).pred,.slice ah nh ch,.bool (zI s p (zE s p bd rs.length)).no,.int .i64 (zI s p (zE s p bd rs.length)).at_,.int .i64 (zI s p (zE s p bd rs.length)).az,.slice ab nb cb] (by simp[Act.eval]) rfl (zA s2) (zA s3) (by decide) (zA s4) (zA s5) (zA s6) _ rfl ?_;intro g cap w5 aq aU bW hlt5;obtain⟨y1,y2⟩:=zA s7 w5 aU)
    all_goals
     go_wp2_with fail;go_roundg (32-(rs.length+1));exact⟨_,_,_,_,by simp;omega,λ e=>zA mP (by simp at e;omega),by simp,zA s8 w5 g cap aU aq,by rw[List.map_append];exact zA aC⟩;omega
   ·have tb:zE s p bd rs.length=bd:=(by simp[zE,t30]);have Rv:((rs.length:Int)==30)=false:=(by simp;omega);have TB:=zC tb;clear tb t30;go_wp2_with fail;have aM:EZ w w.heap.size w1.heap.size s rs p (zE s p bd rs.length) (.slice ar rs.length dz) wr:=(by rw[zA TB];exact hinv);clear c0 c1 c2 c3 c4 c5 fz hinv d0;refine (zw2 s p (zE s p bd rs.length) w.heap.size _ aM.bq aM.hp bM).mono ?_;rintro e w3 ⟨hv,bs,bv,rfl,eE,sW,mf,jh⟩;obtain⟨ah,ch,Ae⟩:=zD jh.hd;obtain⟨ab,cb,gT⟩:=zD jh.bo;generalize hnh:(zS.mk (zI s p (zE s p bd rs.length)) (jM s p (zE s p bd rs.length)).1).head.ae.length=nh at Ae;generalize eY:bs.length=nb at gT;subst Ae gT;have QG:=aM.mem.lt;have bf:=aM.call eE sW mf;have Ag:nA w3 (w1.heap.size+1) (zas s p (zE s p bd rs.length)) (.slice ah nh ch) bs (.slice ab nb cb):=⟨zG jh.hd (by omega),zG jh.bo (by omega),λ x hx=>zG (jh.bl x hx) (by omega),jh.eq⟩;have aB:=bf.mem.rules;have Az:=bf.mem.lt;have s1:Hid ((((w3.alloc (Obj.cells #[.string (zI s p (zE s p bd rs.length)).pred,.slice ah nh ch,.bool (zI s p (zE s p bd rs.length)).no,.int .i64 (zI s p (zE s p bd rs.length)).at_,.int .i64 (zI s p (zE s p bd rs.length)).az,.slice ab nb cb] 246)).alloc (Obj.cells #[.string (zI s p (zE s p bd rs.length)).pred,.slice ah nh ch,.bool (zI s p (zE s p bd rs.length)).no,.int .i64 (zI s p (zE s p bd rs.length)).at_,.int .i64 (zI s p (zE s p bd rs.length)).az,.slice ab nb cb] 246)).drew).ownsRow (w1.heap.size+1) 246 6 (.slice ar rs.length dz) rs.length (zab rs)):=(aB.alloc _).alloc _;have s2:Hid (∀ j u,([Value.string (zI s p (zE s p bd rs.length)).pred,.slice ah nh ch,.bool (zI s p (zE s p bd rs.length)).no,.int .i64 (zI s p (zE s p bd rs.length)).at_,.int .i64 (zI s p (zE s p bd rs.length)).az,.slice ab nb cb]:V8)[j]?=some u->(((w3.alloc (Obj.cells #[.string (zI s p (zE s p bd rs.length)).pred,.slice ah nh ch,.bool (zI s p (zE s p bd rs.length)).no,.int .i64 (zI s p (zE s p bd rs.length)).at_,.int .i64 (zI s p (zE s p bd rs.length)).az,.slice ab nb cb] 246)).alloc (Obj.cells #[.string (zI s p (zE s p bd rs.length)).pred,.slice ah nh ch,.bool (zI s p (zE s p bd rs.length)).no,.int .i64 (zI s p (zE s p bd rs.length)).at_,.int .i64 (zI s p (zE s p bd rs.length)).az,.slice ab nb cb] 246)).drew).cell? ((⟨w3.heap.size+1,0,none⟩:Addr).add j)=some u):=World.news_of_block (zoj w3 (Obj.cells #[.string (zI s p (zE s p bd rs.length)).pred,.slice ah nh ch,.bool (zI s p (zE s p bd rs.length)).no,.int .i64 (zI s p (zE s p bd rs.length)).at_,.int .i64 (zI s p (zE s p bd rs.length)).az,.slice ab nb cb] 246) (RR.mk (zas s p (zE s p bd rs.length)) (.slice ah nh ch) bs (.slice ab nb cb)))
    have s3:Hid (∀ u∈([Value.string (zI s p (zE s p bd rs.length)).pred,.slice ah nh ch,.bool (zI s p (zE s p bd rs.length)).no,.int .i64 (zI s p (zE s p bd rs.length)).at_,.int .i64 (zI s p (zE s p bd rs.length)).az,.slice ab nb cb]:V8),u.oneCell'=true):=z92 (zas s p (zE s p bd rs.length)) ah ab nh nb ch cb bs;have s4:Hid (rs.length+1<=maxLen):=(by show _<=_;unfold maxLen;omega);have s5:Hid ((rs.length+1)*88<=140737488355328):=(by show _<=_;omega);have s6:Hid (w1.heap.size+1<=(((w3.alloc (Obj.cells #[.string (zI s p (zE s p bd rs.length)).pred,.slice ah nh ch,.bool (zI s p (zE s p bd rs.length)).no,.int .i64 (zI s p (zE s p bd rs.length)).at_,.int .i64 (zI s p (zE s p bd rs.length)).az,.slice ab nb cb] 246)).alloc (Obj.cells #[.string (zI s p (zE s p bd rs.length)).pred,.slice ah nh ch,.bool (zI s p (zE s p bd rs.length)).no,.int .i64 (zI s p (zE s p bd rs.length)).at_,.int .i64 (zI s p (zE s p bd rs.length)).az,.slice ab nb cb] 246)).drew).heap.size):=(by show _<=_;simp;omega);have hW:∀ k,k<w3.heap.size->(((w3.alloc (Obj.cells #[.string (zI s p (zE s p bd rs.length)).pred,.slice ah nh ch,.bool (zI s p (zE s p bd rs.length)).no,.int .i64 (zI s p (zE s p bd rs.length)).at_,.int .i64 (zI s p (zE s p bd rs.length)).az,.slice ab nb cb] 246)).alloc (Obj.cells #[.string (zI s p (zE s p bd rs.length)).pred,.slice ah nh ch,.bool (zI s p (zE s p bd rs.length)).no,.int .i64 (zI s p (zE s p bd rs.length)).at_,.int .i64 (zI s p (zE s p bd rs.length)).az,.slice ab nb cb] 246)).drew).heap[k]?=w3.heap[k]?:=λ k hk=>(((zK.refl [] w3).alloc _).alloc _).block k hk (by simp)
    have hS:w3.heap.size<=(((w3.alloc (Obj.cells #[.string (zI s p (zE s p bd rs.length)).pred,.slice ah nh ch,.bool (zI s p (zE s p bd rs.length)).no,.int .i64 (zI s p (zE s p bd rs.length)).at_,.int .i64 (zI s p (zE s p bd rs.length)).az,.slice ab nb cb] 246)).alloc (Obj.cells #[.string (zI s p (zE s p bd rs.length)).pred,.slice ah nh ch,.bool (zI s p (zE s p bd rs.length)).no,.int .i64 (zI s p (zE s p bd rs.length)).at_,.int .i64 (zI s p (zE s p bd rs.length)).az,.slice ab nb cb] 246)).drew).heap.size:=(((zK.refl [] w3).alloc _).alloc _).size;have s7:Hid (∀ w5:W8,(((w3.alloc (Obj.cells #[.string (zI s p (zE s p bd rs.length)).pred,.slice ah nh ch,.bool (zI s p (zE s p bd rs.length)).no,.int .i64 (zI s p (zE s p bd rs.length)).at_,.int .i64 (zI s p (zE s p bd rs.length)).az,.slice ab nb cb] 246)).alloc (Obj.cells #[.string (zI s p (zE s p bd rs.length)).pred,.slice ah nh ch,.bool (zI s p (zE s p bd rs.length)).no,.int .i64 (zI s p (zE s p bd rs.length)).at_,.int .i64 (zI s p (zE s p bd rs.length)).az,.slice ab nb cb] 246)).drew).grownBy w5 (Value.slice ar rs.length dz).ownBlock->w5.cell? ⟨w1.heap.size,0,none⟩=some (.slice ar rs.length dz)/\w5.frozen? ⟨w1.heap.size,0,none⟩=false):=λ w5 hg=>
     have hb:=zf7 hW hS aB hg Az
     ⟨(World.cell?_of_block hb).trans bf.mem.c0,(World.frozen?_of_block hb).trans (bf.mem.fz 0)⟩
    have s8:Hid (∀ (w5:W8) (g cap:Nat),(((w3.alloc (Obj.cells #[.string (zI s p (zE s p bd rs.length)).pred,.slice ah nh ch,.bool (zI s p (zE s p bd rs.length)).no,.int .i64 (zI s p (zE s p bd rs.length)).at_,.int .i64 (zI s p (zE s p bd rs.length)).az,.slice ab nb cb] 246)).alloc (Obj.cells #[.string (zI s p (zE s p bd rs.length)).pred,.slice ah nh ch,.bool (zI s p (zE s p bd rs.length)).no,.int .i64 (zI s p (zE s p bd rs.length)).at_,.int .i64 (zI s p (zE s p bd rs.length)).az,.slice ab nb cb] 246)).drew).grownBy w5 (Value.slice ar rs.length dz).ownBlock->w5.ownsRow (w1.heap.size+1) 246 6 (.slice (some ⟨g,0,none⟩) (rs.length+1) cap) (rs.length+1) (zab rs++[Value.string (zI s p (zE s p bd rs.length)).pred,.slice ah nh ch,.bool (zI s p (zE s p bd rs.length)).no,.int .i64 (zI s p (zE s p bd rs.length)).at_,.int .i64 (zI s p (zE s p bd rs.length)).az,.slice ab nb cb])->EZ w w.heap.size w1.heap.size s (rs++[(RR.mk (zas s p (zE s p bd rs.length)) (.slice ah nh ch) bs (.slice ab nb cb))]) (zb2 s p (zE s p bd rs.length)) (jK s p (zE s p bd rs.length)) (.slice (some ⟨g,0,none⟩) (rs.length+1) cap) (w5.setCell ⟨w1.heap.size,0,none⟩ (.slice (some ⟨g,0,none⟩) (rs.length+1) cap))):=λ w5 g cap hg ay=>by
     have dK:=zhz (j:=0) (u:=.slice (some ⟨g,0,none⟩) (rs.length+1) cap) hW hS rfl rfl rfl aB hg Az;have eo:=bf.bw;refine⟨?_,mf,bf.mem.rm hW hS hg Ag ay,bf.bo,bf.bw,bf.below.trans (dK.mono (by omega)),λ r hr=>?_⟩
     ·exact bf.bq.kept (⟨dK.os,dK.tape,dK.output,dK.size,λ k hk hn=>by
       by_cases hko:k<w1.heap.size
       ·exact dK.block k hko
       ·exact absurd (List.mem_range'_1.2 ⟨by omega,by omega⟩) hn⟩:zK (List.range' w1.heap.size w3.heap.size) w3 _) (by intro hm;have:=(List.mem_range'_1.1 hm).1;omega)
     ·rcases List.mem_append.1 hr with hr | hr
      ·exact bf.eJ r hr
      ·simp at hr;subst hr;exact zvt s p _
    have x1:w3.cell? ⟨w1.heap.size,0,none⟩=some (.slice ar rs.length dz):=bf.mem.c0;have mP:Hid (rs.length=30->0<=jK s p (zE s p bd rs.length)):=λ e=>zok e
    clear hW hS aB jh Ag eE sW aM bf hnh eY;unfold zb3;go_wp2_with fail
    go_region_law (refine step_append_lies _ rfl (.tmp 55) (.tmp 57) 238 rfl (w1.heap.size+1) 246 i0 (.agg #[.string { data:=#[] },.slice none 0 0,.bool false,.int .i64 0,.int .i64 0,.slice none 0 0]) 6 88 Tryz.underlying238 hi bL aY bg rfl (by decide) (.slice ar rs.length dz) rs.length (zab rs) (by simp[Act.eval]) (zA s1) ⟨w3.heap.size+1,0,none⟩ 1 1 [Value.string (zI s p (zE s p bd rs.length)).pred,.slice ah nh ch,.bool (zI s p (zE s p bd rs.length)).no,.int .i64 (zI s p (zE s p bd rs.length)).at_,.int .i64 (zI s p (zE s p bd rs.length)).az,.slice ab nb cb] (by simp[Act.eval]) rfl (zA s2) (zA s3) (by decide) (zA s4) (zA s5) (zA s6) _ rfl ?_;intro g cap w5 aq aU bW hlt5;obtain⟨y1,y2⟩:=zA s7 w5 aU)
    all_goals
     go_wp2_with fail;go_roundg (32-(rs.length+1));exact⟨_,_,_,_,by simp;omega,λ e=>zA mP (by simp at e;omega),by simp,zA s8 w5 g cap aU aq,by rw[List.map_append];exact zA aC⟩;omega
  | false=>
   have Eu:yG s=(rs.map (·.R),p,bd):=(zA HF).trans (zsu s _ p bd _ hgo);have bj:¬ 800<s.size:=by omega
   by_cases dh:0<=bd
   ·have hR:yY s=(false,2,bd):=(by unfold yY;rw[if_neg bj,Eu,if_pos dh]);have HR:=zC hR;clear HF hR Eu
    by_cases Ga:((tok s p).kind != 46)=true
    ·go_wp2_with fail;go_quiet (fail)
     go_wp2
     go_ret3
     exact⟨none,by rw[zA HR];rfl,by rw[zA HR];rfl,below_drewN hinv.below _,IH _ _ _⟩
    ·have KO:((tok s p).kind != 46)=false:=(by simpa using Ga);clear Ga;go_wp2_with fail;go_quiet (fail)
     go_wp2
     go_ret3
     exact⟨none,by rw[zA HR];rfl,by rw[zA HR];rfl,below_drewN hinv.below _,IH _ _ _⟩
   ·have KO:((tok s p).kind != 46)=false:=by
     unfold zbu at hgo
     cases hk:(tok s p).kind != 46 with
     | false=>rfl
     | true=>rw[hk] at hgo;simp at hgo;omega
    have du:(yJ rs).length<=1000:=(by have:=z1d rs hinv.eJ;omega);have FR:yJ rs=(yG s).1.flatMap zS.atoms:=(by rw[Eu];exact zk2 rs);have QM:zT s=yN (yJ rs) []:=(by unfold zT;rw[FR]);have Tw:yY s=if 0<=(yN (yJ rs) []).1 then (false,3,(yN (yJ rs) []).1) else if 0<=yT (rs.map (·.R)) then (false,4,yT (rs.map (·.R))) else if 0<=vN (yN (yJ rs) []).2 (vI (yN (yJ rs) []).2 (rs.map (·.R))) (rs.map (·.R)) then (false,5,vN (yN (yJ rs) []).2 (vI (yN (yJ rs) []).2 (rs.map (·.R))) (rs.map (·.R))) else (true,0,0):=by
     unfold yY;rw[if_neg bj,QM,Eu,if_neg dh]
    have py:=zC Tw;have bh:=z7j (yJ rs) [];have Kg:=zeh (yJ rs);have RV:=zC Kg;have bt:(yN (yJ rs) []).2.length<=1000:=(by simp at bh;omega);have HB:=zC hinv.below;have Wg:=zC hinv.mem;have eo:=hinv.bw;have Xz:bd<0:=(by omega);have VB:=zC (zk2 rs);have Ww:=zC (show rs.map (·.R)=(yG s).1 by rw[Eu]);have OE:=zC (show (yN (yJ rs) []).2=(zT s).2 by rw[QM]);have N5:=zC FR;clear HF Eu FR QM Tw bh Kg hgo dh bj hinv;go_wp2_with fail;refine (z06 wr w1.heap.size rs _ _ _ _ (zA Wg) du).mono ?_;rintro e w2 ⟨rfl,NG,IC,dD,aK⟩;clear c0 c1 c2 c3 c4 c5 fz;generalize (yN (yJ rs) []).1=n1 at *;generalize (yN (yJ rs) []).2=ps at *
    by_cases ia:0<=n1
    ·have wY:=zC ((zA py).trans (if_pos ia));clear py;go_wp2_with fail
     go_ret3
     exact⟨none,by rw[zA wY];rfl,by rw[zA wY];rfl,(zA HB).trans (aK.mono (by omega)),IH _ _ _⟩
    ·have wY:=zC ((zA py).trans (if_neg ia));have aS:=zA RV (by omega);have fM:=zC aS;have Qy:n1<0:=(by omega);clear py ia RV;go_wp2_with fail;refine (zz3 w2 w1.heap.size rs ps ps _ _ _ _ dD).mono ?_;rintro e w3 ⟨rfl,cI⟩;have fq:=dD.kept ((zK.refl [] _).ak cI) (by simp);have kn:Below w.heap.size w w3:=((zA HB).trans (aK.mono (by omega))).trans (cI.mono (by have:=(zA HB).size;have:=aK.size;omega));clear dD aK cI HB
     by_cases oI:0<=yT (rs.map (·.R))
     ·have mG:=zC ((zA wY).trans (if_pos oI));clear wY;go_wp2_with fail
      go_ret3
      exact⟨none,by rw[zA mG];rfl,by rw[zA mG];rfl,kn,IH _ _ _⟩
     ·have mG:=zC ((zA wY).trans (if_neg oI));have Ys:yT (rs.map (·.R))<0:=(by omega);clear wY oI;go_wp2_with fail;refine (z1y w3 w1.heap.size rs ps _ _ _ _ fq bt (zA fM)).mono ?_;rintro e w4 ⟨rfl,bZ⟩;have rX:=fq.kept ((zK.refl [] _).ak bZ) (by simp);have dN:Below w.heap.size w w4:=kn.trans (bZ.mono (by have:=kn.size;omega));clear fq bZ
      by_cases Ay:0<=vN ps (vI ps (rs.map (·.R))) (rs.map (·.R))
      ·have CI:=zC ((zA mG).trans (if_pos Ay));clear mG;go_wp2_with fail
       go_ret3
       exact⟨none,by rw[zA CI];rfl,by rw[zA CI];rfl,dN,IH _ _ _⟩
      ·have CI:=zC ((zA mG).trans (if_neg Ay));obtain⟨f0,uw,me⟩:=zgz ps (rs.map (·.R)) (by rw[<-zA VB];exact zA fM) Ay;have Yt:vN ps (vI ps (rs.map (·.R))) (rs.map (·.R))<0:=(by omega);have Fg:=zC uw;have Fh:=zC me;clear mG Ay uw me;go_wp2_with fail;refine (z21 w4 w1.heap.size rs ps _ _ _ _ rX bt (zA fM) f0 (zA Fg) (λ i=>Nat.le_trans (zA Fh i) bt)).mono ?_;rintro e w5 ⟨rfl,S,Av,Gu,Ds,Qj,dC⟩;have Qm:=rX.lt;go_wp2_with fail
       go_ret3
       refine⟨some ⟨w1.heap.size,0,none⟩,by rw[zA CI];rfl,by rw[zA CI];rfl,dN.trans (dC.mono (by omega)),λ a ha=>?_⟩;injection ha with ha
       subst ha;exact⟨_,rs,ps,_,_,_,_,S,rfl,by omega,Qm,Av,Gu,Ds,Qj,zA Ww,zA OE,by rw[<-zA N5];exact zA fM⟩
theorem z3b (s:B8)(w:W8)(hs:800<s.size):
  Calls Tryz.prog 79 #[.string s] w λ e w'=>∃ y:O8,e=.returned (.tuple #[.pointer y,.int .i64 (yY s).2.1,.int .i64 (yY s).2.2])/\y.isSome=(yY s).1/\Below w.heap.size w w'/\z0s s w y w':=by
 have YG:(800:Int)<s.size:=by omega
 have hR:yY s=(false,1,0):=by unfold yY;rw[if_pos hs]
 have HR:=zC hR;clear hR;go_enter Tryz.func79,Tryz.ntmps79
 go_wp2
 go_ret3
 exact⟨none,by rw[zA HR];rfl,by rw[zA HR];rfl,Below.refl _ _,IH _ _ _⟩
theorem zjx (s:B8)(w:W8):
  Calls Tryz.prog 79 #[.string s] w λ e w'=>∃ y:O8,e=.returned (.tuple #[.pointer y,.int .i64 (yY s).2.1,.int .i64 (yY s).2.2])/\y.isSome=(yY s).1/\Below w.heap.size w w'/\z0s s w y w':=by
 rcases Nat.lt_or_ge 800 s.size with h | h
 ·exact z3b s w h
 ·exact zyr s w h
theorem zu1 (s:B8)(w:W8):
  Calls Tryz.prog 79 #[.string s] w λ e w'=>∃ y:O8,e=.returned (.tuple #[.pointer y,.int .i64 (yY s).2.1,.int .i64 (yY s).2.2])/\y.isSome=(yY s).1/\Below w.heap.size w w':=by
 refine (zjx s w).mono ?_;rintro e w' ⟨y,h1,h2,h3,_⟩;exact⟨y,h1,h2,h3⟩
end
end Go.Proofs.YtldkpahaocjdpaaGreat
