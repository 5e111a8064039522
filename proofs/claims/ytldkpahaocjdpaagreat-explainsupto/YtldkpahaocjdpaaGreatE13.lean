/-
  The program's reader: atom.
-/
import Derived.Test.YtldkpahaocjdpaaGreatE12
set_option maxHeartbeats 16000000
set_option maxRecDepth 1000000
namespace Go.Proofs.YtldkpahaocjdpaaGreat
section
open Go.RowKit
theorem z7y (w:W8)(b:Nat)(s:B8)(pos num:Nat)(mv:Value)(neg:Bool)(start:Nat)(h:dT w b s pos num mv)(aJ:pos<=s.size)(hs:s.size<=2000000)(hk:¬ (zF s pos).1=2):
  Calls Tryz.prog 98 #[.pointer (some ⟨b,0,none⟩),.bool neg,.int .i64 start] w λ e w'=>e=.returned (.tuple #[.agg #[.string { data:=#[] },.slice none 0 0],.bool false])/\zK [b] w w'/\dT w' b s pos num mv:=by
 have bM:s.size<=maxLen:=by unfold maxLen;omega
 have bn:((zF s pos).1==2)=false:=by simp[hk]
 have ht:yM s pos 2=pos:=by unfold yM;rw[if_neg (by rw[bn];decide)]
 have HT:=zC ht;have h0:=pM.start neg start h aJ;obtain⟨aH,c0,c1,c2,c3,c4,c5,fz⟩:=h;clear hk ht;go_enter Tryz.func98,Tryz.ntmps98;go_wp2_with fail
 go_region
 clear c0 c1 c2 c3 c4 c5 fz;go_wp2_with fail;refine (ze0 s pos num mv b _ h0.dx aJ hs).mono ?_;rintro e w2 ⟨rfl,aK⟩;have h2:=h0.same aK;have d2:=h2.mc.c2;have df:=h2.mc.fz 2;have h3:=h2.pred (xQ s pos);have HI:=zC h3;clear h0 aK h2 h3;go_wp2_with fail;refine (xI s pos num mv 2 b _ (zA HI).dx aJ bM).mono ?_;rintro e w4 ⟨rfl,pC,il⟩;rw[zA HT] at il;have h5:=(zA HI).call pC il aJ;have xn:=h5.ra;obtain⟨L6,L7,L8,SU⟩:=xn;clear HI pC il d2 df;go_wp2_with fail;obtain⟨q0,q1⟩:=yd6 h5.ra (.string { data:=#[] }) (.slice none 0 0);refine bodyPost_ret (v:=.tuple #[.agg #[.string { data:=#[] },.slice none 0 0],.bool false]) (by simp[results,Tryz.results98,go_sem,q0,q1]) rfl ⟨rfl,?_,?_⟩
 ·exact (h5.kept.setCell (.inr L9) _).setCell (.inr L9) _
 ·exact h5.dx.kept (((zK.refl [w.heap.size] _).setCell (by simp) _).setCell (by simp) _) (by simp;omega)
theorem z2o:(Tryz.prog.info? 221).map (λ i=>(i.zero,i.size,i.bytes))=some (some (.agg #[.int .i64 0,.bool false,.string { data:=#[] },.slice none 0 0,.int .i64 0,.int .i64 0,.int .i64 0,.int .i64 0,.int .i64 0,.int .i64 0]),10,104):=by kernel_rfl
theorem zy2 (w:W8)(b:Nat)(s:B8)(pos num:Nat)(mv:Value)(neg:Bool)(start:Nat)(ms:List (xU × Value))(h:dT w b s pos num mv)(gU:ey w (b+1) mv ms)(bh:ms.length<=1000)(aJ:pos<=s.size)(hs:s.size<=2000000)(hk:(zF s pos).1=2)(my:¬ (zF s (zF s pos).2.2).1=5):
  Calls Tryz.prog 98 #[.pointer (some ⟨b,0,none⟩),.bool neg,.int .i64 start] w λ e w'=>∃ tv kq,e=.returned (.tuple #[.agg #[.string (xQ s pos),tv],.bool true])/\zK (b::mv.ownBlock.toList) w w'/\dT w' b s (zF s pos).2.2 num kq/\ey w' (b+1) kq (ms++[(⟨num,neg,xQ s pos,[],start,(zF s pos).2.1,λ _=>0⟩,tv)])/\w'.ownsRow w.heap.size 191 1 tv 0 (xH [])/\(∀ k,kq.ownBlock=some k->mv.ownBlock=some k\/w.heap.size<=k):=by
 obtain⟨i0,hi,bL,aY,bg⟩:=info_parts z2o;have bM:s.size<=maxLen:=by unfold maxLen;omega
 have bn:((zF s pos).1==2)=true:=by rw[hk];rfl
 have Ak:((zF s (zF s pos).2.2).1==5)=false:=by simp[my]
 have ht:yM s pos 2=(zF s pos).2.2:=by unfold yM;rw[if_pos bn]
 have ED:yM s (zF s pos).2.2 5=(zF s pos).2.2:=by unfold yM;rw[if_neg (by rw[Ak];decide)]
 have HT:=zC ht;have Fz:=zC ED;have bI:=(xT s pos aJ).2;have h0:=pM.start neg start h aJ;obtain⟨am,kJ,rfl⟩:=zD gU.row;have OV:=zC (λ (x:xU × Value) (hx:x∈ms) k (e:x.2.ownBlock=some k)=>((gU.each x hx).lt k e).2);have lf:=zC (λ k (e:(Value.slice am ms.length kJ).ownBlock=some k)=>(gU.row.lt k e).2);obtain⟨aH,c0,c1,c2,c3,c4,c5,fz⟩:=h;clear hk ht ED my;go_enter Tryz.func98,Tryz.ntmps98;go_wp2_with fail
 go_region
 clear c0 c1 c2 c3 c4 c5 fz;go_wp2_with fail;refine (ze0 s pos num _ b _ h0.dx aJ hs).mono ?_;rintro e w2 ⟨rfl,aK⟩;have h2:=h0.same aK;have d2:=h2.mc.c2;have df:=h2.mc.fz 2;have h3:=h2.pred (xQ s pos);have HI:=zC h3;clear h0 aK h2 h3;go_wp2_with fail;refine (xI s pos num _ 2 b _ (zA HI).dx aJ bM).mono ?_;rintro e w4 ⟨rfl,pC,il⟩;rw[zA HT] at il;have h5:=(zA HI).call pC il bI;clear HI pC il d2 df;go_wp2_with fail;refine (xI s (zF s pos).2.2 num _ 5 b _ h5.dx bI bM).mono ?_;rintro e w6 ⟨rfl,Da,uz⟩;rw[zA Fz] at uz;have h7:=h5.call Da uz bI;clear h5 Da uz;have sU:ey w6 (b+1) (.slice am ms.length kJ) ms:=gU.kept h7.kept (by simp);obtain⟨x0,x1,x2,x3,x4,x5,x6,xp,xf⟩:=h7.mc;have y0:=xp 0 (by omega);have y1:=xp 1 (by omega);have y2:=xp 2 (by omega);have y3:=xp 3 (by omega);have r5:=h7.dx.c5;have aB:=sU.row;have s1:Hid (((w6.alloc (Obj.cells #[.int IntKind.i64 ↑num,.bool neg,.string (xQ s pos),.slice none 0 0,.int IntKind.i64 ↑start,.int IntKind.i64 ↑(zF s pos).snd.fst,.int IntKind.i64 0,.int IntKind.i64 0,.int IntKind.i64 0,.int IntKind.i64 0] 221)).drew).ownsRow (b+1) 221 10 (Value.slice am ms.length kJ) ms.length (za7 ms)):=aB.alloc _;have s2:Hid (∀ j u,([Value.int IntKind.i64 ↑num,Value.bool neg,Value.string (xQ s pos),.slice none 0 0,Value.int IntKind.i64 ↑start,Value.int IntKind.i64 ↑(zF s pos).snd.fst,Value.int IntKind.i64 0,Value.int IntKind.i64 0,Value.int IntKind.i64 0,Value.int IntKind.i64 0]:V8)[j]?=some u->((w6.alloc (Obj.cells #[.int IntKind.i64 ↑num,.bool neg,.string (xQ s pos),.slice none 0 0,.int IntKind.i64 ↑start,.int IntKind.i64 ↑(zF s pos).snd.fst,.int IntKind.i64 0,.int IntKind.i64 0,.int IntKind.i64 0,.int IntKind.i64 0] 221)).drew).cell? ((⟨w6.heap.size,0,none⟩:Addr).add j)=some u):=World.news_of_block (heap_alloc_new w6 _);have s3:Hid (∀ u∈([Value.int IntKind.i64 ↑num,Value.bool neg,Value.string (xQ s pos),.slice none 0 0,Value.int IntKind.i64 ↑start,Value.int IntKind.i64 ↑(zF s pos).snd.fst,Value.int IntKind.i64 0,Value.int IntKind.i64 0,Value.int IntKind.i64 0,Value.int IntKind.i64 0]:V8),u.oneCell'=true):=z3p ⟨num,neg,xQ s pos,[],start,(zF s pos).2.1,λ _=>0⟩ none 0 0
 have s4:Hid (ms.length+1<=maxLen):=by show _<=_;unfold maxLen;omega
 have s5:Hid ((ms.length+1)*104<=140737488355328):=by show _<=_;omega
 have s6:Hid (b+1<=((w6.alloc (Obj.cells #[.int IntKind.i64 ↑num,.bool neg,.string (xQ s pos),.slice none 0 0,.int IntKind.i64 ↑start,.int IntKind.i64 ↑(zF s pos).snd.fst,.int IntKind.i64 0,.int IntKind.i64 0,.int IntKind.i64 0,.int IntKind.i64 0] 221)).drew).heap.size):=by show _<=_;have:=h7.dx.lt;simp;omega
 have hW:∀ k,k<w6.heap.size->((w6.alloc (Obj.cells #[.int IntKind.i64 ↑num,.bool neg,.string (xQ s pos),.slice none 0 0,.int IntKind.i64 ↑start,.int IntKind.i64 ↑(zF s pos).snd.fst,.int IntKind.i64 0,.int IntKind.i64 0,.int IntKind.i64 0,.int IntKind.i64 0] 221)).drew).heap[k]?=w6.heap[k]?:=λ k hk=>((zK.refl [] w6).alloc _).block k hk (by simp)
 have hS:w6.heap.size<=((w6.alloc (Obj.cells #[.int IntKind.i64 ↑num,.bool neg,.string (xQ s pos),.slice none 0 0,.int IntKind.i64 ↑start,.int IntKind.i64 ↑(zF s pos).snd.fst,.int IntKind.i64 0,.int IntKind.i64 0,.int IntKind.i64 0,.int IntKind.i64 0] 221)).drew).heap.size:=((zK.refl [] w6).alloc _).size;have Df:w6.ownsRow w.heap.size 191 1 (.slice none 0 0) ([]:List (Bool × B8)).length (xH []):=World.ownsRow_nil _ _ _ _;have s8:=zC (λ (w5:W8) (g cap:Nat) (hg:((w6.alloc (Obj.cells #[.int IntKind.i64 ↑num,.bool neg,.string (xQ s pos),.slice none 0 0,.int IntKind.i64 ↑start,.int IntKind.i64 ↑(zF s pos).snd.fst,.int IntKind.i64 0,.int IntKind.i64 0,.int IntKind.i64 0,.int IntKind.i64 0] 221)).drew).grownBy w5 (Value.slice am ms.length kJ).ownBlock) (ay:w5.ownsRow (b+1) 221 10 (.slice (some ⟨g,0,none⟩) (ms.length+1) cap) (ms.length+1) (za7 ms++[Value.int IntKind.i64 ↑num,Value.bool neg,Value.string (xQ s pos),.slice none 0 0,Value.int IntKind.i64 ↑start,Value.int IntKind.i64 ↑(zF s pos).snd.fst,Value.int IntKind.i64 0,Value.int IntKind.i64 0,Value.int IntKind.i64 0,Value.int IntKind.i64 0]))=>z3o (v':=.slice (some ⟨g,0,none⟩) (ms.length+1) cap) h7 sU (zA lf) Df hW hS rfl rfl rfl hg ay);have h7l:=h7.mc.lt;have nH:=h7.dx.lt;clear hW hS aB sU Df xp;go_wp2_with fail
 go_region_law (refine step_append_lies _ rfl (.tmp 41) (.tmp 43) 98 rfl (b+1) 221 i0 (.agg #[.int .i64 0,.bool false,.string { data:=#[] },.slice none 0 0,.int .i64 0,.int .i64 0,.int .i64 0,.int .i64 0,.int .i64 0,.int .i64 0]) 10 104 Tryz.underlying98 hi bL aY bg rfl (by decide) (Value.slice am ms.length kJ) ms.length (za7 ms) (by simp[Act.eval]) (zA s1) ⟨w6.heap.size,0,none⟩ 1 1 [Value.int IntKind.i64 ↑num,Value.bool neg,Value.string (xQ s pos),.slice none 0 0,Value.int IntKind.i64 ↑start,Value.int IntKind.i64 ↑(zF s pos).snd.fst,Value.int IntKind.i64 0,Value.int IntKind.i64 0,Value.int IntKind.i64 0,Value.int IntKind.i64 0] (by simp[Act.eval]) rfl (zA s2) (zA s3) (by decide) (zA s4) (zA s5) (zA s6) _ rfl ?_;intro g cap w5 aq aU bW hlt5;obtain⟨e1,e2,e3,e4,e5,e6,e7⟩:=zA s8 w5 g cap aU aq;have z5:=e7.c5;have zf:=e7.fz 5)
 all_goals
  obtain⟨L6,L7,L8,SU⟩:=e5;have m2:=e6.c2;have m3:=e6.c3;have ml:=e6.lt;clear s1 s2 s3 s4 s5 s6 s8 x0 x1 x2 x3 x4 x5 x6 xf y0 y1 y2 y3 r5 z5 zf h7;go_wp2_with fail;obtain⟨q0,q1⟩:=yd6 (RA.mk L6 L7 L8 SU) (.string (xQ s pos)) (.slice none 0 0);have kk:=zby (w5.setCell ⟨b,5,none⟩ (.slice (some ⟨g,0,none⟩) (ms.length+1) cap)) w.heap.size (.string (xQ s pos)) (.slice none 0 0);refine bodyPost_ret (v:=.tuple #[.agg #[.string (xQ s pos),.slice none 0 0],.bool true]) (by simp[results,Tryz.results98,go_sem,q0,q1]) rfl ⟨_,_,rfl,?_,e2.kept kk (by simp;omega),?_,?_,λ k e=>?_⟩
  ·exact (e1.setCell (.inr L9) _).setCell (.inr L9) _
  ·refine zuk e3 kk (λ k e=>?_) (λ x hx k e=>?_)
   ·rcases bW with h1 | h1
    ·have:=zA lf g h1;injection e with e;simp only at e;omega
    ·injection e with e;simp only at e;simp at h1;omega
   ·rcases List.mem_append.1 hx with hx | hx
    ·have:=zA OV x hx k e;omega
    ·simp at hx;subst hx;cases e
  ·exact World.ownsRow_nil _ _ _ _
  ·injection e with e
   simp only at e;subst e;rcases bW with h1 | h1
   ·exact .inl h1
   ·refine .inr ?_;simp at h1;omega
end
section
open Go.RowKit
theorem z34 (w:W8)(b:Nat)(s:B8)(pos num:Nat)(mv:Value)(neg:Bool)(start:Nat)(ms:List (xU × Value))(h:dT w b s pos num mv)(gU:ey w (b+1) mv ms)(aJ:pos<=s.size)(hs:s.size<=2000000)(hk:(zF s pos).1=2)(my:(zF s (zF s pos).2.2).1=5)(FP:(yB s 4 (zF s (zF s pos).2.2).2.2 [] (λ _=>0)).1=false):
  Calls Tryz.prog 98 #[.pointer (some ⟨b,0,none⟩),.bool neg,.int .i64 start] w λ e w'=>e=.returned (.tuple #[.agg #[.string { data:=#[] },.slice none 0 0],.bool false])/\zK [b] w w'/\dT w' b s (yB s 4 (zF s (zF s pos).2.2).2.2 [] (λ _=>0)).2.1 num mv:=by
 have bM:s.size<=maxLen:=by unfold maxLen;omega
 have bn:((zF s pos).1==2)=true:=by rw[hk];rfl
 have Ak:((zF s (zF s pos).2.2).1==5)=true:=by rw[my];rfl
 have ht:yM s pos 2=(zF s pos).2.2:=by unfold yM;rw[if_pos bn]
 have ED:yM s (zF s pos).2.2 5=(zF s (zF s pos).2.2).2.2:=by unfold yM;rw[if_pos Ak]
 have HT:=zC ht;have Fz:=zC ED;have bI:=(xT s pos aJ).2;have eZ:=(xT s (zF s pos).2.2 bI).2;have h0:=pM.start neg start h aJ;obtain⟨am,kJ,rfl⟩:=zD gU.row;obtain⟨aH,c0,c1,c2,c3,c4,c5,fz⟩:=h;clear hk ht ED my;go_enter Tryz.func98,Tryz.ntmps98;go_wp2_with fail
 go_region
 clear c0 c1 c2 c3 c4 c5 fz;go_wp2_with fail;refine (ze0 s pos num _ b _ h0.dx aJ hs).mono ?_;rintro e w2 ⟨rfl,aK⟩;have h2:=h0.same aK;have d2:=h2.mc.c2;have df:=h2.mc.fz 2;have h3:=h2.pred (xQ s pos);have HI:=zC h3;clear h0 aK h2 h3;go_wp2_with fail;refine (xI s pos num _ 2 b _ (zA HI).dx aJ bM).mono ?_;rintro e w4 ⟨rfl,pC,il⟩;rw[zA HT] at il;have h5:=(zA HI).call pC il bI;clear HI pC il d2 df;go_wp2_with fail;refine (xI s (zF s pos).2.2 num _ 5 b _ h5.dx bI bM).mono ?_;rintro e w6 ⟨rfl,Da,uz⟩;rw[zA Fz] at uz;have h7:=h5.call Da uz eZ;clear h5 Da uz;have zo:b≠w.heap.size+1:=by have:=h7.bw;omega
 go_wp2_with fail;refine (zs5 w6 b (w.heap.size+1) s _ num _ num neg _ start (zF s pos).2.1 _ h7.dx h7.mc zo eZ hs).mono ?_;rintro e w8 ⟨rfl,tv,hT⟩;generalize M0:yB s 4 (zF s (zF s pos).2.2).2.2 [] (λ _=>0)=PP at *;obtain⟨ok,p3,ts,pl⟩:=PP;simp only at hT;obtain⟨br,bD,rfl⟩:=zD hT.own;have QX:w.heap.size+1<w6.heap.size:=h7.mc.lt;have h8:pM w b s num (.slice am ms.length kJ) neg start (zF s pos).2.1 (xQ s pos) (.slice br ts.length bD) pl p3 w8:=by
  refine⟨hT.dx,hT.hp,hT.mc,h7.ra.kept hT.kept (by simp;have:=h7.bw;omega),?_,h7.bw⟩;have k1:zK [b,w.heap.size+1] w w6:=h7.kept.mono (by simp);exact (k1.trans hT.kept).mono (by simp)
 have Ns:w8.ownsRow w.heap.size 191 1 (.slice br ts.length bD) ts.length (xH ts):=zG hT.own (by omega);have MK:=zC (λ g (e:(Value.slice br ts.length bD).ownBlock=some g)=>(hT.own.lt g e).1);clear hT h7;have bR:ok=false:=FP;subst bR;obtain⟨L6,L7,L8,SU⟩:=h8.ra;clear Ns MK;go_wp2_with fail;obtain⟨q0,q1⟩:=yd6 h8.ra (.string { data:=#[] }) (.slice none 0 0);refine bodyPost_ret (v:=.tuple #[.agg #[.string { data:=#[] },.slice none 0 0],.bool false]) (by simp[results,Tryz.results98,go_sem,q0,q1]) rfl ⟨rfl,?_,?_⟩
 ·exact (h8.kept.setCell (.inr L9) _).setCell (.inr L9) _
 ·rw[M0];exact h8.dx.kept (zby w8 w.heap.size (.string { data:=#[] }) (.slice none 0 0)) (by simp;omega)
end
section
open Go.RowKit
theorem z35 (w:W8)(b:Nat)(s:B8)(pos num:Nat)(mv:Value)(neg:Bool)(start:Nat)(ms:List (xU × Value))(h:dT w b s pos num mv)(gU:ey w (b+1) mv ms)(bh:ms.length<=1000)(aJ:pos<=s.size)(hs:s.size<=2000000)(hk:(zF s pos).1=2)(my:(zF s (zF s pos).2.2).1=5)(FP:(yB s 4 (zF s (zF s pos).2.2).2.2 [] (λ _=>0)).1=true):
  Calls Tryz.prog 98 #[.pointer (some ⟨b,0,none⟩),.bool neg,.int .i64 start] w λ e w'=>∃ tv kq,e=.returned (.tuple #[.agg #[.string (xQ s pos),tv],.bool true])/\zK (b::mv.ownBlock.toList) w w'/\dT w' b s (yB s 4 (zF s (zF s pos).2.2).2.2 [] (λ _=>0)).2.1 num kq/\ey w' (b+1) kq (ms++[(⟨num,neg,xQ s pos,(yB s 4 (zF s (zF s pos).2.2).2.2 [] (λ _=>0)).2.2.1,start,(zF s pos).2.1,(yB s 4 (zF s (zF s pos).2.2).2.2 [] (λ _=>0)).2.2.2⟩,tv)])/\w'.ownsRow w.heap.size 191 1 tv (yB s 4 (zF s (zF s pos).2.2).2.2 [] (λ _=>0)).2.2.1.length (xH (yB s 4 (zF s (zF s pos).2.2).2.2 [] (λ _=>0)).2.2.1) /\(∀ k,kq.ownBlock=some k->mv.ownBlock=some k\/w.heap.size<=k):=by
 obtain⟨i0,hi,bL,aY,bg⟩:=info_parts z2o;have bM:s.size<=maxLen:=by unfold maxLen;omega
 have bn:((zF s pos).1==2)=true:=by rw[hk];rfl
 have Ak:((zF s (zF s pos).2.2).1==5)=true:=by rw[my];rfl
 have ht:yM s pos 2=(zF s pos).2.2:=by unfold yM;rw[if_pos bn]
 have ED:yM s (zF s pos).2.2 5=(zF s (zF s pos).2.2).2.2:=by unfold yM;rw[if_pos Ak]
 have HT:=zC ht;have Fz:=zC ED;have bI:=(xT s pos aJ).2;have eZ:=(xT s (zF s pos).2.2 bI).2;have h0:=pM.start neg start h aJ;obtain⟨am,kJ,rfl⟩:=zD gU.row;have OV:=zC (λ (x:xU × Value) (hx:x∈ms) k (e:x.2.ownBlock=some k)=>((gU.each x hx).lt k e).2);have lf:=zC (λ k (e:(Value.slice am ms.length kJ).ownBlock=some k)=>(gU.row.lt k e).2);obtain⟨aH,c0,c1,c2,c3,c4,c5,fz⟩:=h;clear hk ht ED my;go_enter Tryz.func98,Tryz.ntmps98;go_wp2_with fail
 go_region
 clear c0 c1 c2 c3 c4 c5 fz;go_wp2_with fail;refine (ze0 s pos num _ b _ h0.dx aJ hs).mono ?_;rintro e w2 ⟨rfl,aK⟩;have h2:=h0.same aK;have d2:=h2.mc.c2;have df:=h2.mc.fz 2;have h3:=h2.pred (xQ s pos);have HI:=zC h3;clear h0 aK h2 h3;go_wp2_with fail;refine (xI s pos num _ 2 b _ (zA HI).dx aJ bM).mono ?_;rintro e w4 ⟨rfl,pC,il⟩;rw[zA HT] at il;have h5:=(zA HI).call pC il bI;clear HI pC il d2 df;go_wp2_with fail;refine (xI s (zF s pos).2.2 num _ 5 b _ h5.dx bI bM).mono ?_;rintro e w6 ⟨rfl,Da,uz⟩;rw[zA Fz] at uz;have h7:=h5.call Da uz eZ;clear h5 Da uz;have zo:b≠w.heap.size+1:=by have:=h7.bw;omega
 go_wp2_with fail;refine (zs5 w6 b (w.heap.size+1) s _ num _ num neg _ start (zF s pos).2.1 _ h7.dx h7.mc zo eZ hs).mono ?_;rintro e w8 ⟨rfl,tv,hT⟩;generalize M0:yB s 4 (zF s (zF s pos).2.2).2.2 [] (λ _=>0)=PP at *;obtain⟨ok,p3,ts,pl⟩:=PP;simp only at hT;obtain⟨br,bD,rfl⟩:=zD hT.own;have QX:w.heap.size+1<w6.heap.size:=h7.mc.lt;have h8:pM w b s num (.slice am ms.length kJ) neg start (zF s pos).2.1 (xQ s pos) (.slice br ts.length bD) pl p3 w8:=by
  refine⟨hT.dx,hT.hp,hT.mc,h7.ra.kept hT.kept (by simp;have:=h7.bw;omega),?_,h7.bw⟩;have k1:zK [b,w.heap.size+1] w w6:=h7.kept.mono (by simp);exact (k1.trans hT.kept).mono (by simp)
 have Ns:w8.ownsRow w.heap.size 191 1 (.slice br ts.length bD) ts.length (xH ts):=zG hT.own (by omega);have MK:=zC (λ g (e:(Value.slice br ts.length bD).ownBlock=some g)=>(hT.own.lt g e).1);clear hT h7;have bR:ok=true:=FP;subst bR;have Jo:=zC M0;clear M0;have sU:ey w8 (b+1) (.slice am ms.length kJ) ms:=gU.kept h8.kept (by simp);obtain⟨x0,x1,x2,x3,x4,x5,x6,xp,xf⟩:=h8.mc;have y0:=xp 0 (by omega);have y1:=xp 1 (by omega);have y2:=xp 2 (by omega);have y3:=xp 3 (by omega);have r5:=h8.dx.c5;have aB:=sU.row;have s1:Hid (((w8.alloc (Obj.cells #[.int IntKind.i64 ↑num,.bool neg,.string (xQ s pos),.slice br ts.length bD,.int IntKind.i64 ↑start,.int IntKind.i64 ↑(zF s pos).snd.fst,.int IntKind.i64 ↑(pl 0),.int IntKind.i64 ↑(pl 1),.int IntKind.i64 ↑(pl 2),.int IntKind.i64 ↑(pl 3)] 221)).drew).ownsRow (b+1) 221 10 (Value.slice am ms.length kJ) ms.length (za7 ms)):=aB.alloc _;have s2:Hid (∀ j u,([Value.int IntKind.i64 ↑num,Value.bool neg,Value.string (xQ s pos),.slice br ts.length bD,Value.int IntKind.i64 ↑start,Value.int IntKind.i64 ↑(zF s pos).snd.fst,Value.int IntKind.i64 ↑(pl 0),Value.int IntKind.i64 ↑(pl 1),Value.int IntKind.i64 ↑(pl 2),Value.int IntKind.i64 ↑(pl 3)]:V8)[j]?=some u->((w8.alloc (Obj.cells #[.int IntKind.i64 ↑num,.bool neg,.string (xQ s pos),.slice br ts.length bD,.int IntKind.i64 ↑start,.int IntKind.i64 ↑(zF s pos).snd.fst,.int IntKind.i64 ↑(pl 0),.int IntKind.i64 ↑(pl 1),.int IntKind.i64 ↑(pl 2),.int IntKind.i64 ↑(pl 3)] 221)).drew).cell? ((⟨w8.heap.size,0,none⟩:Addr).add j)=some u):=World.news_of_block (heap_alloc_new w8 _);have s3:Hid (∀ u∈([Value.int IntKind.i64 ↑num,Value.bool neg,Value.string (xQ s pos),.slice br ts.length bD,Value.int IntKind.i64 ↑start,Value.int IntKind.i64 ↑(zF s pos).snd.fst,Value.int IntKind.i64 ↑(pl 0),Value.int IntKind.i64 ↑(pl 1),Value.int IntKind.i64 ↑(pl 2),Value.int IntKind.i64 ↑(pl 3)]:V8),u.oneCell'=true):=z3p ⟨num,neg,xQ s pos,ts,start,(zF s pos).2.1,pl⟩ br ts.length bD
 have s4:Hid (ms.length+1<=maxLen):=by show _<=_;unfold maxLen;omega
 have s5:Hid ((ms.length+1)*104<=140737488355328):=by show _<=_;omega
 have s6:Hid (b+1<=((w8.alloc (Obj.cells #[.int IntKind.i64 ↑num,.bool neg,.string (xQ s pos),.slice br ts.length bD,.int IntKind.i64 ↑start,.int IntKind.i64 ↑(zF s pos).snd.fst,.int IntKind.i64 ↑(pl 0),.int IntKind.i64 ↑(pl 1),.int IntKind.i64 ↑(pl 2),.int IntKind.i64 ↑(pl 3)] 221)).drew).heap.size):=by show _<=_;have:=h8.dx.lt;simp;omega
 have hW:∀ k,k<w8.heap.size->((w8.alloc (Obj.cells #[.int IntKind.i64 ↑num,.bool neg,.string (xQ s pos),.slice br ts.length bD,.int IntKind.i64 ↑start,.int IntKind.i64 ↑(zF s pos).snd.fst,.int IntKind.i64 ↑(pl 0),.int IntKind.i64 ↑(pl 1),.int IntKind.i64 ↑(pl 2),.int IntKind.i64 ↑(pl 3)] 221)).drew).heap[k]?=w8.heap[k]?:=λ k hk=>((zK.refl [] w8).alloc _).block k hk (by simp)
 have hS:w8.heap.size<=((w8.alloc (Obj.cells #[.int IntKind.i64 ↑num,.bool neg,.string (xQ s pos),.slice br ts.length bD,.int IntKind.i64 ↑start,.int IntKind.i64 ↑(zF s pos).snd.fst,.int IntKind.i64 ↑(pl 0),.int IntKind.i64 ↑(pl 1),.int IntKind.i64 ↑(pl 2),.int IntKind.i64 ↑(pl 3)] 221)).drew).heap.size:=((zK.refl [] w8).alloc _).size;have s8:=zC (λ (w5:W8) (g cap:Nat) (hg:((w8.alloc (Obj.cells #[.int IntKind.i64 ↑num,.bool neg,.string (xQ s pos),.slice br ts.length bD,.int IntKind.i64 ↑start,.int IntKind.i64 ↑(zF s pos).snd.fst,.int IntKind.i64 ↑(pl 0),.int IntKind.i64 ↑(pl 1),.int IntKind.i64 ↑(pl 2),.int IntKind.i64 ↑(pl 3)] 221)).drew).grownBy w5 (Value.slice am ms.length kJ).ownBlock) (ay:w5.ownsRow (b+1) 221 10 (.slice (some ⟨g,0,none⟩) (ms.length+1) cap) (ms.length+1) (za7 ms++[Value.int IntKind.i64 ↑num,Value.bool neg,Value.string (xQ s pos),.slice br ts.length bD,Value.int IntKind.i64 ↑start,Value.int IntKind.i64 ↑(zF s pos).snd.fst,Value.int IntKind.i64 ↑(pl 0),Value.int IntKind.i64 ↑(pl 1),Value.int IntKind.i64 ↑(pl 2),Value.int IntKind.i64 ↑(pl 3)]))=>z3o (v':=.slice (some ⟨g,0,none⟩) (ms.length+1) cap) h8 sU (zA lf) Ns hW hS rfl rfl rfl hg ay);have h8l:=h8.mc.lt;have nH:=h8.dx.lt;clear hW hS aB sU xp Ns;go_wp2_with fail
 go_region_law (refine step_append_lies _ rfl (.tmp 41) (.tmp 43) 98 rfl (b+1) 221 i0 (.agg #[.int .i64 0,.bool false,.string { data:=#[] },.slice none 0 0,.int .i64 0,.int .i64 0,.int .i64 0,.int .i64 0,.int .i64 0,.int .i64 0]) 10 104 Tryz.underlying98 hi bL aY bg rfl (by decide) (Value.slice am ms.length kJ) ms.length (za7 ms) (by simp[Act.eval]) (zA s1) ⟨w8.heap.size,0,none⟩ 1 1 [Value.int IntKind.i64 ↑num,Value.bool neg,Value.string (xQ s pos),.slice br ts.length bD,Value.int IntKind.i64 ↑start,Value.int IntKind.i64 ↑(zF s pos).snd.fst,Value.int IntKind.i64 ↑(pl 0),Value.int IntKind.i64 ↑(pl 1),Value.int IntKind.i64 ↑(pl 2),Value.int IntKind.i64 ↑(pl 3)] (by simp[Act.eval]) rfl (zA s2) (zA s3) (by decide) (zA s4) (zA s5) (zA s6) _ rfl ?_;intro g cap w5 aq aU bW hlt5;obtain⟨e1,e2,e3,e4,e5,e6,e7⟩:=zA s8 w5 g cap aU aq;have z5:=e7.c5;have zf:=e7.fz 5)
 all_goals
  obtain⟨L6,L7,L8,SU⟩:=e5;have m2:=e6.c2;have m3:=e6.c3;have ml:=e6.lt;clear s1 s2 s3 s4 s5 s6 s8 x0 x1 x2 x3 x4 x5 x6 xf y0 y1 y2 y3 r5 z5 zf h8;go_wp2_with fail;obtain⟨q0,q1⟩:=yd6 (RA.mk L6 L7 L8 SU) (.string (xQ s pos)) (.slice br ts.length bD);have kk:=zby (w5.setCell ⟨b,5,none⟩ (.slice (some ⟨g,0,none⟩) (ms.length+1) cap)) w.heap.size (.string (xQ s pos)) (.slice br ts.length bD);refine bodyPost_ret (v:=.tuple #[.agg #[.string (xQ s pos),.slice br ts.length bD],.bool true]) (by simp[results,Tryz.results98,go_sem,q0,q1]) rfl ⟨_,_,rfl,?_,by rw[zA Jo];exact e2.kept kk (by simp;omega),?_,?_,λ k e=>?_⟩
  ·exact (e1.setCell (.inr L9) _).setCell (.inr L9) _
  ·rw[zA Jo];refine zuk e3 kk (λ k e=>?_) (λ x hx k e=>?_)
   ·rcases bW with h1 | h1
    ·have:=zA lf g h1;injection e with e;simp only at e;omega
    ·injection e with e;simp only at e;simp at h1;omega
   ·rcases List.mem_append.1 hx with hx | hx
    ·have:=zA OV x hx k e;omega
    ·simp at hx;subst hx;have:=zA MK k e;omega
  ·rw[zA Jo];exact j8 e4 kk (λ k e=>by have:=zA MK k e;omega)
  ·injection e with e
   simp only at e;subst e;rcases bW with h1 | h1
   ·exact .inl h1
   ·refine .inr ?_;simp at h1;omega
end
section
open Go.RowKit
def z57 (w:W8)(b:Nat)(s:B8)(num:Nat)(mv:Value)(neg:Bool)(start place:Nat)(ms:List (xU × Value))(r:yd2)(e:Ending)(w':W8):Prop:=
 match r with
 | .no p=>e=.returned (.tuple #[.agg #[.string { data:=#[] },.slice none 0 0],.bool false])/\zK [b] w w'/\dT w' b s p num mv
 | .yes p pd ts pl=>∃ tv kq,e=.returned (.tuple #[.agg #[.string pd,tv],.bool true])/\zK (b::mv.ownBlock.toList) w w'/\dT w' b s p num kq/\ey w' (b+1) kq (ms++[(⟨num,neg,pd,ts,start,place,pl⟩,tv)])/\w'.ownsRow w.heap.size 191 1 tv ts.length (xH ts)/\(∀ k,kq.ownBlock=some k->mv.ownBlock=some k\/w.heap.size<=k)
theorem zmf (w:W8)(b:Nat)(s:B8)(pos num:Nat)(mv:Value)(neg:Bool)(start:Nat)(ms:List (xU × Value))(h:dT w b s pos num mv)(gU:ey w (b+1) mv ms)(bh:ms.length<=1000)(aJ:pos<=s.size)(hs:s.size<=2000000):
  Calls Tryz.prog 98 #[.pointer (some ⟨b,0,none⟩),.bool neg,.int .i64 start] w (z57 w b s num mv neg start (zF s pos).2.1 ms (vD s pos)):=by
 by_cases hk:(zF s pos).1=2
 ·by_cases my:(zF s (zF s pos).2.2).1=5
  ·cases hP:(yB s 4 (zF s (zF s pos).2.2).2.2 [] (λ _=>0)).1 with
   | false=>
    have e:vD s pos=.no (yB s 4 (zF s (zF s pos).2.2).2.2 [] (λ _=>0)).2.1:=(by unfold vD;rw[if_pos hk,if_pos my,if_neg (by rw[hP];decide)]);rw[e];exact z34 w b s pos num mv neg start ms h gU aJ hs hk my hP
   | true=>
    have e:vD s pos=.yes (yB s 4 (zF s (zF s pos).2.2).2.2 [] (λ _=>0)).2.1 (xQ s pos) (yB s 4 (zF s (zF s pos).2.2).2.2 [] (λ _=>0)).2.2.1 (yB s 4 (zF s (zF s pos).2.2).2.2 [] (λ _=>0)).2.2.2:=(by unfold vD;rw[if_pos hk,if_pos my,if_pos hP]);rw[e];exact z35 w b s pos num mv neg start ms h gU bh aJ hs hk my hP
  ·have e:vD s pos=.yes (zF s pos).2.2 (xQ s pos) [] (λ _=>0):=(by unfold vD;rw[if_pos hk,if_neg my]);rw[e];exact zy2 w b s pos num mv neg start ms h gU bh aJ hs hk my
 ·have e:vD s pos=.no pos:=by unfold vD;rw[if_neg hk]
  rw[e];exact z7y w b s pos num mv neg start h aJ hs hk
end
section
open Go.RowKit
variable {fr:Nat × Nat} {cur:Array Value} {n0 n base:Nat} {e0:TypeId} {w:W8}
theorem zmq {e:TypeId}{size:Nat}{v:Value}{xs:V8}(h:w.ownsRow base e size v n xs)(hb:w.heap[n0]?=some (.cells cur e0 fr))(bF:e≠e0):∀ g,v.ownBlock=some g->g≠n0:=by
 intro g hg hgn;subst hgn;rcases h.2 with⟨rfl,_⟩ | ⟨g',cap,Pe,rfl,_,bS,_⟩
 ·cases hg
 ·injection hg with hg
  simp only at hg;subst hg;rw[hb] at bS;injection bS with bS
  injection bS with _ bS _
  exact bF bS.symm
theorem z3n {w':W8}{mv:Value}{ms:List (xU × Value)}(h:ey w base mv ms)(hb:w.heap[n0]?=some (.cells cur e0 fr))(h1:221≠e0)(h2:191≠e0)(k:zK [n0] w w'):ey w' base mv ms:=
 zuk h k (zmq h.row hb h1) (λ x hx=>zmq (h.each x hx) hb h2)
def yab (w:W8)(b:Nat)(s:B8)(num:Nat)(mv:Value)(neg:Bool)(start place:Nat)(ms:List (xU × Value))(r:yd2)(e:Ending)(w':W8):Prop:=
 match r with
 | .no p=>e=.returned (.tuple #[.agg #[.bool neg,.string { data:=#[] },.slice none 0 0],.bool false])/\zK [b] w w'/\dT w' b s p num mv
 | .yes p pd ts pl=>∃ tv kq,e=.returned (.tuple #[.agg #[.bool neg,.string pd,tv],.bool true])/\zK (b::mv.ownBlock.toList) w w'/\dT w' b s p num kq/\ey w' (b+1) kq (ms++[(⟨num,neg,pd,ts,start,place,pl⟩,tv)])/\w'.ownsRow w.heap.size 191 1 tv ts.length (xH ts)/\(∀ k,kq.ownBlock=some k->mv.ownBlock=some k\/w.heap.size<=k)
theorem zB {c:Array Value}{t:TypeId}(h:w.heap[n]?=some (.cells c t (0,0)))(j:Nat):w.cell? ⟨n,j,none⟩=c[j]?/\w.frozen? ⟨n,j,none⟩=false:=by
 unfold World.cell? World.frozen?;simp[h]
theorem zyo (w1:W8)(n:Nat)(v0 v1 v2:Value):zK [n] w1 (((w1.setCell ⟨n,0,none⟩ v0).setCell ⟨n,1,none⟩ v1).setCell ⟨n,2,none⟩ v2):=
 (((zK.refl [n] w1).setCell (by simp) _).setCell (by simp) _).setCell (by simp) _
theorem zK.dQ {B:List Nat}{w1 w2:W8}(h:zK B w w1)(k:zK [w.heap.size] w1 w2):zK B w w2:=
 ⟨k.os.trans h.os,k.tape.trans h.tape,k.output.trans h.output,Nat.le_trans h.size k.size,λ i hi hn=>(k.block i (Nat.lt_of_lt_of_le hi h.size) (by simp;omega)).trans (h.block i hi hn)⟩
theorem z76 (w:W8)(b:Nat)(s:B8)(pos num:Nat)(mv:Value)(ms:List (xU × Value))(h:dT w b s pos num mv)(gU:ey w (b+1) mv ms)(bh:ms.length<=1000)(aJ:pos<=s.size)(hs:s.size<=2000000):
  Calls Tryz.prog 175 #[.pointer (some ⟨b,0,none⟩)] w (yab w b s num mv ((zF s pos).1==4) (zF s pos).2.1 (zF s (yM s pos 4)).2.1 ms (vD s (yM s pos 4))):=by
 have bM:s.size<=maxLen:=by unfold maxLen;omega
 have h0:=h.kept ((zK.refl [] w).alloc (.cells #[.bool false,.string { data:=#[] },.slice none 0 0] 183)) (by simp);have Ax:=gU.kept ((zK.refl [] w).alloc (.cells #[.bool false,.string { data:=#[] },.slice none 0 0] 183)) (by simp);have bI:yM s pos 4<=s.size:=by unfold yM;split;exact (xT s pos aJ).2;exact aJ
 have lf:=zC (λ k (e:mv.ownBlock=some k)=>(gU.row.lt k e).2);obtain⟨aH,c0,c1,c2,c3,c4,c5,fz⟩:=h;have nj:(w.alloc (.cells #[.bool false,.string { data:=#[] },.slice none 0 0] 183)).heap[w.heap.size]?=some (.cells #[.bool false,.string { data:=#[] },.slice none 0 0] 183 (0,0)):=heap_alloc_new w _;have mD:=zC nj;clear nj;go_enter Tryz.func175,Tryz.ntmps175;go_wp2_with fail;refine (xI s pos num mv 4 b _ h0 aJ bM).mono ?_;rintro e w1 ⟨rfl,aW,jm⟩;have Gn:=Ax.kept aW (by simp);clear c0 c1 c2 c3 c4 c5 fz h0 Ax;go_wp2_with fail;refine (zmf w1 b s (yM s pos 4) num mv _ _ ms jm Gn bh bI hs).mono ?_;intro e w2 hpost
 cases hr:vD s (yM s pos 4) with
 | no p=>
  rw[hr] at hpost;obtain⟨rfl,bn,ik⟩:=hpost;have lz:=aW.trans bn;have aK:=(lz.block w.heap.size (by simp) (by simp;omega)).trans (zA mD);obtain⟨a0,f0⟩:=zB aK 0;obtain⟨a1,f1⟩:=zB aK 1;obtain⟨a2,f2⟩:=zB aK 2;have mz:w.heap.size<w2.heap.size:=by have:=lz.size;simp at this;omega
  have HR:=zC hr;clear hr aW jm Gn bn;go_wp2_with fail;obtain⟨q0,q1,q2⟩:=z93 a0 a1 a2 (.bool ((zF s pos).1==4)) (.string { data:=#[] }) (.slice none 0 0);have q0:=qY q0;have q1:=qY q1;have q2:=qY q2;have k3:=(zyo w2 w.heap.size (.bool ((zF s pos).1==4)) (.string { data:=#[] }) (.slice none 0 0)).alloc (Obj.cells #[.string { data:=#[] },.slice none 0 0] 79);refine bodyPost_ret (v:=.tuple #[.agg #[.bool ((zF s pos).1==4),.string { data:=#[] },.slice none 0 0],.bool false]) (by simp[results,Tryz.results175,go_sem,q0,q1,q2]) rfl ?_;rw[zA HR];exact⟨rfl,(((zK.refl [b] w).alloc _).trans lz).dQ k3,ik.kept k3 (by simp;omega)⟩
 | yes p pd ts pl=>
  rw[hr] at hpost;obtain⟨tv,kq,rfl,bn,ik,dD,mA,oP⟩:=hpost;obtain⟨br,bD,rfl⟩:=zD mA;have lz:=(aW.mono (C:=b::mv.ownBlock.toList) (by simp)).trans bn
  have aK:=(lz.block w.heap.size (by simp) (by
   intro hm;rcases List.mem_cons.1 hm with hm | hm
   ·omega
   ·have:=zA lf w.heap.size (by simpa using hm);omega)).trans (zA mD)
  obtain⟨a0,f0⟩:=zB aK 0;obtain⟨a1,f1⟩:=zB aK 1;obtain⟨a2,f2⟩:=zB aK 2;have mz:w.heap.size<w2.heap.size:=by have:=lz.size;simp at this;omega
  have dY:w.heap.size<=w1.heap.size:=by have:=aW.size;simp at this;omega
  have HR:=zC hr;have ir:=zC aK;have WN:=zC oP;clear hr aW jm Gn bn aK oP;go_wp2_with fail;obtain⟨q0,q1,q2⟩:=z93 a0 a1 a2 (.bool ((zF s pos).1==4)) (.string pd) (.slice br ts.length bD);have q0:=qY q0;have q1:=qY q1;have q2:=qY q2;have k3:=(zyo w2 w.heap.size (.bool ((zF s pos).1==4)) (.string pd) (.slice br ts.length bD)).alloc (Obj.cells #[.string pd,.slice br ts.length bD] 79);refine bodyPost_ret (v:=.tuple #[.agg #[.bool ((zF s pos).1==4),.string pd,.slice br ts.length bD],.bool true]) (by simp[results,Tryz.results175,go_sem,q0,q1,q2]) rfl ?_;rw[zA HR];exact⟨_,_,rfl,(((zK.refl _ w).alloc _).trans lz).dQ k3,ik.kept k3 (by simp;omega),z3n dD (zA ir) (by decide) (by decide) k3,zG (j8 mA k3 (zmq mA (zA ir) (by decide))) dY,λ k e=>by rcases zA WN k e with h1 | h1;exact .inl h1;exact .inr (Nat.le_trans dY h1)⟩
end
section
open Go.RowKit
structure vK where
 neg:Bool
 pd:B8
 ts:List (Bool × B8)
def vK.cells (L:vK)(tv:Value):V8:=[.bool L.neg,.string L.pd,tv]
def zmh (ls:List (vK × Value)):V8:=ls.flatMap λ x=>x.1.cells x.2
theorem zsg (l:List (vK × Value))(A:vK)(tv:Value):zmh (l++[(A,tv)])=zmh l++A.cells tv:=by simp[zmh]
structure iL (w:W8)(base:Nat)(bv:Value)(ls:List (vK × Value)):Prop where
 row:w.ownsRow base 183 3 bv ls.length (zmh ls)
 each:∀ x∈ls,w.ownsRow base 191 1 x.2 x.1.ts.length (xH x.1.ts)
def uH (s:B8)(p:Nat)(pd:B8)(ts:List (Bool × B8)):vK:=⟨(zF s p).1==4,pd,ts⟩
def BS (s:B8)(num p:Nat)(pd:B8)(ts:List (Bool × B8))(pl:Nat->Nat):xU:=⟨num,(zF s p).1==4,pd,ts,(zF s p).2.1,(zF s (yM s p 4)).2.1,pl⟩
def jG (s:B8)(num:Nat):Nat->Nat->List vK->List xU->Bool × Nat × List vK × List xU
 | 0,p,l,ms=>(false,p,l,ms)
 | f+1,p,l,ms=>
  match vD s (yM s p 4) with
  | .no q=>(false,q,l,ms)
  | .yes q pd ts pl=>
   if (zF s q).1=7 then jG s num f (zF s q).2.2 (l++[uH s p pd ts]) (ms++[BS s num p pd ts pl])
   else (decide ((zF s q).1=8),yM s q 8,l++[uH s p pd ts],ms++[BS s num p pd ts pl])
structure vY where
 pd:B8
 ts:List (Bool × B8)
 body:List vK
def su (s:B8)(num p:Nat)(pd:B8)(ts:List (Bool × B8))(pl:Nat->Nat):xU:=⟨num,false,pd,ts,(zF s p).2.1,(zF s p).2.1,pl⟩
def vG (s:B8)(num p:Nat)(ms:List xU):Bool × Nat × vY × List xU:=
 match vD s p with
 | .no q=>(false,q,⟨{ data:=#[] },[],[]⟩,ms)
 | .yes q pd ts pl=>
  if (zF s q).1=8 then (true,(zF s q).2.2,⟨pd,ts,[]⟩,ms++[su s num p pd ts pl])
  else if (zF s q).1=9 then
   ((jG s num 3 (zF s q).2.2 [] (ms++[su s num p pd ts pl])).1,(jG s num 3 (zF s q).2.2 [] (ms++[su s num p pd ts pl])).2.1,⟨pd,ts,(jG s num 3 (zF s q).2.2 [] (ms++[su s num p pd ts pl])).2.2.1⟩,(jG s num 3 (zF s q).2.2 [] (ms++[su s num p pd ts pl])).2.2.2)
  else (false,q,⟨pd,ts,[]⟩,ms++[su s num p pd ts pl])
def jW (s:B8):Nat->Nat->List vY->List xU->Bool × Nat × List vY × List xU
 | 0,p,rs,ms=>(false,p,rs,ms)
 | f+1,p,rs,ms=>
  if (zF s p).1=0 then (true,p,rs,ms)
  else if rs.length=30 then (false,p,rs,ms)
  else if (vG s rs.length p ms).1 then jW s f (vG s rs.length p ms).2.1 (rs++[(vG s rs.length p ms).2.2.1]) (vG s rs.length p ms).2.2.2
  else (false,(vG s rs.length p ms).2.1,rs,(vG s rs.length p ms).2.2.2)
variable {xs:V8} {n size base:Nat} {v:Value} {e:TypeId} {w w':W8}
theorem zZ (h:w.ownsRow base e size v n xs)(hb:∀ g,v.ownBlock=some g->w'.heap[g]?=w.heap[g]?):w'.ownsRow base e size v n xs:=by
 refine⟨h.1,?_⟩;rcases h.2 with hn | ⟨g,cap,cur,rfl,gj,bS,rest⟩
 ·exact .inl hn
 ·exact .inr ⟨g,cap,cur,rfl,gj,(hb g rfl).trans bS,rest⟩
def dW (w:W8)(e:TypeId)(x:Nat):Prop:=∀ c fr,w.heap[x]?≠some (.cells c e fr)
theorem yH {e0:TypeId}(h:w.ownsRow base e0 size v n xs)(bF:e0≠e):∀ x∈v.ownBlock.toList,dW w e x:=by
 intro x hx c fr he;have LG:v.ownBlock=some x:=by simpa using hx
 rcases h.2 with⟨rfl,_⟩ | ⟨g,cap,cur,rfl,_,bS,_⟩
 ·cases LG
 ·injection LG with LG
  simp only at LG;subst LG;rw[he] at bS;injection bS with bS
  injection bS with _ bS _
  exact bF bS.symm
variable {B:List Nat}
theorem xF (h:w.ownsRow base e size v n xs)(k:zK B w w')(hB:∀ x∈B,x<base\/dW w e x):w'.ownsRow base e size v n xs:=by
 refine⟨h.1,?_⟩;rcases h.2 with hn | ⟨g,cap,cur,rfl,gj,bS,rest⟩
 ·exact .inl hn
 ·refine .inr ⟨g,cap,cur,rfl,gj,?_,rest⟩
  rw[k.block g (Array.getElem?_eq_some_iff.1 bS).1 (λ hm=>by
   rcases hB g hm with h1 | h1
   ·omega
   ·exact h1 _ _ bS)]
  exact bS
theorem zK.step {C:List Nat}{a:W8}(h:zK B a w)(k:zK C w w')(hC:∀ x∈C,x∈B\/a.heap.size<=x):zK B a w':=
 ⟨k.os.trans h.os,k.tape.trans h.tape,k.output.trans h.output,Nat.le_trans h.size k.size,λ i hi hn=>(k.block i (Nat.lt_of_lt_of_le hi h.size) (λ hm=>by
  rcases hC i hm with h1 | h1
  ·exact hn h1
  ·omega)).trans (h.block i hi hn)⟩
variable {ls:List (vK × Value)} {bv:Value}
theorem iL.bu (h:iL w base bv ls)(k:zK B w w')(hB:∀ x∈B,x<base\/(dW w 183 x/\dW w 191 x)):iL w' base bv ls:=
 ⟨xF h.row k (λ x hx=>(hB x hx).imp id And.left),λ y hy=>xF (h.each y hy) k (λ x hx=>(hB x hx).imp id And.right)⟩
theorem iL.low {base':Nat}(h:iL w base bv ls)(hb:base'<=base):iL w base' bv ls:=
 ⟨zG h.row hb,λ y hy=>zG (h.each y hy) hb⟩
variable {ms:List (xU × Value)} {mv:Value}
theorem ey.bu (h:ey w base mv ms)(k:zK B w w')(hB:∀ x∈B,x<base\/(dW w 221 x/\dW w 191 x)):ey w' base mv ms:=
 ⟨xF h.row k (λ x hx=>(hB x hx).imp id And.left),λ y hy=>xF (h.each y hy) k (λ x hx=>(hB x hx).imp id And.right)⟩
structure ye (w:W8)(b:Nat)(s:B8)(num:Nat)(mv:Value)(ls:List (vK × Value))(p:Nat)(ms:List (xU × Value))(gq bv:Value)(wr:W8):Prop where
 dx:dT wr b s p num gq
 hp:p<=s.size
 eK:ey wr (b+1) gq ms
 lits:iL wr w.heap.size bv ls
 kept:zK (b::mv.ownBlock.toList) w wr
 at_:∀ k,gq.ownBlock=some k->mv.ownBlock=some k\/w.heap.size<=k
 bw:b<w.heap.size
variable {p' p num b:Nat} {wr w1:W8} {gq:Value} {s:B8}
theorem ye.take (h:ye w b s num mv ls p ms gq bv wr)(k:zK [b] wr w1)(hr:dT w1 b s p' num gq)(hp:p'<=s.size):ye w b s num mv ls p' ms gq bv w1:=
 have h2:=h.bw
 ⟨hr,hp,h.eK.kept k (by simp),h.lits.bu k (by simp;omega),h.kept.step k (by simp),h.at_,h.bw⟩
theorem ye.lit {GL:Value}{ms':List (xU × Value)}(h:ye w b s num mv ls p ms gq bv wr)(k:zK (b::gq.ownBlock.toList) wr w1)(hr:dT w1 b s p' num GL)(hp:p'<=s.size)(hm:ey w1 (b+1) GL ms')(du:∀ k,GL.ownBlock=some k->gq.ownBlock=some k\/wr.heap.size<=k):ye w b s num mv ls p' ms' GL bv w1:=by
 have h2:=h.bw;have hz:=h.kept.size;refine⟨hr,hp,hm,h.lits.bu k (λ x hx=>?_),h.kept.step k (λ x hx=>?_),λ x hx=>?_,h.bw⟩
 ·rcases List.mem_cons.1 hx with rfl | hx
  ·exact .inl h2
  ·exact .inr ⟨yH h.eK.row (by decide) x hx,yH h.eK.row (by decide) x hx⟩
 ·rcases List.mem_cons.1 hx with rfl | hx
  ·exact .inl (by simp)
  ·rcases h.at_ x (by simpa using hx) with h1 | h1
   ·exact .inl (by simp[h1])
   ·exact .inr h1
 ·rcases du x hx with h1 | h1
  ·exact h.at_ x h1
  ·exact .inr (by omega)
theorem ye.append {W w5:W8}(h:ye w b s num mv ls p ms gq bv w1)(kW:zK [] w1 W){L:vK}{tv nC:Value}
  (ht:w1.ownsRow w.heap.size 191 1 tv L.ts.length (xH L.ts)) (ay:w5.ownsRow w.heap.size 183 3 nC (ls.length+1) (zmh ls++L.cells tv)) (hg:W.grownBy w5 bv.ownBlock):
  ye w b s num mv (ls++[(L,tv)]) p ms gq nC w5:=by
 have h2:=h.bw;have k5:zK bv.ownBlock.toList w1 w5:=((kW.mono (C:=bv.ownBlock.toList) (by simp))).grown hg (λ k e=>.inr (by simp[e]));have aB:∀ k,bv.ownBlock=some k->w.heap.size<=k:=λ k e=>(h.lits.row.lt k e).1
 have kR:b∉bv.ownBlock.toList:=λ hm=>by have:=aB b (by simpa using hm);omega
 have eI:∀ {v:Value} {n:Nat} {xs:V8},w1.ownsRow w.heap.size 191 1 v n xs->w5.ownsRow w.heap.size 191 1 v n xs:=λ {v n xs} hx=>xF hx k5 (λ x hx=>.inr (yH h.lits.row (by decide) x hx))
 refine⟨h.dx.kept k5 kR,h.hp,h.eK.bu k5 (λ x hx=>.inr ⟨yH h.lits.row (by decide) x hx,yH h.lits.row (by decide) x hx⟩),⟨?_,λ x hx=>?_⟩,h.kept.step k5 (λ x hx=>.inr (aB x (by simpa using hx))),h.at_,h.bw⟩
 ·rw[zsg,List.length_append];exact ay
 ·rcases List.mem_append.1 hx with hx | hx
  ·exact eI (h.lits.each x hx)
  ·simp at hx;subst hx;exact eI ht
end
section
open Go.RowKit
theorem ya9:(Tryz.prog.info? 183).map (λ i=>(i.zero,i.size,i.bytes))=some (some (.agg #[.bool false,.string { data:=#[] },.slice none 0 0]),3,48):=by kernel_rfl
theorem z4d (w1:W8)(o:Obj)(L:vK)(tv:Value)(j:Nat)(u:Value)(h:(L.cells tv)[j]?=some u):((w1.alloc o).alloc (Obj.cells #[.bool L.neg,.string L.pd,tv] 183)).cell? ((⟨w1.heap.size+1,0,none⟩:Addr).add j)=some u:=by
 have e:(⟨w1.heap.size+1,0,none⟩:Addr).add j=⟨w1.heap.size+1,j,none⟩:=by unfold Addr.add;split <;> simp_all
 rw[e,World.cell?_alloc_at _ _ _ _ (by simp)];simpa[vK.cells] using h
theorem z77 (L:vK)(a:O8)(n c:Nat):∀ u∈L.cells (.slice a n c),u.oneCell'=true:=by
 intro u hu;simp[vK.cells] at hu;rcases hu with rfl | rfl | rfl <;> rfl
variable {p:Nat} {s:B8}
theorem zp4 {k:Int}(h:p<=s.size):yM s p k<=s.size:=by
 unfold yM;split
 ·exact (xT s p h).2
 ·exact h
theorem z4n (s:B8)(f:Nat):∀ {p:Nat} {l:List (Bool × B8)} {pl:Nat->Nat},p<=s.size->(yB s f p l pl).2.1<=s.size:=by
 induction f with
 | zero=>intro p l pl h;exact h
 | succ f ih=>
  intro p l pl h;have h1:=(xT s p h).2;rw[yB]
  split
  ·split
   ·exact ih (xT s _ h1).2
   ·exact zp4 h1
  ·exact h
theorem zww (h:p<=s.size):match vD s p with | .no q=>q<=s.size | .yes q _ _ _=>q<=s.size:=by
 have h1:=(xT s p h).2;have h2:=(xT s _ h1).2;have h3:=z4n s 4 (l:=[]) (pl:=λ _=>0) h2;unfold vD
 by_cases c1:(zF s p).1=2
 ·rw[if_pos c1]
  by_cases c2:(zF s (zF s p).2.2).1=5
  ·rw[if_pos c2]
   by_cases c3:(yB s 4 (zF s (zF s p).2.2).2.2 [] (λ _=>0)).1=true
   ·rw[if_pos c3];exact h3
   ·rw[if_neg c3];exact h3
  ·rw[if_neg c2];exact h1
 ·rw[if_neg c1];exact h
theorem zy4 (s:B8)(num p:Nat)(l:List vK)(ms:List xU)(n:Nat)(hn:n<3):jG s num (3-n) p l ms=match vD s (yM s p 4) with
  | .no q=>(false,q,l,ms)
  | .yes q pd ts pl=>
   if (zF s q).1=7 then jG s num (3-(n+1)) (zF s q).2.2 (l++[uH s p pd ts]) (ms++[BS s num p pd ts pl])
   else (decide ((zF s q).1=8),yM s q 8,l++[uH s p pd ts],ms++[BS s num p pd ts pl]):=by
 have e:3-n=(3-(n+1))+1:=by omega
 rw[e,jG]
 all_goals (cases vD s (yM s p 4) <;> rfl)
def zvh (w:W8)(b:Nat)(s:B8)(num:Nat)(mv:Value)(n0:Nat)(P:Bool × Nat × List vK × List xU)(e:Ending)(w':W8):Prop:=
 ∃ (a:O8) (n c:Nat) (kq:Value) (ls:List (vK × Value)) (ms':List (xU × Value)),e=.returned (.tuple #[.slice a n c,.bool P.1])/\zK (b::mv.ownBlock.toList) w w'/\dT w' b s P.2.1 num kq /\
  ey w' (b+1) kq ms'/\ms'.map (·.1)=P.2.2.2/\ms'.length<=n0+3/\(∀ k,kq.ownBlock=some k->mv.ownBlock=some k\/w.heap.size<=k)/\(P.1=true->iL w' w.heap.size (.slice a n c) ls/\ls.map (·.1)=P.2.2.1/\ls.length<=3/\P.2.1<=s.size)
theorem z6r {w:W8}{b num:Nat}{mv:Value}{ls:List (vK × Value)}{ms:List (xU × Value)}{gq bv:Value}{wr:W8}{n0:Nat}{l:List vK}(h:ye w b s num mv ls p ms gq bv wr)(hn:ms.length<=n0+3):zvh w b s num mv n0 (false,p,l,ms.map (·.1)) (.returned (.tuple #[.slice none 0 0,.bool false])) wr:=
 ⟨none,0,0,gq,[],ms,rfl,h.kept,h.dx,h.eK,rfl,hn,h.at_,λ e=>by cases e⟩
theorem z4a (w:W8)(b:Nat)(s:B8)(pos num:Nat)(mv:Value)(iB:List (xU × Value))(h:dT w b s pos num mv)(gU:ey w (b+1) mv iB)(bh:iB.length<=900)(aJ:pos<=s.size)(hs:s.size<=2000000):
  Calls Tryz.prog 117 #[.pointer (some ⟨b,0,none⟩)] w (zvh w b s num mv iB.length (jG s num 3 pos [] (iB.map (·.1)))):=by
 have bM:s.size<=maxLen:=by unfold maxLen;omega
 obtain⟨i0,hi,bL,aY,bg⟩:=info_parts ya9;have aP:ye w b s num mv [] pos iB mv (.slice none 0 0) w:=⟨h,aJ,gU,⟨World.ownsRow_nil _ _ _ _,by simp⟩,zK.refl _ _,λ k e=>.inl e,h.lt⟩;clear h gU;go_enter Tryz.func117,Tryz.ntmps117;go_wp2_with fail
 go_loopg [4] 5 (λ g bv wr=>∃ (ls:List (vK × Value)) (ms:List (xU × Value)) (p:Nat) (gq:Value),ls.length<=3/\4-ls.length<=g/\ms.length=iB.length+ls.length/\ye w b s num mv ls p ms gq bv wr/\jG s num 3 pos [] (iB.map (·.1))=jG s num (3-ls.length) p (ls.map (·.1)) (ms.map (·.1)))
 exact⟨[],iB,pos,mv,by simp,by simp,by simp,aP,rfl⟩
 case round=>
  clear aP;obtain⟨ls,ms,p,gq,mf,hg,nx,hinv,aE⟩:=hrel;obtain⟨a1,ei,rfl⟩:=zD hinv.lits.row;have HF:=zC aE;clear aE;have bt:=hinv.hp
  by_cases h3:ls.length=3
  ·have Xl:¬ ((ls.length:Int)<3):=(by omega);have HI:=zC hinv;clear hinv;go_wp2_with fail
   go_ret2
   rw[zA HF,h3];exact z6r (zA HI) (by omega)
  ·have Xl:(ls.length:Int)<3:=(by omega);have lh:ls.length<3:=(by omega);have fw:=zC ((zA HF).trans (zy4 s num p (ls.map (·.1)) (ms.map (·.1)) ls.length lh));have Ra:w.heap.size<=wr.heap.size:=hinv.kept.size;clear HF h3;go_wp2_with fail;refine (z76 wr b s p num gq ms hinv.dx hinv.eK (by omega) bt hs).mono ?_;intro e w1 hpost;have hq:=zww (zp4 (k:=4) bt)
   cases hr:vD s (yM s p 4) with
   | no q=>
    rw[hr] at hpost hq fw;obtain⟨rfl,aW,jm⟩:=hpost;have aG:=hinv.take aW jm hq;have HI:=zC aG;clear hinv aW jm hr aG;go_wp2_with fail
    go_ret2
    rw[zA fw];have kk:=(zK.refl [] w1).alloc (Obj.cells #[.bool ((zF s p).1==4),.string { data:=#[] },.slice none 0 0] 183);have hI:=zA HI;exact⟨none,0,0,gq,[],ms,rfl,hI.kept.alloc _,hI.dx.kept kk (by simp),hI.eK.bu kk (by simp),rfl,by omega,hI.at_,λ e=>by cases e⟩
   | yes q pd ts pl=>
    rw[hr] at hpost hq fw;obtain⟨tv,GL,rfl,aW,jm,dH,pG,dY⟩:=hpost;obtain⟨br,bD,rfl⟩:=zD pG;have aG:=hinv.lit aW jm hq dH dY;have mA:=zG pG Ra;have bH:=aG.lits.row;have GK:=aG.kept.size;have HI:=zC aG;clear hinv aW jm hr dH pG dY aG;go_wp2_with (at_builtin;refine wpList_append_own _ rfl _ _ 121 rfl w.heap.size 183 i0 _ 3 48 Tryz.underlying121 hi bL aY bg rfl (by decide) _ _ _ rfl ((bH.alloc _).alloc _) ⟨w1.heap.size+1,0,none⟩ 1 1 ((uH s p pd ts).cells (.slice br ts.length bD)) rfl rfl (z4d w1 _ (uH s p pd ts) _) (z77 _ _ _ _) (by unfold maxLen;omega) (by omega) (by simp;omega) ?_);intro v5 w5 aq aU hne5;clear hne5;obtain⟨a5,eH,rfl⟩:=zD aq;have aI:=(zA HI).append (L:=uH s p pd ts) (((zK.refl [] w1).alloc _).alloc _) mA aq aU;have ym:=zC aI;clear aq aU bH HI aI mA;go_wp2_with fail;refine (xI s q num GL 7 b _ (zA ym).dx hq bM).mono ?_;rintro e w7 ⟨rfl,dR,nZ⟩
    cases hc:(zF s q).1==7 with
    | true=>
     have gY:(zF s q).1=7:=(by simpa using hc);have e7:yM s q 7=(zF s q).2.2:=(by unfold yM;rw[if_pos hc]);rw[e7] at nZ;have aD:=(zA ym).take dR nZ (xT s q hq).2;have aC:=zC ((zA fw).trans (if_pos gY));have Jc:=zC aD;clear fw ym dR nZ hc gY e7 aD;go_wp2_with fail;go_roundg (4-(ls.length+1));exact⟨_,_,_,_,by simp;omega,by simp,by simp;omega,zA Jc,by simpa[uH,BS] using zA aC⟩;omega
    | false=>
     have gY:¬ (zF s q).1=7:=(by simpa using hc);have e7:yM s q 7=q:=(by unfold yM;rw[if_neg (by rw[hc];decide)]);rw[e7] at nZ;have aD:=(zA ym).take dR nZ hq;have aC:=zC ((zA fw).trans (if_neg gY));have Jc:=zC aD;clear fw ym dR nZ hc gY e7 aD;go_wp2_with fail;refine (xI s q num GL 8 b _ (zA Jc).dx hq bM).mono ?_;rintro e w8 ⟨rfl,gB,xm⟩;have bU:=(zA Jc).take gB xm (zp4 hq);have BW:=zC bU;clear Jc gB xm bU;go_wp2_with fail
     go_ret2
     rw[zA aC];have hI:=zA BW;have hb:decide ((zF s q).1=8)=((zF s q).1==8):=(by rw[Bool.eq_iff_iff];simp);refine⟨a5,ls.length+1,eH,_,_,_,by rw[hb];rfl,hI.kept,hI.dx,hI.eK,by simp[BS],by simp;omega,hI.at_,λ _=>⟨by simpa using hI.lits,by simp[uH],by simp;omega,hI.hp⟩⟩
end
end Go.Proofs.YtldkpahaocjdpaaGreat
