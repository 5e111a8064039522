/-
  The program's reader: atom.
-/
import Derived.Test.YtldkpahaocjdpaaGreatC13
set_option maxHeartbeats 16000000
set_option maxRecDepth 1000000
namespace Go.Proofs.YtldkpahaocjdpaaGreat
section
open Go.RowKit
theorem z4j (w:W8)(b:Nat)(s:B8)(pos num:Nat)(mv:Value)(neg:Bool)(start:Nat)(h:ic w b s pos num mv)(aI:pos<=s.size)(hs:s.size<=2000000)(hk:¬ (zG s pos).1=2):
  Calls Tryz.prog 98 #[.pointer (some ⟨b,0,none⟩),.bool neg,.int .i64 start] w λ e w'=>e=.returned (.tuple #[.agg #[.string { data:=#[] },.slice none 0 0],.bool false])/\zN [b] w w'/\ic w' b s pos num mv:=by
 have cE:s.size<=maxLen:=by unfold maxLen;omega
 have cy:((zG s pos).1==2)=false:=by simp[hk]
 have ht:yU s pos 2=pos:=by unfold yU;rw[if_neg (by rw[cy];decide)]
 have HT:=zC ht;have h0:=tg.start neg start h aI;obtain⟨aG,c0,c1,c2,c3,c4,c5,fz⟩:=h;clear hk ht;go_enter Tryz.func98,Tryz.ntmps98;go_wp2_with fail
 go_region
 clear c0 c1 c2 c3 c4 c5 fz;go_wp2_with fail;refine (zdu s pos num mv b _ h0.eX aI hs).mono ?_;rintro e w2 ⟨rfl,aH⟩;have h2:=h0.same aH;have d2:=h2.mc.c2;have df:=h2.mc.fz 2;have h3:=h2.pred (xR s pos);have HI:=zC h3;clear h0 aH h2 h3;go_wp2_with fail;refine (xO s pos num mv 2 b _ (zA HI).eX aI cE).mono ?_;rintro e w4 ⟨rfl,sU,oc⟩;rw[zA HT] at oc;have h5:=(zA HI).call sU oc aI;have I6:=h5.ra;obtain⟨Mv,Mw,Mx,My⟩:=I6;clear HI sU oc d2 df;go_wp2_with fail;obtain⟨q0,q1⟩:=z98 h5.ra (.string { data:=#[] }) (.slice none 0 0);refine bodyPost_ret (v:=.tuple #[.agg #[.string { data:=#[] },.slice none 0 0],.bool false]) (by simp[results,Tryz.results98,go_sem,q0,q1]) rfl ⟨rfl,?_,?_⟩
 ·exact (h5.kept.setCell (.inr L9) _).setCell (.inr L9) _
 ·exact h5.eX.kept (((zN.refl [w.heap.size] _).setCell (by simp) _).setCell (by simp) _) (by simp;omega)
theorem zze:(Tryz.prog.info? 221).map (λ i=>(i.zero,i.size,i.bytes))=some (some (.agg #[.int .i64 0,.bool false,.string { data:=#[] },.slice none 0 0,.int .i64 0,.int .i64 0,.int .i64 0,.int .i64 0,.int .i64 0,.int .i64 0]),10,104):=by kernel_rfl
theorem zv9 (w:W8)(b:Nat)(s:B8)(pos num:Nat)(mv:Value)(neg:Bool)(start:Nat)(ms:List (xU × Value))(h:ic w b s pos num mv)(lg:iQ w (b+1) mv ms)(bh:ms.length<=1000)(aI:pos<=s.size)(hs:s.size<=2000000)(hk:(zG s pos).1=2)(sV:¬ (zG s (zG s pos).2.2).1=5):
  Calls Tryz.prog 98 #[.pointer (some ⟨b,0,none⟩),.bool neg,.int .i64 start] w λ e w'=>∃ tv mi,e=.returned (.tuple #[.agg #[.string (xR s pos),tv],.bool true])/\zN (b::mv.ownBlock.toList) w w'/\ic w' b s (zG s pos).2.2 num mi/\iQ w' (b+1) mi (ms++[(⟨num,neg,xR s pos,[],start,(zG s pos).2.1,λ _=>0⟩,tv)])/\w'.ownsRow w.heap.size 191 1 tv 0 (vI [])/\(∀ k,mi.ownBlock=some k->mv.ownBlock=some k\/w.heap.size<=k):=by
 obtain⟨i0,hi,cQ,cz,cx⟩:=info_parts zze;have cE:s.size<=maxLen:=by unfold maxLen;omega
 have cy:((zG s pos).1==2)=true:=by rw[hk];rfl
 have BQ:((zG s (zG s pos).2.2).1==5)=false:=by simp[sV]
 have ht:yU s pos 2=(zG s pos).2.2:=by unfold yU;rw[if_pos cy]
 have FE:yU s (zG s pos).2.2 5=(zG s pos).2.2:=by unfold yU;rw[if_neg (by rw[BQ];decide)]
 have HT:=zC ht;have J0:=zC FE;have cF:=(xT s pos aI).2;have h0:=tg.start neg start h aI;obtain⟨am,mL,rfl⟩:=zD lg.row;have Pd:=zC (λ (x:xU × Value) (hx:x∈ms) k (e:x.2.ownBlock=some k)=>((lg.each x hx).lt k e).2);have mV:=zC (λ k (e:(Value.slice am ms.length mL).ownBlock=some k)=>(lg.row.lt k e).2);obtain⟨aG,c0,c1,c2,c3,c4,c5,fz⟩:=h;clear hk ht FE sV;go_enter Tryz.func98,Tryz.ntmps98;go_wp2_with fail
 go_region
 clear c0 c1 c2 c3 c4 c5 fz;go_wp2_with fail;refine (zdu s pos num _ b _ h0.eX aI hs).mono ?_;rintro e w2 ⟨rfl,aH⟩;have h2:=h0.same aH;have d2:=h2.mc.c2;have df:=h2.mc.fz 2;have h3:=h2.pred (xR s pos);have HI:=zC h3;clear h0 aH h2 h3;go_wp2_with fail;refine (xO s pos num _ 2 b _ (zA HI).eX aI cE).mono ?_;rintro e w4 ⟨rfl,sU,oc⟩;rw[zA HT] at oc;have h5:=(zA HI).call sU oc cF;clear HI sU oc d2 df;go_wp2_with fail;refine (xO s (zG s pos).2.2 num _ 5 b _ h5.eX cF cE).mono ?_;rintro e w6 ⟨rfl,Ea,yj⟩;rw[zA J0] at yj;have h7:=h5.call Ea yj cF;clear h5 Ea yj;have vl:iQ w6 (b+1) (.slice am ms.length mL) ms:=lg.kept h7.kept (by simp);obtain⟨x0,x1,x2,x3,x4,x5,x6,xp,xf⟩:=h7.mc;have y0:=xp 0 (by omega);have y1:=xp 1 (by omega);have y2:=xp 2 (by omega);have y3:=xp 3 (by omega);have r5:=h7.eX.c5;have aB:=vl.row;have s1:Hid (((w6.alloc (Obj.cells #[.int IntKind.i64 ↑num,.bool neg,.string (xR s pos),.slice none 0 0,.int IntKind.i64 ↑start,.int IntKind.i64 ↑(zG s pos).snd.fst,.int IntKind.i64 0,.int IntKind.i64 0,.int IntKind.i64 0,.int IntKind.i64 0] 221)).drew).ownsRow (b+1) 221 10 (Value.slice am ms.length mL) ms.length (zap ms)):=aB.alloc _;have s2:Hid (∀ j u,([Value.int IntKind.i64 ↑num,Value.bool neg,Value.string (xR s pos),.slice none 0 0,Value.int IntKind.i64 ↑start,Value.int IntKind.i64 ↑(zG s pos).snd.fst,Value.int IntKind.i64 0,Value.int IntKind.i64 0,Value.int IntKind.i64 0,Value.int IntKind.i64 0]:V8)[j]?=some u->((w6.alloc (Obj.cells #[.int IntKind.i64 ↑num,.bool neg,.string (xR s pos),.slice none 0 0,.int IntKind.i64 ↑start,.int IntKind.i64 ↑(zG s pos).snd.fst,.int IntKind.i64 0,.int IntKind.i64 0,.int IntKind.i64 0,.int IntKind.i64 0] 221)).drew).cell? ((⟨w6.heap.size,0,none⟩:Addr).add j)=some u):=World.news_of_block (heap_alloc_new w6 _);have s3:Hid (∀ u∈([Value.int IntKind.i64 ↑num,Value.bool neg,Value.string (xR s pos),.slice none 0 0,Value.int IntKind.i64 ↑start,Value.int IntKind.i64 ↑(zG s pos).snd.fst,Value.int IntKind.i64 0,Value.int IntKind.i64 0,Value.int IntKind.i64 0,Value.int IntKind.i64 0]:V8),u.oneCell'=true):=z0a ⟨num,neg,xR s pos,[],start,(zG s pos).2.1,λ _=>0⟩ none 0 0
 have s4:Hid (ms.length+1<=maxLen):=by show _<=_;unfold maxLen;omega
 have s5:Hid ((ms.length+1)*104<=140737488355328):=by show _<=_;omega
 have s6:Hid (b+1<=((w6.alloc (Obj.cells #[.int IntKind.i64 ↑num,.bool neg,.string (xR s pos),.slice none 0 0,.int IntKind.i64 ↑start,.int IntKind.i64 ↑(zG s pos).snd.fst,.int IntKind.i64 0,.int IntKind.i64 0,.int IntKind.i64 0,.int IntKind.i64 0] 221)).drew).heap.size):=by show _<=_;have:=h7.eX.lt;simp;omega
 have hW:∀ k,k<w6.heap.size->((w6.alloc (Obj.cells #[.int IntKind.i64 ↑num,.bool neg,.string (xR s pos),.slice none 0 0,.int IntKind.i64 ↑start,.int IntKind.i64 ↑(zG s pos).snd.fst,.int IntKind.i64 0,.int IntKind.i64 0,.int IntKind.i64 0,.int IntKind.i64 0] 221)).drew).heap[k]?=w6.heap[k]?:=λ k hk=>((zN.refl [] w6).alloc _).block k hk (by simp)
 have hS:w6.heap.size<=((w6.alloc (Obj.cells #[.int IntKind.i64 ↑num,.bool neg,.string (xR s pos),.slice none 0 0,.int IntKind.i64 ↑start,.int IntKind.i64 ↑(zG s pos).snd.fst,.int IntKind.i64 0,.int IntKind.i64 0,.int IntKind.i64 0,.int IntKind.i64 0] 221)).drew).heap.size:=((zN.refl [] w6).alloc _).size;have LO:w6.ownsRow w.heap.size 191 1 (.slice none 0 0) ([]:List (Bool × B8)).length (vI []):=World.ownsRow_nil _ _ _ _;have s8:=zC (λ (w5:W8) (g cap:Nat) (hg:((w6.alloc (Obj.cells #[.int IntKind.i64 ↑num,.bool neg,.string (xR s pos),.slice none 0 0,.int IntKind.i64 ↑start,.int IntKind.i64 ↑(zG s pos).snd.fst,.int IntKind.i64 0,.int IntKind.i64 0,.int IntKind.i64 0,.int IntKind.i64 0] 221)).drew).grownBy w5 (Value.slice am ms.length mL).ownBlock) (aC:w5.ownsRow (b+1) 221 10 (.slice (some ⟨g,0,none⟩) (ms.length+1) cap) (ms.length+1) (zap ms++[Value.int IntKind.i64 ↑num,Value.bool neg,Value.string (xR s pos),.slice none 0 0,Value.int IntKind.i64 ↑start,Value.int IntKind.i64 ↑(zG s pos).snd.fst,Value.int IntKind.i64 0,Value.int IntKind.i64 0,Value.int IntKind.i64 0,Value.int IntKind.i64 0]))=>zz9 (v':=.slice (some ⟨g,0,none⟩) (ms.length+1) cap) h7 vl (zA mV) LO hW hS rfl rfl rfl hg aC);have h7l:=h7.mc.lt;have oQ:=h7.eX.lt;clear hW hS aB vl LO xp;go_wp2_with fail
 go_region_law (refine step_append_lies _ rfl (.tmp 41) (.tmp 43) 98 rfl (b+1) 221 i0 (.agg #[.int .i64 0,.bool false,.string { data:=#[] },.slice none 0 0,.int .i64 0,.int .i64 0,.int .i64 0,.int .i64 0,.int .i64 0,.int .i64 0]) 10 104 Tryz.underlying98 hi cQ cz cx rfl (by decide) (Value.slice am ms.length mL) ms.length (zap ms) (by simp[Act.eval]) (zA s1) ⟨w6.heap.size,0,none⟩ 1 1 [Value.int IntKind.i64 ↑num,Value.bool neg,Value.string (xR s pos),.slice none 0 0,Value.int IntKind.i64 ↑start,Value.int IntKind.i64 ↑(zG s pos).snd.fst,Value.int IntKind.i64 0,Value.int IntKind.i64 0,Value.int IntKind.i64 0,Value.int IntKind.i64 0] (by simp[Act.eval]) rfl (zA s2) (zA s3) (by decide) (zA s4) (zA s5) (zA s6) _ rfl ?_;intro g cap w5 aj aU cN hlt5;obtain⟨e1,e2,e3,e4,e5,e6,e7⟩:=zA s8 w5 g cap aU aj;have z5:=e7.c5;have zf:=e7.fz 5)
 all_goals
  obtain⟨Mv,Mw,Mx,My⟩:=e5;have m2:=e6.c2;have m3:=e6.c3;have ml:=e6.lt;clear s1 s2 s3 s4 s5 s6 s8 x0 x1 x2 x3 x4 x5 x6 xf y0 y1 y2 y3 r5 z5 zf h7;go_wp2_with fail;obtain⟨q0,q1⟩:=z98 (RA.mk Mv Mw Mx My) (.string (xR s pos)) (.slice none 0 0);have kk:=zct (w5.setCell ⟨b,5,none⟩ (.slice (some ⟨g,0,none⟩) (ms.length+1) cap)) w.heap.size (.string (xR s pos)) (.slice none 0 0);refine bodyPost_ret (v:=.tuple #[.agg #[.string (xR s pos),.slice none 0 0],.bool true]) (by simp[results,Tryz.results98,go_sem,q0,q1]) rfl ⟨_,_,rfl,?_,e2.kept kk (by simp;omega),?_,?_,λ k e=>?_⟩
  ·exact (e1.setCell (.inr L9) _).setCell (.inr L9) _
  ·refine zr1 e3 kk (λ k e=>?_) (λ x hx k e=>?_)
   ·rcases cN with h1 | h1
    ·have:=zA mV g h1;injection e with e;simp only at e;omega
    ·injection e with e;simp only at e;simp at h1;omega
   ·rcases List.mem_append.1 hx with hx | hx
    ·have:=zA Pd x hx k e;omega
    ·simp at hx;subst hx;cases e
  ·exact World.ownsRow_nil _ _ _ _
  ·injection e with e
   simp only at e;subst e;rcases cN with h1 | h1
   ·exact .inl h1
   ·refine .inr ?_;simp at h1;omega
end
section
open Go.RowKit
theorem z0n (w:W8)(b:Nat)(s:B8)(pos num:Nat)(mv:Value)(neg:Bool)(start:Nat)(ms:List (xU × Value))(h:ic w b s pos num mv)(lg:iQ w (b+1) mv ms)(aI:pos<=s.size)(hs:s.size<=2000000)(hk:(zG s pos).1=2)(sV:(zG s (zG s pos).2.2).1=5)(Gq:(yE s 4 (zG s (zG s pos).2.2).2.2 [] (λ _=>0)).1=false):
  Calls Tryz.prog 98 #[.pointer (some ⟨b,0,none⟩),.bool neg,.int .i64 start] w λ e w'=>e=.returned (.tuple #[.agg #[.string { data:=#[] },.slice none 0 0],.bool false])/\zN [b] w w'/\ic w' b s (yE s 4 (zG s (zG s pos).2.2).2.2 [] (λ _=>0)).2.1 num mv:=by
 have cE:s.size<=maxLen:=by unfold maxLen;omega
 have cy:((zG s pos).1==2)=true:=by rw[hk];rfl
 have BQ:((zG s (zG s pos).2.2).1==5)=true:=by rw[sV];rfl
 have ht:yU s pos 2=(zG s pos).2.2:=by unfold yU;rw[if_pos cy]
 have FE:yU s (zG s pos).2.2 5=(zG s (zG s pos).2.2).2.2:=by unfold yU;rw[if_pos BQ]
 have HT:=zC ht;have J0:=zC FE;have cF:=(xT s pos aI).2;have iX:=(xT s (zG s pos).2.2 cF).2;have h0:=tg.start neg start h aI;obtain⟨am,mL,rfl⟩:=zD lg.row;obtain⟨aG,c0,c1,c2,c3,c4,c5,fz⟩:=h;clear hk ht FE sV;go_enter Tryz.func98,Tryz.ntmps98;go_wp2_with fail
 go_region
 clear c0 c1 c2 c3 c4 c5 fz;go_wp2_with fail;refine (zdu s pos num _ b _ h0.eX aI hs).mono ?_;rintro e w2 ⟨rfl,aH⟩;have h2:=h0.same aH;have d2:=h2.mc.c2;have df:=h2.mc.fz 2;have h3:=h2.pred (xR s pos);have HI:=zC h3;clear h0 aH h2 h3;go_wp2_with fail;refine (xO s pos num _ 2 b _ (zA HI).eX aI cE).mono ?_;rintro e w4 ⟨rfl,sU,oc⟩;rw[zA HT] at oc;have h5:=(zA HI).call sU oc cF;clear HI sU oc d2 df;go_wp2_with fail;refine (xO s (zG s pos).2.2 num _ 5 b _ h5.eX cF cE).mono ?_;rintro e w6 ⟨rfl,Ea,yj⟩;rw[zA J0] at yj;have h7:=h5.call Ea yj iX;clear h5 Ea yj;have Bv:b≠w.heap.size+1:=by have:=h7.bw;omega
 go_wp2_with fail;refine (zqx w6 b (w.heap.size+1) s _ num _ num neg _ start (zG s pos).2.1 _ h7.eX h7.mc Bv iX hs).mono ?_;rintro e w8 ⟨rfl,tv,hT⟩;generalize Nk:yE s 4 (zG s (zG s pos).2.2).2.2 [] (λ _=>0)=PP at *;obtain⟨ok,p3,ts,pl⟩:=PP;simp only at hT;obtain⟨bp,cA,rfl⟩:=zD hT.own;have Rm:w.heap.size+1<w6.heap.size:=h7.mc.lt;have h8:tg w b s num (.slice am ms.length mL) neg start (zG s pos).2.1 (xR s pos) (.slice bp ts.length cA) pl p3 w8:=by
  refine⟨hT.eX,hT.hp,hT.mc,h7.ra.kept hT.kept (by simp;have:=h7.bw;omega),?_,h7.bw⟩;have k1:zN [b,w.heap.size+1] w w6:=h7.kept.mono (by simp);exact (k1.trans hT.kept).mono (by simp)
 have NQ:w8.ownsRow w.heap.size 191 1 (.slice bp ts.length cA) ts.length (vI ts):=zF hT.own (by omega);have M0:=zC (λ g (e:(Value.slice bp ts.length cA).ownBlock=some g)=>(hT.own.lt g e).1);clear hT h7;have cd:ok=false:=Gq;subst cd;obtain⟨Mv,Mw,Mx,My⟩:=h8.ra;clear NQ M0;go_wp2_with fail;obtain⟨q0,q1⟩:=z98 h8.ra (.string { data:=#[] }) (.slice none 0 0);refine bodyPost_ret (v:=.tuple #[.agg #[.string { data:=#[] },.slice none 0 0],.bool false]) (by simp[results,Tryz.results98,go_sem,q0,q1]) rfl ⟨rfl,?_,?_⟩
 ·exact (h8.kept.setCell (.inr L9) _).setCell (.inr L9) _
 ·rw[Nk];exact h8.eX.kept (zct w8 w.heap.size (.string { data:=#[] }) (.slice none 0 0)) (by simp;omega)
end
section
open Go.RowKit
theorem z0o (w:W8)(b:Nat)(s:B8)(pos num:Nat)(mv:Value)(neg:Bool)(start:Nat)(ms:List (xU × Value))(h:ic w b s pos num mv)(lg:iQ w (b+1) mv ms)(bh:ms.length<=1000)(aI:pos<=s.size)(hs:s.size<=2000000)(hk:(zG s pos).1=2)(sV:(zG s (zG s pos).2.2).1=5)(Gq:(yE s 4 (zG s (zG s pos).2.2).2.2 [] (λ _=>0)).1=true):
  Calls Tryz.prog 98 #[.pointer (some ⟨b,0,none⟩),.bool neg,.int .i64 start] w λ e w'=>∃ tv mi,e=.returned (.tuple #[.agg #[.string (xR s pos),tv],.bool true])/\zN (b::mv.ownBlock.toList) w w'/\ic w' b s (yE s 4 (zG s (zG s pos).2.2).2.2 [] (λ _=>0)).2.1 num mi/\iQ w' (b+1) mi (ms++[(⟨num,neg,xR s pos,(yE s 4 (zG s (zG s pos).2.2).2.2 [] (λ _=>0)).2.2.1,start,(zG s pos).2.1,(yE s 4 (zG s (zG s pos).2.2).2.2 [] (λ _=>0)).2.2.2⟩,tv)])/\w'.ownsRow w.heap.size 191 1 tv (yE s 4 (zG s (zG s pos).2.2).2.2 [] (λ _=>0)).2.2.1.length (vI (yE s 4 (zG s (zG s pos).2.2).2.2 [] (λ _=>0)).2.2.1) /\(∀ k,mi.ownBlock=some k->mv.ownBlock=some k\/w.heap.size<=k):=by
 obtain⟨i0,hi,cQ,cz,cx⟩:=info_parts zze;have cE:s.size<=maxLen:=by unfold maxLen;omega
 have cy:((zG s pos).1==2)=true:=by rw[hk];rfl
 have BQ:((zG s (zG s pos).2.2).1==5)=true:=by rw[sV];rfl
 have ht:yU s pos 2=(zG s pos).2.2:=by unfold yU;rw[if_pos cy]
 have FE:yU s (zG s pos).2.2 5=(zG s (zG s pos).2.2).2.2:=by unfold yU;rw[if_pos BQ]
 have HT:=zC ht;have J0:=zC FE;have cF:=(xT s pos aI).2;have iX:=(xT s (zG s pos).2.2 cF).2;have h0:=tg.start neg start h aI;obtain⟨am,mL,rfl⟩:=zD lg.row;have Pd:=zC (λ (x:xU × Value) (hx:x∈ms) k (e:x.2.ownBlock=some k)=>((lg.each x hx).lt k e).2);have mV:=zC (λ k (e:(Value.slice am ms.length mL).ownBlock=some k)=>(lg.row.lt k e).2);obtain⟨aG,c0,c1,c2,c3,c4,c5,fz⟩:=h;clear hk ht FE sV;go_enter Tryz.func98,Tryz.ntmps98;go_wp2_with fail
 go_region
 clear c0 c1 c2 c3 c4 c5 fz;go_wp2_with fail;refine (zdu s pos num _ b _ h0.eX aI hs).mono ?_;rintro e w2 ⟨rfl,aH⟩;have h2:=h0.same aH;have d2:=h2.mc.c2;have df:=h2.mc.fz 2;have h3:=h2.pred (xR s pos);have HI:=zC h3;clear h0 aH h2 h3;go_wp2_with fail;refine (xO s pos num _ 2 b _ (zA HI).eX aI cE).mono ?_;rintro e w4 ⟨rfl,sU,oc⟩;rw[zA HT] at oc;have h5:=(zA HI).call sU oc cF;clear HI sU oc d2 df;go_wp2_with fail;refine (xO s (zG s pos).2.2 num _ 5 b _ h5.eX cF cE).mono ?_;rintro e w6 ⟨rfl,Ea,yj⟩;rw[zA J0] at yj;have h7:=h5.call Ea yj iX;clear h5 Ea yj;have Bv:b≠w.heap.size+1:=by have:=h7.bw;omega
 go_wp2_with fail;refine (zqx w6 b (w.heap.size+1) s _ num _ num neg _ start (zG s pos).2.1 _ h7.eX h7.mc Bv iX hs).mono ?_;rintro e w8 ⟨rfl,tv,hT⟩;generalize Nk:yE s 4 (zG s (zG s pos).2.2).2.2 [] (λ _=>0)=PP at *;obtain⟨ok,p3,ts,pl⟩:=PP;simp only at hT;obtain⟨bp,cA,rfl⟩:=zD hT.own;have Rm:w.heap.size+1<w6.heap.size:=h7.mc.lt;have h8:tg w b s num (.slice am ms.length mL) neg start (zG s pos).2.1 (xR s pos) (.slice bp ts.length cA) pl p3 w8:=by
  refine⟨hT.eX,hT.hp,hT.mc,h7.ra.kept hT.kept (by simp;have:=h7.bw;omega),?_,h7.bw⟩;have k1:zN [b,w.heap.size+1] w w6:=h7.kept.mono (by simp);exact (k1.trans hT.kept).mono (by simp)
 have NQ:w8.ownsRow w.heap.size 191 1 (.slice bp ts.length cA) ts.length (vI ts):=zF hT.own (by omega);have M0:=zC (λ g (e:(Value.slice bp ts.length cA).ownBlock=some g)=>(hT.own.lt g e).1);clear hT h7;have cd:ok=true:=Gq;subst cd;have JV:=zC Nk;clear Nk;have vl:iQ w8 (b+1) (.slice am ms.length mL) ms:=lg.kept h8.kept (by simp);obtain⟨x0,x1,x2,x3,x4,x5,x6,xp,xf⟩:=h8.mc;have y0:=xp 0 (by omega);have y1:=xp 1 (by omega);have y2:=xp 2 (by omega);have y3:=xp 3 (by omega);have r5:=h8.eX.c5;have aB:=vl.row;have s1:Hid (((w8.alloc (Obj.cells #[.int IntKind.i64 ↑num,.bool neg,.string (xR s pos),.slice bp ts.length cA,.int IntKind.i64 ↑start,.int IntKind.i64 ↑(zG s pos).snd.fst,.int IntKind.i64 ↑(pl 0),.int IntKind.i64 ↑(pl 1),.int IntKind.i64 ↑(pl 2),.int IntKind.i64 ↑(pl 3)] 221)).drew).ownsRow (b+1) 221 10 (Value.slice am ms.length mL) ms.length (zap ms)):=aB.alloc _;have s2:Hid (∀ j u,([Value.int IntKind.i64 ↑num,Value.bool neg,Value.string (xR s pos),.slice bp ts.length cA,Value.int IntKind.i64 ↑start,Value.int IntKind.i64 ↑(zG s pos).snd.fst,Value.int IntKind.i64 ↑(pl 0),Value.int IntKind.i64 ↑(pl 1),Value.int IntKind.i64 ↑(pl 2),Value.int IntKind.i64 ↑(pl 3)]:V8)[j]?=some u->((w8.alloc (Obj.cells #[.int IntKind.i64 ↑num,.bool neg,.string (xR s pos),.slice bp ts.length cA,.int IntKind.i64 ↑start,.int IntKind.i64 ↑(zG s pos).snd.fst,.int IntKind.i64 ↑(pl 0),.int IntKind.i64 ↑(pl 1),.int IntKind.i64 ↑(pl 2),.int IntKind.i64 ↑(pl 3)] 221)).drew).cell? ((⟨w8.heap.size,0,none⟩:Addr).add j)=some u):=World.news_of_block (heap_alloc_new w8 _);have s3:Hid (∀ u∈([Value.int IntKind.i64 ↑num,Value.bool neg,Value.string (xR s pos),.slice bp ts.length cA,Value.int IntKind.i64 ↑start,Value.int IntKind.i64 ↑(zG s pos).snd.fst,Value.int IntKind.i64 ↑(pl 0),Value.int IntKind.i64 ↑(pl 1),Value.int IntKind.i64 ↑(pl 2),Value.int IntKind.i64 ↑(pl 3)]:V8),u.oneCell'=true):=z0a ⟨num,neg,xR s pos,ts,start,(zG s pos).2.1,pl⟩ bp ts.length cA
 have s4:Hid (ms.length+1<=maxLen):=by show _<=_;unfold maxLen;omega
 have s5:Hid ((ms.length+1)*104<=140737488355328):=by show _<=_;omega
 have s6:Hid (b+1<=((w8.alloc (Obj.cells #[.int IntKind.i64 ↑num,.bool neg,.string (xR s pos),.slice bp ts.length cA,.int IntKind.i64 ↑start,.int IntKind.i64 ↑(zG s pos).snd.fst,.int IntKind.i64 ↑(pl 0),.int IntKind.i64 ↑(pl 1),.int IntKind.i64 ↑(pl 2),.int IntKind.i64 ↑(pl 3)] 221)).drew).heap.size):=by show _<=_;have:=h8.eX.lt;simp;omega
 have hW:∀ k,k<w8.heap.size->((w8.alloc (Obj.cells #[.int IntKind.i64 ↑num,.bool neg,.string (xR s pos),.slice bp ts.length cA,.int IntKind.i64 ↑start,.int IntKind.i64 ↑(zG s pos).snd.fst,.int IntKind.i64 ↑(pl 0),.int IntKind.i64 ↑(pl 1),.int IntKind.i64 ↑(pl 2),.int IntKind.i64 ↑(pl 3)] 221)).drew).heap[k]?=w8.heap[k]?:=λ k hk=>((zN.refl [] w8).alloc _).block k hk (by simp)
 have hS:w8.heap.size<=((w8.alloc (Obj.cells #[.int IntKind.i64 ↑num,.bool neg,.string (xR s pos),.slice bp ts.length cA,.int IntKind.i64 ↑start,.int IntKind.i64 ↑(zG s pos).snd.fst,.int IntKind.i64 ↑(pl 0),.int IntKind.i64 ↑(pl 1),.int IntKind.i64 ↑(pl 2),.int IntKind.i64 ↑(pl 3)] 221)).drew).heap.size:=((zN.refl [] w8).alloc _).size;have s8:=zC (λ (w5:W8) (g cap:Nat) (hg:((w8.alloc (Obj.cells #[.int IntKind.i64 ↑num,.bool neg,.string (xR s pos),.slice bp ts.length cA,.int IntKind.i64 ↑start,.int IntKind.i64 ↑(zG s pos).snd.fst,.int IntKind.i64 ↑(pl 0),.int IntKind.i64 ↑(pl 1),.int IntKind.i64 ↑(pl 2),.int IntKind.i64 ↑(pl 3)] 221)).drew).grownBy w5 (Value.slice am ms.length mL).ownBlock) (aC:w5.ownsRow (b+1) 221 10 (.slice (some ⟨g,0,none⟩) (ms.length+1) cap) (ms.length+1) (zap ms++[Value.int IntKind.i64 ↑num,Value.bool neg,Value.string (xR s pos),.slice bp ts.length cA,Value.int IntKind.i64 ↑start,Value.int IntKind.i64 ↑(zG s pos).snd.fst,Value.int IntKind.i64 ↑(pl 0),Value.int IntKind.i64 ↑(pl 1),Value.int IntKind.i64 ↑(pl 2),Value.int IntKind.i64 ↑(pl 3)]))=>zz9 (v':=.slice (some ⟨g,0,none⟩) (ms.length+1) cap) h8 vl (zA mV) NQ hW hS rfl rfl rfl hg aC);have h8l:=h8.mc.lt;have oQ:=h8.eX.lt;clear hW hS aB vl xp NQ;go_wp2_with fail
 go_region_law (refine step_append_lies _ rfl (.tmp 41) (.tmp 43) 98 rfl (b+1) 221 i0 (.agg #[.int .i64 0,.bool false,.string { data:=#[] },.slice none 0 0,.int .i64 0,.int .i64 0,.int .i64 0,.int .i64 0,.int .i64 0,.int .i64 0]) 10 104 Tryz.underlying98 hi cQ cz cx rfl (by decide) (Value.slice am ms.length mL) ms.length (zap ms) (by simp[Act.eval]) (zA s1) ⟨w8.heap.size,0,none⟩ 1 1 [Value.int IntKind.i64 ↑num,Value.bool neg,Value.string (xR s pos),.slice bp ts.length cA,Value.int IntKind.i64 ↑start,Value.int IntKind.i64 ↑(zG s pos).snd.fst,Value.int IntKind.i64 ↑(pl 0),Value.int IntKind.i64 ↑(pl 1),Value.int IntKind.i64 ↑(pl 2),Value.int IntKind.i64 ↑(pl 3)] (by simp[Act.eval]) rfl (zA s2) (zA s3) (by decide) (zA s4) (zA s5) (zA s6) _ rfl ?_;intro g cap w5 aj aU cN hlt5;obtain⟨e1,e2,e3,e4,e5,e6,e7⟩:=zA s8 w5 g cap aU aj;have z5:=e7.c5;have zf:=e7.fz 5)
 all_goals
  obtain⟨Mv,Mw,Mx,My⟩:=e5;have m2:=e6.c2;have m3:=e6.c3;have ml:=e6.lt;clear s1 s2 s3 s4 s5 s6 s8 x0 x1 x2 x3 x4 x5 x6 xf y0 y1 y2 y3 r5 z5 zf h8;go_wp2_with fail;obtain⟨q0,q1⟩:=z98 (RA.mk Mv Mw Mx My) (.string (xR s pos)) (.slice bp ts.length cA);have kk:=zct (w5.setCell ⟨b,5,none⟩ (.slice (some ⟨g,0,none⟩) (ms.length+1) cap)) w.heap.size (.string (xR s pos)) (.slice bp ts.length cA);refine bodyPost_ret (v:=.tuple #[.agg #[.string (xR s pos),.slice bp ts.length cA],.bool true]) (by simp[results,Tryz.results98,go_sem,q0,q1]) rfl ⟨_,_,rfl,?_,by rw[zA JV];exact e2.kept kk (by simp;omega),?_,?_,λ k e=>?_⟩
  ·exact (e1.setCell (.inr L9) _).setCell (.inr L9) _
  ·rw[zA JV];refine zr1 e3 kk (λ k e=>?_) (λ x hx k e=>?_)
   ·rcases cN with h1 | h1
    ·have:=zA mV g h1;injection e with e;simp only at e;omega
    ·injection e with e;simp only at e;simp at h1;omega
   ·rcases List.mem_append.1 hx with hx | hx
    ·have:=zA Pd x hx k e;omega
    ·simp at hx;subst hx;have:=zA M0 k e;omega
  ·rw[zA JV];exact qH e4 kk (λ k e=>by have:=zA M0 k e;omega)
  ·injection e with e
   simp only at e;subst e;rcases cN with h1 | h1
   ·exact .inl h1
   ·refine .inr ?_;simp at h1;omega
end
section
open Go.RowKit
def z2o (w:W8)(b:Nat)(s:B8)(num:Nat)(mv:Value)(neg:Bool)(start place:Nat)(ms:List (xU × Value))(r:z96)(e:Ending)(w':W8):Prop:=
 match r with
 | .no p=>e=.returned (.tuple #[.agg #[.string { data:=#[] },.slice none 0 0],.bool false])/\zN [b] w w'/\ic w' b s p num mv
 | .yes p pd ts pl=>∃ tv mi,e=.returned (.tuple #[.agg #[.string pd,tv],.bool true])/\zN (b::mv.ownBlock.toList) w w'/\ic w' b s p num mi/\iQ w' (b+1) mi (ms++[(⟨num,neg,pd,ts,start,place,pl⟩,tv)])/\w'.ownsRow w.heap.size 191 1 tv ts.length (vI ts)/\(∀ k,mi.ownBlock=some k->mv.ownBlock=some k\/w.heap.size<=k)
theorem zke (w:W8)(b:Nat)(s:B8)(pos num:Nat)(mv:Value)(neg:Bool)(start:Nat)(ms:List (xU × Value))(h:ic w b s pos num mv)(lg:iQ w (b+1) mv ms)(bh:ms.length<=1000)(aI:pos<=s.size)(hs:s.size<=2000000):
  Calls Tryz.prog 98 #[.pointer (some ⟨b,0,none⟩),.bool neg,.int .i64 start] w (z2o w b s num mv neg start (zG s pos).2.1 ms (x9 s pos)):=by
 by_cases hk:(zG s pos).1=2
 ·by_cases sV:(zG s (zG s pos).2.2).1=5
  ·cases hP:(yE s 4 (zG s (zG s pos).2.2).2.2 [] (λ _=>0)).1 with
   | false=>
    have e:x9 s pos=.no (yE s 4 (zG s (zG s pos).2.2).2.2 [] (λ _=>0)).2.1:=(by unfold x9;rw[if_pos hk,if_pos sV,if_neg (by rw[hP];decide)]);rw[e];exact z0n w b s pos num mv neg start ms h lg aI hs hk sV hP
   | true=>
    have e:x9 s pos=.yes (yE s 4 (zG s (zG s pos).2.2).2.2 [] (λ _=>0)).2.1 (xR s pos) (yE s 4 (zG s (zG s pos).2.2).2.2 [] (λ _=>0)).2.2.1 (yE s 4 (zG s (zG s pos).2.2).2.2 [] (λ _=>0)).2.2.2:=(by unfold x9;rw[if_pos hk,if_pos sV,if_pos hP]);rw[e];exact z0o w b s pos num mv neg start ms h lg bh aI hs hk sV hP
  ·have e:x9 s pos=.yes (zG s pos).2.2 (xR s pos) [] (λ _=>0):=(by unfold x9;rw[if_pos hk,if_neg sV]);rw[e];exact zv9 w b s pos num mv neg start ms h lg bh aI hs hk sV
 ·have e:x9 s pos=.no pos:=by unfold x9;rw[if_neg hk]
  rw[e];exact z4j w b s pos num mv neg start h aI hs hk
end
section
open Go.RowKit
variable {fr:Nat × Nat} {cur:Array Value} {n0 n base:Nat} {e0:TypeId} {w:W8}
theorem zkk {e:TypeId}{size:Nat}{v:Value}{xs:V8}(h:w.ownsRow base e size v n xs)(hb:w.heap[n0]?=some (.cells cur e0 fr))(eI:e≠e0):∀ g,v.ownBlock=some g->g≠n0:=by
 intro g hg T7;subst T7;rcases h.2 with⟨rfl,_⟩ | ⟨g',cap,Pu,rfl,_,dI,_⟩
 ·cases hg
 ·injection hg with hg
  simp only at hg;subst hg;rw[hb] at dI;injection dI with dI
  injection dI with _ dI _
  exact eI dI.symm
theorem zz8 {w':W8}{mv:Value}{ms:List (xU × Value)}(h:iQ w base mv ms)(hb:w.heap[n0]?=some (.cells cur e0 fr))(h1:221≠e0)(h2:191≠e0)(k:zN [n0] w w'):iQ w' base mv ms:=
 zr1 h k (zkk h.row hb h1) (λ x hx=>zkk (h.each x hx) hb h2)
def z6m (w:W8)(b:Nat)(s:B8)(num:Nat)(mv:Value)(neg:Bool)(start place:Nat)(ms:List (xU × Value))(r:z96)(e:Ending)(w':W8):Prop:=
 match r with
 | .no p=>e=.returned (.tuple #[.agg #[.bool neg,.string { data:=#[] },.slice none 0 0],.bool false])/\zN [b] w w'/\ic w' b s p num mv
 | .yes p pd ts pl=>∃ tv mi,e=.returned (.tuple #[.agg #[.bool neg,.string pd,tv],.bool true])/\zN (b::mv.ownBlock.toList) w w'/\ic w' b s p num mi/\iQ w' (b+1) mi (ms++[(⟨num,neg,pd,ts,start,place,pl⟩,tv)])/\w'.ownsRow w.heap.size 191 1 tv ts.length (vI ts)/\(∀ k,mi.ownBlock=some k->mv.ownBlock=some k\/w.heap.size<=k)
theorem zB {c:Array Value}{t:TypeId}(h:w.heap[n]?=some (.cells c t (0,0)))(j:Nat):w.cell? ⟨n,j,none⟩=c[j]?/\w.frozen? ⟨n,j,none⟩=false:=by
 unfold World.cell? World.frozen?;simp[h]
theorem zvw (w1:W8)(n:Nat)(v0 v1 v2:Value):zN [n] w1 (((w1.setCell ⟨n,0,none⟩ v0).setCell ⟨n,1,none⟩ v1).setCell ⟨n,2,none⟩ v2):=
 (((zN.refl [n] w1).setCell (by simp) _).setCell (by simp) _).setCell (by simp) _
theorem zN.dm {B:List Nat}{w1 w2:W8}(h:zN B w w1)(k:zN [w.heap.size] w1 w2):zN B w w2:=
 ⟨k.os.trans h.os,k.tape.trans h.tape,k.output.trans h.output,Nat.le_trans h.size k.size,λ i hi hn=>(k.block i (Nat.lt_of_lt_of_le hi h.size) (by simp;omega)).trans (h.block i hi hn)⟩
theorem z4m (w:W8)(b:Nat)(s:B8)(pos num:Nat)(mv:Value)(ms:List (xU × Value))(h:ic w b s pos num mv)(lg:iQ w (b+1) mv ms)(bh:ms.length<=1000)(aI:pos<=s.size)(hs:s.size<=2000000):
  Calls Tryz.prog 175 #[.pointer (some ⟨b,0,none⟩)] w (z6m w b s num mv ((zG s pos).1==4) (zG s pos).2.1 (zG s (yU s pos 4)).2.1 ms (x9 s (yU s pos 4))):=by
 have cE:s.size<=maxLen:=by unfold maxLen;omega
 have h0:=h.kept ((zN.refl [] w).alloc (.cells #[.bool false,.string { data:=#[] },.slice none 0 0] 183)) (by simp);have BZ:=lg.kept ((zN.refl [] w).alloc (.cells #[.bool false,.string { data:=#[] },.slice none 0 0] 183)) (by simp);have cF:yU s pos 4<=s.size:=by unfold yU;split;exact (xT s pos aI).2;exact aI
 have mV:=zC (λ k (e:mv.ownBlock=some k)=>(lg.row.lt k e).2);obtain⟨aG,c0,c1,c2,c3,c4,c5,fz⟩:=h;have sd:(w.alloc (.cells #[.bool false,.string { data:=#[] },.slice none 0 0] 183)).heap[w.heap.size]?=some (.cells #[.bool false,.string { data:=#[] },.slice none 0 0] 183 (0,0)):=heap_alloc_new w _;have tr:=zC sd;clear sd;go_enter Tryz.func175,Tryz.ntmps175;go_wp2_with fail;refine (xO s pos num mv 4 b _ h0 aI cE).mono ?_;rintro e w1 ⟨rfl,bg,lK⟩;have G6:=BZ.kept bg (by simp);clear c0 c1 c2 c3 c4 c5 fz h0 BZ;go_wp2_with fail;refine (zke w1 b s (yU s pos 4) num mv _ _ ms lK G6 bh cF hs).mono ?_;intro e w2 hpost
 cases hr:x9 s (yU s pos 4) with
 | no p=>
  rw[hr] at hpost;obtain⟨rfl,cy,mS⟩:=hpost;have qz:=bg.trans cy;have aH:=(qz.block w.heap.size (by simp) (by simp;omega)).trans (zA tr);obtain⟨a0,f0⟩:=zB aH 0;obtain⟨a1,f1⟩:=zB aH 1;obtain⟨a2,f2⟩:=zB aH 2;have ng:w.heap.size<w2.heap.size:=by have:=qz.size;simp at this;omega
  have HR:=zC hr;clear hr bg lK G6 cy;go_wp2_with fail;obtain⟨q0,q1,q2⟩:=z6c a0 a1 a2 (.bool ((zG s pos).1==4)) (.string { data:=#[] }) (.slice none 0 0);have q0:=qI q0;have q1:=qI q1;have q2:=qI q2;have k3:=(zvw w2 w.heap.size (.bool ((zG s pos).1==4)) (.string { data:=#[] }) (.slice none 0 0)).alloc (Obj.cells #[.string { data:=#[] },.slice none 0 0] 79);refine bodyPost_ret (v:=.tuple #[.agg #[.bool ((zG s pos).1==4),.string { data:=#[] },.slice none 0 0],.bool false]) (by simp[results,Tryz.results175,go_sem,q0,q1,q2]) rfl ?_;rw[zA HR];exact⟨rfl,(((zN.refl [b] w).alloc _).trans qz).dm k3,mS.kept k3 (by simp;omega)⟩
 | yes p pd ts pl=>
  rw[hr] at hpost;obtain⟨tv,mi,rfl,cy,mS,il,qq,lL⟩:=hpost;obtain⟨bp,cA,rfl⟩:=zD qq;have qz:=(bg.mono (C:=b::mv.ownBlock.toList) (by simp)).trans cy
  have aH:=(qz.block w.heap.size (by simp) (by
   intro hm;rcases List.mem_cons.1 hm with hm | hm
   ·omega
   ·have:=zA mV w.heap.size (by simpa using hm);omega)).trans (zA tr)
  obtain⟨a0,f0⟩:=zB aH 0;obtain⟨a1,f1⟩:=zB aH 1;obtain⟨a2,f2⟩:=zB aH 2;have ng:w.heap.size<w2.heap.size:=by have:=qz.size;simp at this;omega
  have nj:w.heap.size<=w1.heap.size:=by have:=bg.size;simp at this;omega
  have HR:=zC hr;have kR:=zC aH;have ID:=zC lL;clear hr bg lK G6 cy aH lL;go_wp2_with fail;obtain⟨q0,q1,q2⟩:=z6c a0 a1 a2 (.bool ((zG s pos).1==4)) (.string pd) (.slice bp ts.length cA);have q0:=qI q0;have q1:=qI q1;have q2:=qI q2;have k3:=(zvw w2 w.heap.size (.bool ((zG s pos).1==4)) (.string pd) (.slice bp ts.length cA)).alloc (Obj.cells #[.string pd,.slice bp ts.length cA] 79);refine bodyPost_ret (v:=.tuple #[.agg #[.bool ((zG s pos).1==4),.string pd,.slice bp ts.length cA],.bool true]) (by simp[results,Tryz.results175,go_sem,q0,q1,q2]) rfl ?_;rw[zA HR];exact⟨_,_,rfl,(((zN.refl _ w).alloc _).trans qz).dm k3,mS.kept k3 (by simp;omega),zz8 il (zA kR) (by decide) (by decide) k3,zF (qH qq k3 (zkk qq (zA kR) (by decide))) nj,λ k e=>by rcases zA ID k e with h1 | h1;exact .inl h1;exact .inr (Nat.le_trans nj h1)⟩
end
section
open Go.RowKit
structure vJ where
 neg:Bool
 pd:B8
 ts:List (Bool × B8)
def vJ.cells (L:vJ)(tv:Value):V8:=[.bool L.neg,.string L.pd,tv]
def zkf (ls:List (vJ × Value)):V8:=ls.flatMap λ x=>x.1.cells x.2
theorem zp4 (l:List (vJ × Value))(A:vJ)(tv:Value):zkf (l++[(A,tv)])=zkf l++A.cells tv:=by simp[zkf]
structure mj (w:W8)(base:Nat)(bv:Value)(ls:List (vJ × Value)):Prop where
 row:w.ownsRow base 183 3 bv ls.length (zkf ls)
 each:∀ x∈ls,w.ownsRow base 191 1 x.2 x.1.ts.length (vI x.1.ts)
def yv (s:B8)(p:Nat)(pd:B8)(ts:List (Bool × B8)):vJ:=⟨(zG s p).1==4,pd,ts⟩
def CP (s:B8)(num p:Nat)(pd:B8)(ts:List (Bool × B8))(pl:Nat->Nat):xU:=⟨num,(zG s p).1==4,pd,ts,(zG s p).2.1,(zG s (yU s p 4)).2.1,pl⟩
def jE (s:B8)(num:Nat):Nat->Nat->List vJ->List xU->Bool × Nat × List vJ × List xU
 | 0,p,l,ms=>(false,p,l,ms)
 | f+1,p,l,ms=>
  match x9 s (yU s p 4) with
  | .no q=>(false,q,l,ms)
  | .yes q pd ts pl=>
   if (zG s q).1=7 then jE s num f (zG s q).2.2 (l++[yv s p pd ts]) (ms++[CP s num p pd ts pl])
   else (decide ((zG s q).1=8),yU s q 8,l++[yv s p pd ts],ms++[CP s num p pd ts pl])
structure vX where
 pd:B8
 ts:List (Bool × B8)
 body:List vJ
def uI (s:B8)(num p:Nat)(pd:B8)(ts:List (Bool × B8))(pl:Nat->Nat):xU:=⟨num,false,pd,ts,(zG s p).2.1,(zG s p).2.1,pl⟩
def vB (s:B8)(num p:Nat)(ms:List xU):Bool × Nat × vX × List xU:=
 match x9 s p with
 | .no q=>(false,q,⟨{ data:=#[] },[],[]⟩,ms)
 | .yes q pd ts pl=>
  if (zG s q).1=8 then (true,(zG s q).2.2,⟨pd,ts,[]⟩,ms++[uI s num p pd ts pl])
  else if (zG s q).1=9 then
   ((jE s num 3 (zG s q).2.2 [] (ms++[uI s num p pd ts pl])).1,(jE s num 3 (zG s q).2.2 [] (ms++[uI s num p pd ts pl])).2.1,⟨pd,ts,(jE s num 3 (zG s q).2.2 [] (ms++[uI s num p pd ts pl])).2.2.1⟩,(jE s num 3 (zG s q).2.2 [] (ms++[uI s num p pd ts pl])).2.2.2)
  else (false,q,⟨pd,ts,[]⟩,ms++[uI s num p pd ts pl])
def jO (s:B8):Nat->Nat->List vX->List xU->Bool × Nat × List vX × List xU
 | 0,p,rs,ms=>(false,p,rs,ms)
 | f+1,p,rs,ms=>
  if (zG s p).1=0 then (true,p,rs,ms)
  else if rs.length=30 then (false,p,rs,ms)
  else if (vB s rs.length p ms).1 then jO s f (vB s rs.length p ms).2.1 (rs++[(vB s rs.length p ms).2.2.1]) (vB s rs.length p ms).2.2.2
  else (false,(vB s rs.length p ms).2.1,rs,(vB s rs.length p ms).2.2.2)
variable {xs:V8} {n size base:Nat} {v:Value} {e:TypeId} {w w':W8}
theorem xI (h:w.ownsRow base e size v n xs)(hb:∀ g,v.ownBlock=some g->w'.heap[g]?=w.heap[g]?):w'.ownsRow base e size v n xs:=by
 refine⟨h.1,?_⟩;rcases h.2 with hn | ⟨g,cap,cur,rfl,kH,dI,rest⟩
 ·exact .inl hn
 ·exact .inr ⟨g,cap,cur,rfl,kH,(hb g rfl).trans dI,rest⟩
def iq (w:W8)(e:TypeId)(x:Nat):Prop:=∀ c fr,w.heap[x]?≠some (.cells c e fr)
theorem yP {e0:TypeId}(h:w.ownsRow base e0 size v n xs)(eI:e0≠e):∀ x∈v.ownBlock.toList,iq w e x:=by
 intro x hx c fr he;have Me:v.ownBlock=some x:=by simpa using hx
 rcases h.2 with⟨rfl,_⟩ | ⟨g,cap,cur,rfl,_,dI,_⟩
 ·cases Me
 ·injection Me with Me
  simp only at Me;subst Me;rw[he] at dI;injection dI with dI
  injection dI with _ dI _
  exact eI dI.symm
variable {B:List Nat}
theorem xC (h:w.ownsRow base e size v n xs)(k:zN B w w')(hB:∀ x∈B,x<base\/iq w e x):w'.ownsRow base e size v n xs:=by
 refine⟨h.1,?_⟩;rcases h.2 with hn | ⟨g,cap,cur,rfl,kH,dI,rest⟩
 ·exact .inl hn
 ·refine .inr ⟨g,cap,cur,rfl,kH,?_,rest⟩
  rw[k.block g (Array.getElem?_eq_some_iff.1 dI).1 (λ hm=>by
   rcases hB g hm with h1 | h1
   ·omega
   ·exact h1 _ _ dI)]
  exact dI
theorem zN.step {C:List Nat}{a:W8}(h:zN B a w)(k:zN C w w')(hC:∀ x∈C,x∈B\/a.heap.size<=x):zN B a w':=
 ⟨k.os.trans h.os,k.tape.trans h.tape,k.output.trans h.output,Nat.le_trans h.size k.size,λ i hi hn=>(k.block i (Nat.lt_of_lt_of_le hi h.size) (λ hm=>by
  rcases hC i hm with h1 | h1
  ·exact hn h1
  ·omega)).trans (h.block i hi hn)⟩
variable {ls:List (vJ × Value)} {bv:Value}
theorem mj.cq (h:mj w base bv ls)(k:zN B w w')(hB:∀ x∈B,x<base\/(iq w 183 x/\iq w 191 x)):mj w' base bv ls:=
 ⟨xC h.row k (λ x hx=>(hB x hx).imp id And.left),λ y hy=>xC (h.each y hy) k (λ x hx=>(hB x hx).imp id And.right)⟩
theorem mj.low {base':Nat}(h:mj w base bv ls)(hb:base'<=base):mj w base' bv ls:=
 ⟨zF h.row hb,λ y hy=>zF (h.each y hy) hb⟩
variable {ms:List (xU × Value)} {mv:Value}
theorem iQ.cq (h:iQ w base mv ms)(k:zN B w w')(hB:∀ x∈B,x<base\/(iq w 221 x/\iq w 191 x)):iQ w' base mv ms:=
 ⟨xC h.row k (λ x hx=>(hB x hx).imp id And.left),λ y hy=>xC (h.each y hy) k (λ x hx=>(hB x hx).imp id And.right)⟩
structure AV (w:W8)(b:Nat)(s:B8)(num:Nat)(mv:Value)(ls:List (vJ × Value))(p:Nat)(ms:List (xU × Value))(kI bv:Value)(wr:W8):Prop where
 eX:ic wr b s p num kI
 hp:p<=s.size
 iY:iQ wr (b+1) kI ms
 lits:mj wr w.heap.size bv ls
 kept:zN (b::mv.ownBlock.toList) w wr
 at_:∀ k,kI.ownBlock=some k->mv.ownBlock=some k\/w.heap.size<=k
 bw:b<w.heap.size
variable {p' p num b:Nat} {wr w1:W8} {kI:Value} {s:B8}
theorem AV.take (h:AV w b s num mv ls p ms kI bv wr)(k:zN [b] wr w1)(hr:ic w1 b s p' num kI)(hp:p'<=s.size):AV w b s num mv ls p' ms kI bv w1:=
 have h2:=h.bw
 ⟨hr,hp,h.iY.kept k (by simp),h.lits.cq k (by simp;omega),h.kept.step k (by simp),h.at_,h.bw⟩
theorem AV.lit {Hu:Value}{ms':List (xU × Value)}(h:AV w b s num mv ls p ms kI bv wr)(k:zN (b::kI.ownBlock.toList) wr w1)(hr:ic w1 b s p' num Hu)(hp:p'<=s.size)(hm:iQ w1 (b+1) Hu ms')(eS:∀ k,Hu.ownBlock=some k->kI.ownBlock=some k\/wr.heap.size<=k):AV w b s num mv ls p' ms' Hu bv w1:=by
 have h2:=h.bw;have hz:=h.kept.size;refine⟨hr,hp,hm,h.lits.cq k (λ x hx=>?_),h.kept.step k (λ x hx=>?_),λ x hx=>?_,h.bw⟩
 ·rcases List.mem_cons.1 hx with rfl | hx
  ·exact .inl h2
  ·exact .inr ⟨yP h.iY.row (by decide) x hx,yP h.iY.row (by decide) x hx⟩
 ·rcases List.mem_cons.1 hx with rfl | hx
  ·exact .inl (by simp)
  ·rcases h.at_ x (by simpa using hx) with h1 | h1
   ·exact .inl (by simp[h1])
   ·exact .inr h1
 ·rcases eS x hx with h1 | h1
  ·exact h.at_ x h1
  ·exact .inr (by omega)
theorem AV.append {W w5:W8}(h:AV w b s num mv ls p ms kI bv w1)(kW:zN [] w1 W){L:vJ}{tv uW:Value}
  (ht:w1.ownsRow w.heap.size 191 1 tv L.ts.length (vI L.ts)) (aC:w5.ownsRow w.heap.size 183 3 uW (ls.length+1) (zkf ls++L.cells tv)) (hg:W.grownBy w5 bv.ownBlock):
  AV w b s num mv (ls++[(L,tv)]) p ms kI uW w5:=by
 have h2:=h.bw;have k5:zN bv.ownBlock.toList w1 w5:=((kW.mono (C:=bv.ownBlock.toList) (by simp))).grown hg (λ k e=>.inr (by simp[e]));have aB:∀ k,bv.ownBlock=some k->w.heap.size<=k:=λ k e=>(h.lits.row.lt k e).1
 have lJ:b∉bv.ownBlock.toList:=λ hm=>by have:=aB b (by simpa using hm);omega
 have kF:∀ {v:Value} {n:Nat} {xs:V8},w1.ownsRow w.heap.size 191 1 v n xs->w5.ownsRow w.heap.size 191 1 v n xs:=λ {v n xs} hx=>xC hx k5 (λ x hx=>.inr (yP h.lits.row (by decide) x hx))
 refine⟨h.eX.kept k5 lJ,h.hp,h.iY.cq k5 (λ x hx=>.inr ⟨yP h.lits.row (by decide) x hx,yP h.lits.row (by decide) x hx⟩),⟨?_,λ x hx=>?_⟩,h.kept.step k5 (λ x hx=>.inr (aB x (by simpa using hx))),h.at_,h.bw⟩
 ·rw[zp4,List.length_append];exact aC
 ·rcases List.mem_append.1 hx with hx | hx
  ·exact kF (h.lits.each x hx)
  ·simp at hx;subst hx;exact kF ht
end
section
open Go.RowKit
theorem z7g:(Tryz.prog.info? 183).map (λ i=>(i.zero,i.size,i.bytes))=some (some (.agg #[.bool false,.string { data:=#[] },.slice none 0 0]),3,48):=by kernel_rfl
theorem z0v (w1:W8)(o:Obj)(L:vJ)(tv:Value)(j:Nat)(u:Value)(h:(L.cells tv)[j]?=some u):((w1.alloc o).alloc (Obj.cells #[.bool L.neg,.string L.pd,tv] 183)).cell? ((⟨w1.heap.size+1,0,none⟩:Addr).add j)=some u:=by
 have e:(⟨w1.heap.size+1,0,none⟩:Addr).add j=⟨w1.heap.size+1,j,none⟩:=by unfold Addr.add;split <;> simp_all
 rw[e,World.cell?_alloc_at _ _ _ _ (by simp)];simpa[vJ.cells] using h
theorem z4n (L:vJ)(a:O8)(n c:Nat):∀ u∈L.cells (.slice a n c),u.oneCell'=true:=by
 intro u hu;simp[vJ.cells] at hu;rcases hu with rfl | rfl | rfl <;> rfl
variable {p:Nat} {s:B8}
theorem zn4 {k:Int}(h:p<=s.size):yU s p k<=s.size:=by
 unfold yU;split
 ·exact (xT s p h).2
 ·exact h
theorem z02 (s:B8)(f:Nat):∀ {p:Nat} {l:List (Bool × B8)} {pl:Nat->Nat},p<=s.size->(yE s f p l pl).2.1<=s.size:=by
 induction f with
 | zero=>intro p l pl h;exact h
 | succ f ih=>
  intro p l pl h;have h1:=(xT s p h).2;rw[yE]
  split
  ·split
   ·exact ih (xT s _ h1).2
   ·exact zn4 h1
  ·exact h
theorem zt6 (h:p<=s.size):match x9 s p with | .no q=>q<=s.size | .yes q _ _ _=>q<=s.size:=by
 have h1:=(xT s p h).2;have h2:=(xT s _ h1).2;have h3:=z02 s 4 (l:=[]) (pl:=λ _=>0) h2;unfold x9
 by_cases c1:(zG s p).1=2
 ·rw[if_pos c1]
  by_cases c2:(zG s (zG s p).2.2).1=5
  ·rw[if_pos c2]
   by_cases c3:(yE s 4 (zG s (zG s p).2.2).2.2 [] (λ _=>0)).1=true
   ·rw[if_pos c3];exact h3
   ·rw[if_neg c3];exact h3
  ·rw[if_neg c2];exact h1
 ·rw[if_neg c1];exact h
theorem zwb (s:B8)(num p:Nat)(l:List vJ)(ms:List xU)(n:Nat)(hn:n<3):jE s num (3-n) p l ms=match x9 s (yU s p 4) with
  | .no q=>(false,q,l,ms)
  | .yes q pd ts pl=>
   if (zG s q).1=7 then jE s num (3-(n+1)) (zG s q).2.2 (l++[yv s p pd ts]) (ms++[CP s num p pd ts pl])
   else (decide ((zG s q).1=8),yU s q 8,l++[yv s p pd ts],ms++[CP s num p pd ts pl]):=by
 have e:3-n=(3-(n+1))+1:=by omega
 rw[e,jE]
 all_goals (cases x9 s (yU s p 4) <;> rfl)
def zsx (w:W8)(b:Nat)(s:B8)(num:Nat)(mv:Value)(n0:Nat)(P:Bool × Nat × List vJ × List xU)(e:Ending)(w':W8):Prop:=
 ∃ (a:O8) (n c:Nat) (mi:Value) (ls:List (vJ × Value)) (ms':List (xU × Value)),e=.returned (.tuple #[.slice a n c,.bool P.1])/\zN (b::mv.ownBlock.toList) w w'/\ic w' b s P.2.1 num mi /\
  iQ w' (b+1) mi ms'/\ms'.map (·.1)=P.2.2.2/\ms'.length<=n0+3/\(∀ k,mi.ownBlock=some k->mv.ownBlock=some k\/w.heap.size<=k)/\(P.1=true->mj w' w.heap.size (.slice a n c) ls/\ls.map (·.1)=P.2.2.1/\ls.length<=3/\P.2.1<=s.size)
theorem z3b {w:W8}{b num:Nat}{mv:Value}{ls:List (vJ × Value)}{ms:List (xU × Value)}{kI bv:Value}{wr:W8}{n0:Nat}{l:List vJ}(h:AV w b s num mv ls p ms kI bv wr)(hn:ms.length<=n0+3):zsx w b s num mv n0 (false,p,l,ms.map (·.1)) (.returned (.tuple #[.slice none 0 0,.bool false])) wr:=
 ⟨none,0,0,kI,[],ms,rfl,h.kept,h.eX,h.iY,rfl,hn,h.at_,λ e=>by cases e⟩
theorem z0s (w:W8)(b:Nat)(s:B8)(pos num:Nat)(mv:Value)(lM:List (xU × Value))(h:ic w b s pos num mv)(lg:iQ w (b+1) mv lM)(bh:lM.length<=900)(aI:pos<=s.size)(hs:s.size<=2000000):
  Calls Tryz.prog 117 #[.pointer (some ⟨b,0,none⟩)] w (zsx w b s num mv lM.length (jE s num 3 pos [] (lM.map (·.1)))):=by
 have cE:s.size<=maxLen:=by unfold maxLen;omega
 obtain⟨i0,hi,cQ,cz,cx⟩:=info_parts z7g;have aP:AV w b s num mv [] pos lM mv (.slice none 0 0) w:=⟨h,aI,lg,⟨World.ownsRow_nil _ _ _ _,by simp⟩,zN.refl _ _,λ k e=>.inl e,h.lt⟩;clear h lg;go_enter Tryz.func117,Tryz.ntmps117;go_wp2_with fail
 go_loopg [4] 5 (λ g bv wr=>∃ (ls:List (vJ × Value)) (ms:List (xU × Value)) (p:Nat) (kI:Value),ls.length<=3/\4-ls.length<=g/\ms.length=lM.length+ls.length/\AV w b s num mv ls p ms kI bv wr/\jE s num 3 pos [] (lM.map (·.1))=jE s num (3-ls.length) p (ls.map (·.1)) (ms.map (·.1)))
 exact⟨[],lM,pos,mv,by simp,by simp,by simp,aP,rfl⟩
 case round=>
  clear aP;obtain⟨ls,ms,p,kI,nR,hg,uB,hinv,ax⟩:=hrel;obtain⟨a1,kt,rfl⟩:=zD hinv.lits.row;have HF:=zC ax;clear ax;have b8:=hinv.hp
  by_cases h3:ls.length=3
  ·have WW:¬ ((ls.length:Int)<3):=(by omega);have HI:=zC hinv;clear hinv;go_wp2_with fail
   go_ret2
   rw[zA HF,h3];exact z3b (zA HI) (by omega)
  ·have WW:(ls.length:Int)<3:=(by omega);have sj:ls.length<3:=(by omega);have kM:=zC ((zA HF).trans (zwb s num p (ls.map (·.1)) (ms.map (·.1)) ls.length sj));have YO:w.heap.size<=wr.heap.size:=hinv.kept.size;clear HF h3;go_wp2_with fail;refine (z4m wr b s p num kI ms hinv.eX hinv.iY (by omega) b8 hs).mono ?_;intro e w1 hpost;have hq:=zt6 (zn4 (k:=4) b8)
   cases hr:x9 s (yU s p 4) with
   | no q=>
    rw[hr] at hpost hq kM;obtain⟨rfl,bg,lK⟩:=hpost;have aD:=hinv.take bg lK hq;have HI:=zC aD;clear hinv bg lK hr aD;go_wp2_with fail
    go_ret2
    rw[zA kM];have kk:=(zN.refl [] w1).alloc (Obj.cells #[.bool ((zG s p).1==4),.string { data:=#[] },.slice none 0 0] 183);have hI:=zA HI;exact⟨none,0,0,kI,[],ms,rfl,hI.kept.alloc _,hI.eX.kept kk (by simp),hI.iY.cq kk (by simp),rfl,by omega,hI.at_,λ e=>by cases e⟩
   | yes q pd ts pl=>
    rw[hr] at hpost hq kM;obtain⟨tv,Hu,rfl,bg,lK,kO,sq,nj⟩:=hpost;obtain⟨bp,cA,rfl⟩:=zD sq;have aD:=hinv.lit bg lK hq kO nj;have qq:=zF sq YO;have bT:=aD.lits.row;have Hq:=aD.kept.size;have HI:=zC aD;clear hinv bg lK hr kO sq nj aD;go_wp2_with (at_builtin;refine wpList_append_own _ rfl _ _ 121 rfl w.heap.size 183 i0 _ 3 48 Tryz.underlying121 hi cQ cz cx rfl (by decide) _ _ _ rfl ((bT.alloc _).alloc _) ⟨w1.heap.size+1,0,none⟩ 1 1 ((yv s p pd ts).cells (.slice bp ts.length cA)) rfl rfl (z0v w1 _ (yv s p pd ts) _) (z4n _ _ _ _) (by unfold maxLen;omega) (by omega) (by simp;omega) ?_);intro v5 w5 aj aU hne5;clear hne5;obtain⟨a5,ie,rfl⟩:=zD aj;have aF:=(zA HI).append (L:=yv s p pd ts) (((zN.refl [] w1).alloc _).alloc _) qq aj aU;have xj:=zC aF;clear aj aU bT HI aF qq;go_wp2_with fail;refine (xO s q num Hu 7 b _ (zA xj).eX hq cE).mono ?_;rintro e w7 ⟨rfl,ia,rI⟩
    cases hc:(zG s q).1==7 with
    | true=>
     have mY:(zG s q).1=7:=(by simpa using hc);have e7:yU s q 7=(zG s q).2.2:=(by unfold yU;rw[if_pos hc]);rw[e7] at rI;have aA:=(zA xj).take ia rI (xT s q hq).2;have az:=zC ((zA kM).trans (if_pos mY));have JH:=zC aA;clear kM xj ia rI hc mY e7 aA;go_wp2_with fail;go_roundg (4-(ls.length+1));exact⟨_,_,_,_,by simp;omega,by simp,by simp;omega,zA JH,by simpa[yv,CP] using zA az⟩;omega
    | false=>
     have mY:¬ (zG s q).1=7:=(by simpa using hc);have e7:yU s q 7=q:=(by unfold yU;rw[if_neg (by rw[hc];decide)]);rw[e7] at rI;have aA:=(zA xj).take ia rI hq;have az:=zC ((zA kM).trans (if_neg mY));have JH:=zC aA;clear kM xj ia rI hc mY e7 aA;go_wp2_with fail;refine (xO s q num Hu 8 b _ (zA JH).eX hq cE).mono ?_;rintro e w8 ⟨rfl,kn,AM⟩;have cU:=(zA JH).take kn AM (zn4 hq);have CZ:=zC cU;clear JH kn AM cU;go_wp2_with fail
     go_ret2
     rw[zA az];have hI:=zA CZ;have hb:decide ((zG s q).1=8)=((zG s q).1==8):=(by rw[Bool.eq_iff_iff];simp);refine⟨a5,ls.length+1,ie,_,_,_,by rw[hb];rfl,hI.kept,hI.eX,hI.iY,by simp[CP],by simp;omega,hI.at_,λ _=>⟨by simpa using hI.lits,by simp[yv],by simp;omega,hI.hp⟩⟩
end
end Go.Proofs.YtldkpahaocjdpaaGreat
