/-
  thing.Of, readThing, wholeStrata.
-/
import Derived.Test.YtldkpahaocjdpaaGreatE44
set_option maxHeartbeats 16000000
set_option maxRecDepth 1000000
namespace Go.Proofs.YtldkpahaocjdpaaGreat
section
open Go.RowKit Go.Maps
def z55 (A:jZ):Option Th:=if A.ts.any (·.1) then none else some (A.p,A.ts.map (·.2))
theorem zjc {fn:Func}{p u:Tmp}(h:fn.results=#[.cell p 88,.tmp u])(tmps:Array Value)(w:W8)(g:Nat)(t:Th)(hp:tmps.getD p undef=.pointer (some ⟨g,0,none⟩))(hg:w.heap[g]?=some (.cells (zV t).toArray 88 (0,0))):
  (results fn tmps).run Tryz.prog w=.ok (.tuple #[thV t,tmps.getD u undef]) w:=by
 have Gr:tmps[p]?.getD undef=.pointer (some ⟨g,0,none⟩):=by simpa using hp
 have mj:tmps.getD u undef=tmps[u]?.getD undef:=by simp
 rw[mj];simp[results,h,Gr,asAddr,run_loadVar_row w g _ 88 _ _ _ hg Tryz.underlying88 rfl (by rw[zh8];rfl),thV]
def zvm (w:W8)(r:Option Th)(en:Ending)(w':W8):Prop:=Below w.heap.size w w'/\en=.returned (.tuple #[thV (r.getD ({ data:=#[] },[])),.bool r.isSome])
theorem z81 (w:W8)(base:Nat)(A:jZ)(a:O8)(c:Nat)(h:w.ownsRow base 191 1 (.slice a A.ts.length c) A.ts.length (A.ts.map zc3))(h4:A.ts.length<=4):
  Calls Tryz.prog 65 #[.agg #[.string A.p,.slice a A.ts.length c]] w (zvm w (z55 A)):=by
 have H:=zC h;clear h;have a1:=zkz;have a2:=zi1;have a3:=zky;go_enter Tryz.func65,Tryz.ntmps65;go_upto_region 2 with fail;generalize bC:World.alloc (World.alloc (World.alloc w _) _) _=w0;have k0:Below w.heap.size w w0:=by
  rw[<-bC];exact (((Below.refl w.heap.size w).alloc L9 _).alloc (by simp) _).alloc (by simp only[World.size_alloc];omega) _
 have x1:w0.heap[w.heap.size]?=some (.cells #[.string A.p,.slice a A.ts.length c] 79 (0,0)):=by
  rw[<-bC,Below.heap_alloc _ _ _ (by simp only[World.size_alloc];omega),Below.heap_alloc _ _ _ (by simp)];exact heap_alloc_new w _
 have x2:w0.heap[w.heap.size+1]?=some (.cells (zV ⟨{ data:=#[] },[]⟩).toArray 88 (0,0)):=by
  rw[<-bC,Below.heap_alloc _ _ _ (by simp)];have:=heap_alloc_new (w.alloc (.cells #[.string A.p,.slice a A.ts.length c] 79)) (.cells (zV ⟨{ data:=#[] },[]⟩).toArray 88);rw[World.size_alloc] at this;exact this
 have x3:w0.heap[w.heap.size+1+1]?=some (.cells (zV ⟨A.p,[]⟩).toArray 88 (0,0)):=by
  rw[<-bC];have:=heap_alloc_new ((w.alloc (.cells #[.string A.p,.slice a A.ts.length c] 79)).alloc (.cells (zV ⟨{ data:=#[] },[]⟩).toArray 88)) (.cells (zV ⟨A.p,[]⟩).toArray 88);rw[World.size_alloc,World.size_alloc] at this;exact this
 have s0:w.heap.size+1+1+1=w0.heap.size:=by rw[<-bC];simp
 have fu:=zZ (zA H) (λ g e=>k0.block g ((zA H).lt g e).2);have HG:=zC (λ g (e1:(Value.slice a A.ts.length c).ownBlock=some g)=>((zA H).lt g e1).2);clear bC H;have lV:=zC s0;have FA:=zC x3;have JD:=zC x2;have py:=zC fu;have dr:=zC k0;obtain⟨p1,-⟩:=zB x1 1;simp only[List.getElem?_toArray,List.getElem?_cons_zero,List.getElem?_cons_succ] at p1;clear x1 x2 x3 fu k0 s0;go_wp2_with fail
 go_loopg [15] A.ts.length (λ gg i wr=>∃ (k:Nat) (L:List B8),k<=A.ts.length/\gg=A.ts.length-k/\i=.int .i64 k/\L=(A.ts.take k).map (·.2)/\(A.ts.take k).any (·.1)=false/\wr.heap[w.heap.size+1+1]?=some (.cells (zV ⟨A.p,L⟩).toArray 88 (0,0))/\zK [w.heap.size+1+1] w0 wr)
 exact⟨0,[],Nat.zero_le _,rfl,rfl,rfl,rfl,zA FA,zK.refl _ _⟩
 case round=>
  obtain⟨k,L,hk,eD,rfl,hL,zj,hx,dX⟩:=hrel;have hZ:L.length=k:=by rw[hL];simp;omega
  have EO:=zA lV;have rR:=zC (show Below w.heap.size w wr from ⟨dX.os.trans (zA dr).os,dX.tape.trans (zA dr).tape,dX.output.trans (zA dr).output,Nat.le_trans (zA dr).size dX.size,λ i hi=>(dX.block i (by omega) (by simp;omega)).trans ((zA dr).block i hi)⟩);have HX:=zC hx;have ow:=zC dX;have HL:=zC hL;have BY:=zC hZ;have N2:=zC zj;have yq:=zC ((dX.block (w.heap.size+1) (by omega) (by simp)).trans (zA JD))
  by_cases aF:k<A.ts.length
  ·obtain⟨g,rfl,xi,bO,bQ,hc⟩:=zu9 (zA py) k aF;have jg:=zA HG g rfl;have gY:wr.cell? ⟨g,k,none⟩=some (zc3 A.ts[k]):=((zA ow).cell (p:=⟨g,k,none⟩) xi (by simp;omega)).trans hc;obtain⟨cd,Im⟩:=zB hx (1+k);replace cd:wr.cell? ⟨w.heap.size+1+1,1+k,none⟩=some (.string (xW L k)):=by
    rw[cd,List.getElem?_toArray];exact zdg ⟨A.p,L⟩ (by omega)
   have nu:(k:Int)<A.ts.length:=(by omega);have my:(1+k:Int)<5:=(by omega);clear hc EO hx dX hL hZ zj
   cases hv:A.ts[k].1 with
   | false=>
    have nS:wr.cell? ⟨g,k,none⟩=some (.iface 193 (.string A.ts[k].2)):=(by rw[gY];unfold zc3;rw[hv];rfl);have HV:=zC hv;clear gY hv;go_wp2_with fail;go_roundg (A.ts.length-(k+1))
    case measure=>omega
    case rel=>
     have:=zpe (zA HX) (by rw[zA BY];omega) A.ts[k].2;rw[zA BY] at this;refine⟨k+1,L++[A.ts[k].2],by omega,rfl,by go_num,?_,?_,this,(zA ow).setCell (by simp) _⟩
     ·rw[List.take_succ_eq_append_getElem aF,List.map_append,zA HL];rfl
     ·rw[List.take_succ_eq_append_getElem aF,List.any_append,zA N2];simp[zA HV]
   | true=>
    have nS:wr.cell? ⟨g,k,none⟩=some (.iface 130 (.string A.ts[k].2)):=(by rw[gY];unfold zc3;rw[hv];rfl);have HE:=zC (show z55 A=none by unfold z55;rw[if_pos (List.any_eq_true.2 ⟨_,List.getElem_mem aF,hv⟩)]);clear gY hv;go_wp2_with (first | (refine wpList_store_row rfl 88 _ _ rfl _ _ rfl rfl _ _ (zA yq) (by rw[zh8];rfl) rfl (zez ({ data:=#[] },[])) ?_) | fail);refine bodyPost_ret (v:=.tuple #[thV ({ data:=#[] },[]),.bool false]) (zjc Tryz.results65 _ _ _ _ rfl (setRow_heap _ _ _ _ _ _ (zA yq))) rfl ?_;rw[zA HE];exact⟨xN (zA rR) (by omega) _,rfl⟩
  ·have HE:=zC (show z55 A=some (A.p,L) by unfold z55;rw[List.take_of_length_le (by omega)] at hL zj;rw[zj,hL];rfl);clear EO hx dX hL hZ zj;go_wp2_with (first | (refine wpList_load_row rfl 88 _ rfl _ rfl _ _ _ _ (zA HX) Tryz.underlying88 rfl (by rw[zh8];rfl) ?_) | (refine wpList_store_row rfl 88 _ _ rfl _ _ rfl rfl _ _ (zA yq) (by rw[zh8];rfl) rfl (zez _) ?_) | fail);refine bodyPost_ret (v:=.tuple #[thV (A.p,L),.bool true]) (zjc Tryz.results65 _ _ _ _ rfl (setRow_heap _ _ _ _ _ _ (zA yq))) rfl ?_;rw[zA HE];exact⟨xN (zA rR) (by omega) _,rfl⟩
end
section
open Go.RowKit Go.Maps
attribute [local go_sem ↓] zbb qQ qP qO
attribute [local go_sem] jY jX
def zeb (ps:P9)(s:B8):Option Th:=(ze1 ps s).bind z55
theorem TV.result {fn:Func}{p u:Tmp}(h:fn.results=#[.cell p 88,.tmp u]){w:W8}{g:Nat}{t:Th}(hg:TV w g t)(tmps:Array Value)(hp:tmps.getD p undef=.pointer (some ⟨g,0,none⟩)):(results fn tmps).run Tryz.prog w=.ok (.tuple #[thV t,tmps.getD u undef]) w:=zjc h tmps w g t hp hg
theorem zpx (w:W8)(s:B8)(tb n:Nat)(ps:P9)(S:B8->Nat)(h:dE Tryz.prog 9 w tb n (stV ps S))(hs:s.size<=2000000):
  Calls Tryz.prog 41 #[.string s,.map (some tb)] w (zvm w (zeb ps s)):=by
 have rk:=h.lt;have k0:Below w.heap.size w (w.alloc (.cells (zV ({ data:=#[] },[])).toArray 88)):=B9.alloc L9 _;have HA:=zC (zpw (w.alloc (.cells (zV ({ data:=#[] },[])).toArray 88)) s tb n ps S (h.block (k0.block tb rk)) hs);have dr:=zC k0;clear h k0;go_enter Tryz.func41,Tryz.ntmps41;go_wp2_with fail;refine (zA HA).mono ?_;rintro e w1 ⟨aL,hp⟩;have aY:w.heap.size+1<=w1.heap.size:=by have:=aL.size;simpa using this
 have dp:Below w.heap.size w w1:=(zA dr).trans (aL.mono (by simp));have mg:TV w1 w.heap.size ({ data:=#[] },[]):=(aL.block _ (by simp)).trans (heap_alloc_new w _)
 cases hP:ze1 ps s with
 | none=>
  rw[hP] at hp;subst hp;have HN:=zC (show zeb ps s=none by unfold zeb;rw[hP];rfl);have lj:TV (w1.alloc (.cells #[.string { data:=#[] },.slice none 0 0] 79)) w.heap.size ({ data:=#[] },[]):=mg.alloc _;have aP:(zs3 (.pointer (some ⟨w.heap.size,0,none⟩)) (.agg #[.string { data:=#[] },.string { data:=#[] },.string { data:=#[] },.string { data:=#[] },.string { data:=#[] }])).run Tryz.prog (w1.alloc (.cells #[.string { data:=#[] },.slice none 0 0] 79))=.ok () ((w1.alloc (.cells #[.string { data:=#[] },.slice none 0 0] 79)).setRow w.heap.size (zV ({ data:=#[] },[])).toArray):=lj.store ({ data:=#[] },[]);have CI:=zC lj;have HB:=zC (dp.alloc dp.size (.cells #[.string { data:=#[] },.slice none 0 0] 79));have hz:=z4w;clear hP mg aL dp lj;go_wp2_with fail;refine bodyPost_ret (v:=.tuple #[thV ({ data:=#[] },[]),.bool false]) (TV.result Tryz.results41 (setRow_heap _ _ _ _ _ _ (zA CI)) _ rfl) rfl ?_;rw[zA HN];exact⟨xN (zA HB) L9 _,rfl⟩
 | some A=>
  rw[hP] at hp;obtain⟨a,c,rfl,aB⟩:=hp;obtain⟨bj,h4⟩:A.p.size<=s.size/\A.ts.length<=4:=by
   unfold ze1 at hP
   split at hP
   ·cases hP
   ·rename_i A' hA
    split at hP
    ·cases hP;exact zsf hA
    ·cases hP
  have OU:=zC (show zeb ps s=z55 A by unfold zeb;rw[hP];rfl);have HO:=zC (z81 (w1.alloc (.cells #[.string A.p,.slice a A.ts.length c] 79)) _ A a c (aB.alloc _) h4);have ql:=dp.alloc dp.size (.cells #[.string A.p,.slice a A.ts.length c] 79);have Ul:TV (w1.alloc (.cells #[.string A.p,.slice a A.ts.length c] 79)) w.heap.size ({ data:=#[] },[]):=mg.alloc _;have yh:=zC ql;have OK:=zC Ul;clear hP mg aL dp aB ql Ul;generalize z55 A=R at *;go_wp2_with fail;refine (zA HO).mono ?_;rintro e w2 ⟨aK,rfl⟩;have ik:TV w2 w.heap.size ({ data:=#[] },[]):=(zA OK).below aK;have aP:=ik.store (R.getD ({ data:=#[] },[]));have mG:=zC ik;have ir:=zC ((zA yh).trans (aK.mono (zA yh).size));clear aK ik;go_wp2_with fail;refine bodyPost_ret (v:=.tuple #[thV (R.getD ({ data:=#[] },[])),.bool R.isSome]) (TV.result Tryz.results41 (setRow_heap _ _ _ _ _ _ (zA mG)) _ rfl) rfl ?_;rw[zA OU];exact⟨xN (zA ir) L9 _,rfl⟩
def jO (ps:P9)(S:B8->Nat)(K:List (Th × Nat))(t:Th):Nat:=if (yX ps t.1).isSome then (if (yS K t).isSome then S t.1 else S t.1+1) else 0
theorem z5y (w:W8)(tb n kb:Nat)(ps:P9)(S:B8->Nat)(K:List (Th × Nat))(t:Th)(h:dE Tryz.prog 9 w tb n (stV ps S))(hm:qR w kb K)(ht:zdu t)(hS:S t.1<=1000000):
  Calls Tryz.prog 66 #[.map (some tb),.map (some kb),thV t] w λ e w'=>e=.returned (.int .i64 (jO ps S K t:Nat))/\Below w.heap.size w w':=by
 have rk:=h.lt;have dF:=hm.lt;have k0:Below w.heap.size w (w.alloc (.cells (zV t).toArray 88)):=B9.alloc L9 _;have Is:=h.block (k0.block tb rk);have q0:(w.alloc (.cells (zV t).toArray 88)).cell? ⟨w.heap.size,0,none⟩=some (.string t.1):=(zB (TV.new w t) 0).1;have Al:t.1.size<=maxLen:=by have:=ht.pd;unfold maxLen;simp only[Th.p] at this;omega
 have HM:=zC hm;have dr:=zC k0;obtain⟨ct,lL⟩:∃ ct,ct=(zV t).toArray:=⟨_,rfl⟩;have pw:=zC lL;unfold thV;rw[<-lL] at q0 Is dr ⊢;clear h hm k0 lL
 cases hn:yX ps t.1 with
 | none=>
  have HE:=zC (show jO ps S K t=0 by unfold jO;rw[hn];rfl);have hu:(stV ps S t.1).getD (.agg #[.string { data:=#[] },.int .i64 0,.int .i64 0])=.agg #[.string { data:=#[] },.int .i64 0,.int .i64 0]:=by unfold stV;rw[hn];rfl
  have hc:(stV ps S t.1).isSome=false:=by unfold stV;rw[hn];rfl
  clear hn;go_enter Tryz.func66,Tryz.ntmps66;go_wp2_with (at_lookup;refine qC _ rfl _ _ 73 rfl 9 185 Tryz.underlying9 Tryz.underlying73 (Tryz.zeroValue185 _) tb n (stV ps S) rfl Is t.1 rfl Al _ hu _ hc ?_);go_ret;exact⟨by rw[zA HE];rfl,(zA dr).alloc (zA dr).size _⟩
 | some m=>
  have hu:(stV ps S t.1).getD (.agg #[.string { data:=#[] },.int .i64 0,.int .i64 0])=.agg #[.string t.1,.int .i64 (S t.1),.int .i64 m]:=by unfold stV;rw[hn];rfl
  have hc:(stV ps S t.1).isSome=true:=by unfold stV;rw[hn];rfl
  have HW:=zC (show jO ps S K t=if (yS K t).isSome then S t.1 else S t.1+1 by unfold jO;rw[hn];rfl);have bB:Below w.heap.size w ((w.alloc (.cells ct 88)).alloc (.cells #[.string t.1,.int .i64 (S t.1),.int .i64 m] 185)):=(zA dr).alloc (zA dr).size _;have tB:(zmx (.pointer (some ⟨w.heap.size,0,none⟩))).run Tryz.prog ((w.alloc (.cells ct 88)).alloc (.cells #[.string t.1,.int .i64 (S t.1),.int .i64 m] 185))=.ok (thV t) ((w.alloc (.cells ct 88)).alloc (.cells #[.string t.1,.int .i64 (S t.1),.int .i64 m] 185)):=by rw[zA pw];exact ((TV.new w t).alloc _).load
  have lB:=((zA HM).block (bB.block kb dF)).look ht Tryz.underlying83;have Mq:=zC bB;clear hn bB
  cases hf:(yS K t).isSome with
  | true=>
   have HE:=zC (show jO ps S K t=S t.1 by rw[zA HW,hf];rfl);rw[hf] at lB;clear hf;go_enter Tryz.func66,Tryz.ntmps66;go_wp2_with (at_lookup;refine qC _ rfl _ _ 73 rfl 9 185 Tryz.underlying9 Tryz.underlying73 (Tryz.zeroValue185 _) tb n (stV ps S) rfl Is t.1 rfl Al _ hu _ hc ?_);go_ret;exact⟨by rw[zA HE];rfl,zA Mq⟩
  | false=>
   have HE:=zC (show jO ps S K t=S t.1+1 by rw[zA HW,hf];rfl);rw[hf] at lB;clear hf;go_enter Tryz.func66,Tryz.ntmps66;go_wp2_with (at_lookup;refine qC _ rfl _ _ 73 rfl 9 185 Tryz.underlying9 Tryz.underlying73 (Tryz.zeroValue185 _) tb n (stV ps S) rfl Is t.1 rfl Al _ hu _ hc ?_);go_ret;exact⟨by rw[zA HE];simp,zA Mq⟩
end
section
open Go.RowKit Go.Maps
theorem zyu (n:Nat)(hn:n<=1000)(u:W8):(Instr.makeSlice 91 (.int .i64 n) (.int .i64 n)).run Tryz.prog u=.ok (.slice (some ⟨u.heap.size,0,none⟩) n n) (u.alloc (.cells (madeCells #[.int .i64 0,.slice none 0 0] (n*2)) 150)):=by
 obtain⟨i0,hi,bL,aY,bg⟩:=info_parts zwa;have h:=run_make (P:=Tryz.prog) u 91 150 i0 (.agg #[.int .i64 0,.slice none 0 0]) Tryz.underlying91 hi bL .i64 .i64 (n:Int) (n:Int) (by omega) (Int.le_refl _) (by rw[bg];omega) (by omega);simpa[aY,Value.cells] using h
theorem yeb (w:W8)(a0 a1 a2 a3 a4 b0 b1 b2 b3 b4:B8):(Op.equalIn 10000 88 (.agg #[.string a0,.string a1,.string a2,.string a3,.string a4]) (.agg #[.string b0,.string b1,.string b2,.string b3,.string b4])).run Tryz.prog w=.ok (a0.toList==b0.toList&&(a1.toList==b1.toList&&(a2.toList==b2.toList&&(a3.toList==b3.toList&&a4.toList==b4.toList)))) w:=by
 have hu:=Tryz.underlying9;have ha:=Tryz.isAgg9;have hz:=Tryz.sizeOf9;rw[show (10000:Nat)=9999+1 from rfl,Op.equalIn];simp only[Sem.run_bind,run_underlying Tryz.underlying88,Result.andThen_ok];simp only[Std.Legacy.Range.forIn_eq_forIn_range',Std.Legacy.Range.size,Nat.sub_zero,Nat.add_sub_cancel,Nat.div_one,List.range'_succ,List.range'_zero,List.forIn_cons,List.forIn_nil]
 go_simp
 cases h0:a0.toList==b0.toList <;> cases h1:a1.toList==b1.toList <;> cases h2:a2.toList==b2.toList <;> cases h3:a3.toList==b3.toList <;> cases h4:a4.toList==b4.toList <;> simp_all
theorem yer {a b:Th}(ha:zdu a)(hb:zdu b):(a.p.toList==b.p.toList&&((xW a.ts 0).toList==(xW b.ts 0).toList&&((xW a.ts 1).toList==(xW b.ts 1).toList&&((xW a.ts 2).toList==(xW b.ts 2).toList&&(xW a.ts 3).toList==(xW b.ts 3).toList))))=decide (a=b):=by
 rw[Bool.eq_iff_iff];simp only[Bool.and_eq_true,xO,decide_eq_true_eq]
 constructor
 ·rintro⟨h0,h1,h2,h3,h4⟩;refine z5f ha hb ?_;unfold thV zV;rw[h0,h1,h2,h3,h4]
 ·rintro rfl;exact⟨rfl,rfl,rfl,rfl,rfl⟩
theorem zrg (n:Nat)(a b:Value):madeCells #[a,b] (n*2)=zcp (n*2) (λ c=>if c%2=0 then a else b):=by
 apply Array.ext_getElem?;intro i
 by_cases h:i<n*2
 ·rw[zd4 h];rcases Nat.mod_two_eq_zero_or_one i with e | e <;> simp[madeCells,h,e]
 ·rw[Array.getElem?_eq_none (by simp[madeCells];omega),Array.getElem?_eq_none (by rw[qL];omega)]
def zal (O:List Pl)(k:Nat)(asked:Th)(rea:Nat->Nat × List Nat)(B:Nat->Bool)(i:Nat):Nat->Bool:=
 if (if decide ((O[i]?.getD default).s<k)||decide ((O[i]?.getD default).t=asked) then zbg B i true else B) i then vR (if decide ((O[i]?.getD default).s<k)||decide ((O[i]?.getD default).t=asked) then zbg B i true else B) (rea i).2 else (if decide ((O[i]?.getD default).s<k)||decide ((O[i]?.getD default).t=asked) then zbg B i true else B)
def qX (O:List Pl)(k:Nat)(asked:Th)(rea:Nat->Nat × List Nat)(pre:List (Fin O.length)):Nat->Bool:=pre.foldl (λ B x=>zal O k asked rea B x.1) (λ _=>false)
def qF (n:Nat)(rea:Nat->Nat × List Nat)(B:Nat->Bool):List (Nat × List Nat):=(List.range n).map λ i=>if B i then rea i else (0,[])
theorem zdp {i:Nat}:∀ (fr:List Nat) (B:Nat->Bool),i∉fr->vR B fr i=B i
 | [],_,_=>rfl
 | x::r,B,h=>by
  have h1:=zdp r (zbg B x true) (λ hm=>h (List.mem_cons_of_mem _ hm))
  show vR (zbg B x true) r i=B i
  rw[h1];unfold zbg;rw[if_neg (λ e=>h (by rw[e];exact List.mem_cons_self))]
def yd5 (O:List Pl)(k:Nat)(asked:Th)(i:Nat):Bool:=decide ((O[i]?.getD default).s<k)||decide ((O[i]?.getD default).t=asked)
def zdr (O:List Pl)(k:Nat)(asked:Th)(B:Nat->Bool)(i:Nat):Nat->Bool:=if yd5 O k asked i then zbg B i true else B
theorem zcu (O:List Pl)(k:Nat)(asked:Th)(rea:Nat->Nat × List Nat)(B:Nat->Bool)(i:Nat):zal O k asked rea B i=if zdr O k asked B i i then vR (zdr O k asked B i) (rea i).2 else zdr O k asked B i:=rfl
variable {i j:Nat} {B:Nat->Bool} {asked:Th} {O:List Pl}
theorem zl8 {k:Nat}(h:j≠i):zdr O k asked B i j=B j:=by
 unfold zdr
 split
 ·unfold zbg;rw[if_neg h]
 ·rfl
variable {rea:Nat->Nat × List Nat}
theorem zuo {k:Nat}(bc:∀ x∈(rea i).2,x<i)(h:i<j):zal O k asked rea B i j=B j:=by
 rw[zcu]
 split
 ·rw[zdp _ _ (λ hm=>by have:=bc j hm;omega),zl8 (by omega)]
 ·exact zl8 (by omega)
theorem zun {k:Nat}(bc:∀ x∈(rea i).2,x<i):zal O k asked rea B i i=zdr O k asked B i i:=by
 rw[zcu]
 split
 ·rw[zdp _ _ (λ hm=>by have:=bc i hm;omega)]
 ·rfl
theorem zgc (O:List Pl)(k:Nat)(asked:Th)(rea:Nat->Nat × List Nat)(pre:List (Fin O.length))(x:Fin O.length):qX O k asked rea (pre++[x])=zal O k asked rea (qX O k asked rea pre) x.1:=by
 unfold qX;rw[List.foldl_append];rfl
def zfc (O:List Pl)(k:Nat)(asked:Th)(rea:Nat->Nat × List Nat):List (Fin O.length)->Nat->Bool:=λ pre=>(pre.foldl (λ (st:(Nat->Bool) × (Nat->Bool)) x=>(zal O k asked rea st.1 x.1,if zdr O k asked st.1 x.1 x.1 then zbg st.2 x.1 true else st.2)) (λ _=>false,λ _=>false)).2
theorem zv2 (O:List Pl)(k:Nat)(asked:Th)(rea:Nat->Nat × List Nat):∀ (pre:List (Fin O.length)) (B D:Nat->Bool),(pre.foldl (λ (st:(Nat->Bool) × (Nat->Bool)) x=>(zal O k asked rea st.1 x.1,if zdr O k asked st.1 x.1 x.1 then zbg st.2 x.1 true else st.2)) (B,D)).1=pre.foldl (λ B x=>zal O k asked rea B x.1) B
 | [],_,_=>rfl
 | _::r,_,_=>zv2 O k asked rea r _ _
theorem zrd (O:List Pl)(k:Nat)(asked:Th)(rea:Nat->Nat × List Nat)(pre:List (Fin O.length))(x:Fin O.length):zfc O k asked rea (pre++[x])=if zdr O k asked (qX O k asked rea pre) x.1 x.1 then zbg (zfc O k asked rea pre) x.1 true else zfc O k asked rea pre:=by
 unfold zfc;rw[List.foldl_append];simp only[List.foldl_cons,List.foldl_nil,zv2];rfl
theorem zn1 {O:List Pl}{k:Nat}{asked:Th}{rea:Nat->Nat × List Nat}(bc:∀ i,i<O.length->∀ x∈(rea i).2,x<i):∀ (d m:Nat),m+d=O.length->∀ i,i<O.length->zfc O k asked rea (qI O.length m) i=(decide (m<=i)&&qX O k asked rea (qI O.length m) i)
 | 0,m,hm,i,hi=>by
  rw[Nat.add_zero] at hm;subst hm;rw[NT];simp[zfc];omega
 | d+1,m,hm,i,hi=>by
  have aH:m<O.length:=by omega
  have ih:=zn1 (k:=k) (asked:=asked) bc d (m+1) (by omega) i hi;rw[zfz aH,zrd,zgc]
  by_cases e:i=m
  ·subst e;rw[zun (bc i hi)]
   split
   ·rename_i h;simp[zbg,h]
   ·rename_i h;rw[ih];simp at h;simp[h];intro h';omega
  ·have e1:(if zdr O k asked (qX O k asked rea (qI O.length (m+1))) m m=true then zbg (zfc O k asked rea (qI O.length (m+1))) m true else zfc O k asked rea (qI O.length (m+1))) i=zfc O k asked rea (qI O.length (m+1)) i:=by
    split
    ·unfold zbg;rw[if_neg e]
    ·rfl
   rw[e1,ih]
   by_cases h:m+1<=i
   ·rw[zuo (bc m aH) (by omega)];have:m<=i:=by omega
    simp[h,this]
   ·have h2:¬ m<=i:=(by omega);simp[h,h2]
def zzb (Dn:Nat->Bool)(rea:Nat->Nat × List Nat)(V:Nat->Value)(c:Nat):Value:=
 if Dn (c/2)=true then (if c%2=0 then .int .i64 ((rea (c/2)).1:Nat) else V (c/2)) else (if c%2=0 then .int .i64 0 else .slice none 0 0)
theorem z4q {q:Nat}{Dn:Nat->Bool}{V:Nat->Value}{v:Value}(c:Nat):(if c=q*2+1 then v else if c=q*2 then .int .i64 ((rea q).1:Nat) else zzb Dn rea V c)=zzb (zbg Dn q true) rea (λ i=>if i=q then v else V i) c:=by
 unfold zzb zbg
 by_cases e1:c=q*2+1
 ·have e:c/2=q:=by omega
  have n3:¬ c%2=0:=by omega
  rw[if_pos e1,if_pos e,if_pos rfl,if_neg n3];simp[e]
 ·rw[if_neg e1]
  by_cases e2:c=q*2
  ·have e:c/2=q:=(by omega);have n3:c%2=0:=(by omega);rw[if_pos e2,if_pos e,if_pos rfl,if_pos n3,e]
  ·rw[if_neg e2];have bF:c/2≠q:=(by omega);simp only[if_neg bF]
structure EU (w:W8)(ar:O8)(cr:Nat)(rs:List PR)(asked:Th)(kk:Nat)(ao:O8)(co bo b9 mn D:Nat)(O:List Pl)(W:W8):Prop where
 y4:W.heap[w.heap.size]?=some (.cells #[.slice ar rs.length cr] 75 (0,0))
 y7:TV W (w.heap.size+1) asked
 y8:W.heap[w.heap.size+1+1]?=some (.cells #[.int .i64 0,.slice none 0 0] 93 (0,0))
 y9:W.heap[b9]?=some (.cells #[.int .i64 (kk:Nat)] 3 (0,0))
 Vg:W.heap[mn]?=some (.cells #[.slice ao O.length co] 141 (0,0))
 NL:W.heap[D+1]?=some (.cells #[.slice (some ⟨D,0,none⟩) O.length O.length] 91 (0,0))
 Hg:W.heap[D+1+1+1]?=some (.cells #[.slice (some ⟨D+1+1,0,none⟩) O.length O.length] 143 (0,0))
 ro:W.ownsRow bo 148 7 (.slice ao O.length co) O.length (O.flatMap ez)
 k:Below w.heap.size w W
 l9:w.heap.size+1+1<b9
 A6:b9<mn
 lD:mn<D
 lo:∀ g,(Value.slice ao O.length co).ownBlock=some g->g<D
 lb:w.heap.size<=bo
variable {W W' w:W8} {co bo b9 mn D kk cr:Nat} {ao ar:O8} {rs:List PR}
theorem EU.oS (h:EU w ar cr rs asked kk ao co bo b9 mn D O W)(hb:∀ i,i<=D+1+1+1->i≠D->i≠D+1+1->W'.heap[i]?=W.heap[i]?)(hk:Below w.heap.size w W'):EU w ar cr rs asked kk ao co bo b9 mn D O W':=by
 have l9:=h.l9;have A6:=h.A6;have lD:=h.lD;exact⟨(hb _ (by omega) (by omega) (by omega)).trans h.y4,(hb _ (by omega) (by omega) (by omega)).trans h.y7,(hb _ (by omega) (by omega) (by omega)).trans h.y8,(hb _ (by omega) (by omega) (by omega)).trans h.y9,(hb _ (by omega) (by omega) (by omega)).trans h.Vg,(hb _ (by omega) (by omega) (by omega)).trans h.NL,(hb _ (by omega) (by omega) (by omega)).trans h.Hg,zZ h.ro (λ g e=>hb g (by have:=h.lo g e;omega) (by have:=h.lo g e;omega) (by have:=h.lo g e;omega)),hk,l9,A6,lD,h.lo,h.lb⟩
theorem EU.below (h:EU w ar cr rs asked kk ao co bo b9 mn D O W)(k:Below W.heap.size W W'):EU w ar cr rs asked kk ao co bo b9 mn D O W':=
 h.oS (λ i hi _ _=>k.block i (by have:=(Array.getElem?_eq_some_iff.1 h.Hg).1;omega)) (h.k.trans (k.mono h.k.size))
def ONo (D i:Nat):Prop:=i=D\/i=D+1+1
structure j9 (w:W8)(ar:O8)(cr:Nat)(rs:List PR)(asked:Th)(kk:Nat)(ao:O8)(co bo b9 mn D:Nat)(O:List Pl)(rea:Nat->Nat × List Nat)(w1:W8)(B Dn:Nat->Bool)(W:W8):Prop where
 box:EU w ar cr rs asked kk ao co bo b9 mn D O W
 kp:qH (ONo D) w1 W
 nJ:fj W (D+1+1) 4 O.length (λ i=>.bool (B i))
 vt:∃ V:Nat->Value,fj W D 150 (O.length*2) (zzb Dn rea V)/\∀ i,Dn i=true->W.ownsRow w1.heap.size 3 1 (V i) (rea i).2.length (ew (rea i).2)
 lt:D+1+1+1<w1.heap.size
theorem j9.grown {w:W8}{ar:O8}{cr:Nat}{rs:List PR}{asked:Th}{kk:Nat}{ao:O8}{co bo b9 mn D:Nat}{O:List Pl}{rea:Nat->Nat × List Nat}{w1:W8}{B Dn:Nat->Bool}{W W':W8}(h:j9 w ar cr rs asked kk ao co bo b9 mn D O rea w1 B Dn W){row:Option Nat}(hg:W.grownBy W' row)(hr:∀ i,row=some i->w1.heap.size<=i/\∃ o:Obj,W.heap[i]?=some o/\o.isCells=false):j9 w ar cr rs asked kk ao co bo b9 mn D O rea w1 B Dn W':=by
 have aH:=h.lt;have aW:=h.kp.size;have hw:=h.box.k.size;have dK:∀ i,i<w1.heap.size->W'.heap[i]?=W.heap[i]?:=λ i hi=>hg.block i (by omega) (λ e=>by have:=(hr i e.symm).1;omega)
 have l9:=h.box.l9;have A6:=h.box.A6;have lD:=h.box.lD;obtain⟨V,h1,h2⟩:=h.vt;exact⟨h.box.oS (λ i hi _ _=>dK i (by omega)) ⟨hg.os.trans h.box.k.os,hg.tape.trans h.box.k.tape,hg.output.trans h.box.k.output,Nat.le_trans h.box.k.size hg.size,λ i hi=>(dK i (by omega)).trans (h.box.k.block i hi)⟩,h.kp.grown hg (λ i e=>.inl (hr i e).1),h.nJ.block (dK _ (by omega)),⟨V,h1.block (dK _ (by omega)),λ i a=>zsd (h2 i a) hg (λ i e=>(hr i e).2)⟩,aH⟩
def PV (w:W8)(b:Nat)(p:Pl):Prop:=w.heap[b]?=some (.cells (ez p).toArray 148 (0,0))
variable {p:Pl} {b:Nat}
theorem PV.grown {A B:W8}{row:Option Nat}(h:PV A b p)(hg:A.grownBy B row)(hr:∀ i,row=some i->∃ o:Obj,A.heap[i]?=some o/\o.isCells=false):PV B b p:=zk5 h hg hr
theorem PV.lt (h:PV w b p):b<w.heap.size:=(Array.getElem?_eq_some_iff.1 h).1
end
section
open Go.RowKit Go.Maps
variable {b:Nat} {w:W8}
theorem PV.loadT {p:Pl}(h:PV w b p):(zmx (.pointer (some ⟨b,0,none⟩))).run Tryz.prog w=.ok (.agg #[.string p.t.p,.string (xW p.t.ts 0),.string (xW p.t.ts 1),.string (xW p.t.ts 2),.string (xW p.t.ts 3)]) w:=by
 have c0:=(zB h 0).1;have c1:=(zB h 1).1;have c2:=(zB h 2).1;have c3:=(zB h 3).1;have c4:=(zB h 4).1;simp only[ez,List.getElem?_toArray,List.getElem?_cons_zero,List.getElem?_cons_succ] at c0 c1 c2 c3 c4;unfold zmx
 go_simp
structure ug (D:Nat)(W wr:W8):Prop where
 size:W.heap.size<=wr.heap.size
 block:∀ i,i<W.heap.size->i≠D->i≠D+1+1->wr.heap[i]?=W.heap[i]?
theorem ug.refl (D:Nat)(W:W8):ug D W W:=⟨Nat.le_refl _,λ _ _ _ _=>rfl⟩
variable {W wr:W8} {D:Nat}
theorem ug.below {w':W8}(h:ug D W wr)(k:Below wr.heap.size wr w'):ug D W w':=⟨Nat.le_trans h.size k.size,λ i hi h1 h2=>(k.block i (Nat.lt_of_lt_of_le hi h.size)).trans (h.block i hi h1 h2)⟩
theorem ug.set (h:ug D W wr){j:Nat}(hb:b=D\/b=D+1+1)(v:Value):ug D W (wr.setCell ⟨b,j,none⟩ v):=⟨by simpa using h.size,λ i hi h1 h2=>(Below.heap_setCell _ _ _ _ (by rcases hb with e | e <;> simp[e] <;> assumption)).trans (h.block i hi h1 h2)⟩
theorem j9.below {w:W8}{ar:O8}{cr:Nat}{rs:List PR}{asked:Th}{kk:Nat}{ao:O8}{co bo b9 mn D:Nat}{O:List Pl}{rea:Nat->Nat × List Nat}{w1:W8}{B Dn:Nat->Bool}{W W':W8}(h:j9 w ar cr rs asked kk ao co bo b9 mn D O rea w1 B Dn W)(k:Below W.heap.size W W'):j9 w ar cr rs asked kk ao co bo b9 mn D O rea w1 B Dn W':=by
 obtain⟨V,h1,h2⟩:=h.vt;exact⟨h.box.below k,h.kp.trans (qH.ak k),h.nJ.below k,⟨V,h1.below k,λ i a=>zJ (h2 i a) k (λ g e=>((h2 i a).lt g e).2)⟩,h.lt⟩
variable {B Dn:Nat->Bool} {w1:W8} {rea:Nat->Nat × List Nat} {O:List Pl} {co bo b9 mn kk cr:Nat} {ao ar:O8} {asked:Th} {rs:List PR}
theorem j9.own (h:j9 w ar cr rs asked kk ao co bo b9 mn D O rea w1 B Dn W)(i:Nat):j9 w ar cr rs asked kk ao co bo b9 mn D O rea w1 (zbg B i true) Dn (W.setCell ⟨D+1+1,i,none⟩ (.bool true)):=by
 obtain⟨V,h1,h2⟩:=h.vt;have aH:=h.lt;have l9:=h.box.l9;have A6:=h.box.A6;have lD:=h.box.lD;have bp:∀ j,j≠D+1+1->(W.setCell ⟨D+1+1,i,none⟩ (.bool true)).heap[j]?=W.heap[j]?:=λ j hj=>Below.heap_setCell _ _ _ _ (by simpa using hj)
 refine⟨h.box.oS (λ j _ _ hj=>bp j hj) (h.box.k.setCell (by show _<=D+1+1;omega) _),h.kp.setCell (.inr (.inr rfl)) _,(h.nJ.set i (.bool true)).eq (λ j _=>?_),⟨V,h1.block (bp D (by omega)),λ j a=>zZ (h2 j a) (λ g e=>bp g (by have:=((h2 j a).lt g e).1;omega))⟩,aH⟩;unfold zbg
 by_cases e:j=i
 ·rw[if_pos e,if_pos e]
 ·rw[if_neg e,if_neg e]
theorem j9.put (h:j9 w ar cr rs asked kk ao co bo b9 mn D O rea w1 B Dn W)(i:Nat)(hi:i<O.length){v:Value}(hv:W.ownsRow w1.heap.size 3 1 v (rea i).2.length (ew (rea i).2)):j9 w ar cr rs asked kk ao co bo b9 mn D O rea w1 B (zbg Dn i true) ((W.setCell ⟨D,i*2,none⟩ (.int .i64 ((rea i).1:Nat))).setCell ⟨D,i*2+1,none⟩ v)/\((W.setCell ⟨D,i*2,none⟩ (.int .i64 ((rea i).1:Nat))).setCell ⟨D,i*2+1,none⟩ v).ownsRow w1.heap.size 3 1 v (rea i).2.length (ew (rea i).2)/\((W.setCell ⟨D,i*2,none⟩ (.int .i64 ((rea i).1:Nat))).setCell ⟨D,i*2+1,none⟩ v).cell? ⟨D,i*2+1,none⟩=some v:=by
 obtain⟨V,h1,h2⟩:=h.vt;have aH:=h.lt;have l9:=h.box.l9;have A6:=h.box.A6;have lD:=h.box.lD;have bp:∀ j,j≠D->((W.setCell ⟨D,i*2,none⟩ (.int .i64 ((rea i).1:Nat))).setCell ⟨D,i*2+1,none⟩ v).heap[j]?=W.heap[j]?:=λ j hj=>(Below.heap_setCell _ _ _ _ (by simpa using hj)).trans (Below.heap_setCell _ _ _ _ (by simpa using hj))
 refine⟨⟨h.box.oS (λ j _ hj _=>bp j hj) ((h.box.k.setCell (by show _<=D;omega) _).setCell (by show _<=D;omega) _),(h.kp.setCell (.inr (.inl rfl)) _).setCell (.inr (.inl rfl)) _,h.nJ.block (bp _ (by omega)),⟨λ j=>if j=i then v else V j,((h1.set (i*2) _).set (i*2+1) v).eq (λ c _=>z4q c),λ j a=>?_⟩,aH⟩,zZ hv (λ g e=>bp g (by have:=(hv.lt g e).1;omega)),?_⟩
 rotate_left
 ·have:=((h1.set (i*2) (.int .i64 ((rea i).1:Nat))).set (i*2+1) v).cell (i:=i*2+1) (by omega);rw[this,if_pos rfl]
 by_cases e:j=i
 ·subst e;simp only[if_pos];exact zZ hv (λ g e=>bp g (by have:=(hv.lt g e).1;omega))
 ·simp only[if_neg e];have a':Dn j=true:=by unfold zbg at a;rwa [if_neg e] at a
  exact zZ (h2 j a') (λ g e=>bp g (by have:=((h2 j a').lt g e).1;omega))
theorem j9.ends {B' Vy:Nat->Bool}(h:j9 w ar cr rs asked kk ao co bo b9 mn D O rea w1 B Dn W)(h':j9 w ar cr rs asked kk ao co bo b9 mn D O rea w1 B' Vy wr)(k:ug D W wr):KeepsFrom w1.heap.size W wr/\qH (ONo D) W wr:=by
 have aH:=h.lt;refine⟨⟨k.size,λ i o hB hi _=>(k.block i (Array.getElem?_eq_some_iff.1 hi).1 (by omega) (by omega)).trans hi⟩,⟨h'.box.k.os.trans h.box.k.os.symm,h'.box.k.tape.trans h.box.k.tape.symm,h'.box.k.output.trans h.box.k.output.symm,k.size,λ i o hi aX _=>(k.block i (Array.getElem?_eq_some_iff.1 hi).1 (λ e=>aX (.inl e)) (λ e=>aX (.inr e))).trans hi⟩⟩
theorem zfl {α β:Type}(f:α->β){l:List α}(h:(l.map f).Nodup):l.Nodup:=by
 unfold List.Nodup at *;rw[List.pairwise_map] at h;exact h.imp λ h e=>h (by rw[e])
theorem zju {α:Type}{f:α->V8}(hf:∀ x,(f x).length=2):∀ l:List α,(l.flatMap f).length=l.length*2
 | []=>rfl
 | x::r=>by rw[List.flatMap_cons,List.length_append,hf,zju hf r,List.length_cons];omega
theorem z91 (f:Nat->Value):∀ n:Nat,(List.range (n*2)).map f=(List.range n).flatMap λ i=>[f (i*2),f (i*2+1)]
 | 0=>rfl
 | n+1=>by
  rw[show (n+1)*2=n*2+1+1 by omega,List.range_succ,List.range_succ,List.range_succ,List.flatMap_append,<-z91 f n];simp
theorem j9.nodes (h:j9 w ar cr rs asked kk ao co bo b9 mn D O rea w1 B Dn W)(hn:O.length<=maxLen):∃ bG:List ND,bG.length=O.length/\wI W D (.slice (some ⟨D,0,none⟩) O.length O.length) bG/\bG.map lk=(List.range O.length).map λ i=>if Dn i then rea i else (0,[]):=by
 obtain⟨V,h1,h2⟩:=h.vt;have aH:=h.lt;have hl:((List.range O.length).map λ i=>if Dn i then (⟨(rea i).1,(rea i).2,V i⟩:ND) else ⟨0,[],.slice none 0 0⟩).length=O.length:=by simp
 refine⟨(List.range O.length).map λ i=>if Dn i then ⟨(rea i).1,(rea i).2,V i⟩ else ⟨0,[],.slice none 0 0⟩,hl,⟨?_,λ x hx=>?_⟩,?_⟩
 ·rw[hl];refine⟨?_,.inr ⟨D,O.length,_,rfl,Nat.le_refl _,h1,Nat.le_refl _,hn,by rw[qL],?_⟩⟩
  ·rw[zju zhg,hl]
  ·unfold zcp;rw[List.take_of_length_le (by simp),List.flatMap_map]
   show (List.range (O.length*2)).map _=_
   rw[z91]
   congr 1
   funext i
   unfold zzb;rw[show i*2/2=i by omega,show (i*2+1)/2=i by omega,show i*2%2=0 by omega,show (i*2+1)%2=1 by omega]
   cases Dn i <;> rfl
 ·obtain⟨i,hi,rfl⟩:=List.mem_map.1 hx
  cases hd:Dn i with
  | true=>exact zG (h2 i hd) (by omega)
  | false=>exact World.ownsRow_nil _ _ _ _
 ·rw[List.map_map];apply List.map_congr_left;intro i _;simp only[Function.comp]
  cases Dn i <;> rfl
end
end Go.Proofs.YtldkpahaocjdpaaGreat
