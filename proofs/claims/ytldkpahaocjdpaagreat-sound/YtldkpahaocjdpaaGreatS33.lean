/-
  The law's pick; what is in a list of strata that its owner has marked.
-/
import Derived.Test.YtldkpahaocjdpaaGreatS32
import Derived.Test.YtldkpahaocjdpaaGreatRows
import Derived.ProofKit
import Derived.SizedLaws
import Derived.ChangeSlices
import Derived.Deep.Slices
import Derived.Deep.Strs
import Derived.Deep.CondSized
import Derived.JoinedCond
import Derived.Laws.BytesArg
set_option maxHeartbeats 16000000
set_option maxRecDepth 1000000
namespace Go.Proofs.YtldkpahaocjdpaaGreat
section
open Go.RowKit Go.Maps
variable {n:Nat} {c:Int}
theorem pick_low (hc:c<0)(hn:0<n):∃ k:Nat,k<n/\-(c+1).tmod n=(k:Int):=by
 obtain⟨d,hd⟩:∃ d:Nat,c+1=-(d:Int):=⟨(-(c+1)).toNat,by omega⟩;refine⟨d%n,Nat.mod_lt _ hn,?_⟩;rw[hd,Int.neg_tmod,Int.neg_neg,Int.tmod_eq_emod_of_nonneg (by omega)];simp
theorem pick_high (hc:0<=c)(hn:0<n):∃ k:Nat,k<n/\c%n=(k:Int):=by
 obtain⟨d,rfl⟩:∃ d:Nat,c=(d:Int):=⟨c.toNat,by omega⟩;exact⟨d%n,Nat.mod_lt _ hn,by simp⟩
end
section
open Go.RowKit
def ag (c:Int)(n:Nat):Nat:=if c<0 then (-(c+1).tmod n).toNat else (c%n).toNat
theorem pickN_is (c:Int){n:Nat}(hn:0<n):ag c n<n/\(c<0->-(c+1).tmod n=(ag c n:Int))/\(¬ c<0->c%n=(ag c n:Int)):=by
 unfold ag
 by_cases h:c<0
 ·obtain⟨k,hk,e⟩:=pick_low h hn;rw[if_pos h,e];exact⟨by simpa using hk,λ _=>by simp,λ h'=>absurd h h'⟩
 ·obtain⟨k,hk,e⟩:=pick_high (Int.not_lt.1 h) hn;rw[if_neg h,e];exact⟨by simpa using hk,λ h'=>absurd h' h,λ _=>by simp⟩
theorem kpick (w:W8)(c:Int)(n:Nat)(hn:0<n)(hl:n<=1000000000000)(h1:-9223372036854775808<=c)(h2:c<=9223372036854775807):Calls Tryz.prog 25 #[.int .i64 c,.int .i64 n] w λ e w'=>e=.returned (.int .i64 (ag c n:Nat))/\w'=w:=by
 have C6:¬ ((n:Int)=0):=by omega
 have rj:(0:Int)<n:=by omega
 obtain⟨_,e1,e2⟩:=pickN_is c hn;have zJ:=hide e1;have vk:=hide e2;clear e1 e2;go_enter Tryz.func25,Tryz.ntmps25
 by_cases hc:c<0
 ·go_wp2_with fail;go_ret;exact⟨by rw[<-ad zJ hc];rfl,rfl⟩
 ·go_wp2_with fail;go_ret;exact⟨by rw[<-ad vk hc];rfl,rfl⟩
def nmU (k:Nat):UInt8:=[97,98,99,100].getD k 97
def vrU (k:Nat):UInt8:=[88,89,90].getD k 88
def pdU (k:Nat):UInt8:=[101,102,103,104].getD k 101
def one8 (c:UInt8):B8:=⟨#[c]⟩
def nmObj:Obj:=.cells #[.string ⟨#[97]⟩,.string ⟨#[98]⟩,.string ⟨#[99]⟩,.string ⟨#[100]⟩] 9
def bk:Obj:=.cells #[.string ⟨#[88]⟩,.string ⟨#[89]⟩,.string ⟨#[90]⟩] 9
def bX:Obj:=.cells #[.string ⟨#[101]⟩,.string ⟨#[102]⟩,.string ⟨#[103]⟩,.string ⟨#[104]⟩] 9
theorem alloc_cell (w:W8)(cs:Array Value)(t:TypeId)(k:Nat):(w.alloc (.cells cs t)).cell? ⟨w.heap.size,k,none⟩=cs[k]?:=by rw[World.cell?_alloc_at _ _ _ _ rfl]
theorem kname (w:W8)(c:Int)(h1:-9223372036854775808<=c)(h2:c<=9223372036854775807):Calls Tryz.prog 21 #[.int .i64 c] w λ e w'=>e=.returned (.string (one8 (nmU (ag c 4))))/\w'=w.alloc nmObj:=by
 have hp:=(pickN_is c (n:=4) (by decide)).1;have HC:=hide (λ w=>kpick w c 4 (by decide) (by decide) h1 h2);have hc:(w.alloc (.cells #[.string ⟨#[97]⟩,.string ⟨#[98]⟩,.string ⟨#[99]⟩,.string ⟨#[100]⟩] 9)).cell? ⟨w.heap.size,ag c 4,none⟩=some (.string (one8 (nmU (ag c 4)))):=by
  rw[alloc_cell];generalize ag c 4=k at hp
  match k,hp with
  | 0,_=>rfl
  | 1,_=>rfl
  | 2,_=>rfl
  | 3,_=>rfl
 generalize ag c 4=k at *;have pG:(k:Int)<4:=by omega
 go_enter Tryz.func21,Tryz.ntmps21;go_wp2_with (go_at_call 25;refine (ad HC _).mono ?_;rintro e wp ⟨rfl,pS⟩;have pS:=pS.symm;subst pS);go_ret;exact⟨rfl,rfl⟩
theorem kvar (w:W8)(c:Int)(h1:-9223372036854775808<=c)(h2:c<=9223372036854775807):Calls Tryz.prog 40 #[.int .i64 c] w λ e w'=>e=.returned (.string (one8 (vrU (ag c 3))))/\w'=w.alloc bk:=by
 have hp:=(pickN_is c (n:=3) (by decide)).1;have HC:=hide (λ w=>kpick w c 3 (by decide) (by decide) h1 h2);have hc:(w.alloc (.cells #[.string ⟨#[88]⟩,.string ⟨#[89]⟩,.string ⟨#[90]⟩] 9)).cell? ⟨w.heap.size,ag c 3,none⟩=some (.string (one8 (vrU (ag c 3)))):=by
  rw[alloc_cell];generalize ag c 3=k at hp
  match k,hp with
  | 0,_=>rfl
  | 1,_=>rfl
  | 2,_=>rfl
 generalize ag c 3=k at *;have pG:(k:Int)<3:=by omega
 go_enter Tryz.func40,Tryz.ntmps40;go_wp2_with (go_at_call 25;refine (ad HC _).mono ?_;rintro e wp ⟨rfl,pS⟩;have pS:=pS.symm;subst pS);go_ret;exact⟨rfl,rfl⟩
theorem kpred (w:W8)(k:Nat)(hp:k<4):Calls Tryz.prog 27 #[.int .i64 (k:Nat)] w λ e w'=>e=.returned (.string (one8 (pdU k)))/\w'=w.alloc bX:=by
 have hc:(w.alloc (.cells #[.string ⟨#[101]⟩,.string ⟨#[102]⟩,.string ⟨#[103]⟩,.string ⟨#[104]⟩] 9)).cell? ⟨w.heap.size,k,none⟩=some (.string (one8 (pdU k))):=by
  rw[alloc_cell]
  match k,hp with
  | 0,_=>rfl
  | 1,_=>rfl
  | 2,_=>rfl
  | 3,_=>rfl
 have pG:(k:Int)<4:=by omega
 go_enter Tryz.func27,Tryz.ntmps27;go_wp2_with fail;go_ret;exact⟨rfl,rfl⟩
end
section
open Go.RowKit Go.Maps
def thOf (A:PAtm):Option Th:=if A.ts.any (·.1) then none else some (A.p,A.ts.map (·.2))
theorem results_th {fn:Func}{p u:Tmp}(h:fn.results=#[.cell p 88,.tmp u])(tmps:Array Value)(w:W8)(g:Nat)(t:Th)(hp:tmps.getD p undef=.pointer (some ⟨g,0,none⟩))(hg:w.heap[g]?=some (.cells (aw t).toArray 88 (0,0))):
  (results fn tmps).run Tryz.prog w=.ok (.tuple #[thV t,tmps.getD u undef]) w:=by
 have rm:tmps[p]?.getD undef=.pointer (some ⟨g,0,none⟩):=by simpa using hp
 have jW:tmps.getD u undef=tmps[u]?.getD undef:=by simp
 rw[jW];simp[results,h,rm,asAddr,run_loadVar_row w g _ 88 _ _ _ hg Tryz.underlying88 rfl (by rw[infoTh];rfl),thV]
def ThOfPost (w:W8)(r:Option Th)(en:Ending)(w':W8):Prop:=Below w.heap.size w w'/\en=.returned (.tuple #[thV (r.getD ({ data:=#[] },[])),.bool r.isSome])
theorem thof_any (w:W8)(base:Nat)(A:PAtm)(a:O8)(c:Nat)(h:w.ownsRow base 191 1 (.slice a A.ts.length c) A.ts.length (A.ts.map termV))(h4:A.ts.length<=4):
  Calls Tryz.prog 65 #[.agg #[.string A.p,.slice a A.ts.length c]] w (ThOfPost w (thOf A)):=by
 have H:=hide h;clear h;have a1:=asVar_yes;have a2:=asName_yes;have a3:=asName_no;go_enter Tryz.func65,Tryz.ntmps65;go_upto_region 2 with fail;generalize hw0:World.alloc (World.alloc (World.alloc w _) _) _=w0;have k0:Below w.heap.size w w0:=by
  rw[<-hw0];exact (((Below.refl w.heap.size w).alloc L9 _).alloc (by simp) _).alloc (by simp only[World.size_alloc];omega) _
 have x1:w0.heap[w.heap.size]?=some (.cells #[.string A.p,.slice a A.ts.length c] 79 (0,0)):=by
  rw[<-hw0,Below.heap_alloc _ _ _ (by simp only[World.size_alloc];omega),Below.heap_alloc _ _ _ (by simp)];exact heap_alloc_new w _
 have x2:w0.heap[w.heap.size+1]?=some (.cells (aw ⟨{ data:=#[] },[]⟩).toArray 88 (0,0)):=by
  rw[<-hw0,Below.heap_alloc _ _ _ (by simp)];have:=heap_alloc_new (w.alloc (.cells #[.string A.p,.slice a A.ts.length c] 79)) (.cells (aw ⟨{ data:=#[] },[]⟩).toArray 88);rw[World.size_alloc] at this;exact this
 have x3:w0.heap[w.heap.size+1+1]?=some (.cells (aw ⟨A.p,[]⟩).toArray 88 (0,0)):=by
  rw[<-hw0];have:=heap_alloc_new ((w.alloc (.cells #[.string A.p,.slice a A.ts.length c] 79)).alloc (.cells (aw ⟨{ data:=#[] },[]⟩).toArray 88)) (.cells (aw ⟨A.p,[]⟩).toArray 88);rw[World.size_alloc,World.size_alloc] at this;exact this
 have s0:w.heap.size+1+1+1=w0.heap.size:=by rw[<-hw0];simp
 have ee:=own_block (ad H) (λ g e=>k0.block g ((ad H).lt g e).2);have HG:=hide (λ g (e1:(Value.slice a A.ts.length c).ownBlock=some g)=>((ad H).lt g e1).2);clear hw0 H;have fS:=hide s0;have qM:=hide x3;have qL:=hide x2;have ng:=hide ee;have cg:=hide k0;obtain⟨p1,-⟩:=block_cells x1 1;simp only[List.getElem?_toArray,List.getElem?_cons_zero,List.getElem?_cons_succ] at p1;clear x1 x2 x3 ee k0 s0;go_wp2_with fail
 go_loopg [15] A.ts.length (λ gg i wr=>∃ (k:Nat) (L:List B8),k<=A.ts.length/\gg=A.ts.length-k/\i=.int .i64 k/\L=(A.ts.take k).map (·.2)/\(A.ts.take k).any (·.1)=false/\wr.heap[w.heap.size+1+1]?=some (.cells (aw ⟨A.p,L⟩).toArray 88 (0,0))/\Kept [w.heap.size+1+1] w0 wr)
 exact⟨0,[],Nat.zero_le _,rfl,rfl,rfl,rfl,ad qM,Kept.refl _ _⟩
 case round=>
  obtain⟨k,L,hk,fK,rfl,hL,oU,hx,cV⟩:=hrel;have ir:L.length=k:=by rw[hL];simp;omega
  have sZ:=ad fS;have lC:=hide (show Below w.heap.size w wr from ⟨cV.os.trans (ad cg).os,cV.tape.trans (ad cg).tape,cV.output.trans (ad cg).output,Nat.le_trans (ad cg).size cV.size,λ i hi=>(cV.block i (by omega) (by simp;omega)).trans ((ad cg).block i hi)⟩);have HX:=hide hx;have gC:=hide cV;have HL:=hide hL;have qe:=hide ir;have AN:=hide oU;have qi:=hide ((cV.block (w.heap.size+1) (by omega) (by simp)).trans (ad qL))
  by_cases aR:k<A.ts.length
  ·obtain⟨g,rfl,nE,dB,dx,hc⟩:=termsAt (ad ng) k aR;have ft:=ad HG g rfl;have gK:wr.cell? ⟨g,k,none⟩=some (termV A.ts[k]):=((ad gC).cell (p:=⟨g,k,none⟩) nE (by simp;omega)).trans hc;obtain⟨dU,Fj⟩:=block_cells hx (1+k);replace dU:wr.cell? ⟨w.heap.size+1+1,1+k,none⟩=some (.string (nth4 L k)):=by
    rw[dU,List.getElem?_toArray];exact thCells_name ⟨A.p,L⟩ (by omega)
   have gM:(k:Int)<A.ts.length:=(by omega);have jt:(1+k:Int)<5:=(by omega);clear hc sZ hx cV hL ir oU
   cases hv:A.ts[k].1 with
   | false=>
    have nD:wr.cell? ⟨g,k,none⟩=some (.iface 193 (.string A.ts[k].2)):=(by rw[gK];unfold termV;rw[hv];rfl);have HV:=hide hv;clear gK hv;go_wp2_with fail;go_roundg (A.ts.length-(k+1))
    case measure=>omega
    case rel=>
     have:=fill_set (ad HX) (by rw[ad qe];omega) A.ts[k].2;rw[ad qe] at this;refine⟨k+1,L++[A.ts[k].2],by omega,rfl,by go_num,?_,?_,this,(ad gC).setCell (by simp) _⟩
     ·rw[List.take_succ_eq_append_getElem aR,List.map_append,ad HL];rfl
     ·rw[List.take_succ_eq_append_getElem aR,List.any_append,ad AN];simp[ad HV]
   | true=>
    have nD:wr.cell? ⟨g,k,none⟩=some (.iface 130 (.string A.ts[k].2)):=(by rw[gK];unfold termV;rw[hv];rfl);have HE:=hide (show thOf A=none by unfold thOf;rw[if_pos (List.any_eq_true.2 ⟨_,List.getElem_mem aR,hv⟩)]);clear gK hv;go_wp2_with (first | (refine wpList_store_row rfl 88 _ _ rfl _ _ rfl rfl _ _ (ad qi) (by rw[infoTh];rfl) rfl (thCells_one ({ data:=#[] },[])) ?_) | fail);refine bodyPost_ret (v:=.tuple #[thV ({ data:=#[] },[]),.bool false]) (results_th Tryz.results65 _ _ _ _ rfl (setRow_heap _ _ _ _ _ _ (ad qi))) rfl ?_;rw[ad HE];exact⟨below_setRow (ad lC) (by omega) _,rfl⟩
  ·have HE:=hide (show thOf A=some (A.p,L) by unfold thOf;rw[List.take_of_length_le (by omega)] at hL oU;rw[oU,hL];rfl);clear sZ hx cV hL ir oU;go_wp2_with (first | (refine wpList_load_row rfl 88 _ rfl _ rfl _ _ _ _ (ad HX) Tryz.underlying88 rfl (by rw[infoTh];rfl) ?_) | (refine wpList_store_row rfl 88 _ _ rfl _ _ rfl rfl _ _ (ad qi) (by rw[infoTh];rfl) rfl (thCells_one _) ?_) | fail);refine bodyPost_ret (v:=.tuple #[thV (A.p,L),.bool true]) (results_th Tryz.results65 _ _ _ _ rfl (setRow_heap _ _ _ _ _ _ (ad qi))) rfl ?_;rw[ad HE];exact⟨below_setRow (ad lC) (by omega) _,rfl⟩
end
section
open Go.RowKit Go.Maps
attribute [local go_sem ↓] to_tLoad to_tStore to_tAlloc thV_cells
attribute [local go_sem] tStore_new run_tAlloc
def thingS (ps:P9)(s:B8):Option Th:=(askedS ps s).bind thOf
theorem TV.result {fn:Func}{p u:Tmp}(h:fn.results=#[.cell p 88,.tmp u]){w:W8}{g:Nat}{t:Th}(hg:TV w g t)(tmps:Array Value)(hp:tmps.getD p undef=.pointer (some ⟨g,0,none⟩)):(results fn tmps).run Tryz.prog w=.ok (.tuple #[thV t,tmps.getD u undef]) w:=results_th h tmps w g t hp hg
theorem readthing_any (w:W8)(s:B8)(tb n:Nat)(ps:P9)(S:B8->Nat)(h:SMap Tryz.prog 9 w tb n (stV ps S))(hs:s.size<=2000000):
  Calls Tryz.prog 41 #[.string s,.map (some tb)] w (ThOfPost w (thingS ps s)):=by
 have gq:=h.lt;have k0:Below w.heap.size w (w.alloc (.cells (aw ({ data:=#[] },[])).toArray 88)):=B9.alloc L9 _;have HA:=hide (readasked_any (w.alloc (.cells (aw ({ data:=#[] },[])).toArray 88)) s tb n ps S (h.block (k0.block tb gq)) hs);have cg:=hide k0;clear h k0;go_enter Tryz.func41,Tryz.ntmps41;go_wp2_with fail;refine (ad HA).mono ?_;rintro e w1 ⟨aX,hp⟩;have cD:w.heap.size+1<=w1.heap.size:=by have:=aX.size;simpa using this
 have fJ:Below w.heap.size w w1:=(ad cg).trans (aX.mono (by simp));have gm:TV w1 w.heap.size ({ data:=#[] },[]):=(aX.block _ (by simp)).trans (heap_alloc_new w _)
 cases hP:askedS ps s with
 | none=>
  rw[hP] at hp;subst hp;have HN:=hide (show thingS ps s=none by unfold thingS;rw[hP];rfl);have iG:TV (w1.alloc (.cells #[.string { data:=#[] },.slice none 0 0] 79)) w.heap.size ({ data:=#[] },[]):=gm.alloc _;have dj:(tStore (.pointer (some ⟨w.heap.size,0,none⟩)) (.agg #[.string { data:=#[] },.string { data:=#[] },.string { data:=#[] },.string { data:=#[] },.string { data:=#[] }])).run Tryz.prog (w1.alloc (.cells #[.string { data:=#[] },.slice none 0 0] 79))=.ok () ((w1.alloc (.cells #[.string { data:=#[] },.slice none 0 0] 79)).setRow w.heap.size (aw ({ data:=#[] },[])).toArray):=iG.store ({ data:=#[] },[]);have Bl:=hide iG;have HB:=hide (fJ.alloc fJ.size (.cells #[.string { data:=#[] },.slice none 0 0] 79));have hz:=run_tZero;clear hP gm aX fJ iG;go_wp2_with fail;refine bodyPost_ret (v:=.tuple #[thV ({ data:=#[] },[]),.bool false]) (TV.result Tryz.results41 (setRow_heap _ _ _ _ _ _ (ad Bl)) _ rfl) rfl ?_;rw[ad HN];exact⟨below_setRow (ad HB) L9 _,rfl⟩
 | some A=>
  rw[hP] at hp;obtain⟨a,c,rfl,aF⟩:=hp;obtain⟨hsz,h4⟩:A.p.size<=s.size/\A.ts.length<=4:=by
   unfold askedS at hP
   split at hP
   ·cases hP
   ·rename_i A' hA
    split at hP
    ·cases hP;exact pask_size hA
    ·cases hP
  have xe:=hide (show thingS ps s=thOf A by unfold thingS;rw[hP];rfl);have HO:=hide (thof_any (w1.alloc (.cells #[.string A.p,.slice a A.ts.length c] 79)) _ A a c (aF.alloc _) h4);have gJ:=fJ.alloc fJ.size (.cells #[.string A.p,.slice a A.ts.length c] 79);have zc:TV (w1.alloc (.cells #[.string A.p,.slice a A.ts.length c] 79)) w.heap.size ({ data:=#[] },[]):=gm.alloc _;have rJ:=hide gJ;have Hu:=hide zc;clear hP gm aX fJ aF gJ zc;generalize thOf A=R at *;go_wp2_with fail;refine (ad HO).mono ?_;rintro e w2 ⟨aY,rfl⟩;have fj:TV w2 w.heap.size ({ data:=#[] },[]):=(ad Hu).below aY;have dj:=fj.store (R.getD ({ data:=#[] },[]));have rT:=hide fj;have eA:=hide ((ad rJ).trans (aY.mono (ad rJ).size));clear aY fj;go_wp2_with fail;refine bodyPost_ret (v:=.tuple #[thV (R.getD ({ data:=#[] },[])),.bool R.isSome]) (TV.result Tryz.results41 (setRow_heap _ _ _ _ _ _ (ad rT)) _ rfl) rfl ?_;rw[ad xe];exact⟨below_setRow (ad eA) L9 _,rfl⟩
def bf (ps:P9)(S:B8->Nat)(K:List (Th × Nat))(t:Th):Nat:=if (numOf ps t.1).isSome then (if (ay K t).isSome then S t.1 else S t.1+1) else 0
theorem whole_any (w:W8)(tb n kb:Nat)(ps:P9)(S:B8->Nat)(K:List (Th × Nat))(t:Th)(h:SMap Tryz.prog 9 w tb n (stV ps S))(hm:aP w kb K)(ht:ThOk t)(hS:S t.1<=1000000):
  Calls Tryz.prog 66 #[.map (some tb),.map (some kb),thV t] w λ e w'=>e=.returned (.int .i64 (bf ps S K t:Nat))/\Below w.heap.size w w':=by
 have gq:=h.lt;have du:=hm.lt;have k0:Below w.heap.size w (w.alloc (.cells (aw t).toArray 88)):=B9.alloc L9 _;have vM:=h.block (k0.block tb gq);have q0:(w.alloc (.cells (aw t).toArray 88)).cell? ⟨w.heap.size,0,none⟩=some (.string t.1):=(block_cells (TV.new w t) 0).1;have po:t.1.size<=maxLen:=by have:=ht.pd;unfold maxLen;simp only[Th.p] at this;omega
 have HM:=hide hm;have cg:=hide k0;obtain⟨ct,eQ⟩:∃ ct,ct=(aw t).toArray:=⟨_,rfl⟩;have fH:=hide eQ;unfold thV;rw[<-eQ] at q0 vM cg ⊢;clear h hm k0 eQ
 cases hn:numOf ps t.1 with
 | none=>
  have HE:=hide (show bf ps S K t=0 by unfold bf;rw[hn];rfl);have hu:(stV ps S t.1).getD (.agg #[.string { data:=#[] },.int .i64 0,.int .i64 0])=.agg #[.string { data:=#[] },.int .i64 0,.int .i64 0]:=by unfold stV;rw[hn];rfl
  have hc:(stV ps S t.1).isSome=false:=by unfold stV;rw[hn];rfl
  clear hn;go_enter Tryz.func66,Tryz.ntmps66;go_wp2_with (at_lookup;refine wp_look_ok _ rfl _ _ 73 rfl 9 185 Tryz.underlying9 Tryz.underlying73 (Tryz.zeroValue185 _) tb n (stV ps S) rfl vM t.1 rfl po _ hu _ hc ?_);go_ret;exact⟨by rw[ad HE];rfl,(ad cg).alloc (ad cg).size _⟩
 | some m=>
  have hu:(stV ps S t.1).getD (.agg #[.string { data:=#[] },.int .i64 0,.int .i64 0])=.agg #[.string t.1,.int .i64 (S t.1),.int .i64 m]:=by unfold stV;rw[hn];rfl
  have hc:(stV ps S t.1).isSome=true:=by unfold stV;rw[hn];rfl
  have HW:=hide (show bf ps S K t=if (ay K t).isSome then S t.1 else S t.1+1 by unfold bf;rw[hn];rfl);have bB:Below w.heap.size w ((w.alloc (.cells ct 88)).alloc (.cells #[.string t.1,.int .i64 (S t.1),.int .i64 m] 185)):=(ad cg).alloc (ad cg).size _;have tB:(tLoad (.pointer (some ⟨w.heap.size,0,none⟩))).run Tryz.prog ((w.alloc (.cells ct 88)).alloc (.cells #[.string t.1,.int .i64 (S t.1),.int .i64 m] 185))=.ok (thV t) ((w.alloc (.cells ct 88)).alloc (.cells #[.string t.1,.int .i64 (S t.1),.int .i64 m] 185)):=by rw[ad fH];exact ((TV.new w t).alloc _).load
  have lB:=((ad HM).block (bB.block kb du)).look ht Tryz.underlying83;have zG:=hide bB;clear hn bB
  cases hf:(ay K t).isSome with
  | true=>
   have HE:=hide (show bf ps S K t=S t.1 by rw[ad HW,hf];rfl);rw[hf] at lB;clear hf;go_enter Tryz.func66,Tryz.ntmps66;go_wp2_with (at_lookup;refine wp_look_ok _ rfl _ _ 73 rfl 9 185 Tryz.underlying9 Tryz.underlying73 (Tryz.zeroValue185 _) tb n (stV ps S) rfl vM t.1 rfl po _ hu _ hc ?_);go_ret;exact⟨by rw[ad HE];rfl,ad zG⟩
  | false=>
   have HE:=hide (show bf ps S K t=S t.1+1 by rw[ad HW,hf];rfl);rw[hf] at lB;clear hf;go_enter Tryz.func66,Tryz.ntmps66;go_wp2_with (at_lookup;refine wp_look_ok _ rfl _ _ 73 rfl 9 185 Tryz.underlying9 Tryz.underlying73 (Tryz.zeroValue185 _) tb n (stV ps S) rfl vM t.1 rfl po _ hu _ hc ?_);go_ret;exact⟨by rw[ad HE];simp,ad zG⟩
end
section
open Go.RowKit
def groundB (A:RAtom):Bool:=A.aW.all λ t=>!t.isVar
end
section
open Go.RowKit
def u8c (x:Nat):Value:=.int .u8 ((x:Int)%256)
end
section
open Go.RowKit
def setB (B:Nat->Bool)(i:Nat)(v:Bool):Nat->Bool:=λ j=>if j=i then v else B j
def markFrom (B:Nat->Bool)(fr:List Nat):Nat->Bool:=fr.foldl (λ B x=>setB B x true) B
theorem markFrom_take {B:Nat->Bool}{fr:List Nat}{j:Nat}(h:j<fr.length):markFrom B (fr.take (j+1))=setB (markFrom B (fr.take j)) fr[j] true:=by
 unfold markFrom;rw[List.take_succ_eq_append_getElem h,List.foldl_append];rfl
end
section
open Go.RowKit Go.Maps
def rD (x:Nat × List Nat):List Nat:=x.1::x.2
def bytesOf (k:Nat)(ns:List (Nat × List Nat)):List Nat:=k::ns.length::ns.flatMap rD
structure lR (w:W8)(out:List Nat)(v:Value)(wr:W8):Prop where
 k:Below w.heap.size w wr
 row:wr.ownsRow (w.heap.size+1) 5 1 v out.length (out.map u8c)
theorem lR.add {w:W8}{out:List Nat}{v v':Value}{wr W w5:W8}{x:Nat}(h:lR w out v wr)(hW:Below wr.heap.size wr W)(hg:W.grownBy w5 v.ownBlock)(aI:w5.ownsRow (w.heap.size+1) 5 1 v' (out.length+1) (out.map u8c++[u8c x])):lR w (out++[x]) v' w5:=by
 have hs:=h.k.size;refine⟨⟨hg.os.trans (hW.os.trans h.k.os),hg.tape.trans (hW.tape.trans h.k.tape),hg.output.trans (hW.output.trans h.k.output),Nat.le_trans h.k.size (Nat.le_trans hW.size hg.size),λ i hi=>?_⟩,?_⟩
 ·have:=hW.size;rw[hg.block i (by omega) (λ e=>by have:=(h.row.lt i e.symm).1;omega),hW.block i (by omega)];exact h.k.block i hi
 ·rw[List.length_append,List.length_singleton,List.map_append];exact aI
def BytesPost (w:W8)(L:List Nat)(e:Ending)(w':W8):Prop:=
 ∃ (a:O8) (c:Nat),e=.returned (.slice a L.length c)/\w'.ownsRow w.heap.size 5 1 (.slice a L.length c) L.length (L.map u8c)/\Below w.heap.size w w'
theorem bytes_any (w:W8)(base k:Nat)(an:O8)(cn:Nat)(aK:List ND)(h:bN w base (.slice an aK.length cn) aK)(hl:aK.length<=50)(hf:∀ x∈aK,x.fr.length<=3):
  Calls Tryz.prog 43 #[.agg #[.int .i64 (k:Nat),.slice an aK.length cn]] w (BytesPost w (bytesOf k (aK.map dW))):=by
 obtain⟨i0,hi,dD,cD,cd⟩:=info_parts infoByte;have H:=hide h;have HF:=hide hf;have HL:=hide hl;clear h hf hl;go_enter Tryz.func43,Tryz.ntmps43;go_upto_region 2 with fail;generalize hw0:World.alloc (World.alloc w _) _=w0;have k0:Below w.heap.size w w0:=by
  rw[<-hw0];exact ((Below.refl w.heap.size w).alloc L9 _).alloc (by simp) _
 have r0:w0.ownsRow (w.heap.size+1) 5 1 (.slice (some ⟨w.heap.size+1,0,none⟩) 2 2) 2 ([k,aK.length].map u8c):=by
  rw[<-hw0];have:=World.ownsRow_lit (base:=w.heap.size+1) (size:=1) (e:=5) (w.alloc (.cells #[.int .i64 (k:Nat),.slice an aK.length cn] 93)) #[.int .u8 ((k:Int)%256),.int .u8 ((aK.length:Int)%256)] 2 (by simp) (by unfold maxLen;omega) rfl;rw[World.size_alloc] at this;exact this
 have b1:w0.cell? ⟨w.heap.size,1,none⟩=some (.slice an aK.length cn):=by
  have x0:w0.heap[w.heap.size]?=some (.cells #[.int .i64 (k:Nat),.slice an aK.length cn] 93 (0,0)):=by
   rw[<-hw0,Below.heap_alloc _ _ _ (by simp)];exact heap_alloc_new w _
  exact (block_cells x0 1).1
 have H0:=hide (show lR w (k::aK.length::((aK.take 0).map dW).flatMap rD) (.slice (some ⟨w.heap.size+1,0,none⟩) 2 2) w0 from ⟨k0,r0⟩);clear hw0 k0 r0;go_upto_region 3 with fail;clear b1
 go_loopg [3,19] aK.length (λ gg v i wr=>∃ kk:Nat,kk<=aK.length/\gg=aK.length-kk/\i=.int .i64 kk/\(k::aK.length::((aK.take kk).map dW).flatMap rD).length<=2+4*kk/\lR w (k::aK.length::((aK.take kk).map dW).flatMap rD) v wr)
 exact⟨0,Nat.zero_le _,rfl,rfl,by simp,ad H0⟩
 case round=>
  clear H0;obtain⟨kk,kq,fK,rfl,Ar,ak⟩:=hrel;obtain⟨out,mh⟩:∃ out,out=k::aK.length::((aK.take kk).map dW).flatMap rD:=⟨_,rfl⟩;rw[<-mh] at Ar ak;obtain⟨ao,co,rfl⟩:=own_slice ak.row
  by_cases aR:kk<aK.length
  ·obtain⟨x,pU⟩:∃ x,x=aK[kk]:=⟨_,rfl⟩;have bE:x∈aK:=(by rw[pU];exact List.getElem_mem aR);obtain⟨g,cap,hv,iE,dn,dB,dx,hc⟩:=row_at ndCells_len (ad H).row kk aR;injection hv with h1 h2 h3
   subst h1 h3;have uX:=(ad H).each x bE;obtain⟨av,cv,uY⟩:=own_slice uX;have e0:wr.cell? ⟨g,kk*2,none⟩=some (.int .i64 (x.r:Nat)):=(by rw[pU];exact (ak.k.cell (p:=⟨g,kk*2,none⟩) dn).trans (hc 0 (by omega)));have e1:wr.cell? ⟨g,kk*2+1,none⟩=some (.slice av x.fr.length cv):=(by rw[<-uY,pU];exact (ak.k.cell (p:=⟨g,kk*2+1,none⟩) dn).trans (hc 1 (by omega)));have gM:(kk:Int)<aK.length:=(by omega);have Fe:=ad HF x bE;have Js:=ad HL;have Dc:out.length<=300:=by omega
   have E3:=hide (show k::aK.length::((aK.take (kk+1)).map dW).flatMap rD=out++x.r::x.fr by
    rw[List.take_succ_eq_append_getElem aR,List.map_append,List.flatMap_append,mh,<-pU]
    simp[rD,dW])
   have Hj:=hide (show (out++x.r::x.fr).length<=2+4*(kk+1) by simp;omega);have bz:=(ak.row.alloc (.cells #[.int .i64 (x.r:Nat),.slice av x.fr.length cv] 150)).alloc (.cells #[.int .u8 ((x.r:Int)%256)] 5);have fu:=hide (World.news_of_block (heap_alloc_new (wr.alloc (.cells #[.int .i64 (x.r:Nat),.slice av x.fr.length cv] 150)) (.cells #[.int .u8 ((x.r:Int)%256)] 5)));rw[World.size_alloc] at fu;have bp:=hide ak;have xr:=hide uX;have BC:=hide uY;have lP:=ak.k.size;clear hc ak pU bE h2 uX uY mh Ar;go_upto_region 6 with (at_builtin;refine wpList_append_own _ rfl _ _ 47 rfl (w.heap.size+1) 5 i0 _ 1 1 Tryz.underlying47 hi dD cD cd rfl (by decide) _ _ _ rfl bz ⟨wr.heap.size+1,0,none⟩ 1 1 [u8c x.r] rfl rfl (ad fu) (by intro u hu;rw[List.mem_singleton.1 hu];rfl) (by unfold maxLen;omega) (by omega) (by simp;omega) ?_;intro v5 w5 aL dh dr;clear dr;obtain⟨a5,c5,rfl⟩:=own_slice aL;have lX:=hide aL;have jq:=hide dh;clear aL dh);have ak:=ad bp;have dh:((wr.alloc (.cells #[.int .i64 (x.r:Nat),.slice av x.fr.length cv] 150)).alloc (.cells #[.int .u8 ((x.r:Int)%256)] 5)).grownBy w5 (Value.slice ao out.length co).ownBlock:=ad jq;have Ft:Below wr.heap.size wr ((wr.alloc (.cells #[.int .i64 (x.r:Nat),.slice av x.fr.length cv] 150)).alloc (.cells #[.int .u8 ((x.r:Int)%256)] 5)):=((Below.refl wr.heap.size wr).alloc L9 _).alloc (by simp) _;have yA:=ak.add Ft dh (ad lX);have Ez:w5.heap[wr.heap.size]?=some (.cells #[.int .i64 (x.r:Nat),.slice av x.fr.length cv] 150 (0,0)):=by
    rw[dh.block wr.heap.size (by simp only[World.size_alloc];omega) (λ e=>by have:=(ak.row.lt _ e.symm).2;omega),Below.heap_alloc _ _ _ (by simp)];exact heap_alloc_new wr _
   have b1:=(block_cells Ez 1).1;simp only[List.getElem?_toArray,List.getElem?_cons_zero,List.getElem?_cons_succ] at b1;have H5:=hide (show lR w (out++x.r::x.fr.take 0) (.slice a5 (out.length+1) c5) w5 from by simpa using yA);clear ak dh Ft yA Ez bz fu e0 e1 jq lX bp lP;generalize wr.heap.size=xb at *;go_upto_region 7 with fail;clear b1
   go_loopg [3,32] x.fr.length (λ gg2 v jj wi=>∃ j:Nat,j<=x.fr.length/\gg2=x.fr.length-j/\jj=.int .i64 j/\lR w (out++x.r::x.fr.take j) v wi)
   exact⟨0,Nat.zero_le _,rfl,rfl,ad H5⟩
   case round=>
    clear H5;obtain⟨j,hj,vD,rfl,ak⟩:=hrel;have fW:(out++x.r::x.fr.take j).length<=310:=(by simp;omega);obtain⟨o2,uI⟩:∃ o2,o2=out++x.r::x.fr.take j:=⟨_,rfl⟩;rw[<-uI] at ak fW;obtain⟨ai,ci,rfl⟩:=own_slice ak.row
    by_cases hlj:j<x.fr.length
    ·have uZ:=own_below (ad xr) ak.k (λ g e=>((ad xr).lt g e).2);rw[ad BC] at uZ;obtain⟨gv,rfl,Jb,C7,Cn,Co⟩:=numAt uZ j hlj;have vH:(j:Int)<x.fr.length:=(by omega);have Be:=hide (show out++x.r::x.fr.take (j+1)=o2++[x.fr[j]] by rw[uI,List.take_succ_eq_append_getElem hlj];simp);generalize x.fr[j]=y at *;have yW:=ak.row.alloc (.cells #[.int .u8 ((y:Int)%256)] 5);have yQ:=hide (World.news_of_block (heap_alloc_new wr (.cells #[.int .u8 ((y:Int)%256)] 5)));have bp:=hide ak;have rA:=ak.k.size;clear ak uI uZ;go_wp2_with (at_builtin;refine wpList_append_own _ rfl _ _ 47 rfl (w.heap.size+1) 5 i0 _ 1 1 Tryz.underlying47 hi dD cD cd rfl (by decide) _ _ _ rfl yW ⟨wr.heap.size,0,none⟩ 1 1 [u8c y] rfl rfl (ad yQ) (by intro u hu;rw[List.mem_singleton.1 hu];rfl) (by unfold maxLen;omega) (by omega) (by simp;omega) ?_;intro v6 w6 hown6 lK hne6;clear hne6;obtain⟨a6,c6,rfl⟩:=own_slice hown6;have A2:=hide ((ad bp).add (B9.alloc L9 _) lK hown6);clear hown6 lK);go_roundg (x.fr.length-(j+1))
     case measure=>omega
     case rel=>
      refine⟨j+1,by omega,rfl,by go_num,?_⟩;rw[ad Be];exact ad A2
    ·have CB:j=x.fr.length:=(by omega);subst CB;have HE:=hide (show o2=out++x.r::x.fr by rw[uI,List.take_length]);have bp:=hide ak;clear ak uI;go_wp2_with fail;go_roundg (aK.length-(kk+1))
     case measure=>omega
     case rel=>
      refine⟨kk+1,by omega,rfl,by go_num,?_,?_⟩
      ·rw[ad E3];exact ad Hj
      ·rw[ad E3,<-ad HE];exact ad bp
  ·have he:kk=aK.length:=(by omega);subst he;have HE:=hide (show out=bytesOf k (aK.map dW) by rw[mh,List.take_length];unfold bytesOf;simp);have bp:=hide ak;clear ak mh Ar;go_wp2_with fail;go_ret;rw[<-ad HE];exact⟨ao,co,rfl,ax (ad bp).row (by omega),(ad bp).k⟩
end
section
open Go.RowKit Go.Maps
theorem thOf_pa (A:RAtom):thOf (pa A)=if groundB A then some (thA A) else none:=by
 unfold thOf groundB thA pa;simp only[List.any_map,List.map_map];have e:(A.aW.any ((λ x=>x.1) ∘ dH))=!(A.aW.all λ t=>!t.isVar):=by
  induction A.aW with
  | nil=>rfl
  | cons t r ih=>
   rw[List.any_cons,List.all_cons,ih]
   show (t.isVar||_)=_
   cases t.isVar <;> simp
 rw[e]
 cases (A.aW.all λ t=>!t.isVar) with
 | true=>rfl
 | false=>rfl
theorem thing_eq (ps:P9)(q:B8):thingS ps q=if askOk ps q&&groundB (askAtom q) then some (thA (askAtom q)) else none:=by
 unfold thingS;rw[asked_eq]
 cases askOk ps q with
 | false=>rfl
 | true=>
  rw[if_pos rfl,Bool.true_and];exact thOf_pa (askAtom q)
end
section
open Go.RowKit
def exText:B8:={ data:=#[101,100,103,101,40,97,44,98,41,46,32,101,100,103,101,40,98,44,99,41,46,32,112,97,116,104,40,88,44,89,41,32,58,45,32,101,100,103,101,40,88,44,89,41,46,32,112,97,116,104,40,88,44,90,41,32,58,45,32,101,100,103,101,40,88,44,89,41,44,32,112,97,116,104,40,89,44,90,41,46,32,102,97,114,40,88,41,32,58,45,32,112,97,116,104,40,97,44,88,41,44,32,110,111,116,32,101,100,103,101,40,97,44,88,41,46] }
theorem ex_size:exText.size<=maxLen:=by decide +kernel
end
section
open Go.ChangeShapes Go.WideShapes Go.ChangeAt Go.RowKit Go.Deep
theorem own2:ownKnob Tryz.prog.godebug=none:=by kernel_rfl
theorem laid2:laidOutB Tryz.prog=true:=by kernel_rfl
theorem cells2Int:Tryz.prog.cellsOf 3=1:=by kernel_rfl
theorem eK {n:Int}(h:(Lit.int .i64 n).wf=true):-9223372036854775808<=n/\n<=9223372036854775807:=by
 simpa[Lit.wf,IntKind.min,IntKind.max,IntKind.signed,IntKind.bits] using h
end
section
open Go.RowKit Go.Maps
theorem u8c_of (x:Int):∃ y:Nat,Value.int .u8 (x%256)=u8c y:=⟨(x%256).toNat,by unfold u8c;congr 1;omega⟩
structure lT (w:W8)(B:Nat)(a:O8)(c:Nat)(bs:List Nat)(wr:W8):Prop where
 below:Below B w wr
 row:wr.ownsRow B 5 1 (.slice a bs.length c) bs.length (bs.map u8c)
variable {bs:List Nat} {B c:Nat} {w wr:W8}
theorem lT.set {g k x:Nat}(h:lT w B (some ⟨g,0,none⟩) c bs wr):lT w B (some ⟨g,0,none⟩) c (bs.set k x) (wr.setCell ⟨g,k,none⟩ (u8c x)):=by
 have hg:=(h.row.lt g rfl).1;refine⟨h.below.setCell hg _,?_⟩;rw[List.length_set,List.map_set];exact own_setCell h.row k _
theorem lT.drew {a:O8}(h:lT w B a c bs wr):lT w B a c bs wr.drew:=⟨h.below.drew,h.row.drew⟩
end
end Go.Proofs.YtldkpahaocjdpaaGreat
