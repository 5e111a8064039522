/-
  readThing and wholeStrata.
-/
import Derived.Test.YtldkpahaocjdpaaGreatE42
set_option maxHeartbeats 16000000
set_option maxRecDepth 1000000
namespace Go.Proofs.YtldkpahaocjdpaaGreat
section
open Go.RowKit Go.Maps
attribute [local go_sem ↓] za9 qN qQ qM
attribute [local go_sem] jV jT
def zec (ps:P9)(s:B8):Option Th:=(ze1 ps s).bind z54
theorem TV.result {fn:Func}{p u:Tmp}(h:fn.results=#[.cell p 88,.tmp u]){w:W8}{g:Nat}{t:Th}(hg:TV w g t)(tmps:Array Value)(hp:tmps.getD p undef=.pointer (some ⟨g,0,none⟩)):(results fn tmps).run Tryz.prog w=.ok (.tuple #[thV t,tmps.getD u undef]) w:=ziv h tmps w g t hp hg
theorem zpv (w:W8)(s:B8)(tb n:Nat)(ps:P9)(S:B8->Nat)(h:dE Tryz.prog 9 w tb n (stV ps S))(hs:s.size<=2000000):
  Calls Tryz.prog 41 #[.string s,.map (some tb)] w (zvw w (zec ps s)):=by
 have rE:=h.lt;have k0:Below w.heap.size w (w.alloc (.cells (zV ({ data:=#[] },[])).toArray 88)):=B9.alloc L9 _;have HA:=zC (zpf (w.alloc (.cells (zV ({ data:=#[] },[])).toArray 88)) s tb n ps S (h.block (k0.block tb rE)) hs);have dr:=zC k0;clear h k0;go_enter Tryz.func41,Tryz.ntmps41;go_wp2_with fail;refine (zA HA).mono ?_;rintro e w1 ⟨aL,hp⟩;have aY:w.heap.size+1<=w1.heap.size:=by have:=aL.size;simpa using this
 have dm:Below w.heap.size w w1:=(zA dr).trans (aL.mono (by simp));have mh:TV w1 w.heap.size ({ data:=#[] },[]):=(aL.block _ (by simp)).trans (heap_alloc_new w _)
 cases hP:ze1 ps s with
 | none=>
  rw[hP] at hp;subst hp;have HN:=zC (show zec ps s=none by unfold zec;rw[hP];rfl);have lj:TV (w1.alloc (.cells #[.string { data:=#[] },.slice none 0 0] 79)) w.heap.size ({ data:=#[] },[]):=mh.alloc _;have aO:(zs9 (.pointer (some ⟨w.heap.size,0,none⟩)) (.agg #[.string { data:=#[] },.string { data:=#[] },.string { data:=#[] },.string { data:=#[] },.string { data:=#[] }])).run Tryz.prog (w1.alloc (.cells #[.string { data:=#[] },.slice none 0 0] 79))=.ok () ((w1.alloc (.cells #[.string { data:=#[] },.slice none 0 0] 79)).setRow w.heap.size (zV ({ data:=#[] },[])).toArray):=lj.store ({ data:=#[] },[]);have Cx:=zC lj;have HB:=zC (dm.alloc dm.size (.cells #[.string { data:=#[] },.slice none 0 0] 79));have hz:=z10;clear hP mh aL dm lj;go_wp2_with fail;refine bodyPost_ret (v:=.tuple #[thV ({ data:=#[] },[]),.bool false]) (TV.result Tryz.results41 (setRow_heap _ _ _ _ _ _ (zA Cx)) _ rfl) rfl ?_;rw[zA HN];exact⟨xN (zA HB) L9 _,rfl⟩
 | some A=>
  rw[hP] at hp;obtain⟨a,c,rfl,aB⟩:=hp;obtain⟨bj,h4⟩:A.p.size<=s.size/\A.ts.length<=4:=by
   unfold ze1 at hP
   split at hP
   ·cases hP
   ·rename_i A' hA
    split at hP
    ·cases hP;exact zro hA
    ·cases hP
  have P2:=zC (show zec ps s=z54 A by unfold zec;rw[hP];rfl);have HO:=zC (z7e (w1.alloc (.cells #[.string A.p,.slice a A.ts.length c] 79)) _ A a c (aB.alloc _) h4);have rf:=dm.alloc dm.size (.cells #[.string A.p,.slice a A.ts.length c] 79);have Vk:TV (w1.alloc (.cells #[.string A.p,.slice a A.ts.length c] 79)) w.heap.size ({ data:=#[] },[]):=mh.alloc _;have AJ:=zC rf;have Qa:=zC Vk;clear hP mh aL dm aB rf Vk;generalize z54 A=R at *;go_wp2_with fail;refine (zA HO).mono ?_;rintro e w2 ⟨aK,rfl⟩;have ie:TV w2 w.heap.size ({ data:=#[] },[]):=(zA Qa).below aK;have aO:=ie.store (R.getD ({ data:=#[] },[]));have na:=zC ie;have ir:=zC ((zA AJ).trans (aK.mono (zA AJ).size));clear aK ie;go_wp2_with fail;refine bodyPost_ret (v:=.tuple #[thV (R.getD ({ data:=#[] },[])),.bool R.isSome]) (TV.result Tryz.results41 (setRow_heap _ _ _ _ _ _ (zA na)) _ rfl) rfl ?_;rw[zA P2];exact⟨xN (zA ir) L9 _,rfl⟩
def jM (ps:P9)(S:B8->Nat)(K:List (Th × Nat))(t:Th):Nat:=if (yY ps t.1).isSome then (if (yS K t).isSome then S t.1 else S t.1+1) else 0
theorem z3i (w:W8)(tb n kb:Nat)(ps:P9)(S:B8->Nat)(K:List (Th × Nat))(t:Th)(h:dE Tryz.prog 9 w tb n (stV ps S))(hm:qU w kb K)(ht:zdu t)(hS:S t.1<=1000000):
  Calls Tryz.prog 66 #[.map (some tb),.map (some kb),thV t] w λ e w'=>e=.returned (.int .i64 (jM ps S K t:Nat))/\Below w.heap.size w w':=by
 have rE:=h.lt;have dF:=hm.lt;have k0:Below w.heap.size w (w.alloc (.cells (zV t).toArray 88)):=B9.alloc L9 _;have Ie:=h.block (k0.block tb rE);have q0:(w.alloc (.cells (zV t).toArray 88)).cell? ⟨w.heap.size,0,none⟩=some (.string t.1):=(zB (TV.new w t) 0).1;have AS:t.1.size<=maxLen:=by have:=ht.pd;unfold maxLen;simp only[Th.p] at this;omega
 have HM:=zC hm;have dr:=zC k0;obtain⟨ct,lJ⟩:∃ ct,ct=(zV t).toArray:=⟨_,rfl⟩;have pC:=zC lJ;unfold thV;rw[<-lJ] at q0 Ie dr ⊢;clear h hm k0 lJ
 cases hn:yY ps t.1 with
 | none=>
  have HE:=zC (show jM ps S K t=0 by unfold jM;rw[hn];rfl);have hu:(stV ps S t.1).getD (.agg #[.string { data:=#[] },.int .i64 0,.int .i64 0])=.agg #[.string { data:=#[] },.int .i64 0,.int .i64 0]:=by unfold stV;rw[hn];rfl
  have hc:(stV ps S t.1).isSome=false:=by unfold stV;rw[hn];rfl
  clear hn;go_enter Tryz.func66,Tryz.ntmps66;go_wp2_with (at_lookup;refine qB _ rfl _ _ 73 rfl 9 185 Tryz.underlying9 Tryz.underlying73 (Tryz.zeroValue185 _) tb n (stV ps S) rfl Ie t.1 rfl AS _ hu _ hc ?_);go_ret;exact⟨by rw[zA HE];rfl,(zA dr).alloc (zA dr).size _⟩
 | some m=>
  have hu:(stV ps S t.1).getD (.agg #[.string { data:=#[] },.int .i64 0,.int .i64 0])=.agg #[.string t.1,.int .i64 (S t.1),.int .i64 m]:=by unfold stV;rw[hn];rfl
  have hc:(stV ps S t.1).isSome=true:=by unfold stV;rw[hn];rfl
  have HW:=zC (show jM ps S K t=if (yS K t).isSome then S t.1 else S t.1+1 by unfold jM;rw[hn];rfl);have bB:Below w.heap.size w ((w.alloc (.cells ct 88)).alloc (.cells #[.string t.1,.int .i64 (S t.1),.int .i64 m] 185)):=(zA dr).alloc (zA dr).size _;have tB:(zk0 (.pointer (some ⟨w.heap.size,0,none⟩))).run Tryz.prog ((w.alloc (.cells ct 88)).alloc (.cells #[.string t.1,.int .i64 (S t.1),.int .i64 m] 185))=.ok (thV t) ((w.alloc (.cells ct 88)).alloc (.cells #[.string t.1,.int .i64 (S t.1),.int .i64 m] 185)):=by rw[zA pC];exact ((TV.new w t).alloc _).load
  have lB:=((zA HM).block (bB.block kb dF)).look ht Tryz.underlying83;have MW:=zC bB;clear hn bB
  cases hf:(yS K t).isSome with
  | true=>
   have HE:=zC (show jM ps S K t=S t.1 by rw[zA HW,hf];rfl);rw[hf] at lB;clear hf;go_enter Tryz.func66,Tryz.ntmps66;go_wp2_with (at_lookup;refine qB _ rfl _ _ 73 rfl 9 185 Tryz.underlying9 Tryz.underlying73 (Tryz.zeroValue185 _) tb n (stV ps S) rfl Ie t.1 rfl AS _ hu _ hc ?_);go_ret;exact⟨by rw[zA HE];rfl,zA MW⟩
  | false=>
   have HE:=zC (show jM ps S K t=S t.1+1 by rw[zA HW,hf];rfl);rw[hf] at lB;clear hf;go_enter Tryz.func66,Tryz.ntmps66;go_wp2_with (at_lookup;refine qB _ rfl _ _ 73 rfl 9 185 Tryz.underlying9 Tryz.underlying73 (Tryz.zeroValue185 _) tb n (stV ps S) rfl Ie t.1 rfl AS _ hu _ hc ?_);go_ret;exact⟨by rw[zA HE];simp,zA MW⟩
end
section
open Go.RowKit
theorem z5q {α:Type}{w:W8}{base:Nat}{e:TypeId}{v:Value}{l:List α}{f:α->Value}(h:w.ownsRow base e 1 v l.length (l.map f))(k:Nat)(hk:k<l.length):∃ g cap,v=.slice (some ⟨g,0,none⟩) l.length cap/\base<=g/\g<w.heap.size/\l.length<=cap/\cap<=maxLen/\w.cell? ⟨g,k,none⟩=some (f l[k]):=by
 have e1:l.map f=l.flatMap λ x=>[f x]:=by
  clear h hk
  induction l with
  | nil=>rfl
  | cons x r ih=>rw[List.map_cons,List.flatMap_cons,ih];rfl
 rw[e1] at h;obtain⟨g,cap,hv,hb,hg,hc,hm,hx⟩:=vU (f:=λ x=>[f x]) (λ _=>rfl) h k hk;have:=hx 0 (by simp);simp only[Nat.mul_one,Nat.add_zero,List.getElem?_cons_zero] at this;exact⟨g,cap,hv,hb,hg,hc,hm,this⟩
def qD (A:zL):Bool:=A.ae.all λ t=>!t.isVar
theorem z16 (w:W8)(base:Nat)(A:zL)(a:O8)(c:Nat)(h:w.ownsRow base 317 3 (.slice a A.ae.length c) A.ae.length (cellsOf A.ae)):
  Calls Tryz.prog 131 #[.agg #[.string A.pred,.slice a A.ae.length c,.bool A.no,.int .i64 A.at_,.int .i64 A.az]] w λ e w'=>e=.returned (.bool (qD A))/\Below w.heap.size w w':=by
 have b0:=(Below.refl w.heap.size w).alloc L9 (.cells #[.string A.pred,.slice a A.ae.length c,.bool A.no,.int .i64 A.at_,.int .i64 A.az] 243);have hx:(w.alloc (.cells #[.string A.pred,.slice a A.ae.length c,.bool A.no,.int .i64 A.at_,.int .i64 A.az] 243)).heap[w.heap.size]?=_:=heap_alloc_new w _;have H:=zC (h.alloc (.cells #[.string A.pred,.slice a A.ae.length c,.bool A.no,.int .i64 A.at_,.int .i64 A.az] 243));have HB:=zC b0;have gL:=yU h;unfold maxLen at gL;clear h b0;go_enter Tryz.func131,Tryz.ntmps131;go_wp2_with fail;generalize (w.alloc (.cells #[.string A.pred,.slice a A.ae.length c,.bool A.no,.int .i64 A.at_,.int .i64 A.az] 243))=w0 at *;obtain⟨x1,mL⟩:=zB hx 1
 go_loopg [3] A.ae.length (λ gg i wr=>∃ k:Nat,k<=A.ae.length/\gg=A.ae.length-k/\i=.int .i64 k/\wr=w0/\(A.ae.take k).all (λ t=>!t.isVar)=true)
 exact⟨0,Nat.zero_le _,rfl,rfl,rfl,by simp⟩
 case round=>
  obtain⟨k,hk,eA,rfl,rfl,aS⟩:=hrel
  by_cases aF:k<A.ae.length
  ·obtain⟨g,cap,hv,-,aZ,bO,bP,hc⟩:=vU (f:=xE.cells) (λ _=>rfl) (zA H) k aF;injection hv with h1 h2 h3
   subst h1 h3;have p1:=hc 1 (by omega);simp only[xE.cells,List.getElem?_cons_zero,List.getElem?_cons_succ] at p1;have dG:(A.ae.take (k+1)).all (λ t=>!t.isVar)=!A.ae[k].isVar:=by
    rw[List.take_succ_eq_append_getElem aF,List.all_append,aS];simp
   have HS:=zC dG;clear hc dG
   cases hv:A.ae[k].isVar with
   | true=>
    have aW:qD A=false:=by
     unfold qD;rw[<-Bool.not_eq_true,List.all_eq_true];intro h2;have:=h2 _ (List.getElem_mem aF);rw[hv] at this
     cases this
    have HN:=zC aW;rw[hv] at p1;clear aS aW hv HS;go_wp2_with fail;go_ret;exact⟨by rw[zA HN];rfl,zA HB⟩
   | false=>
    rw[hv] at p1;have Ek:=zC ((zA HS).trans (by rw[hv]));clear aS hv HS;go_wp2_with fail;go_roundg (A.ae.length-(k+1));exact⟨k+1,by omega,rfl,by go_num,rfl,zA Ek⟩;omega
  ·have hn:qD A=true:=by
    have:k=A.ae.length:=by omega
    rw[this,List.take_length] at aS;exact aS
   have HN:=zC hn;clear hn aS;go_wp2_with fail;go_ret;exact⟨by rw[zA HN];rfl,zA HB⟩
end
section
open Go.RowKit
def ze7 (B:Nat->Bool):List zP->Nat->Nat->(Nat->Nat)->List Nat->Nat × List Nat
 | [],_,n,_,out=>(n,out)
 | f::r,i,n,pl,out=>if B i then ze7 B r (i+1) (n+1) (bJ pl i n) (out++f.r::f.fr.map (bJ pl i n)) else ze7 B r (i+1) n pl out
def u8c (x:Nat):Value:=.int .u8 ((x:Int)%256)
def znp (k:Nat)(l:List zP)(B:Nat->Bool):List Nat:=k::(ze7 B l 0 0 (λ _=>0) []).1::(ze7 B l 0 0 (λ _=>0) []).2
variable {out:List Nat} {pl:Nat->Nat} {n:Nat} {B:Nat->Bool}
theorem zy7 {l:List zP}{k:Nat}(h:k<l.length):ze7 B (l.drop k) k n pl out=if B k then ze7 B (l.drop (k+1)) (k+1) (n+1) (bJ pl k n) (out++l[k].r::l[k].fr.map (bJ pl k n)) else ze7 B (l.drop (k+1)) (k+1) n pl out:=by
 rw[List.drop_eq_getElem_cons h];rfl
structure zq (w:W8)(gb n:Nat)(B:Nat->Bool):Prop where
 sz:gb<w.heap.size
 cell:∀ i,i<n->w.cell? ⟨gb,i,none⟩=some (.bool (B i))
 fz:∀ j,w.frozen? ⟨gb,j,none⟩=false
variable {gb:Nat} {w w':W8}
theorem zq.below (h:zq w gb n B)(k:Below w.heap.size w w'):zq w' gb n B:=
 ⟨Nat.lt_of_lt_of_le h.sz k.size,λ i hi=>(k.cell (p:=⟨gb,i,none⟩) h.sz).trans (h.cell i hi),λ j=>(k.frozen (p:=⟨gb,j,none⟩) h.sz).trans (h.fz j)⟩
theorem mR.stays {B:List Nat}{gs:Nat}{S:Nat->Nat}(h:mR w gs n S)(k:zK B w w')(hB:gs∉B):mR w' gs n S:=
 ⟨Nat.lt_of_lt_of_le h.sz k.size,λ i hi=>(k.cell (p:=⟨gs,i,none⟩) h.sz hB).trans (h.cell i hi),λ j=>(k.frozen (p:=⟨gs,j,none⟩) h.sz hB).trans (h.fz j)⟩
structure yi (w:W8)(base gb:Nat)(v1:Value)(fs:List FG)(B:Nat->Bool)(pl:Nat->Nat)(out:List Nat)(v9:Value)(wr:W8):Prop where
 below:Below w.heap.size w wr
 place:mR wr w.heap.size fs.length pl
 row:wr.ownsRow (w.heap.size+1) 5 1 v9 out.length (out.map u8c)
variable {wr:W8} {v9 v1:Value} {fs:List FG} {base:Nat}
theorem yi.facts (h:yi w base gb v1 fs B pl out v9 wr)(hf:xB w base v1 fs):xB wr base v1 fs:=hf.below h.below
theorem yi.one {rY:Value}{w5:W8}{x:Nat}{o:Obj}(h:yi w base gb v1 fs B pl out v9 wr)(hg:(wr.alloc o).grownBy w5 v9.ownBlock)(ay:w5.ownsRow (w.heap.size+1) 5 1 rY (out.length+1) (out.map u8c++[u8c x])):yi w base gb v1 fs B pl (out++[x]) rY w5:=by
 have bj:=h.below.size;have pO:=h.place.sz;have k1:zK v9.ownBlock.toList wr w5:=(((zK.refl _ wr).alloc o).trans (zK.aR hg));have hb:∀ x∈v9.ownBlock.toList,w.heap.size+1<=x:=λ x hx=>(h.row.lt x (by simpa using hx)).1
 refine⟨zY h.below k1 bj (λ x hx=>by have:=hb x hx;omega),h.place.stays k1 (λ hm=>by have:=hb _ hm;omega),?_⟩;rw[List.length_append,List.length_singleton,List.map_append];exact ay
theorem z39 (w:W8)(b:O8)(n c:Nat)(h:n<=c)(a:O8)(c':Nat)(ty:TypeId):(Builtin.append_ #[47,47] ty #[.slice b n c,.slice a 0 c']).run Tryz.prog w=.ok (.slice b n c) w:=by
 obtain⟨i0,AF,bL,aY,bf⟩:=info_parts zen;refine run_append_nothing w _ _ _ 5 i0 Tryz.underlying47 AF b n c h _ ?_
 cases a with
 | none=>exact Src.ofNil w Tryz.underlying47 c'
 | some a=>exact Src.ofSlice w Tryz.underlying47 a 0 c' [] (by simp) (by simp) (by simp)
theorem yc9 (l:List Nat):∀ u∈l.map u8c,u.oneCell'=true:=λ u hu=>by
 obtain⟨x,_,rfl⟩:=List.mem_map.1 hu;rfl
theorem yi.put (h:yi w base gb v1 fs B pl out v9 wr){i:Nat}(hi:i<fs.length)(n:Nat):yi w base gb v1 fs B (bJ pl i n) out v9 (wr.setCell ⟨w.heap.size,i,none⟩ (.int .i64 n)):=
 ⟨h.below.setCell L9 _,h.place.set i n hi,ownsRow_setCell_below (a:=⟨w.heap.size,i,none⟩) h.row (by simp) _⟩
theorem zt8 (w:W8)(base gb k:Nat)(a1:O8)(c1:Nat)(fs:List FG)(B:Nat->Bool)(hf:xB w base (.slice a1 fs.length c1) fs)(hB:zq w gb fs.length B)(kn:fs.length<=50)(Ad:∀ f∈fs,f.F.fr.length<=3/\∀ x∈f.F.fr,x<fs.length):
  Calls Tryz.prog 141 #[.int .i64 k,.slice a1 fs.length c1,.slice (some ⟨gb,0,none⟩) fs.length fs.length] w λ e w'=>∃ v,e=.returned v/\w'.ownsRow w.heap.size 5 1 v (znp k (fs.map (·.F)) B).length ((znp k (fs.map (·.F)) B).map u8c)/\Below w.heap.size w w':=by
 obtain⟨i0,hi,bL,aY,bf⟩:=info_parts zen;have iM:=zfi fs.length (by omega);have aO:yi w base gb (.slice a1 fs.length c1) fs B (λ _=>0) [] (.slice none 0 0) (w.alloc (.cells (madeCells #[.int .i64 0] fs.length) 3)):=⟨B9.alloc L9 _,mR.start w fs.length,World.ownsRow_nil _ _ _ _⟩;have HF:=zC hf;have HB:=zC hB;have xj:=zC Ad;have dD:=zC aO;clear hf hB Ad aO;go_enter Tryz.func141,Tryz.ntmps141;go_wp2_with fail
 go_loopg [8,9,10] fs.length (λ gg vn v9 vi wr=>∃ (i n:Nat) (pl:Nat->Nat) (out:List Nat),i<=fs.length/\gg=fs.length-i/\vn=.int .i64 n/\vi=.int .i64 i/\n<=i/\out.length<=4*i/\yi w base gb (.slice a1 fs.length c1) fs B pl out v9 wr/\ze7 B ((fs.map (·.F)).drop i) i n pl out=ze7 B (fs.map (·.F)) 0 0 (λ _=>0) [])
 exact⟨0,0,λ _=>0,[],Nat.zero_le _,rfl,rfl,rfl,Nat.le_refl _,by simp,zA dD,rfl⟩
 case round=>
  clear dD;obtain⟨i,n,pl,out,mO,bS,rfl,rfl,Mh,sn,ax,hrel⟩:=hrel;obtain⟨a9,c9,rfl⟩:=zD ax.row;have Ln:=ax.below.size
  by_cases aF:i<fs.length
  ·have hb:=(zA HB).below ax.below;have ua:=hb.cell i aF;have mP:=ax.facts (zA HF);obtain⟨g,cap,hv,-,aZ,bO,bP,hc⟩:=zb0 mP.row aF;injection hv with h1 h2 h3
   subst h1 h3;have p8:=hc 8 (by omega);have p9:=hc 9 (by omega);simp only[FG.cells,List.getElem?_cons_zero,List.getElem?_cons_succ] at p8 p9;have aO:=zy7 (B:=B) (l:=fs.map (·.F)) (k:=i) (n:=n) (pl:=pl) (out:=out) (by simpa using aF);have qv:=mP.each fs[i] (List.getElem_mem aF);obtain⟨Ru,KU⟩:=zA xj fs[i] (List.getElem_mem aF);have AY:=zC qv;have HG:=zC aZ;rw[List.getElem_map] at aO;generalize hF:fs[i]=F at *;have HS:=zC aO;have bT:=zC ax;have tC:=zC hrel;clear aO hc mP qv ax hrel hb
   cases hBi:B i with
   | false=>
    rw[hBi] at ua;have HE:=zC ((zA HS).symm.trans (zA tC));clear HS tC;have CK:=zC (show ze7 B ((fs.map (·.F)).drop (i+1)) (i+1) n pl out=ze7 B (fs.map (·.F)) 0 0 (λ _=>0) [] from by have:=zA HE;rw[hBi] at this;exact this);clear HE p8 p9 hBi;go_wp2_with fail;go_roundg (fs.length-(i+1));exact⟨i+1,n,pl,out,by omega,rfl,rfl,by go_num,by omega,by omega,zA bT,zA CK⟩;omega
   | true=>
    rw[hBi] at ua;have CK:=zC (show ze7 B ((fs.map (·.F)).drop (i+1)) (i+1) (n+1) (bJ pl i n) (out++F.F.r::F.F.fr.map (bJ pl i n))=ze7 B (fs.map (·.F)) 0 0 (λ _=>0) [] from by have:=(zA HS).symm.trans (zA tC);rw[hBi] at this;exact this);clear HS tC hBi;obtain⟨F0,tvF,fvF⟩:=F;simp only at p8 p9 Ru KU;have mx:=(zA AY).i;simp only at mx;obtain⟨af,cf,rfl⟩:=zD mx;clear mx;have hp:=(zA bT).put aF n;have pO:=(zA bT).place.cell i aF;have Yh:=(zA bT).place.fz i;have PF:=(zA bT).place.sz;have ay:=hp.row.alloc (.cells #[.int .u8 ((F0.r:Int)%256)] 5);have HP:=zC hp;have aC:=zC hF;clear hp bT hF
    have dt:=zC (by
     have eS:=heap_alloc_new (wr.setCell ⟨w.heap.size,i,none⟩ (.int .i64 n)) (.cells #[.int .u8 ((F0.r:Int)%256)] 5);rw[World.size_setCell] at eS
     exact World.news_of_block eS)
    have C5:g<w.heap.size:=((zA HF).row.lt g rfl).2;have bF:g≠w.heap.size:=(by omega);have Fe:w.heap.size≠g:=(by omega);go_wp2_with (at_builtin;refine wpList_append_own _ rfl _ _ 47 rfl (w.heap.size+1) 5 i0 _ 1 1 Tryz.underlying47 hi bL aY bf rfl (by decide) _ _ _ rfl ay ⟨wr.heap.size,0,none⟩ 1 1 [u8c F0.r] rfl rfl (zA dt) (by intro u hu;rw[List.mem_singleton.1 hu];rfl) (by unfold maxLen;omega) (by omega) (by simp;omega) ?_);intro v5 w5 aq aU hne5;clear hne5;obtain⟨a5,c5,rfl⟩:=zD aq;have BD:=(zA HP).one aU aq;have KY:=zC BD;clear aq aU BD ay p8 p9 pO Yh AY ua HP HG aZ;go_wp2_with fail
    go_loopg [9,11] F0.fr.length (λ gg v9 vj wj=>∃ j:Nat,j<=F0.fr.length/\gg=F0.fr.length-j/\vj=.int .i64 j/\yi w base gb (.slice (some ⟨g,0,none⟩) fs.length c1) fs B (bJ pl i n) (out++F0.r::(F0.fr.take j).map (bJ pl i n)) v9 wj)
    exact⟨0,Nat.zero_le _,rfl,rfl,by simpa using zA KY⟩
    case round=>
     clear KY;obtain⟨j,fu,xu,rfl,ax⟩:=hrel;obtain⟨a9',WE,rfl⟩:=zD ax.row;have bj:=ax.below.size;have mP:=ax.facts (zA HF);obtain⟨g',dp,oo,-,aZ,-,-,hc⟩:=zb0 mP.row aF;injection oo with h1 h2 h3
     injection h1 with h1
     injection h1 with h1
     subst h1 h3;have p9:=hc 9 (by omega);have qv:=mP.each fs[i] (List.getElem_mem aF);rw[zA aC] at p9 qv;simp only[FG.cells,List.getElem?_cons_zero,List.getElem?_cons_succ] at p9;have mx:=qv.i;simp only[zx6] at mx
     by_cases hlj:j<F0.fr.length
     ·obtain⟨gf,Wu,Qk,-,PI,XH,XF,q0⟩:=z5q mx j hlj;injection Qk with h1 h2 h3
      subst h1 h3;have Ct:=KU _ (List.getElem_mem hlj);have Qd:=ax.place.cell _ Ct;have UE:=ax.place.sz;have ay:=ax.row.alloc (.cells #[.int .u8 ((bJ pl i n F0.fr[j]:Nat)%256)] 5);have hlen:(out++F0.r::(F0.fr.take j).map (bJ pl i n)).length<=300:=(by simp;omega);have dG:(out++F0.r::(F0.fr.take j).map (bJ pl i n))++[bJ pl i n F0.fr[j]]=out++F0.r::(F0.fr.take (j+1)).map (bJ pl i n):=by
       rw[List.take_succ_eq_append_getElem hlj,List.map_append,List.map_cons,List.map_nil];simp only[List.append_assoc,List.cons_append]
      have uF:=zC dG;have HH:=zC ax;clear ax hc mP qv mx dG;generalize F0.fr[j]=x at *;generalize hS:bJ pl i n x=y at *;generalize hO:out++F0.r::(F0.fr.take j).map (bJ pl i n)=outj at *;go_wp2_with (at_builtin;refine wpList_append_own _ rfl _ _ 47 rfl (w.heap.size+1) 5 i0 _ 1 1 Tryz.underlying47 hi bL aY bf rfl (by decide) _ _ _ rfl ay ⟨wr.heap.size,0,none⟩ 1 1 [u8c y] rfl rfl (World.news_of_block (heap_alloc_new wr _)) (by intro u hu;rw[List.mem_singleton.1 hu];rfl) (by unfold maxLen;omega) (by omega) (by simp;omega) ?_);intro v6 w6 hown6 sZ hne6;clear hne6;obtain⟨a6,c6,rfl⟩:=zD hown6;have Oe:=zC ((zA HH).one sZ hown6);clear hown6 sZ;go_wp2_with fail;go_roundg (F0.fr.length-(j+1));exact⟨j+1,by omega,rfl,by go_num,by rw[<-zA uF];exact zA Oe⟩;omega
     ·have hj:j=F0.fr.length:=(by omega);subst hj;rw[List.take_length] at ax;have HH:=zC ax;have hlen:(out++F0.r::F0.fr.map (bJ pl i n)).length<=4*(i+1):=(by simp;omega);clear ax hc mP qv mx;generalize hO:out++F0.r::F0.fr.map (bJ pl i n)=outj at *;go_wp2_with fail;go_roundg (fs.length-(i+1));exact⟨i+1,n+1,bJ pl i n,_,by omega,rfl,by go_num,by go_num,by omega,hlen,zA HH,zA CK⟩;omega
  ·have wD:i=fs.length:=(by omega);subst wD;have aE:ze7 B (fs.map (·.F)) 0 0 (λ _=>0) []=(n,out):=(by rw[<-hrel,List.drop_of_length_le (by simp)];rfl);have PA:znp k (fs.map (·.F)) B=k::n::out:=(by unfold znp;rw[aE]);have sr:=zC PA;have bj:=ax.below.size;have PF:=ax.place.sz;have bX:(wr.alloc (.cells #[.int .u8 ((k:Int)%256),.int .u8 ((n:Int)%256)] 5)).ownsRow w.heap.size 5 1 (.slice (some ⟨wr.heap.size,0,none⟩) 2 2) 2 [u8c k,u8c n]:=World.ownsRow_lit wr _ 2 (by omega) (by unfold maxLen;omega) rfl;have dm:=ax.below.alloc (by omega) (.cells #[.int .u8 ((k:Int)%256),.int .u8 ((n:Int)%256)] 5);have IV:=zC dm;have qp:=zC bX;clear Mh
   cases out with
   | nil=>
    have qt:=zC (z39 (wr.alloc (.cells #[.int .u8 ((k:Int)%256),.int .u8 ((n:Int)%256)] 5)) (some ⟨wr.heap.size,0,none⟩) 2 2 L9 a9 c9);clear hrel aE ax PA bX dm;go_wp2_with (at_builtin;go_must (refine zc7 rfl _ _ _ rfl _ _ rfl rfl (zA qt) ?_));go_ret;exact⟨_,rfl,by rw[zA sr];exact zA qp,zA IV⟩
   | cons x0 out0=>
    generalize hO:x0::out0=out at *;have aJ:0<out.length:=(by rw[<-hO];simp);obtain⟨g9,WE,Zo,-⟩:=z5q ax.row 0 aJ;injection Zo with q1 q2 q3
    subst q1 q3;have dt:=zC (zrd (ax.row.alloc (.cells #[.int .u8 ((k:Int)%256),.int .u8 ((n:Int)%256)] 5)));have BF:=zC (λ (w5:W8) (v:Value) (hg:(wr.alloc (.cells #[.int .u8 ((k:Int)%256),.int .u8 ((n:Int)%256)] 5)).grownBy w5 (Value.slice (some ⟨wr.heap.size,0,none⟩) 2 2).ownBlock)=>(show Below w.heap.size w w5 from zY dm (zK.aR hg) dm.size (λ b hm=>by simp[Value.ownBlock] at hm;omega)));clear hrel aE ax PA bX dm hO;go_wp2_with (at_builtin;go_must (refine wpList_append_own _ rfl _ _ 47 rfl w.heap.size 5 i0 _ 1 1 Tryz.underlying47 hi bL aY bf rfl (by decide) _ _ _ rfl (zA qp) ⟨g9,0,none⟩ out.length c9 (out.map u8c) rfl (by simp) (zA dt) (yc9 out) (by unfold maxLen;omega) (by omega) (by simp;omega) ?_));intro v5 w5 aq aU hne5;clear hne5;have Dd:=zC (zA BF w5 v5 aU);obtain⟨a5,c5,rfl⟩:=zD aq;have CC:=zC aq;clear aq aU BF;go_wp2_with fail;go_ret;refine⟨_,rfl,?_,zA Dd⟩;have e:(k::n::out).length=2+out.length:=(by rw[List.length_cons,List.length_cons];omega);rw[zA sr,e];exact zA CC
end
end Go.Proofs.YtldkpahaocjdpaaGreat
