/-
  readThing and wholeStrata.
-/
import Derived.Test.YtldkpahaocjdpaaGreatE42
set_option maxHeartbeats 16000000
set_option maxRecDepth 1000000
namespace Go.Proofs.YtldkpahaocjdpaaGreat
section
open Go.RowKit Go.Maps
attribute [local go_sem ↓] zbb qQ qP qO
attribute [local go_sem] jY jX
def zeb (ps:P9)(s:B8):Option Th:=(ze1 ps s).bind z55
theorem TV.result {fn:Func}{p u:Tmp}(h:fn.results=#[.cell p 88,.tmp u]){w:W8}{g:Nat}{t:Th}(hg:TV w g t)(tmps:Array Value)(hp:tmps.getD p undef=.pointer (some ⟨g,0,none⟩)):(results fn tmps).run Tryz.prog w=.ok (.tuple #[thV t,tmps.getD u undef]) w:=zjc h tmps w g t hp hg
theorem zpx (w:W8)(s:B8)(tb n:Nat)(ps:P9)(S:B8->Nat)(h:dE Tryz.prog 9 w tb n (stV ps S))(hs:s.size<=2000000):
  Calls Tryz.prog 41 #[.string s,.map (some tb)] w (zvm w (zeb ps s)):=by
 have rk:=h.lt;have k0:Below w.heap.size w (w.alloc (.cells (zV ({ data:=#[] },[])).toArray 88)):=B9.alloc L9 _;have HA:=zC (zpw (w.alloc (.cells (zV ({ data:=#[] },[])).toArray 88)) s tb n ps S (h.block (k0.block tb rk)) hs);have dr:=zC k0;clear h k0;go_enter Tryz.func41,Tryz.ntmps41;go_wp2_with fail;refine (zA HA).mono ?_;rintro e w1 ⟨aL,hp⟩;have aY:w.heap.size+1<=w1.heap.size:=by have:=aL.size;simpa using this
 have dp:Below w.heap.size w w1:=(zA dr).trans (aL.mono (by simp));have mg:TV w1 w.heap.size ({ data:=#[] },[]):=(aL.block _ (by simp)).trans (heap_alloc_new w _)
 cases hP:ze1 ps s with
 | none=>
  rw[hP] at hp;subst hp;have HN:=zC (show zeb ps s=none by unfold zeb;rw[hP];rfl);have lj:TV (w1.alloc (.cells #[.string { data:=#[] },.slice none 0 0] 79)) w.heap.size ({ data:=#[] },[]):=mg.alloc _;have aP:(zs3 (.pointer (some ⟨w.heap.size,0,none⟩)) (.agg #[.string { data:=#[] },.string { data:=#[] },.string { data:=#[] },.string { data:=#[] },.string { data:=#[] }])).run Tryz.prog (w1.alloc (.cells #[.string { data:=#[] },.slice none 0 0] 79))=.ok () ((w1.alloc (.cells #[.string { data:=#[] },.slice none 0 0] 79)).setRow w.heap.size (zV ({ data:=#[] },[])).toArray):=lj.store ({ data:=#[] },[]);have CI:=zC lj;have HB:=zC (dp.alloc dp.size (.cells #[.string { data:=#[] },.slice none 0 0] 79));have hz:=z4w;clear hP mg aL dp lj;go_wp2_with fail;refine bodyPost_ret (v:=.tuple #[thV ({ data:=#[] },[]),.bool false]) (TV.result Tryz.results41 (setRow_heap _ _ _ _ _ _ (zA CI)) _ rfl) rfl ?_;rw[zA HN];exact⟨xN (zA HB) L9 _,rfl⟩
 | some A=>
  rw[hP] at hp;obtain⟨a,c,rfl,aB⟩:=hp;obtain⟨bj,h4⟩:A.p.size<=s.size/\A.ts.length<=4:=by
   unfold ze1 at hP
   split at hP
   ·cases hP
   ·rename_i A' hA
    split at hP
    ·cases hP;exact zsf hA
    ·cases hP
  have OU:=zC (show zeb ps s=z55 A by unfold zeb;rw[hP];rfl);have HO:=zC (z81 (w1.alloc (.cells #[.string A.p,.slice a A.ts.length c] 79)) _ A a c (aB.alloc _) h4);have ql:=dp.alloc dp.size (.cells #[.string A.p,.slice a A.ts.length c] 79);have Ul:TV (w1.alloc (.cells #[.string A.p,.slice a A.ts.length c] 79)) w.heap.size ({ data:=#[] },[]):=mg.alloc _;have yh:=zC ql;have OK:=zC Ul;clear hP mg aL dp aB ql Ul;generalize z55 A=R at *;go_wp2_with fail;refine (zA HO).mono ?_;rintro e w2 ⟨aK,rfl⟩;have ik:TV w2 w.heap.size ({ data:=#[] },[]):=(zA OK).below aK;have aP:=ik.store (R.getD ({ data:=#[] },[]));have mG:=zC ik;have ir:=zC ((zA yh).trans (aK.mono (zA yh).size));clear aK ik;go_wp2_with fail;refine bodyPost_ret (v:=.tuple #[thV (R.getD ({ data:=#[] },[])),.bool R.isSome]) (TV.result Tryz.results41 (setRow_heap _ _ _ _ _ _ (zA mG)) _ rfl) rfl ?_;rw[zA OU];exact⟨xN (zA ir) L9 _,rfl⟩
def jO (ps:P9)(S:B8->Nat)(K:List (Th × Nat))(t:Th):Nat:=if (yX ps t.1).isSome then (if (yS K t).isSome then S t.1 else S t.1+1) else 0
theorem z5y (w:W8)(tb n kb:Nat)(ps:P9)(S:B8->Nat)(K:List (Th × Nat))(t:Th)(h:dE Tryz.prog 9 w tb n (stV ps S))(hm:qR w kb K)(ht:zdu t)(hS:S t.1<=1000000):
  Calls Tryz.prog 66 #[.map (some tb),.map (some kb),thV t] w λ e w'=>e=.returned (.int .i64 (jO ps S K t:Nat))/\Below w.heap.size w w':=by
 have rk:=h.lt;have dF:=hm.lt;have k0:Below w.heap.size w (w.alloc (.cells (zV t).toArray 88)):=B9.alloc L9 _;have Is:=h.block (k0.block tb rk);have q0:(w.alloc (.cells (zV t).toArray 88)).cell? ⟨w.heap.size,0,none⟩=some (.string t.1):=(zB (TV.new w t) 0).1;have Al:t.1.size<=maxLen:=by have:=ht.pd;unfold maxLen;simp only[Th.p] at this;omega
 have HM:=zC hm;have dr:=zC k0;obtain⟨ct,lL⟩:∃ ct,ct=(zV t).toArray:=⟨_,rfl⟩;have pw:=zC lL;unfold thV;rw[<-lL] at q0 Is dr ⊢;clear h hm k0 lL
 cases hn:yX ps t.1 with
 | none=>
  have HE:=zC (show jO ps S K t=0 by unfold jO;rw[hn];rfl);have hu:(stV ps S t.1).getD (.agg #[.string { data:=#[] },.int .i64 0,.int .i64 0])=.agg #[.string { data:=#[] },.int .i64 0,.int .i64 0]:=by unfold stV;rw[hn];rfl
  have hc:(stV ps S t.1).isSome=false:=by unfold stV;rw[hn];rfl
  clear hn;go_enter Tryz.func66,Tryz.ntmps66;go_wp2_with (at_lookup;refine qC _ rfl _ _ 73 rfl 9 185 Tryz.underlying9 Tryz.underlying73 (Tryz.zeroValue185 _) tb n (stV ps S) rfl Is t.1 rfl Al _ hu _ hc ?_);go_ret;exact⟨by rw[zA HE];rfl,(zA dr).alloc (zA dr).size _⟩
 | some m=>
  have hu:(stV ps S t.1).getD (.agg #[.string { data:=#[] },.int .i64 0,.int .i64 0])=.agg #[.string t.1,.int .i64 (S t.1),.int .i64 m]:=by unfold stV;rw[hn];rfl
  have hc:(stV ps S t.1).isSome=true:=by unfold stV;rw[hn];rfl
  have HW:=zC (show jO ps S K t=if (yS K t).isSome then S t.1 else S t.1+1 by unfold jO;rw[hn];rfl);have bB:Below w.heap.size w ((w.alloc (.cells ct 88)).alloc (.cells #[.string t.1,.int .i64 (S t.1),.int .i64 m] 185)):=(zA dr).alloc (zA dr).size _;have tB:(zmx (.pointer (some ⟨w.heap.size,0,none⟩))).run Tryz.prog ((w.alloc (.cells ct 88)).alloc (.cells #[.string t.1,.int .i64 (S t.1),.int .i64 m] 185))=.ok (thV t) ((w.alloc (.cells ct 88)).alloc (.cells #[.string t.1,.int .i64 (S t.1),.int .i64 m] 185)):=by rw[zA pw];exact ((TV.new w t).alloc _).load
  have lB:=((zA HM).block (bB.block kb dF)).look ht Tryz.underlying83;have Mq:=zC bB;clear hn bB
  cases hf:(yS K t).isSome with
  | true=>
   have HE:=zC (show jO ps S K t=S t.1 by rw[zA HW,hf];rfl);rw[hf] at lB;clear hf;go_enter Tryz.func66,Tryz.ntmps66;go_wp2_with (at_lookup;refine qC _ rfl _ _ 73 rfl 9 185 Tryz.underlying9 Tryz.underlying73 (Tryz.zeroValue185 _) tb n (stV ps S) rfl Is t.1 rfl Al _ hu _ hc ?_);go_ret;exact⟨by rw[zA HE];rfl,zA Mq⟩
  | false=>
   have HE:=zC (show jO ps S K t=S t.1+1 by rw[zA HW,hf];rfl);rw[hf] at lB;clear hf;go_enter Tryz.func66,Tryz.ntmps66;go_wp2_with (at_lookup;refine qC _ rfl _ _ 73 rfl 9 185 Tryz.underlying9 Tryz.underlying73 (Tryz.zeroValue185 _) tb n (stV ps S) rfl Is t.1 rfl Al _ hu _ hc ?_);go_ret;exact⟨by rw[zA HE];simp,zA Mq⟩
end
section
open Go.RowKit
theorem z3g {α:Type}{w:W8}{base:Nat}{e:TypeId}{v:Value}{l:List α}{f:α->Value}(h:w.ownsRow base e 1 v l.length (l.map f))(k:Nat)(hk:k<l.length):∃ g cap,v=.slice (some ⟨g,0,none⟩) l.length cap/\base<=g/\g<w.heap.size/\l.length<=cap/\cap<=maxLen/\w.cell? ⟨g,k,none⟩=some (f l[k]):=by
 have e1:l.map f=l.flatMap λ x=>[f x]:=by
  clear h hk
  induction l with
  | nil=>rfl
  | cons x r ih=>rw[List.map_cons,List.flatMap_cons,ih];rfl
 rw[e1] at h;obtain⟨g,cap,hv,hb,hg,hc,hm,hx⟩:=vX (f:=λ x=>[f x]) (λ _=>rfl) h k hk;have:=hx 0 (by simp);simp only[Nat.mul_one,Nat.add_zero,List.getElem?_cons_zero] at this;exact⟨g,cap,hv,hb,hg,hc,hm,this⟩
def qE (A:zL):Bool:=A.ae.all λ t=>!t.isVar
theorem z2i (w:W8)(base:Nat)(A:zL)(a:O8)(c:Nat)(h:w.ownsRow base 317 3 (.slice a A.ae.length c) A.ae.length (cellsOf A.ae)):
  Calls Tryz.prog 131 #[.agg #[.string A.pred,.slice a A.ae.length c,.bool A.no,.int .i64 A.at_,.int .i64 A.az]] w λ e w'=>e=.returned (.bool (qE A))/\Below w.heap.size w w':=by
 have b0:=(Below.refl w.heap.size w).alloc L9 (.cells #[.string A.pred,.slice a A.ae.length c,.bool A.no,.int .i64 A.at_,.int .i64 A.az] 243);have hx:(w.alloc (.cells #[.string A.pred,.slice a A.ae.length c,.bool A.no,.int .i64 A.at_,.int .i64 A.az] 243)).heap[w.heap.size]?=_:=heap_alloc_new w _;have H:=zC (h.alloc (.cells #[.string A.pred,.slice a A.ae.length c,.bool A.no,.int .i64 A.at_,.int .i64 A.az] 243));have HB:=zC b0;have gR:=yU h;unfold maxLen at gR;clear h b0;go_enter Tryz.func131,Tryz.ntmps131;go_wp2_with fail;generalize (w.alloc (.cells #[.string A.pred,.slice a A.ae.length c,.bool A.no,.int .i64 A.at_,.int .i64 A.az] 243))=w0 at *;obtain⟨x1,mZ⟩:=zB hx 1
 go_loopg [3] A.ae.length (λ gg i wr=>∃ k:Nat,k<=A.ae.length/\gg=A.ae.length-k/\i=.int .i64 k/\wr=w0/\(A.ae.take k).all (λ t=>!t.isVar)=true)
 exact⟨0,Nat.zero_le _,rfl,rfl,rfl,by simp⟩
 case round=>
  obtain⟨k,hk,eD,rfl,rfl,aS⟩:=hrel
  by_cases aF:k<A.ae.length
  ·obtain⟨g,cap,hv,-,aZ,bO,bQ,hc⟩:=vX (f:=xD.cells) (λ _=>rfl) (zA H) k aF;injection hv with h1 h2 h3
   subst h1 h3;have p1:=hc 1 (by omega);simp only[xD.cells,List.getElem?_cons_zero,List.getElem?_cons_succ] at p1;have dJ:(A.ae.take (k+1)).all (λ t=>!t.isVar)=!A.ae[k].isVar:=by
    rw[List.take_succ_eq_append_getElem aF,List.all_append,aS];simp
   have HS:=zC dJ;clear hc dJ
   cases hv:A.ae[k].isVar with
   | true=>
    have aX:qE A=false:=by
     unfold qE;rw[<-Bool.not_eq_true,List.all_eq_true];intro h2;have:=h2 _ (List.getElem_mem aF);rw[hv] at this
     cases this
    have HN:=zC aX;rw[hv] at p1;clear aS aX hv HS;go_wp2_with fail;go_ret;exact⟨by rw[zA HN];rfl,zA HB⟩
   | false=>
    rw[hv] at p1;have DY:=zC ((zA HS).trans (by rw[hv]));clear aS hv HS;go_wp2_with fail;go_roundg (A.ae.length-(k+1));exact⟨k+1,by omega,rfl,by go_num,rfl,zA DY⟩;omega
  ·have hn:qE A=true:=by
    have:k=A.ae.length:=by omega
    rw[this,List.take_length] at aS;exact aS
   have HN:=zC hn;clear hn aS;go_wp2_with fail;go_ret;exact⟨by rw[zA HN];rfl,zA HB⟩
end
section
open Go.RowKit
def zfv (B:Nat->Bool):List zP->Nat->Nat->(Nat->Nat)->List Nat->Nat × List Nat
 | [],_,n,_,out=>(n,out)
 | f::r,i,n,pl,out=>if B i then zfv B r (i+1) (n+1) (bK pl i n) (out++f.r::f.fr.map (bK pl i n)) else zfv B r (i+1) n pl out
def u8c (x:Nat):Value:=.int .u8 ((x:Int)%256)
def znp (k:Nat)(l:List zP)(B:Nat->Bool):List Nat:=k::(zfv B l 0 0 (λ _=>0) []).1::(zfv B l 0 0 (λ _=>0) []).2
variable {out:List Nat} {pl:Nat->Nat} {n:Nat} {B:Nat->Bool}
theorem zz6 {l:List zP}{k:Nat}(h:k<l.length):zfv B (l.drop k) k n pl out=if B k then zfv B (l.drop (k+1)) (k+1) (n+1) (bK pl k n) (out++l[k].r::l[k].fr.map (bK pl k n)) else zfv B (l.drop (k+1)) (k+1) n pl out:=by
 rw[List.drop_eq_getElem_cons h];rfl
structure BK (w:W8)(gb n:Nat)(B:Nat->Bool):Prop where
 sz:gb<w.heap.size
 cell:∀ i,i<n->w.cell? ⟨gb,i,none⟩=some (.bool (B i))
 fz:∀ j,w.frozen? ⟨gb,j,none⟩=false
variable {gb:Nat} {w w':W8}
theorem BK.below (h:BK w gb n B)(k:Below w.heap.size w w'):BK w' gb n B:=
 ⟨Nat.lt_of_lt_of_le h.sz k.size,λ i hi=>(k.cell (p:=⟨gb,i,none⟩) h.sz).trans (h.cell i hi),λ j=>(k.frozen (p:=⟨gb,j,none⟩) h.sz).trans (h.fz j)⟩
theorem ng.stays {B:List Nat}{gs:Nat}{S:Nat->Nat}(h:ng w gs n S)(k:zK B w w')(hB:gs∉B):ng w' gs n S:=
 ⟨Nat.lt_of_lt_of_le h.sz k.size,λ i hi=>(k.cell (p:=⟨gs,i,none⟩) h.sz hB).trans (h.cell i hi),λ j=>(k.frozen (p:=⟨gs,j,none⟩) h.sz hB).trans (h.fz j)⟩
structure BU (w:W8)(base gb:Nat)(v1:Value)(fs:List FG)(B:Nat->Bool)(pl:Nat->Nat)(out:List Nat)(v9:Value)(wr:W8):Prop where
 below:Below w.heap.size w wr
 place:ng wr w.heap.size fs.length pl
 row:wr.ownsRow (w.heap.size+1) 5 1 v9 out.length (out.map u8c)
variable {wr:W8} {v9 v1:Value} {fs:List FG} {base:Nat}
theorem BU.facts (h:BU w base gb v1 fs B pl out v9 wr)(hf:yZ w base v1 fs):yZ wr base v1 fs:=hf.below h.below
theorem BU.one {sn:Value}{w5:W8}{x:Nat}{o:Obj}(h:BU w base gb v1 fs B pl out v9 wr)(hg:(wr.alloc o).grownBy w5 v9.ownBlock)(ay:w5.ownsRow (w.heap.size+1) 5 1 sn (out.length+1) (out.map u8c++[u8c x])):BU w base gb v1 fs B pl (out++[x]) sn w5:=by
 have bj:=h.below.size;have pF:=h.place.sz;have k1:zK v9.ownBlock.toList wr w5:=(((zK.refl _ wr).alloc o).trans (zK.aR hg));have hb:∀ x∈v9.ownBlock.toList,w.heap.size+1<=x:=λ x hx=>(h.row.lt x (by simpa using hx)).1
 refine⟨zY h.below k1 bj (λ x hx=>by have:=hb x hx;omega),h.place.stays k1 (λ hm=>by have:=hb _ hm;omega),?_⟩;rw[List.length_append,List.length_singleton,List.map_append];exact ay
theorem z04 (w:W8)(b:O8)(n c:Nat)(h:n<=c)(a:O8)(c':Nat)(ty:TypeId):(Builtin.append_ #[47,47] ty #[.slice b n c,.slice a 0 c']).run Tryz.prog w=.ok (.slice b n c) w:=by
 obtain⟨i0,Af,bL,aY,bg⟩:=info_parts zeo;refine run_append_nothing w _ _ _ 5 i0 Tryz.underlying47 Af b n c h _ ?_
 cases a with
 | none=>exact Src.ofNil w Tryz.underlying47 c'
 | some a=>exact Src.ofSlice w Tryz.underlying47 a 0 c' [] (by simp) (by simp) (by simp)
theorem yd0 (l:List Nat):∀ u∈l.map u8c,u.oneCell'=true:=λ u hu=>by
 obtain⟨x,_,rfl⟩:=List.mem_map.1 hu;rfl
theorem BU.put (h:BU w base gb v1 fs B pl out v9 wr){i:Nat}(hi:i<fs.length)(n:Nat):BU w base gb v1 fs B (bK pl i n) out v9 (wr.setCell ⟨w.heap.size,i,none⟩ (.int .i64 n)):=
 ⟨h.below.setCell L9 _,h.place.set i n hi,ownsRow_setCell_below (a:=⟨w.heap.size,i,none⟩) h.row (by simp) _⟩
theorem zvg (w:W8)(base gb k:Nat)(a1:O8)(c1:Nat)(fs:List FG)(B:Nat->Bool)(hf:yZ w base (.slice a1 fs.length c1) fs)(hB:BK w gb fs.length B)(ko:fs.length<=50)(Ab:∀ f∈fs,f.F.fr.length<=3/\∀ x∈f.F.fr,x<fs.length):
  Calls Tryz.prog 141 #[.int .i64 k,.slice a1 fs.length c1,.slice (some ⟨gb,0,none⟩) fs.length fs.length] w λ e w'=>∃ v,e=.returned v/\w'.ownsRow w.heap.size 5 1 v (znp k (fs.map (·.F)) B).length ((znp k (fs.map (·.F)) B).map u8c)/\Below w.heap.size w w':=by
 obtain⟨i0,hi,bL,aY,bg⟩:=info_parts zeo;have ji:=zfk fs.length (by omega);have aP:BU w base gb (.slice a1 fs.length c1) fs B (λ _=>0) [] (.slice none 0 0) (w.alloc (.cells (madeCells #[.int .i64 0] fs.length) 3)):=⟨B9.alloc L9 _,ng.start w fs.length,World.ownsRow_nil _ _ _ _⟩;have HF:=zC hf;have HB:=zC hB;have wO:=zC Ab;have dB:=zC aP;clear hf hB Ab aP;go_enter Tryz.func141,Tryz.ntmps141;go_wp2_with fail
 go_loopg [8,9,10] fs.length (λ gg vn v9 vi wr=>∃ (i n:Nat) (pl:Nat->Nat) (out:List Nat),i<=fs.length/\gg=fs.length-i/\vn=.int .i64 n/\vi=.int .i64 i/\n<=i/\out.length<=4*i/\BU w base gb (.slice a1 fs.length c1) fs B pl out v9 wr/\zfv B ((fs.map (·.F)).drop i) i n pl out=zfv B (fs.map (·.F)) 0 0 (λ _=>0) [])
 exact⟨0,0,λ _=>0,[],Nat.zero_le _,rfl,rfl,rfl,Nat.le_refl _,by simp,zA dB,rfl⟩
 case round=>
  clear dB;obtain⟨i,n,pl,out,mQ,bS,rfl,rfl,La,rY,ax,hrel⟩:=hrel;obtain⟨a9,c9,rfl⟩:=zD ax.row;have LF:=ax.below.size
  by_cases aF:i<fs.length
  ·have hb:=(zA HB).below ax.below;have sL:=hb.cell i aF;have mO:=ax.facts (zA HF);obtain⟨g,cap,hv,-,aZ,bO,bQ,hc⟩:=zb1 mO.row aF;injection hv with h1 h2 h3
   subst h1 h3;have p8:=hc 8 (by omega);have p9:=hc 9 (by omega);simp only[FG.cells,List.getElem?_cons_zero,List.getElem?_cons_succ] at p8 p9;have aP:=zz6 (B:=B) (l:=fs.map (·.F)) (k:=i) (n:=n) (pl:=pl) (out:=out) (by simpa using aF);have qo:=mO.each fs[i] (List.getElem_mem aF);obtain⟨PW,KH⟩:=zA wO fs[i] (List.getElem_mem aF);have yj:=zC qo;have HG:=zC aZ;rw[List.getElem_map] at aP;generalize hF:fs[i]=F at *;have HS:=zC aP;have bT:=zC ax;have sE:=zC hrel;clear aP hc mO qo ax hrel hb
   cases hBi:B i with
   | false=>
    rw[hBi] at sL;have HE:=zC ((zA HS).symm.trans (zA sE));clear HS sE;have Cu:=zC (show zfv B ((fs.map (·.F)).drop (i+1)) (i+1) n pl out=zfv B (fs.map (·.F)) 0 0 (λ _=>0) [] from by have:=zA HE;rw[hBi] at this;exact this);clear HE p8 p9 hBi;go_wp2_with fail;go_roundg (fs.length-(i+1));exact⟨i+1,n,pl,out,by omega,rfl,rfl,by go_num,by omega,by omega,zA bT,zA Cu⟩;omega
   | true=>
    rw[hBi] at sL;have Cu:=zC (show zfv B ((fs.map (·.F)).drop (i+1)) (i+1) (n+1) (bK pl i n) (out++F.F.r::F.F.fr.map (bK pl i n))=zfv B (fs.map (·.F)) 0 0 (λ _=>0) [] from by have:=(zA HS).symm.trans (zA sE);rw[hBi] at this;exact this);clear HS sE hBi;obtain⟨F0,tvF,fvF⟩:=F;simp only at p8 p9 PW KH;have mx:=(zA yj).i;simp only at mx;obtain⟨af,cf,rfl⟩:=zD mx;clear mx;have hp:=(zA bT).put aF n;have pF:=(zA bT).place.cell i aF;have YC:=(zA bT).place.fz i;have QL:=(zA bT).place.sz;have ay:=hp.row.alloc (.cells #[.int .u8 ((F0.r:Int)%256)] 5);have HP:=zC hp;have aC:=zC hF;clear hp bT hF
    have dt:=zC (by
     have eY:=heap_alloc_new (wr.setCell ⟨w.heap.size,i,none⟩ (.int .i64 n)) (.cells #[.int .u8 ((F0.r:Int)%256)] 5);rw[World.size_setCell] at eY
     exact World.news_of_block eY)
    have C8:g<w.heap.size:=((zA HF).row.lt g rfl).2;have bF:g≠w.heap.size:=(by omega);have Gp:w.heap.size≠g:=(by omega);go_wp2_with (at_builtin;refine wpList_append_own _ rfl _ _ 47 rfl (w.heap.size+1) 5 i0 _ 1 1 Tryz.underlying47 hi bL aY bg rfl (by decide) _ _ _ rfl ay ⟨wr.heap.size,0,none⟩ 1 1 [u8c F0.r] rfl rfl (zA dt) (by intro u hu;rw[List.mem_singleton.1 hu];rfl) (by unfold maxLen;omega) (by omega) (by simp;omega) ?_);intro v5 w5 aq aU hne5;clear hne5;obtain⟨a5,c5,rfl⟩:=zD aq;have Ah:=(zA HP).one aU aq;have Jd:=zC Ah;clear aq aU Ah ay p8 p9 pF YC yj sL HP HG aZ;go_wp2_with fail
    go_loopg [9,11] F0.fr.length (λ gg v9 vj wj=>∃ j:Nat,j<=F0.fr.length/\gg=F0.fr.length-j/\vj=.int .i64 j/\BU w base gb (.slice (some ⟨g,0,none⟩) fs.length c1) fs B (bK pl i n) (out++F0.r::(F0.fr.take j).map (bK pl i n)) v9 wj)
    exact⟨0,Nat.zero_le _,rfl,rfl,by simpa using zA Jd⟩
    case round=>
     clear Jd;obtain⟨j,fp,xj,rfl,ax⟩:=hrel;obtain⟨a9',Xb,rfl⟩:=zD ax.row;have bj:=ax.below.size;have mO:=ax.facts (zA HF);obtain⟨g',dn,oc,-,aZ,-,-,hc⟩:=zb1 mO.row aF;injection oc with h1 h2 h3
     injection h1 with h1
     injection h1 with h1
     subst h1 h3;have p9:=hc 9 (by omega);have qo:=mO.each fs[i] (List.getElem_mem aF);rw[zA aC] at p9 qo;simp only[FG.cells,List.getElem?_cons_zero,List.getElem?_cons_succ] at p9;have mx:=qo.i;simp only[zym] at mx
     by_cases hlj:j<F0.fr.length
     ·obtain⟨gf,Xf,Q7,-,PY,XN,XO,q0⟩:=z3g mx j hlj;injection Q7 with h1 h2 h3
      subst h1 h3;have Dy:=KH _ (List.getElem_mem hlj);have QJ:=ax.place.cell _ Dy;have Uh:=ax.place.sz;have ay:=ax.row.alloc (.cells #[.int .u8 ((bK pl i n F0.fr[j]:Nat)%256)] 5);have hlen:(out++F0.r::(F0.fr.take j).map (bK pl i n)).length<=300:=(by simp;omega);have dJ:(out++F0.r::(F0.fr.take j).map (bK pl i n))++[bK pl i n F0.fr[j]]=out++F0.r::(F0.fr.take (j+1)).map (bK pl i n):=by
       rw[List.take_succ_eq_append_getElem hlj,List.map_append,List.map_cons,List.map_nil];simp only[List.append_assoc,List.cons_append]
      have uk:=zC dJ;have HH:=zC ax;clear ax hc mO qo mx dJ;generalize F0.fr[j]=x at *;generalize hS:bK pl i n x=y at *;generalize hO:out++F0.r::(F0.fr.take j).map (bK pl i n)=outj at *;go_wp2_with (at_builtin;refine wpList_append_own _ rfl _ _ 47 rfl (w.heap.size+1) 5 i0 _ 1 1 Tryz.underlying47 hi bL aY bg rfl (by decide) _ _ _ rfl ay ⟨wr.heap.size,0,none⟩ 1 1 [u8c y] rfl rfl (World.news_of_block (heap_alloc_new wr _)) (by intro u hu;rw[List.mem_singleton.1 hu];rfl) (by unfold maxLen;omega) (by omega) (by simp;omega) ?_);intro v6 w6 hown6 sN hne6;clear hne6;obtain⟨a6,c6,rfl⟩:=zD hown6;have Om:=zC ((zA HH).one sN hown6);clear hown6 sN;go_wp2_with fail;go_roundg (F0.fr.length-(j+1));exact⟨j+1,by omega,rfl,by go_num,by rw[<-zA uk];exact zA Om⟩;omega
     ·have hj:j=F0.fr.length:=(by omega);subst hj;rw[List.take_length] at ax;have HH:=zC ax;have hlen:(out++F0.r::F0.fr.map (bK pl i n)).length<=4*(i+1):=(by simp;omega);clear ax hc mO qo mx;generalize hO:out++F0.r::F0.fr.map (bK pl i n)=outj at *;go_wp2_with fail;go_roundg (fs.length-(i+1));exact⟨i+1,n+1,bK pl i n,_,by omega,rfl,by go_num,by go_num,by omega,hlen,zA HH,zA Cu⟩;omega
  ·have ve:i=fs.length:=(by omega);subst ve;have aE:zfv B (fs.map (·.F)) 0 0 (λ _=>0) []=(n,out):=(by rw[<-hrel,List.drop_of_length_le (by simp)];rfl);have QR:znp k (fs.map (·.F)) B=k::n::out:=(by unfold znp;rw[aE]);have rS:=zC QR;have bj:=ax.below.size;have QL:=ax.place.sz;have bX:(wr.alloc (.cells #[.int .u8 ((k:Int)%256),.int .u8 ((n:Int)%256)] 5)).ownsRow w.heap.size 5 1 (.slice (some ⟨wr.heap.size,0,none⟩) 2 2) 2 [u8c k,u8c n]:=World.ownsRow_lit wr _ 2 (by omega) (by unfold maxLen;omega) rfl;have dp:=ax.below.alloc (by omega) (.cells #[.int .u8 ((k:Int)%256),.int .u8 ((n:Int)%256)] 5);have IZ:=zC dp;have pT:=zC bX;clear La
   cases out with
   | nil=>
    have qk:=zC (z04 (wr.alloc (.cells #[.int .u8 ((k:Int)%256),.int .u8 ((n:Int)%256)] 5)) (some ⟨wr.heap.size,0,none⟩) 2 2 L9 a9 c9);clear hrel aE ax QR bX dp;go_wp2_with (at_builtin;go_must (refine zdh rfl _ _ _ rfl _ _ rfl rfl (zA qk) ?_));go_ret;exact⟨_,rfl,by rw[zA rS];exact zA pT,zA IZ⟩
   | cons x0 out0=>
    generalize hO:x0::out0=out at *;have aJ:0<out.length:=(by rw[<-hO];simp);obtain⟨g9,Xb,YQ,-⟩:=z3g ax.row 0 aJ;injection YQ with q1 q2 q3
    subst q1 q3;have dt:=zC (zsp (ax.row.alloc (.cells #[.int .u8 ((k:Int)%256),.int .u8 ((n:Int)%256)] 5)));have Aa:=zC (λ (w5:W8) (v:Value) (hg:(wr.alloc (.cells #[.int .u8 ((k:Int)%256),.int .u8 ((n:Int)%256)] 5)).grownBy w5 (Value.slice (some ⟨wr.heap.size,0,none⟩) 2 2).ownBlock)=>(show Below w.heap.size w w5 from zY dp (zK.aR hg) dp.size (λ b hm=>by simp[Value.ownBlock] at hm;omega)));clear hrel aE ax QR bX dp hO;go_wp2_with (at_builtin;go_must (refine wpList_append_own _ rfl _ _ 47 rfl w.heap.size 5 i0 _ 1 1 Tryz.underlying47 hi bL aY bg rfl (by decide) _ _ _ rfl (zA pT) ⟨g9,0,none⟩ out.length c9 (out.map u8c) rfl (by simp) (zA dt) (yd0 out) (by unfold maxLen;omega) (by omega) (by simp;omega) ?_));intro v5 w5 aq aU hne5;clear hne5;have Cq:=zC (zA Aa w5 v5 aU);obtain⟨a5,c5,rfl⟩:=zD aq;have CD:=zC aq;clear aq aU Aa;go_wp2_with fail;go_ret;refine⟨_,rfl,?_,zA Cq⟩;have e:(k::n::out).length=2+out.length:=(by rw[List.length_cons,List.length_cons];omega);rw[zA rS,e];exact zA CD
end
end Go.Proofs.YtldkpahaocjdpaaGreat
