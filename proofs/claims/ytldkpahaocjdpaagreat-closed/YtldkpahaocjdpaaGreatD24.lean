/-
  maps.Copy, where nothing that comes is there.
-/
import Derived.Test.YtldkpahaocjdpaaGreatD21
import Derived.Test.YtldkpahaocjdpaaGreatD18
import Derived.Test.YtldkpahaocjdpaaGreatD15
import Derived.Test.YtldkpahaocjdpaaGreatD22
import Derived.Test.YtldkpahaocjdpaaGreatD23
import Derived.Sort.OwnSorted
set_option maxHeartbeats 16000000
set_option maxRecDepth 1000000
namespace Go.Proofs.YtldkpahaocjdpaaGreat
section
open Go.RowKit Go.Maps
attribute [local go_sem ↓] vU xY xX xW
attribute [local go_sem] vD vC
theorem zrl {L:List (Th × Nat)}{t:Th}(h:∀ n,(t,n)∉L):z7 L t=none:=by
 cases hl:z7 L t with
 | none=>rfl
 | some n=>exact absurd (vP hl) (h n)
structure z8q (w:W8)(db sb rb:Nat)(D S:List (Th × Nat))(Lf:Th->Prop)(S1:List (Th × Nat))(dF:Nat)(wr:W8):Prop where
 rg:dq wr sb rb S Lf dF
 m:jA wr db (D++S1)
 mem:∀ p,p∈S1↔p∈S/\¬ Lf p.1
 len:S1.length+dF<=S.length
 k:yC [db] w wr
def z41 (w:W8)(db:Nat)(D S:List (Th × Nat))(en:Ending)(w':W8):Prop:=(∃ v,en=.returned v)/\yC [db] w w'/\∃ S',jA w' db (D++S')/\(∀ p,p∈S'↔p∈S)/\S'.length<=S.length
theorem z5z (w:W8)(db sb:Nat)(D S:List (Th × Nat))(hd:jA w db D)(hs:jA w sb S)(bG:db≠sb)(yw:∀ p∈S,z7 D p.1=none)(hl:D.length+S.length<=1000000):
  Calls Tryz.prog 100 #[.map (some db),.map (some sb)] w (z41 w db D S):=by
 have HD:=zC hd;have HS:=zC hs;have A1:=zC yw;have hdl:=hd.lt;have lJ:=hs.lt;clear hd yw;go_enter Tryz.func100,Tryz.ntmps100;go_wp2_with (first | (at_range;refine zh8 _ rfl _ 83 rfl Tryz.underlying83 sb S rfl hs ?_;intro w1 hrg1 eP js) | go_in)
 try go_frame
 have h0:z8q w db sb w.heap.size D S (λ _=>True) [] S.length w1:=by
  refine⟨hrg1,by rw[List.append_nil];exact (zA HD).kept eP (by simp),λ p=>⟨λ h=>absurd h List.not_mem_nil,λ h=>absurd trivial h.2⟩,by simp,⟨eP.os,eP.tape,eP.output,eP.size,λ j hj _=>eP.block j hj (by simp)⟩⟩
 clear hrg1 eP js hs
 go_loopg [] S.length (λ gg wr=>∃ (Lf:Th->Prop) (S1:List (Th × Nat)),z8q w db sb w.heap.size D S Lf S1 gg wr)
 exact⟨_,_,h0⟩
 case round=>
  clear h0;obtain⟨Lf,S1,ak⟩:=hrel;have jf:=ak.rg;have bt:=zC ak;clear ak;go_wp2_with (first | (at_next;refine zkh _ rfl _ rfl sb w.heap.size S Lf gk rfl jf ?_ ?_) | go_in)
  ·intro cF;have qv:=zC cF;clear cF jf;go_wp2_with fail;go_end0;have ak:=zA bt;exact⟨⟨_,rfl⟩,ak.k,S1,ak.m,λ p=>⟨λ h=>((ak.mem p).1 h).1,λ h=>(ak.mem p).2 ⟨h,zA qv p.1.1 p.1.2 p.2 h⟩⟩,by have:=ak.len;omega⟩
  ·intro tp tts n w2 cnt2 gZ kV hrg2 gX dd lj hen2;generalize ((tp,tts):Th)=t at *;have ak:=zA bt;have du:=ak.k.size;have hT:zbj t:=ak.rg.map.ok _ gZ;have eG:jA w2 db (D++S1):=ak.m.kept dd (by simp;omega);have cP:z7 (D++S1) t=none:=zrl λ m hm=>by
    rcases List.mem_append.1 hm with hm | hm
    ·exact j8 (zA A1 _ gZ) m hm
    ·exact ((ak.mem _).1 hm).2 kV
   have fX:zia (D++S1) t n=D++(S1++[(t,n)]):=(by unfold zia;rw[cP,List.append_assoc];rfl);have hlen:=ak.len;have HT:=zC hT;have iU:=zC hrg2;have A6:=zC dd;have Bt:=zC fX;have fU:=zC gZ;have Ee:=zC kV;have vt:=zC (eG.alloc (.cells (zJ t).toArray 88));have gK:=(TV.new w2 t).load;have ik:(D++S1).length<maxLen:=(by unfold maxLen;rw[List.length_append];omega);clear lj jf hrg2 dd eG cP fX gZ kV ak hT;go_wp2_with (at_mapUpdate;refine zu1 _ rfl _ _ _ 83 rfl Tryz.underlying83 db (D++S1) rfl (zA vt) ik t n rfl rfl (zA HT) ?_;intro w3 ey ki);rw[zA Bt] at ey;have mW:=zC ey;have tO:=zC ki;clear ey ki gK hen2;go_wp2_with fail;go_roundg cnt2
   case measure=>omega
   case rel=>
    have ak:=zA bt;have g2:=zA A6;have g3:=(zA tO).grown;have gk0:w.heap.size<=wr.heap.size:=du;refine⟨λ x=>Lf x/\¬ x=t,S1++[(t,n)],⟨?_,zA mW,λ p=>?_,by rw[List.length_append];simp;omega,?_⟩⟩
    ·have r2:=zA iU;refine r2.blocks ?_ ?_
     ·rw[g3.block sb (by have:=r2.map.lt;simp;omega) (by simp;omega),Below.heap_alloc _ _ _ r2.map.lt]
     ·rw[g3.block w.heap.size (by have:=r2.lt;simp;omega) (by simp;omega),Below.heap_alloc _ _ _ r2.lt]
    ·rw[List.mem_append,ak.mem]
     constructor
     ·rintro (⟨h1,h2⟩ | h1)
      ·exact⟨h1,λ h=>h2 h.1⟩
      ·rw[List.mem_singleton.1 h1];exact⟨zA fU,λ h=>h.2 rfl⟩
     ·rintro⟨h1,h2⟩
      by_cases e:p.1=t
      ·right
       have h3:=zaf (ak.rg.map.nodup) h1;have h4:=zaf (ak.rg.map.nodup) (zA fU);have e1:p.2=n:=by
        have:z7 S p.1=some n:=by rw[e];exact h4
        exact Option.some.inj (h3.symm.trans this)
       rw[List.mem_singleton,<-e,<-e1]
      ·left
       exact⟨h1,λ h=>h2 ⟨h,e⟩⟩
    ·have k2:yC [db] w w2:=ak.k.grown g2 (λ i e=>by cases e;left;omega);exact (k2.alloc _).grown g3 (λ i e=>by cases e;right;simp)
end
section
open Go.RowKit Go.Maps
def lN (w w':W8):Prop:=∀ (b:Nat) (cs:Array Value) (t:TypeId) (fr:Nat × Nat),w.heap[b]?=some (Obj.cells cs t fr)->w'.heap[b]?=some (Obj.cells cs t fr)
variable {base:Nat} {w w':W8}
theorem lN.row (h:lN w w'){e:TypeId}{size:Nat}{v:Value}{n:Nat}{xs:V8}(hr:w.ownsRow base e size v n xs):w'.ownsRow base e size v n xs:=by
 refine zP hr λ g hg=>?_
 rcases hr.2 with⟨h0,_⟩ | ⟨g',cap,cur,rfl,hb,jo,_⟩
 ·rw[h0] at hg;cases hg
 ·have e:g'=g:=by simpa[Value.ownBlock] using hg
  subst e;exact (h _ _ _ _ jo).trans jo.symm
theorem lN.DI (h:lN w w'){bv:Value}{ls:List (yX × Value)}(hr:aK w base bv ls):aK w' base bv ls:=⟨h.row hr.row,λ x hx=>h.row (hr.each x hx)⟩
variable {rs:List PR}
theorem lN.DN (h:lN w w'){rv:Value}(hr:aD w base rv rs):aD w' base rv rs:=⟨h.row hr.row,λ r hm=>⟨h.row (hr.each r hm).hd,h.DI (hr.each r hm).bo,(hr.each r hm).eq⟩⟩
variable {K:List (Th × Nat)}
theorem lN.rB {kb:Nat}(hm:jA w kb K)(k:yC [kb] w w'):lN w w':=λ b cs t fr hb=>by
 refine (k.block b (Array.getElem?_eq_some_iff.1 hb).1 ?_).trans hb;simp only[List.mem_singleton];rintro rfl;obtain⟨es,c,h⟩:=hm.isMap;rw[hb] at h;cases h
inductive za0 (rs:List PR)(limit:Nat):Nat->List (Th × Nat)->Option (List (Th × Nat))->Prop
 | fk {h:Nat} {K:List (Th × Nat)} (L:List Th):L.Nodup->(∀ t∈L,zmn rs K t)->limit<K.length+L.length->za0 rs limit h K none
 | done {h:Nat} {K:List (Th × Nat)}:(∀ t,¬ zmn rs K t)->za0 rs limit h K (some K)
 | more {h:Nat} {K L:List (Th × Nat)} {r:Option (List (Th × Nat))}:L≠[]->(L.map (·.1)).Nodup->(∀ p∈L,p.2=h)->(∀ t,(∃ n,(t,n)∈L)↔zmn rs K t)->K.length+L.length<=limit->za0 rs limit (h+1) (K++L) r->za0 rs limit h K r
def eT (rs:List PR)(TI:Th->Prop):Prop:=∀ K:List (Th × Nat),(∀ p∈K,TI p.1)->∀ r∈rs,zu9 K r/\∀ e∈zQ K (zK r.bs) [],TI (zT e (vJ r))
theorem eT.new {TI:Th->Prop}(h:eT rs TI)(hK:∀ p∈K,TI p.1){t:Th}(ht:zmn rs K t):TI t:=by
 obtain⟨_,r,hr,e,he,rfl⟩:=ht;exact (h K hK r hr).2 e (List.mem_filter.1 he).1
structure zzl (w:W8)(kb base:Nat)(rv:Value)(rs:List PR)(limit:Nat)(TI:Th->Prop)(K0:List (Th × Nat))(n:Nat)(K:List (Th × Nat))(wr:W8):Prop where
 m:jA wr kb K
 ti:∀ p∈K,TI p.1
 len:K.length<=limit
 k:yC [kb] w wr
 n0:1<=n
 n1:n<=K.length+1
 rel:∀ r,za0 rs limit n K r->za0 rs limit 1 K0 r
def zzm (w:W8)(kb:Nat)(rs:List PR)(limit:Nat)(TI:Th->Prop)(K:List (Th × Nat))(en:Ending)(w':W8):Prop:=
 ∃ r,za0 rs limit 1 K r/\en=.returned (.bool r.isSome)/\yC [kb] w w'/\∀ K',r=some K'->jA w' kb K'/\(∀ p∈K',TI p.1)/\K'.length<=limit
theorem z0o (w:W8)(kb base:Nat)(ar:O8)(cr:Nat)(rs:List PR)(limit:Nat)(TI:Th->Prop)(K:List (Th × Nat))(hm:jA w kb K)(hr:aD w base (.slice ar rs.length cr) rs)(oX:eT rs TI)(Gc:∀ p∈K,TI p.1)(hK:K.length<=limit)(hl:limit<=50):
  Calls Tryz.prog 60 #[.map (some kb),.slice ar rs.length cr,.int .i64 (limit:Nat)] w (zzm w kb rs limit TI K):=by
 have HM:=zC hm;have HR:=zC hr;have pZ:=zC oX;have h0:zzl w kb base (.slice ar rs.length cr) rs limit TI K 1 K w:=⟨hm,Gc,hK,yC.refl _ _,Nat.le_refl _,by omega,λ _ h=>h⟩;have H0:=zC h0;have du:=hm.lt;clear hm hr oX Gc hK h0;go_enter Tryz.func60,Tryz.ntmps60;go_wp2_with fail
 go_loopg [7] (limit+1-K.length) (λ gg hv wr=>∃ (n:Nat) (K':List (Th × Nat)),gg=limit+1-K'.length/\hv=.int .i64 (n:Nat)/\zzl w kb base (.slice ar rs.length cr) rs limit TI K n K' wr)
 exact⟨1,K,rfl,rfl,zA H0⟩
 case round=>
  clear H0;obtain⟨n,K',fM,rfl,ak⟩:=hrel;have sl:=ak.len;have lH:=ak.n1;have HN:=zC (z6w wr kb base ar cr rs K' n limit ak.m ((lN.rB (zA HM) ak.k).DN (zA HR)) (λ r hr=>(zA pZ K' ak.ti r hr).1) ak.len hl);have bt:=zC ak;clear ak;have nU:=zC (λ (w1:W8) (aT:Below wr.heap.size wr w1)=>(zA bt).m.block (aT.block kb (zA bt).m.lt));have Jz:=(zA bt).m.lt;go_wp2_with fail;refine (zA HN).mono ?_;rintro en w1 ⟨aT,⟨fb,L,rfl,jd,LO,hh,eQ,hlen⟩ | ⟨rfl,L,dB,dJ,Dg⟩⟩
  ·have uB:=LO.len Tryz.underlying83;have G4:=zC (z5z w1 kb fb K' L (zA nU w1 aT) LO (by omega) (λ p hp=>((eQ p.1).1 (by rw[zaf LO.nodup hp];rfl)).1) (by omega));have cR:=zC aT;have HH:=zC hh;have oB:=zC eQ;have Ho:=zC LO;have bq:=aT.size;clear aT hh eQ LO
   cases hL:L with
   | nil=>
    subst hL;go_wp2_with fail;go_ret;have ak:=zA bt;exact⟨some K',ak.rel _ (.done λ t ht=>by have:=(zA oB t).2 ht;cases this),rfl,ak.k.aF (zA cR),λ K2 e=>by cases e;exact⟨zA nU w1 (zA cR),ak.ti,ak.len⟩⟩
   | cons p tl=>
    have hz:(L.length:Int)≠0:=(by rw[hL];simp;omega);have bn:0<L.length:=(by rw[hL];simp);clear hL;go_wp2_with (go_at_call 100;refine (zA G4).mono ?_;rintro en w2 ⟨⟨v2,rfl⟩,cN,S',eG,lj,lG⟩;have ky:=zC cN;have vt:=zC eG;have Ad:=zC lj;clear cN eG lj);have im:0<S'.length:=by
     cases hS:S' with
     | nil=>
      exfalso
      cases hL:L with
      | nil=>rw[hL] at bn;simp at bn
      | cons q tl=>have:=(zA Ad q).2 (by rw[hL];exact List.mem_cons_self);rw[hS] at this;cases this
     | cons q tl=>simp
    have eQ:∀ t,(∃ m,(t,m)∈S')↔zmn rs K' t:=λ t=>by
     rw[<-zA oB t]
     constructor
     ·rintro⟨m,hm⟩;rw[zaf (zA Ho).nodup ((zA Ad _).1 hm)];rfl
     ·intro h;obtain⟨m,hm⟩:=Option.isSome_iff_exists.1 h;exact⟨m,(zA Ad _).2 (vP hm)⟩
    go_roundg (limit+1-(K'++S').length)
    case measure=>rw[List.length_append];omega
    case rel=>
     have ak:=zA bt;refine⟨n+1,K'++S',rfl,by go_num,zA vt,λ q hq=>?_,by rw[List.length_append];omega,(ak.k.aF (zA cR)).trans (zA ky),by omega,by rw[List.length_append];omega,λ r hr=>ak.rel r (.more (λ e=>by rw[e] at im;simp at im) (by have dB:=(zA vt).nodup;rw[List.map_append,List.nodup_append] at dB;exact dB.2.1) (λ q hq=>zA HH q ((zA Ad q).1 hq)) eQ (by omega) hr)⟩;rcases List.mem_append.1 hq with hq | hq
     ·exact ak.ti q hq
     ·exact (zA pZ).new ak.ti ((eQ q.1).1 ⟨q.2,hq⟩)
  ·have cR:=zC aT;clear aT;go_wp2_with fail;go_ret;have ak:=zA bt;exact⟨none,ak.rel _ (.fk L dB dJ Dg),rfl,ak.k.aF (zA cR),λ K2 e=>by cases e⟩
end
section
open Go.RowKit Go.Maps
attribute [local go_sem ↓] vU xY xX xW
attribute [local go_sem] vD vC
theorem z0h (w:W8)(base:Nat)(pd:B8)(a:O8)(c:Nat)(ts:List (Bool × B8))(h:w.ownsRow base 191 1 (.slice a ts.length c) ts.length (yP ts))(hlen:(zbv pd ts).length<=1000000000):
  Calls Tryz.prog 102 #[.agg #[.string pd,.slice a ts.length c]] w λ e w'=>e=.returned (.string ⟨(zbv pd ts).toArray⟩)/\Below w.heap.size w w':=by
 have b1:=(Below.refl w.heap.size w).alloc L9 (.cells #[.string pd,.slice a ts.length c] 79);have h0:Holds (w.heap.size+1) (w.heap.size+1) [] ((w.alloc (.cells #[.string pd,.slice a ts.length c] 79)).alloc (.cells #[.pointer none,.slice none 0 0] 155)):=by
  have:=Lib.fresh_isBuilder 155 5 (w.alloc (.cells #[.string pd,.slice a ts.length c] 79));rw[World.size_alloc] at this;exact this
 have b0:=b1.alloc (by simp) (.cells #[.pointer none,.slice none 0 0] 155);have hr:=zG h b0 (λ g e=>(h.lt g e).2);have HW:=zC (z4n (w.heap.size+1) (w.heap.size+1) [] pd a c base ts _ h0 hr (by simpa using hlen) (by simp));have gd:=zC b0;clear h h0 b0 b1 hr;go_enter Tryz.func102,Tryz.ntmps102;go_wp2_with (go_at_call 110;refine (zA HW).mono ?_;rintro e w1 ⟨rfl,h1,aT,-,cB⟩);refine (Tryz.Builder_String_any (w.heap.size+1) (w.heap.size+1) _ _ h1 cB).mono ?_;rintro e w2 ⟨rfl,aU⟩;have HB:=zC ((zA gd).trans ((aT.trans aU).mono (by omega)));clear h1 aT cB aU;go_wp2_with fail;go_ret;exact⟨rfl,zA HB⟩
def xE (t:Th):List (Bool × B8):=t.2.map λ x=>(false,x)
def yI (t:Th):B8:=⟨(zbv t.1 (xE t)).toArray⟩
structure ydr (w:W8)(t:Th)(l:List B8)(tv:Value)(wr:W8):Prop where
 th:TV wr w.heap.size t
 at_:wr.heap[w.heap.size+1]?=some (.cells #[.string t.1,tv] 79 (0,0))
 row:wr.ownsRow (w.heap.size+1+1) 191 1 tv l.length (yP (l.map λ x=>(false,x)))
 k:Below w.heap.size w wr
theorem zmd (s:B8):s.toList.length=s.size:=by rw[ByteArray.toList_eq];exact zfg s
theorem ybr {w:W8}{t:Th}{l:List B8}{a1 a5:O8}{c1 c5:Nat}{wr w5:W8}{o:Obj}{x:B8}(sU:w.heap.size+1<wr.heap.size)(aI:w5.ownsRow (w.heap.size+1+1) 191 1 (.slice a5 (l.length+1) c5) (l.length+1) (yP (l.map λ x=>(false,x))++[zdg false x]))(hg:(wr.alloc o).grownBy w5 (Value.slice a1 l.length c1).ownBlock)(h:ydr w t l (.slice a1 l.length c1) wr):
  ydr w t (l++[x]) (.slice a5 (l++[x]).length c5) (w5.setCell ⟨w.heap.size+1,1,none⟩ (.slice a5 (l.length+1) c5))/\w5.heap[w.heap.size+1]?=some (.cells #[.string t.1,.slice a1 l.length c1] 79 (0,0)):=by
 have hb:∀ i,i<=w.heap.size+1->w5.heap[i]?=wr.heap[i]?:=λ i hi=>by
  rw[hg.block i (by simp;omega) (λ e=>by have:=(h.row.lt i e.symm).1;omega),Below.heap_alloc _ _ _ (by omega)]
 have gT:=(hb _ L9).trans h.at_;refine⟨⟨?_,?_,?_,?_⟩,gT⟩
 ·show _=_
  rw[Below.heap_setCell _ _ _ _ (by simp)];exact (hb _ (by omega)).trans h.th
 ·rw[setCell_eq_setRow w5 _ _ _ _ (0,0) _ gT,setRow_heap _ _ _ _ _ _ gT];simp
 ·have e1:(l++[x]).length=l.length+1:=by simp
  have e2:yP ((l++[x]).map λ x=>(false,x))=yP (l.map λ x=>(false,x))++[zdg false x]:=by simp[yP]
  rw[e1,e2];exact zP aI (λ g jo=>Below.heap_setCell _ _ _ _ (by have:=(aI.lt g jo).1;simp;omega))
 ·have h5:Below w.heap.size w w5:=⟨hg.os.trans h.k.os,hg.tape.trans h.k.tape,hg.output.trans h.k.output,Nat.le_trans h.k.size (Nat.le_trans (by simp) hg.size),λ i hi=>(hb i (by omega)).trans (h.k.block i hi)⟩;exact h5.setCell (p:=⟨w.heap.size+1,1,none⟩) (by simp) _
theorem zn4 (w:W8)(t:Th)(ht:zbj t)(hlen:(zbv t.1 (xE t)).length<=1000000000):
  Calls Tryz.prog 63 #[thV t] w λ e w'=>e=.returned (.string (yI t))/\Below w.heap.size w w':=by
 obtain⟨i0,hi,dK,cB,bZ⟩:=info_parts zrd;obtain⟨ct,eM⟩:∃ ct,ct=(zJ t).toArray:=⟨_,rfl⟩;have fw:=zC eM;unfold thV;rw[<-eM];clear eM;have HT:=zC ht;clear ht;have c0:(w.alloc (.cells ct 88)).cell? ⟨w.heap.size,0,none⟩=some (.string t.1):=by
  rw[(zB (heap_alloc_new w (.cells ct 88)) 0).1,zA fw];rfl
 go_enter Tryz.func63,Tryz.ntmps63;go_upto_region 2 with fail;generalize hw0:World.alloc (World.alloc w _) _=w0;have h0:ydr w t [] (.slice none 0 0) w0:=by
  have k0:Below w.heap.size w ((w.alloc (.cells ct 88)).alloc (.cells #[.string t.1,.slice none 0 0] 79)):=(B9.alloc L9 _).alloc (by simp) _;rw[<-hw0];refine⟨?_,?_,World.ownsRow_nil _ _ _ _,k0⟩
  ·show _=_
   rw[Below.heap_alloc _ _ _ (by simp),<-zA fw];exact heap_alloc_new w _
  ·have:=heap_alloc_new (w.alloc (.cells ct 88)) (.cells #[.string t.1,.slice none 0 0] 79);rw[World.size_alloc] at this;exact this
 have H0:=zC h0;have Dw:w.heap.size+1<w0.heap.size:=(Array.getElem?_eq_some_iff.1 h0.at_).1;clear hw0 c0 h0;go_wp2_with fail
 go_loopg [11] 4 (λ gg i wr=>∃ (k:Nat) (l:List B8) (tv:Value),k<=4/\gg=4-k/\i=.int .i64 (k:Nat)/\l=t.2.take k/\ydr w t l tv wr)
 exact⟨0,[],_,by omega,rfl,rfl,rfl,zA H0⟩
 case round=>
  clear H0;obtain⟨k,l,tv,hk,fM,rfl,hl,ak⟩:=hrel;obtain⟨a1,kN,rfl⟩:=zE ak.row;have sU:w.heap.size+1<wr.heap.size:=(Array.getElem?_eq_some_iff.1 ak.at_).1;have bt:=zC ak;have ik:l.length<=4:=by rw[hl];simp;omega
  have HL:=zC hl;obtain⟨q0,z0⟩:=zB ak.at_ 0;obtain⟨q1,z1⟩:=zB ak.at_ 1;simp only[List.getElem?_toArray,List.getElem?_cons_zero,List.getElem?_cons_succ] at q0 q1
  by_cases aN:k<4
  ·have dV:wr.cell? ⟨w.heap.size,1+k,none⟩=some (.string (xF t.2 k)):=by
    rw[(zB ak.th (1+k)).1,List.getElem?_toArray];exact zcj t aN
   have gW:(k:Int)<4:=(by omega);clear ak hl
   by_cases bP:k<t.2.length
   ·have bG:((xF t.2 k).toList==[])=false:=by
     have gj:0<(xF t.2 k).size:=zps (zA HT) bP
     cases hq:(xF t.2 k).toList==[] with
     | false=>rfl
     | true=>rw[beq_iff_eq] at hq;have h2:=zmd (xF t.2 k);rw[hq] at h2;simp at h2;omega
    have aE:=(zA bt).row;have Hl:=zC (show t.2.take (k+1)=l++[xF t.2 k] by rw[List.take_succ_eq_append_getElem bP,zA HL];congr 2;unfold xF;rw[List.getElem?_eq_getElem bP];rfl);go_wp2_with (at_builtin;refine wpList_append_own _ rfl _ _ 77 rfl (w.heap.size+1+1) 191 i0 _ 1 16 Tryz.underlying77 hi dK cB bZ rfl (by decide) _ _ _ rfl (aE.alloc _) ⟨wr.heap.size,0,none⟩ 1 1 [zdg false (xF t.2 k)] rfl rfl (zug wr _) (z20 _ _) (by unfold maxLen;omega) (by omega) (by simp;omega) ?_;intro v5 w5 hown5 dz hne5;clear hne5;obtain⟨a5,gz,rfl⟩:=zE hown5;obtain⟨r1,r2⟩:=ybr sU hown5 dz (zA bt);obtain⟨y1,x1⟩:=zB r2 1;simp only[List.getElem?_toArray,List.getElem?_cons_zero,List.getElem?_cons_succ] at y1;have H5:=zC r1;have H6:=zC r2;clear hown5 dz r1 r2);go_roundg (4-(k+1));exact⟨k+1,l++[xF t.2 k],_,by omega,rfl,by go_num,(zA Hl).symm,(zA H5)⟩;omega
   ·have bG:((xF t.2 k).toList==[])=true:=by
     have h2:=zmd (xF t.2 k);rw[zll (l:=t.2) (i:=k) (by omega)] at h2;rw[beq_iff_eq];exact List.length_eq_zero_iff.1 h2
    go_wp2_with fail;go_roundg (4-(k+1));exact⟨k+1,l,_,by omega,rfl,by go_num,by rw[zA HL,List.take_of_length_le (by omega),List.take_of_length_le (by omega)],zA bt⟩;omega
  ·have bP:l=t.2:=(by rw[hl,List.take_of_length_le];have hfw:t.2.length<=4:=(zA HT).ft;omega);have aE:=ak.row;have HC:=zC (z0h wr (w.heap.size+1+1) t.1 a1 kN (xE t) (by unfold xE;rw[List.length_map,<-bP];exact aE) hlen);have sw:(xE t).length=l.length:=(by unfold xE;rw[List.length_map,bP]);rw[sw] at HC;have HK:=zC ak.k;clear ak hl aE bP sw;go_wp2_with (go_at_call 102;refine (zA HC).mono ?_;rintro e w2 ⟨rfl,aU⟩;have ep:=zC aU;clear aU);go_ret;exact⟨rfl,(zA HK).trans ((zA ep).mono (zA HK).size)⟩
end
section
open Go.RowKit Go.Sort
theorem ybj (zs:List B8):(zs.map Value.string)=(zs.map λ s=>s.data.toList).map encStr:=by
 rw[List.map_map];refine List.map_congr_left λ s _=>?_
 simp[encStr]
def zcp (zs:List B8):List (List UInt8):=(zs.map λ s=>s.data.toList).mergeSort λ x y=>decide (x<=y)
def zw7 (w:W8)(base:Nat)(zs:List B8)(v:Value)(e:Ending)(w':W8):Prop:=
 e=.returned (.tuple #[])/\w'.ownsRow base 9 1 v zs.length ((zcp zs).map encStr)/\w.grownBy w' v.ownBlock
theorem z3t (w:W8)(base:Nat)(a:O8)(c:Nat)(zs:List B8)(h:w.ownsRow base 9 1 (.slice a zs.length c) zs.length (zs.map Value.string))(hl:zs.length<=1000000):
  Calls Tryz.prog 64 #[.slice a zs.length c] w (zw7 w base zs (.slice a zs.length c)):=by
 rcases h.2 with⟨pt,h0⟩ | ⟨g,cap,cur,hv,bO,hb,h1,h2,h3,h4⟩
 ·have hz:zs=[]:=List.length_eq_zero_iff.1 h0;subst hz;refine (Tryz.slices_Sort_string_none a c w).mono ?_;rintro e w' ⟨rfl,rfl⟩;refine⟨rfl,by rw[show zcp []=[] from by simp[zcp]];exact h,⟨rfl,rfl,rfl,Nat.le_refl _,λ _ _ _=>rfl⟩⟩
 ·injection hv with e1 e2 e3
  subst e1 e3;have hlen:(zs.map λ s=>s.data.toList).length=zs.length:=by simp
  rw[ybj] at h4;have hH:Go.Sort.Holds encStr w g 0 (zs.map λ s=>s.data.toList).toArray:=holds_of_block hb (by rw[hlen];simpa using h4);have:=Tryz.slices_Sort_string g 0 c (zs.map λ s=>s.data.toList) w hH (Array.getElem?_eq_some_iff.1 hb).1 (by rw[hlen];omega);rw[hlen] at this;refine this.mono ?_;rintro e w' ⟨rfl,n,os,rfl⟩;refine⟨rfl,?_,?_⟩
  ·have:=ownsRow_sorted (w:=w) (n:=n) (os:=os) (ss:=zs.map λ s=>s.data.toList) (ts:=zcp zs) (by simp[zcp]) bO hb (by rw[hlen];exact h1) h2 h3;rw[hlen] at this;exact this
  ·exact grownBy_sorted _
end
section
open Go.RowKit Go.Maps
attribute [local go_sem ↓] qR jO qP xQ vU xY xX xW
attribute [local go_sem] jC qB vD vC
def zk8 (A:yY)(p:Th × Nat):Bool:=(zV [] A p.1).isSome
theorem zhu {L:List (Th × Nat)}(h:(L.map (·.1)).Nodup):L.Nodup:=by
 induction L with
 | nil=>simp
 | cons x r ih=>
  rw[List.map_cons,List.nodup_cons] at h;exact List.nodup_cons.2 ⟨λ hm=>h.1 (List.mem_map_of_mem hm),ih h.2⟩
theorem yat {K ts:List (Th × Nat)}{A:yY}{Lf:Th->Prop}(hm:∀ p,p∈ts↔p∈K/\¬ Lf p.1/\zk8 A p=true){t:Th}{n:Nat}(ht:(t,n)∈K)(hK:(K.map (·.1)).Nodup):(zk8 A (t,n)=true->∀ p,p∈ts++[(t,n)]↔p∈K/\¬ (Lf p.1/\¬ p.1=t)/\zk8 A p=true)/\(zk8 A (t,n)=false->∀ p,p∈ts↔p∈K/\¬ (Lf p.1/\¬ p.1=t)/\zk8 A p=true):=by
 have key:∀ p∈K,p.1=t->p=(t,n):=λ p hp e=>by
  have h1:=zaf hK hp;have h2:=zaf hK ht;rw[e,h2] at h1;have h3:=Option.some.inj h1;exact Prod.ext e h3.symm
 constructor
 ·intro hh p;rw[List.mem_append,hm]
  constructor
  ·rintro (⟨h1,h2,h3⟩ | h1)
   ·exact⟨h1,λ h=>h2 h.1,h3⟩
   ·rw[List.mem_singleton.1 h1];exact⟨ht,λ h=>h.2 rfl,hh⟩
  ·rintro⟨h1,h2,h3⟩
   by_cases e:p.1=t
   ·right;rw[key p h1 e];exact List.mem_singleton.2 rfl
   ·left;exact⟨h1,λ h=>h2 ⟨h,e⟩,h3⟩
 ·intro hh p;rw[hm]
  constructor
  ·rintro⟨h1,h2,h3⟩;exact⟨h1,λ h=>h2 h.1,h3⟩
  ·rintro⟨h1,h2,h3⟩;refine⟨h1,λ h=>h2 ⟨h,λ e=>?_⟩,h3⟩;rw[key p h1 e,hh] at h3;cases h3
structure yeq (w:W8)(kb rb:Nat)(A:yY)(aa:O8)(ac:Nat)(K:List (Th × Nat))(Lf:Th->Prop)(ts:List (Th × Nat))(v:Value)(dF:Nat)(wr:W8):Prop where
 rg:dq wr kb rb K Lf dF
 at_:wr.heap[w.heap.size]?=some (.cells #[.string A.p,.slice aa A.ts.length ac] 79 (0,0))
 mem:∀ p,p∈ts↔p∈K/\¬ Lf p.1/\zk8 A p=true
 nd:ts.Nodup
 len:ts.length+dF<=K.length
 row:wr.ownsRow (w.heap.size+1+1) 9 1 v ts.length ((ts.map λ p=>yI p.1).map Value.string)
 k:Below w.heap.size w wr
def zqk (w:W8)(A:yY)(K:List (Th × Nat))(e:Ending)(w':W8):Prop:=
 ∃ (zs:List B8) (a:O8) (c:Nat),e=.returned (.slice a zs.length c)/\zs.Perm ((K.filter (zk8 A)).map λ p=>yI p.1)/\w'.ownsRow w.heap.size 9 1 (.slice a zs.length c) zs.length ((zcp zs).map encStr)/\Below w.heap.size w w'
theorem zrp (w:W8)(kb base:Nat)(A:yY)(aa:O8)(ac:Nat)(K:List (Th × Nat))(hm:jA w kb K)(hr:w.ownsRow base 191 1 (.slice aa A.ts.length ac) A.ts.length (A.ts.map zaz))(h4:A.ts.length<=4)(hK:K.length<=1000)(zx:∀ p∈K,(zbv p.1.1 (xE p.1)).length<=1000000000):
  Calls Tryz.prog 39 #[.map (some kb),.agg #[.string A.p,.slice aa A.ts.length ac]] w (zqk w A K):=by
 obtain⟨i0,hi,dK,cB,bZ⟩:=info_parts zbq;have HR:=zC hr;have KY:=zC zx;have du:=hm.lt;have HM:=zC hm;clear hr zx hm;go_enter Tryz.func39,Tryz.ntmps39;go_upto_region 2 with fail;generalize hw0:World.alloc w _=w0;have k0:Below w.heap.size w w0:=by rw[<-hw0];exact (Below.refl w.heap.size w).alloc L9 _
 have x0:w0.heap[w.heap.size]?=some (.cells #[.string A.p,.slice aa A.ts.length ac] 79 (0,0)):=by rw[<-hw0];exact heap_alloc_new w _
 have s0:w0.heap.size=w.heap.size+1:=by rw[<-hw0];simp
 have nE:jA w0 kb K:=(zA HM).block (k0.block _ du);have gM:=zC k0;have qb:=zC x0;have fH:=zC s0;clear hw0 k0 x0 s0;go_wp2_with (first | (at_range;refine zh8 _ rfl _ 83 rfl Tryz.underlying83 kb K rfl nE ?_;intro w1 hrg1 eP js) | go_in)
 try go_frame
 have h0:yeq w kb w0.heap.size A aa ac K (λ _=>True) [] (.slice none 0 0) K.length w1:=by
  have s0:=zA fH;refine⟨hrg1,(eP.block _ (by omega) (by simp)).trans (zA qb),λ p=>⟨λ h=>absurd h List.not_mem_nil,λ h=>absurd trivial h.2.1⟩,by simp,by simp,World.ownsRow_nil _ _ _ _,⟨eP.os.trans (zA gM).os,eP.tape.trans (zA gM).tape,eP.output.trans (zA gM).output,Nat.le_trans (zA gM).size eP.size,λ j hj=>(eP.block j (by omega) (by simp)).trans ((zA gM).block j hj)⟩⟩
 have H0:=zC h0;clear hrg1 eP js nE h0
 go_loopg [5] K.length (λ gg v wr=>∃ (Lf:Th->Prop) (ts:List (Th × Nat)),yeq w kb w0.heap.size A aa ac K Lf ts v gg wr)
 exact⟨_,_,zA H0⟩
 case round=>
  clear H0;obtain⟨Lf,ts,ak⟩:=hrel;obtain⟨a1,c1,rfl⟩:=zE ak.row;have jf:=ak.rg;have Dv:=ak.rg.lt;have sU:w.heap.size+1<wr.heap.size:=by have:=zA fH;omega
  clear Dv;have hlen:=ak.len;have bt:=zC ak;clear ak;go_wp2_with (first | (at_next;refine zkh _ rfl _ rfl kb w0.heap.size K Lf gk rfl jf ?_ ?_) | go_in)
  ·intro cF;have HD:=zC cF;have ak:=zA bt;have jz:((ts.map λ p=>yI p.1)).length=ts.length:=(by simp);have aE:=ak.row;rw[<-jz] at aE;have HS:=zC (z3t wr (w.heap.size+1+1) a1 c1 (ts.map λ p=>yI p.1) aE (by rw[jz];omega));rw[jz] at HS;clear cF jf ak aE;go_wp2_with (go_at_call 64;refine (zA HS).mono ?_;rintro e w2 ⟨rfl,sF,dd⟩;have Bk:=zC sF;have A6:=zC dd;clear sF dd);go_ret;have ak:=zA bt;have g2:=zA A6;refine⟨ts.map λ p=>yI p.1,a1,c1,by rw[jz];rfl,List.Perm.map _ ((List.perm_ext_iff_of_nodup ak.nd ((zhu ak.rg.map.nodup).filter _)).2 λ p=>?_),?_,?_⟩
   ·rw[ak.mem,List.mem_filter];exact⟨λ ⟨h1,_,h3⟩=>⟨h1,h3⟩,λ ⟨h1,h3⟩=>⟨h1,zA HD p.1.1 p.1.2 p.2 h1,h3⟩⟩
   ·rw[jz];have:=zA Bk;rw[jz] at this;exact zI this (by omega)
   ·exact⟨g2.os.trans ak.k.os,g2.tape.trans ak.k.tape,g2.output.trans ak.k.output,Nat.le_trans ak.k.size g2.size,λ i hi=>(g2.block i (by omega) (λ e=>by have:=(ak.row.lt i e.symm).1;omega)).trans (ak.k.block i hi)⟩
  ·intro tp tts n w2 cnt2 gZ kV hrg2 gX dd lj hen2;generalize ((tp,tts):Th)=t at *;have ak:=zA bt;have s0:=zA fH;have k2:Below w.heap.size w w2:=⟨dd.os.trans ak.k.os,dd.tape.trans ak.k.tape,dd.output.trans ak.k.output,Nat.le_trans ak.k.size dd.size,λ i hi=>(dd.block i (by omega) (by simp;omega)).trans (ak.k.block i hi)⟩;have a2:w2.heap[w.heap.size]?=some (.cells #[.string A.p,.slice aa A.ts.length ac] 79 (0,0)):=(dd.block _ (by omega) (by simp;omega)).trans ak.at_;have r2:w2.ownsRow (w.heap.size+1+1) 9 1 (.slice a1 ts.length c1) ts.length ((ts.map λ p=>yI p.1).map Value.string):=zP ak.row (λ g e=>dd.block g (ak.row.lt g e).2 (λ e2=>by have:=(ak.row.lt g e).1;injection e2 with e2;omega));have hT:zbj t:=ak.rg.map.ok _ gZ;have kj:wr.heap.size<=w2.heap.size:=dd.size;have k3:Below w2.heap.size w2 (w2.alloc (.cells (zJ t).toArray 88)):=B9.alloc L9 _;have Gu:Below w.heap.size w (w2.alloc (.cells (zJ t).toArray 88)):=k2.trans (k3.mono k2.size);have HM:=zC (zfs (w2.alloc (.cells (zJ t).toArray 88)) base [] A aa ac t (zP (zA HR) (λ g e=>Gu.block g ((zA HR).lt g e).2)) h4 (A.ts.map (·.2)) (by simp;omega) (xN.nil _) (λ t ht _=>List.mem_map_of_mem ht));have t3:=(TV.new w2 t).load;obtain⟨q0,-⟩:=zB ((k3.block _ (by omega)).trans a2) 0;obtain⟨q1,-⟩:=zB ((k3.block _ (by omega)).trans a2) 1;simp only[List.getElem?_toArray,List.getElem?_cons_zero,List.getElem?_cons_succ] at q0 q1;have HT:=zC hT;have iU:=zC hrg2;have ky:=zC k2;have vg:=zC a2;have rO:=zC r2;have fU:=zC gZ;have Ee:=zC kV;have fZ:=zA KY _ gZ;have bU:(t,n)∉ts:=λ hm=>((ak.mem _).1 hm).2.1 kV
   have tF:=zC bU;have fT:=zC (yat ak.mem gZ ak.rg.map.nodup);have ju:=zC ak.nd;clear lj dd jf hrg2 k2 a2 r2 hT gZ kV ak k3 Gu bU s0;obtain⟨R,hR⟩:∃ R,R=zV [] A t:=⟨_,rfl⟩;rw[<-hR] at HM;have LC:zk8 A (t,n)=R.isSome:=(by unfold zk8;rw[hR]);have wK:=zC LC;clear hR LC;go_upto_region 6 with (go_at_call 62;refine (zA HM).mono ?_;rintro en w4 ⟨bQ,rfl⟩;have eC:=zC bQ;clear bQ);generalize pI:World.alloc w4 _=w5;have b5:Below w2.heap.size w2 w5:=by
    rw[<-pI];have b4:=zA eC;exact ((B9.alloc L9 _).trans (b4.mono (by simp))).alloc (by have:=b4.size;simp at this;omega) _
   have t5:TV w5 w2.heap.size t:=by
    rw[<-pI];exact ((TV.new w2 t).below (zA eC)).alloc _
   have l5:=t5.load;have jn:=zC b5;have Kf:=b5.size;have Gw:Below w.heap.size w w5:=(zA ky).trans (b5.mono (zA ky).size);have r5:=zG (zA rO) b5 (λ g e=>((zA rO).lt g e).2);have a5:w5.heap[w.heap.size]?=some (.cells #[.string A.p,.slice aa A.ts.length ac] 79 (0,0)):=(b5.block _ (by omega)).trans (zA vg);have g5:dq w5 kb w0.heap.size K (λ x=>Lf x/\¬ x=t) cnt2:=(zA iU).blocks (b5.block _ (zA iU).map.lt) (b5.block _ (zA iU).lt);have D9:=zC Gw;have tJ:=zC r5;have D0:=zC a5;have br:=zC g5;have Ik:=zC (zn4 w5 t (zA HT) fZ);clear pI b5 t5 Gw r5 a5 g5 t3 q0 q1 hen2
   cases hr:R with
   | none=>
    have hh:zk8 A (t,n)=false:=(by rw[zA wK,hr];rfl);have HS:=zC ((zA fT).2 hh);clear hh hr;go_wp2_with fail;go_roundg cnt2;exact⟨_,ts,zA br,zA D0,zA HS,zA ju,by omega,zA tJ,zA D9⟩;omega
   | some e2=>
    have hh:zk8 A (t,n)=true:=(by rw[zA wK,hr];rfl);have HS:=zC ((zA fT).1 hh);clear hh hr;go_wp2_with fail;refine (zA Ik).mono ?_;rintro en w6 ⟨rfl,iA⟩;have Du:=iA.size;have r6:=zG (zA tJ) iA (λ g e=>((zA tJ).lt g e).2);have bP:ts.length<=1000:=(by omega);have mU:=zC iA;clear iA;go_wp2_with (at_builtin;refine wpList_append_own _ rfl _ _ 33 rfl (w.heap.size+1+1) 9 i0 _ 1 16 Tryz.underlying33 hi dK cB bZ rfl (by decide) _ _ _ rfl (r6.alloc _) ⟨w6.heap.size,0,none⟩ 1 1 [.string (yI t)] rfl rfl (zss w6 _) (zuu _) (by unfold maxLen;omega) (by omega) (by simp;omega) ?_;intro v7 w7 hown7 hg7 hne7;clear hne7;obtain⟨a7,BS,rfl⟩:=zE hown7;have Bl:=zC hown7;have A7:=zC hg7;clear hown7 hg7);go_roundg cnt2
    case measure=>omega
    case rel=>
     have g7:=zA A7;have b6:=zA mU;have s0:=zA fH;have hb:∀ i,i<w5.heap.size->i<w.heap.size+1+1->w7.heap[i]?=w5.heap[i]?:=λ i hi h2=>by
      rw[g7.block i (by simp;omega) (λ e=>by have:=(r6.lt i e.symm).1;omega),Below.heap_alloc _ _ _ (by omega),b6.block i hi]
     have EW:kb<w.heap.size+1+1:=(by omega);refine⟨_,ts++[(t,n)],(zA br).blocks (hb _ (zA br).map.lt EW) (hb _ (zA br).lt (by omega)),(hb _ (by omega) (by omega)).trans (zA D0),zA HS,List.nodup_append.2 ⟨zA ju,by simp,λ x hx y hy e=>by rw[List.mem_singleton.1 hy] at e;rw[e] at hx;exact zA tF hx⟩,by rw[List.length_append];simp;omega,?_,?_⟩
     ·have h7:=zA Bl;have e1:(ts++[(t,n)]).length=ts.length+1:=(by simp);rw[e1,List.map_append,List.map_append];exact h7
     ·have k5:=zA D9;exact⟨g7.os.trans (b6.os.trans k5.os),g7.tape.trans (b6.tape.trans k5.tape),g7.output.trans (b6.output.trans k5.output),by have h1:=g7.size;have h2:=k5.size;simp at h1;omega,λ i hi=>(hb i (by omega) (by omega)).trans (k5.block i hi)⟩
end
end Go.Proofs.YtldkpahaocjdpaaGreat
