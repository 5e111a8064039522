/-
  maps.Copy, where nothing that comes is there.
-/
import Derived.Test.YtldkpahaocjdpaaGreatR20
import Derived.Test.YtldkpahaocjdpaaGreatR22
import Derived.Test.YtldkpahaocjdpaaGreatR23
import Derived.Sort.OwnSorted
set_option maxHeartbeats 16000000
set_option maxRecDepth 1000000
namespace Go.Proofs.YtldkpahaocjdpaaGreat
section
open Go.RowKit Go.Maps
attribute [local go_sem ↓] to_tLoad to_tStore to_tAlloc thV_cells
attribute [local go_sem] tStore_new run_tAlloc
theorem lookN_isNone {L:List (Th × Nat)}{t:Th}(h:∀ n,(t,n)∉L):ay L t=none:=by
 cases hl:ay L t with
 | none=>rfl
 | some n=>exact absurd (bp hl) (h n)
structure CopyIn (w:W8)(db sb rb:Nat)(D S:List (Th × Nat))(Lf:Th->Prop)(S1:List (Th × Nat))(dF:Nat)(wr:W8):Prop where
 rg:cx wr sb rb S Lf dF
 m:aM wr db (D++S1)
 mem:∀ p,p∈S1↔p∈S/\¬ Lf p.1
 len:S1.length+dF<=S.length
 k:Kept [db] w wr
def CopyPost (w:W8)(db:Nat)(D S:List (Th × Nat))(en:Ending)(w':W8):Prop:=(∃ v,en=.returned v)/\Kept [db] w w'/\∃ S',aM w' db (D++S')/\(∀ p,p∈S'↔p∈S)/\S'.length<=S.length
theorem copy_any (w:W8)(db sb:Nat)(D S:List (Th × Nat))(hd:aM w db D)(hs:aM w sb S)(bG:db≠sb)(yw:∀ p∈S,ay D p.1=none)(hl:D.length+S.length<=1000000):
  Calls Tryz.prog 100 #[.map (some db),.map (some sb)] w (CopyPost w db D S):=by
 have HD:=hide hd;have HS:=hide hs;have A1:=hide yw;have hdl:=hd.lt;have lJ:=hs.lt;clear hd yw;go_enter Tryz.func100,Tryz.ntmps100;go_wp2_with (first | (at_range;refine wp_hrange _ rfl _ 83 rfl Tryz.underlying83 sb S rfl hs ?_;intro w1 hrg1 eP js) | go_in)
 try go_frame
 have h0:CopyIn w db sb w.heap.size D S (λ _=>True) [] S.length w1:=by
  refine⟨hrg1,by rw[List.append_nil];exact (ad HD).kept eP (by simp),λ p=>⟨λ h=>absurd h List.not_mem_nil,λ h=>absurd trivial h.2⟩,by simp,⟨eP.os,eP.tape,eP.output,eP.size,λ j hj _=>eP.block j hj (by simp)⟩⟩
 clear hrg1 eP js hs
 go_loopg [] S.length (λ gg wr=>∃ (Lf:Th->Prop) (S1:List (Th × Nat)),CopyIn w db sb w.heap.size D S Lf S1 gg wr)
 exact⟨_,_,h0⟩
 case round=>
  clear h0;obtain⟨Lf,S1,ak⟩:=hrel;have jf:=ak.rg;have bt:=hide ak;clear ak;go_wp2_with (first | (at_next;refine wp_hnext _ rfl _ rfl sb w.heap.size S Lf gk rfl jf ?_ ?_) | go_in)
  ·intro cF;have qv:=hide cF;clear cF jf;go_wp2_with fail;go_end0;have ak:=ad bt;exact⟨⟨_,rfl⟩,ak.k,S1,ak.m,λ p=>⟨λ h=>((ak.mem p).1 h).1,λ h=>(ak.mem p).2 ⟨h,ad qv p.1.1 p.1.2 p.2 h⟩⟩,by have:=ak.len;omega⟩
  ·intro tp tts n w2 cnt2 gZ kV hrg2 gX dd lj hen2;generalize ((tp,tts):Th)=t at *;have ak:=ad bt;have du:=ak.k.size;have hT:ThOk t:=ak.rg.map.ok _ gZ;have eG:aM w2 db (D++S1):=ak.m.kept dd (by simp;omega);have cP:ay (D++S1) t=none:=lookN_isNone λ m hm=>by
    rcases List.mem_append.1 hm with hm | hm
    ·exact lookN_none (ad A1 _ gZ) m hm
    ·exact ((ak.mem _).1 hm).2 kV
   have fX:putN (D++S1) t n=D++(S1++[(t,n)]):=(by unfold putN;rw[cP,List.append_assoc];rfl);have hlen:=ak.len;have HT:=hide hT;have iU:=hide hrg2;have A6:=hide dd;have Bt:=hide fX;have fU:=hide gZ;have Ee:=hide kV;have vt:=hide (eG.alloc (.cells (aq t).toArray 88));have gK:=(TV.new w2 t).load;have ik:(D++S1).length<maxLen:=(by unfold maxLen;rw[List.length_append];omega);clear lj jf hrg2 dd eG cP fX gZ kV ak hT;go_wp2_with (at_mapUpdate;refine wp_hput _ rfl _ _ _ 83 rfl Tryz.underlying83 db (D++S1) rfl (ad vt) ik t n rfl rfl (ad HT) ?_;intro w3 ey ki);rw[ad Bt] at ey;have mW:=hide ey;have tO:=hide ki;clear ey ki gK hen2;go_wp2_with fail;go_roundg cnt2
   case measure=>omega
   case rel=>
    have ak:=ad bt;have g2:=ad A6;have g3:=(ad tO).grown;have gk0:w.heap.size<=wr.heap.size:=du;refine⟨λ x=>Lf x/\¬ x=t,S1++[(t,n)],⟨?_,ad mW,λ p=>?_,by rw[List.length_append];simp;omega,?_⟩⟩
    ·have r2:=ad iU;refine r2.blocks ?_ ?_
     ·rw[g3.block sb (by have:=r2.map.lt;simp;omega) (by simp;omega),Below.heap_alloc _ _ _ r2.map.lt]
     ·rw[g3.block w.heap.size (by have:=r2.lt;simp;omega) (by simp;omega),Below.heap_alloc _ _ _ r2.lt]
    ·rw[List.mem_append,ak.mem]
     constructor
     ·rintro (⟨h1,h2⟩ | h1)
      ·exact⟨h1,λ h=>h2 h.1⟩
      ·rw[List.mem_singleton.1 h1];exact⟨ad fU,λ h=>h.2 rfl⟩
     ·rintro⟨h1,h2⟩
      by_cases e:p.1=t
      ·right
       have h3:=lookN_of (ak.rg.map.nodup) h1;have h4:=lookN_of (ak.rg.map.nodup) (ad fU);have e1:p.2=n:=by
        have:ay S p.1=some n:=by rw[e];exact h4
        exact Option.some.inj (h3.symm.trans this)
       rw[List.mem_singleton,<-e,<-e1]
      ·left
       exact⟨h1,λ h=>h2 ⟨h,e⟩⟩
    ·have k2:Kept [db] w w2:=ak.k.grown g2 (λ i e=>by cases e;left;omega);exact (k2.alloc _).grown g3 (λ i e=>by cases e;right;simp)
end
section
open Go.RowKit Go.Maps
def cL (w w':W8):Prop:=∀ (b:Nat) (cs:Array Value) (t:TypeId) (fr:Nat × Nat),w.heap[b]?=some (Obj.cells cs t fr)->w'.heap[b]?=some (Obj.cells cs t fr)
variable {base:Nat} {w w':W8}
theorem cL.row (h:cL w w'){e:TypeId}{size:Nat}{v:Value}{n:Nat}{xs:V8}(hr:w.ownsRow base e size v n xs):w'.ownsRow base e size v n xs:=by
 refine own_block hr λ g hg=>?_
 rcases hr.2 with⟨h0,_⟩ | ⟨g',cap,cur,rfl,hb,jo,_⟩
 ·rw[h0] at hg;cases hg
 ·have e:g'=g:=by simpa[Value.ownBlock] using hg
  subst e;exact (h _ _ _ _ jo).trans jo.symm
theorem cL.DI (h:cL w w'){bv:Value}{ls:List (PLit × Value)}(hr:cS w base bv ls):cS w' base bv ls:=⟨h.row hr.row,λ x hx=>h.row (hr.each x hx)⟩
variable {rs:List PR}
theorem cL.DN (h:cL w w'){rv:Value}(hr:bR w base rv rs):bR w' base rv rs:=⟨h.row hr.row,λ r hm=>⟨h.row (hr.each r hm).hd,h.DI (hr.each r hm).bo,(hr.each r hm).eq⟩⟩
variable {K:List (Th × Nat)}
theorem cL.rB {kb:Nat}(hm:aM w kb K)(k:Kept [kb] w w'):cL w w':=λ b cs t fr hb=>by
 refine (k.block b (Array.getElem?_eq_some_iff.1 hb).1 ?_).trans hb;simp only[List.mem_singleton];rintro rfl;obtain⟨es,c,h⟩:=hm.isMap;rw[hb] at h;cases h
inductive PClimb (rs:List PR)(limit:Nat):Nat->List (Th × Nat)->Option (List (Th × Nat))->Prop
 | fk {h:Nat} {K:List (Th × Nat)} (L:List Th):L.Nodup->(∀ t∈L,NewB rs K t)->limit<K.length+L.length->PClimb rs limit h K none
 | done {h:Nat} {K:List (Th × Nat)}:(∀ t,¬ NewB rs K t)->PClimb rs limit h K (some K)
 | more {h:Nat} {K L:List (Th × Nat)} {r:Option (List (Th × Nat))}:L≠[]->(L.map (·.1)).Nodup->(∀ p∈L,p.2=h)->(∀ t,(∃ n,(t,n)∈L)↔NewB rs K t)->K.length+L.length<=limit->PClimb rs limit (h+1) (K++L) r->PClimb rs limit h K r
def dr (rs:List PR)(TI:Th->Prop):Prop:=∀ K:List (Th × Nat),(∀ p∈K,TI p.1)->∀ r∈rs,RuleOk K r/\∀ e∈pmatches K (posOf r.bs) [],TI (aB e (aO r))
theorem dr.new {TI:Th->Prop}(h:dr rs TI)(hK:∀ p∈K,TI p.1){t:Th}(ht:NewB rs K t):TI t:=by
 obtain⟨_,r,hr,e,he,rfl⟩:=ht;exact (h K hK r hr).2 e (List.mem_filter.1 he).1
structure ClimbIn (w:W8)(kb base:Nat)(rv:Value)(rs:List PR)(limit:Nat)(TI:Th->Prop)(K0:List (Th × Nat))(n:Nat)(K:List (Th × Nat))(wr:W8):Prop where
 m:aM wr kb K
 ti:∀ p∈K,TI p.1
 len:K.length<=limit
 k:Kept [kb] w wr
 n0:1<=n
 n1:n<=K.length+1
 rel:∀ r,PClimb rs limit n K r->PClimb rs limit 1 K0 r
def ClimbPost (w:W8)(kb:Nat)(rs:List PR)(limit:Nat)(TI:Th->Prop)(K:List (Th × Nat))(en:Ending)(w':W8):Prop:=
 ∃ r,PClimb rs limit 1 K r/\en=.returned (.bool r.isSome)/\Kept [kb] w w'/\∀ K',r=some K'->aM w' kb K'/\(∀ p∈K',TI p.1)/\K'.length<=limit
theorem climb_any (w:W8)(kb base:Nat)(ar:O8)(cr:Nat)(rs:List PR)(limit:Nat)(TI:Th->Prop)(K:List (Th × Nat))(hm:aM w kb K)(hr:bR w base (.slice ar rs.length cr) rs)(oX:dr rs TI)(Gc:∀ p∈K,TI p.1)(hK:K.length<=limit)(hl:limit<=50):
  Calls Tryz.prog 60 #[.map (some kb),.slice ar rs.length cr,.int .i64 (limit:Nat)] w (ClimbPost w kb rs limit TI K):=by
 have HM:=hide hm;have HR:=hide hr;have pZ:=hide oX;have h0:ClimbIn w kb base (.slice ar rs.length cr) rs limit TI K 1 K w:=⟨hm,Gc,hK,Kept.refl _ _,Nat.le_refl _,by omega,λ _ h=>h⟩;have H0:=hide h0;have du:=hm.lt;clear hm hr oX Gc hK h0;go_enter Tryz.func60,Tryz.ntmps60;go_wp2_with fail
 go_loopg [7] (limit+1-K.length) (λ gg hv wr=>∃ (n:Nat) (K':List (Th × Nat)),gg=limit+1-K'.length/\hv=.int .i64 (n:Nat)/\ClimbIn w kb base (.slice ar rs.length cr) rs limit TI K n K' wr)
 exact⟨1,K,rfl,rfl,ad H0⟩
 case round=>
  clear H0;obtain⟨n,K',fM,rfl,ak⟩:=hrel;have sl:=ak.len;have lH:=ak.n1;have HN:=hide (next_any wr kb base ar cr rs K' n limit ak.m ((cL.rB (ad HM) ak.k).DN (ad HR)) (λ r hr=>(ad pZ K' ak.ti r hr).1) ak.len hl);have bt:=hide ak;clear ak;have nU:=hide (λ (w1:W8) (aT:Below wr.heap.size wr w1)=>(ad bt).m.block (aT.block kb (ad bt).m.lt));have Jz:=(ad bt).m.lt;go_wp2_with fail;refine (ad HN).mono ?_;rintro en w1 ⟨aT,⟨fb,L,rfl,jd,yS,hh,eQ,hlen⟩ | ⟨rfl,L,dB,dJ,Dg⟩⟩
  ·have uB:=yS.len Tryz.underlying83;have G4:=hide (copy_any w1 kb fb K' L (ad nU w1 aT) yS (by omega) (λ p hp=>((eQ p.1).1 (by rw[lookN_of yS.nodup hp];rfl)).1) (by omega));have cR:=hide aT;have HH:=hide hh;have oB:=hide eQ;have Ho:=hide yS;have bq:=aT.size;clear aT hh eQ yS
   cases hL:L with
   | nil=>
    subst hL;go_wp2_with fail;go_ret;have ak:=ad bt;exact⟨some K',ak.rel _ (.done λ t ht=>by have:=(ad oB t).2 ht;cases this),rfl,ak.k.aF (ad cR),λ K2 e=>by cases e;exact⟨ad nU w1 (ad cR),ak.ti,ak.len⟩⟩
   | cons p tl=>
    have hz:(L.length:Int)≠0:=(by rw[hL];simp;omega);have bn:0<L.length:=(by rw[hL];simp);clear hL;go_wp2_with (go_at_call 100;refine (ad G4).mono ?_;rintro en w2 ⟨⟨v2,rfl⟩,cN,S',eG,lj,lG⟩;have ky:=hide cN;have vt:=hide eG;have Ad:=hide lj;clear cN eG lj);have im:0<S'.length:=by
     cases hS:S' with
     | nil=>
      exfalso
      cases hL:L with
      | nil=>rw[hL] at bn;simp at bn
      | cons q tl=>have:=(ad Ad q).2 (by rw[hL];exact List.mem_cons_self);rw[hS] at this;cases this
     | cons q tl=>simp
    have eQ:∀ t,(∃ m,(t,m)∈S')↔NewB rs K' t:=λ t=>by
     rw[<-ad oB t]
     constructor
     ·rintro⟨m,hm⟩;rw[lookN_of (ad Ho).nodup ((ad Ad _).1 hm)];rfl
     ·intro h;obtain⟨m,hm⟩:=Option.isSome_iff_exists.1 h;exact⟨m,(ad Ad _).2 (bp hm)⟩
    go_roundg (limit+1-(K'++S').length)
    case measure=>rw[List.length_append];omega
    case rel=>
     have ak:=ad bt;refine⟨n+1,K'++S',rfl,by go_num,ad vt,λ q hq=>?_,by rw[List.length_append];omega,(ak.k.aF (ad cR)).trans (ad ky),by omega,by rw[List.length_append];omega,λ r hr=>ak.rel r (.more (λ e=>by rw[e] at im;simp at im) (by have dB:=(ad vt).nodup;rw[List.map_append,List.nodup_append] at dB;exact dB.2.1) (λ q hq=>ad HH q ((ad Ad q).1 hq)) eQ (by omega) hr)⟩;rcases List.mem_append.1 hq with hq | hq
     ·exact ak.ti q hq
     ·exact (ad pZ).new ak.ti ((eQ q.1).1 ⟨q.2,hq⟩)
  ·have cR:=hide aT;clear aT;go_wp2_with fail;go_ret;have ak:=ad bt;exact⟨none,ak.rel _ (.fk L dB dJ Dg),rfl,ak.k.aF (ad cR),λ K2 e=>by cases e⟩
end
section
open Go.RowKit Go.Maps
attribute [local go_sem ↓] to_tLoad to_tStore to_tAlloc thV_cells
attribute [local go_sem] tStore_new run_tAlloc
theorem atext_any (w:W8)(base:Nat)(pd:B8)(a:O8)(c:Nat)(ts:List (Bool × B8))(h:w.ownsRow base 191 1 (.slice a ts.length c) ts.length (ptCells ts))(hlen:(atomT pd ts).length<=1000000000):
  Calls Tryz.prog 102 #[.agg #[.string pd,.slice a ts.length c]] w λ e w'=>e=.returned (.string ⟨(atomT pd ts).toArray⟩)/\Below w.heap.size w w':=by
 have b1:=(Below.refl w.heap.size w).alloc L9 (.cells #[.string pd,.slice a ts.length c] 79);have h0:Holds (w.heap.size+1) (w.heap.size+1) [] ((w.alloc (.cells #[.string pd,.slice a ts.length c] 79)).alloc (.cells #[.pointer none,.slice none 0 0] 155)):=by
  have:=Lib.fresh_isBuilder 155 5 (w.alloc (.cells #[.string pd,.slice a ts.length c] 79));rw[World.size_alloc] at this;exact this
 have b0:=b1.alloc (by simp) (.cells #[.pointer none,.slice none 0 0] 155);have hr:=own_below h b0 (λ g e=>(h.lt g e).2);have HW:=hide (watom_any (w.heap.size+1) (w.heap.size+1) [] pd a c base ts _ h0 hr (by simpa using hlen) (by simp));have gd:=hide b0;clear h h0 b0 b1 hr;go_enter Tryz.func102,Tryz.ntmps102;go_wp2_with (go_at_call 110;refine (ad HW).mono ?_;rintro e w1 ⟨rfl,h1,aT,-,ir⟩);refine (Tryz.Builder_String_any (w.heap.size+1) (w.heap.size+1) _ _ h1 ir).mono ?_;rintro e w2 ⟨rfl,aU⟩;have HB:=hide ((ad gd).trans ((aT.trans aU).mono (by omega)));clear h1 aT ir aU;go_wp2_with fail;go_ret;exact⟨rfl,ad HB⟩
def thTerms (t:Th):List (Bool × B8):=t.2.map λ x=>(false,x)
def thText (t:Th):B8:=⟨(atomT t.1 (thTerms t)).toArray⟩
structure TTIn (w:W8)(t:Th)(l:List B8)(tv:Value)(wr:W8):Prop where
 th:TV wr w.heap.size t
 at_:wr.heap[w.heap.size+1]?=some (.cells #[.string t.1,tv] 79 (0,0))
 row:wr.ownsRow (w.heap.size+1+1) 191 1 tv l.length (ptCells (l.map λ x=>(false,x)))
 k:Below w.heap.size w wr
theorem toList_size (s:B8):s.toList.length=s.size:=by rw[ByteArray.toList_eq];exact size_list s
theorem tt_keep {w:W8}{t:Th}{l:List B8}{a1 a5:O8}{c1 c5:Nat}{wr w5:W8}{o:Obj}{x:B8}(sU:w.heap.size+1<wr.heap.size)(aI:w5.ownsRow (w.heap.size+1+1) 191 1 (.slice a5 (l.length+1) c5) (l.length+1) (ptCells (l.map λ x=>(false,x))++[tmVal false x]))(hg:(wr.alloc o).grownBy w5 (Value.slice a1 l.length c1).ownBlock)(h:TTIn w t l (.slice a1 l.length c1) wr):
  TTIn w t (l++[x]) (.slice a5 (l++[x]).length c5) (w5.setCell ⟨w.heap.size+1,1,none⟩ (.slice a5 (l.length+1) c5))/\w5.heap[w.heap.size+1]?=some (.cells #[.string t.1,.slice a1 l.length c1] 79 (0,0)):=by
 have hb:∀ i,i<=w.heap.size+1->w5.heap[i]?=wr.heap[i]?:=λ i hi=>by
  rw[hg.block i (by simp;omega) (λ e=>by have:=(h.row.lt i e.symm).1;omega),Below.heap_alloc _ _ _ (by omega)]
 have gT:=(hb _ L9).trans h.at_;refine⟨⟨?_,?_,?_,?_⟩,gT⟩
 ·show _=_
  rw[Below.heap_setCell _ _ _ _ (by simp)];exact (hb _ (by omega)).trans h.th
 ·rw[setCell_eq_setRow w5 _ _ _ _ (0,0) _ gT,setRow_heap _ _ _ _ _ _ gT];simp
 ·have e1:(l++[x]).length=l.length+1:=by simp
  have e2:ptCells ((l++[x]).map λ x=>(false,x))=ptCells (l.map λ x=>(false,x))++[tmVal false x]:=by simp[ptCells]
  rw[e1,e2];exact own_block aI (λ g jo=>Below.heap_setCell _ _ _ _ (by have:=(aI.lt g jo).1;simp;omega))
 ·have h5:Below w.heap.size w w5:=⟨hg.os.trans h.k.os,hg.tape.trans h.k.tape,hg.output.trans h.k.output,Nat.le_trans h.k.size (Nat.le_trans (by simp) hg.size),λ i hi=>(hb i (by omega)).trans (h.k.block i hi)⟩;exact h5.setCell (p:=⟨w.heap.size+1,1,none⟩) (by simp) _
theorem thtext_any (w:W8)(t:Th)(ht:ThOk t)(hlen:(atomT t.1 (thTerms t)).length<=1000000000):
  Calls Tryz.prog 63 #[thV t] w λ e w'=>e=.returned (.string (thText t))/\Below w.heap.size w w':=by
 obtain⟨i0,hi,dK,ir,bZ⟩:=info_parts infoTermI;obtain⟨ct,eM⟩:∃ ct,ct=(aq t).toArray:=⟨_,rfl⟩;have fw:=hide eM;unfold thV;rw[<-eM];clear eM;have HT:=hide ht;clear ht;have c0:(w.alloc (.cells ct 88)).cell? ⟨w.heap.size,0,none⟩=some (.string t.1):=by
  rw[(block_cells (heap_alloc_new w (.cells ct 88)) 0).1,ad fw];rfl
 go_enter Tryz.func63,Tryz.ntmps63;go_upto_region 2 with fail;generalize hw0:World.alloc (World.alloc w _) _=w0;have h0:TTIn w t [] (.slice none 0 0) w0:=by
  have k0:Below w.heap.size w ((w.alloc (.cells ct 88)).alloc (.cells #[.string t.1,.slice none 0 0] 79)):=(B9.alloc L9 _).alloc (by simp) _;rw[<-hw0];refine⟨?_,?_,World.ownsRow_nil _ _ _ _,k0⟩
  ·show _=_
   rw[Below.heap_alloc _ _ _ (by simp),<-ad fw];exact heap_alloc_new w _
  ·have:=heap_alloc_new (w.alloc (.cells ct 88)) (.cells #[.string t.1,.slice none 0 0] 79);rw[World.size_alloc] at this;exact this
 have H0:=hide h0;have Dw:w.heap.size+1<w0.heap.size:=(Array.getElem?_eq_some_iff.1 h0.at_).1;clear hw0 c0 h0;go_wp2_with fail
 go_loopg [11] 4 (λ gg i wr=>∃ (k:Nat) (l:List B8) (tv:Value),k<=4/\gg=4-k/\i=.int .i64 (k:Nat)/\l=t.2.take k/\TTIn w t l tv wr)
 exact⟨0,[],_,by omega,rfl,rfl,rfl,ad H0⟩
 case round=>
  clear H0;obtain⟨k,l,tv,hk,fM,rfl,hl,ak⟩:=hrel;obtain⟨a1,kN,rfl⟩:=own_slice ak.row;have sU:w.heap.size+1<wr.heap.size:=(Array.getElem?_eq_some_iff.1 ak.at_).1;have bt:=hide ak;have ik:l.length<=4:=by rw[hl];simp;omega
  have HL:=hide hl;obtain⟨q0,z0⟩:=block_cells ak.at_ 0;obtain⟨q1,z1⟩:=block_cells ak.at_ 1;simp only[List.getElem?_toArray,List.getElem?_cons_zero,List.getElem?_cons_succ] at q0 q1
  by_cases aN:k<4
  ·have dV:wr.cell? ⟨w.heap.size,1+k,none⟩=some (.string (nth4 t.2 k)):=by
    rw[(block_cells ak.th (1+k)).1,List.getElem?_toArray];exact thCells_name t aN
   have gW:(k:Int)<4:=(by omega);clear ak hl
   by_cases bP:k<t.2.length
   ·have bG:((nth4 t.2 k).toList==[])=false:=by
     have gj:0<(nth4 t.2 k).size:=nth4_pos (ad HT) bP
     cases hq:(nth4 t.2 k).toList==[] with
     | false=>rfl
     | true=>rw[beq_iff_eq] at hq;have h2:=toList_size (nth4 t.2 k);rw[hq] at h2;simp at h2;omega
    have aE:=(ad bt).row;have Hl:=hide (show t.2.take (k+1)=l++[nth4 t.2 k] by rw[List.take_succ_eq_append_getElem bP,ad HL];congr 2;unfold nth4;rw[List.getElem?_eq_getElem bP];rfl);go_wp2_with (at_builtin;refine wpList_append_own _ rfl _ _ 77 rfl (w.heap.size+1+1) 191 i0 _ 1 16 Tryz.underlying77 hi dK ir bZ rfl (by decide) _ _ _ rfl (aE.alloc _) ⟨wr.heap.size,0,none⟩ 1 1 [tmVal false (nth4 t.2 k)] rfl rfl (pt_cell wr _) (pt_one _ _) (by unfold maxLen;omega) (by omega) (by simp;omega) ?_;intro v5 w5 dm dz jv;clear jv;obtain⟨a5,gz,rfl⟩:=own_slice dm;obtain⟨r1,r2⟩:=tt_keep sU dm dz (ad bt);obtain⟨y1,x1⟩:=block_cells r2 1;simp only[List.getElem?_toArray,List.getElem?_cons_zero,List.getElem?_cons_succ] at y1;have H5:=hide r1;have H6:=hide r2;clear dm dz r1 r2);go_roundg (4-(k+1));exact⟨k+1,l++[nth4 t.2 k],_,by omega,rfl,by go_num,(ad Hl).symm,(ad H5)⟩;omega
   ·have bG:((nth4 t.2 k).toList==[])=true:=by
     have h2:=toList_size (nth4 t.2 k);rw[nth4_zero (l:=t.2) (i:=k) (by omega)] at h2;rw[beq_iff_eq];exact List.length_eq_zero_iff.1 h2
    go_wp2_with fail;go_roundg (4-(k+1));exact⟨k+1,l,_,by omega,rfl,by go_num,by rw[ad HL,List.take_of_length_le (by omega),List.take_of_length_le (by omega)],ad bt⟩;omega
  ·have bP:l=t.2:=(by rw[hl,List.take_of_length_le];have hfw:t.2.length<=4:=(ad HT).ft;omega);have aE:=ak.row;have HC:=hide (atext_any wr (w.heap.size+1+1) t.1 a1 kN (thTerms t) (by unfold thTerms;rw[List.length_map,<-bP];exact aE) hlen);have sm:(thTerms t).length=l.length:=(by unfold thTerms;rw[List.length_map,bP]);rw[sm] at HC;have HK:=hide ak.k;clear ak hl aE bP sm;go_wp2_with (go_at_call 102;refine (ad HC).mono ?_;rintro e w2 ⟨rfl,aU⟩;have ep:=hide aU;clear aU);go_ret;exact⟨rfl,(ad HK).trans ((ad ep).mono (ad HK).size)⟩
end
section
open Go.RowKit Go.Sort
theorem str_enc (zs:List B8):(zs.map Value.string)=(zs.map λ s=>s.data.toList).map encStr:=by
 rw[List.map_map];refine List.map_congr_left λ s _=>?_
 simp[encStr]
def sortT (zs:List B8):List (List UInt8):=(zs.map λ s=>s.data.toList).mergeSort λ x y=>decide (x<=y)
def SortedPost (w:W8)(base:Nat)(zs:List B8)(v:Value)(e:Ending)(w':W8):Prop:=
 e=.returned (.tuple #[])/\w'.ownsRow base 9 1 v zs.length ((sortT zs).map encStr)/\w.grownBy w' v.ownBlock
theorem sortT_any (w:W8)(base:Nat)(a:O8)(c:Nat)(zs:List B8)(h:w.ownsRow base 9 1 (.slice a zs.length c) zs.length (zs.map Value.string))(hl:zs.length<=1000000):
  Calls Tryz.prog 64 #[.slice a zs.length c] w (SortedPost w base zs (.slice a zs.length c)):=by
 rcases h.2 with⟨pt,h0⟩ | ⟨g,cap,cur,hv,jK,hb,h1,h2,h3,h4⟩
 ·have hz:zs=[]:=List.length_eq_zero_iff.1 h0;subst hz;refine (Tryz.slices_Sort_string_none a c w).mono ?_;rintro e w' ⟨rfl,rfl⟩;refine⟨rfl,by rw[show sortT []=[] from by simp[sortT]];exact h,⟨rfl,rfl,rfl,Nat.le_refl _,λ _ _ _=>rfl⟩⟩
 ·injection hv with e1 e2 e3
  subst e1 e3;have hlen:(zs.map λ s=>s.data.toList).length=zs.length:=by simp
  rw[str_enc] at h4;have hH:Go.Sort.Holds encStr w g 0 (zs.map λ s=>s.data.toList).toArray:=holds_of_block hb (by rw[hlen];simpa using h4);have:=Tryz.slices_Sort_string g 0 c (zs.map λ s=>s.data.toList) w hH (Array.getElem?_eq_some_iff.1 hb).1 (by rw[hlen];omega);rw[hlen] at this;refine this.mono ?_;rintro e w' ⟨rfl,n,os,rfl⟩;refine⟨rfl,?_,?_⟩
  ·have:=ownsRow_sorted (w:=w) (n:=n) (os:=os) (ss:=zs.map λ s=>s.data.toList) (ts:=sortT zs) (by simp[sortT]) jK hb (by rw[hlen];exact h1) h2 h3;rw[hlen] at this;exact this
  ·exact grownBy_sorted _
end
end Go.Proofs.YtldkpahaocjdpaaGreat
