/-
  saysAll: is all that comes of a rule said?
-/
import Derived.Test.YtldkpahaocjdpaaGreatC44
import Derived.Sort.CutIn
set_option maxHeartbeats 16000000
set_option maxRecDepth 1000000
namespace Go.Proofs.YtldkpahaocjdpaaGreat
section
open Go.RowKit Go.Maps
attribute [local go_sem ↓] zcw zbe zdd qB za9 zau zat zas
attribute [local go_sem] Oper.semAt_some
attribute [local go_sem] za2 zdc zby zbx
structure AY (w:W8)(r:PR)(ah ab:O8)(ch cb mb:Nat)(K:List (Th × Nat))(wr:W8):Prop where
 rb:wr.heap[w.heap.size]?=some (.cells #[.string r.R.pd,.slice ah r.R.ts.length ch,.slice ab r.bs.length cb] 123 (0,0))
 NW:wr.heap[w.heap.size+1]?=some (.cells #[.map (some mb)] 82 (0,0))
 fb:wr.heap[w.heap.size+1+1]?=some (.cells #[.bool false] 4 (0,0))
 k:Below w.heap.size w wr
 m:jg wr mb K
 ml:mb<w.heap.size
variable {wr w' w:W8} {K:List (Th × Nat)} {ch cb mb:Nat} {ah ab:O8} {r:PR}
theorem AY.grown (x:AY w r ah ab ch cb mb K wr){row:Option Nat}(hg:wr.grownBy w' row)(hr:∀ i,row=some i->w.heap.size+1+1<i):AY w r ah ab ch cb mb K w':=by
 have cP:∀ i,i<=w.heap.size+1+1->w'.heap[i]?=wr.heap[i]?:=λ i hi=>hg.block i (by have:=(Array.getElem?_eq_some_iff.1 x.fb).1;omega) (λ e=>by have:=hr i e.symm;omega)
 have hk:=x.ml;exact⟨(cP _ (by omega)).trans x.rb,(cP _ (by omega)).trans x.NW,(cP _ (by omega)).trans x.fb,⟨hg.os.trans x.k.os,hg.tape.trans x.k.tape,hg.output.trans x.k.output,Nat.le_trans x.k.size hg.size,λ i hi=>(cP i (by omega)).trans (x.k.block i hi)⟩,x.m.block (cP _ (by omega)),x.ml⟩
theorem AY.below (x:AY w r ah ab ch cb mb K wr)(k:Below wr.heap.size wr w'):AY w r ah ab ch cb mb K w':=x.grown (row:=none) ⟨k.os,k.tape,k.output,k.size,λ i hi _=>k.block i hi⟩ (λ _ e=>by cases e)
theorem AY.start (w:W8)(r:PR)(ah ab:O8)(ch cb mb:Nat)(K:List (Th × Nat))(hm:jg w mb K):AY w r ah ab ch cb mb K (((w.alloc (.cells #[.string r.R.pd,.slice ah r.R.ts.length ch,.slice ab r.bs.length cb] 123)).alloc (.cells #[.map (some mb)] 82)).alloc (.cells #[.bool false] 4)):=by
 have kk:Below w.heap.size w (((w.alloc (.cells #[.string r.R.pd,.slice ah r.R.ts.length ch,.slice ab r.bs.length cb] 123)).alloc (.cells #[.map (some mb)] 82)).alloc (.cells #[.bool false] 4)):=(((Below.refl w.heap.size w).alloc L9 _).alloc (by simp) _).alloc (by simp only[World.size_alloc];omega) _;refine⟨?_,?_,?_,kk,hm.block (kk.block _ hm.lt),hm.lt⟩
 ·rw[Below.heap_alloc _ _ _ (by simp only[World.size_alloc];omega),Below.heap_alloc _ _ _ (by simp)];exact heap_alloc_new w _
 ·rw[Below.heap_alloc _ _ _ (by simp)];have:=heap_alloc_new (w.alloc (.cells #[.string r.R.pd,.slice ah r.R.ts.length ch,.slice ab r.bs.length cb] 123)) (.cells #[.map (some mb)] 82);rw[World.size_alloc] at this;exact this
 ·have:=heap_alloc_new ((w.alloc (.cells #[.string r.R.pd,.slice ah r.R.ts.length ch,.slice ab r.bs.length cb] 123)).alloc (.cells #[.map (some mb)] 82)) (.cells #[.bool false] 4);rw[World.size_alloc,World.size_alloc] at this;exact this
def zhn (K:List (Th × Nat))(r:PR):Prop:=∀ e∈zbq K (zbh r.bs) (yZ r.bs) [],xZ e (kz r)∈K.map (·.1)
theorem z4x (w:W8)(base mb:Nat)(r:PR)(K:List (Th × Nat))(ay:sL w base r)(hm:jg w mb K)(L4:zxz K r):
  Calls Tryz.prog 224 #[.agg #[.string r.R.pd,r.hv,r.bv],.map (some mb)] w λ e w'=>Below w.heap.size w w'/\∃ c:Bool,e=.returned (.bool c)/\(c=true↔zhn K r):=by
 obtain⟨ah,ch,sP⟩:=zD ay.hd;obtain⟨ab,cb,rY⟩:=zD ay.bo.row;rw[sP,rY];have gJ:=zC ay;have HM:=zC hm;have DJ:=zC L4;have A5:=zC sP;have CY:=zC rY;have bh:=hm.lt;clear ay hm L4 sP rY;refine callsIn_wide.1 (callsIn_of_wp_marks (F:=Fence.wide) (n:=5) Tryz.func224 rfl trivial (wpIn_wide.2 ?_) rfl);simp only[Tryz.ntmps224,List.size_toArray,List.length_cons,List.length_nil,Nat.reduceAdd,Nat.reduceSub,Array.replicate_succ,Array.replicate_zero,List.push_toArray,List.append_toArray,List.nil_append,List.cons_append];go_upto_region 1 with fail;generalize dK:World.alloc (World.alloc (World.alloc w _) _) _=w0;have ed:AY w r ah ab ch cb mb K w0:=by
  rw[<-dK];exact AY.start w r ah ab ch cb mb K (zA HM)
 have s0:w0.heap.size=w.heap.size+1+1+1:=by rw[<-dK];simp
 clear dK;have c0:=(zB ed.rb 0).1;have c1:=(zB ed.rb 1).1;have c2:=(zB ed.rb 2).1;have c5:=(zB ed.NW 0).1;simp only[List.getElem?_toArray,List.getElem?_cons_zero,List.getElem?_cons_succ] at c0 c1 c2 c5;have gX:=(zA gJ).bo.below ed.k;rw[zA CY] at gX;have hA:Jl (λ _=>False) w0 mb (.slice ah r.R.ts.length ch) (.slice ab r.bs.length cb) base r.bs K:=⟨gX,ed.m,λ h=>h,λ _ _ _ _ h=>h,λ _ h=>h.elim,(zA DJ).l3,(zA DJ).t4,_,_,_,rfl⟩;have HW:=zC (z2d _ w0 mb r.R.pd _ _ base r.bs K hA);have Du:=zC ed;have tC:=zC s0;clear ed hA gX s0;go_wp2_with (go_at_call 145;refine (zA HW).mono ?_;rintro en w1 ⟨rb,xb,eb,rfl,aM,nj⟩;have lC:=zC aM;have Wn:=zC nj;clear aM nj);have aM:=zA lC;have ed:=(zA Du).below aM;have EH:=zC (show w.heap.size+1+1<w1.heap.size by have:=aM.size;have:=zA tC;omega);have Ks:=zA EH;have nj:=zA Wn;have cd:=(zA DJ).neg;clear c0 c1 c2 c5 aM;refine (wpIn_wide (n:=5)).1 ?_;refine wpIn_rangeFunc_ownH (α:=Is K r.bs []) rfl (by omega) (gf:=233) (lb:=#[.pointer (some ⟨rb,0,none⟩),.pointer (some ⟨xb,0,none⟩),.pointer (some ⟨eb,0,none⟩)]) rfl trivial (enters_of Tryz.func233 (by kernel_rfl) rfl)
  (zsv _ _ w1 rb xb eb mb r.R.pd _ _ base r.bs K [] nj cd (jQ.nil _)) (λ h1 h2=>iT.trans h1 h2) (λ W l o o' _ hl hc hwk=>zrs W l o o' hl hc hwk) B9 (λ _=>rfl)
  (λ (pre:List (Is K r.bs [])) (W:W8)=>AY w r ah ab ch cb mb K W/\w1.heap.size<=W.heap.size/\∀ y∈pre,xZ y.1 (kz r)∈K.map (λ p:Th × Nat=>p.1))
  (λ (c:Code) (_:List (Is K r.bs [])) (W:W8)=>c=.ret/\AY w r ah ab ch cb mb K W/\¬ zhn K r)
  (λ pre A B row hs hg hr=>let ⟨h1,h2,h3⟩:=hs;⟨h1.grown hg (λ i e=>by have:=(hr i e).1;omega),Nat.le_trans h2 hg.size,h3⟩)
  (λ c pre A B row hs hg hr=>let ⟨h1,h2,h3⟩:=hs;⟨h1,h2.grown hg (λ i e=>by have:=(hr i e).1;omega),h3⟩)
  ⟨ed,Nat.le_refl _,by simp⟩
  (λ (x:Is K r.bs []) (a':Act) (W:W8)=>∃ Bx,w1.heap.size<=Bx/\BV W Bx x.1/\a'={ tmps:=List.toArray ((Value.agg #[.string r.R.pd,.slice ah r.R.ts.length ch,.slice ab r.bs.length cb])::(Value.map (some mb))::(Value.pointer (some ⟨w.heap.size,0,none⟩))::(Value.pointer (some ⟨w.heap.size+1,0,none⟩))::(Value.pointer (some ⟨w.heap.size+1+1,0,none⟩))::(Value.pointer (some ⟨Bx,0,none⟩))::undef::undef::(Value.agg #[.string r.R.pd,.slice ah r.R.ts.length ch,.slice ab r.bs.length cb])::(Value.map (some mb))::(Value.func (.func 233) #[] #[.pointer (some ⟨rb,0,none⟩),.pointer (some ⟨xb,0,none⟩),.pointer (some ⟨eb,0,none⟩)])::(jV x.1)::List.replicate 11 undef),defers:=[] })
  (λ x a' _ A B row hs hg hr=>let ⟨Bx,h1,h2,h3⟩:=hs;⟨Bx,h1,h2.grown hg (λ i e=>(hr i e).2),h3⟩)
  ?assign ?body ?done ?stop
 case assign=>
  intro l pre x W K2 hI hK2;have uP:=zC hK2;have HI:=zC hI;have hz:w1.heap.size<=W.heap.size:=hI.2.1;clear hK2 hI
  gi_wp2
  exact zA uP _ _ ((KeepsOthers.alloc _ _).from _) ((iT.refl _ _).alloc _) ⟨(zA HI).1.grown (World.grownBy_alloc W _ none) (λ _ e=>by cases e),by simp;omega,(zA HI).2.2⟩ ⟨W.heap.size,hz,BV.new _ _,rfl⟩
 case body=>
  rintro l pre x a' W hlW-⟨hL,hz,LZ⟩ ⟨Bx,hBx,kN,rfl⟩ -;obtain⟨T,Nl⟩:∃ T,T=xZ x.1 (kz r):=⟨_,rfl⟩;have Mk:=(List.mem_filter.1 x.2).1;have hT:zhm T:=by rw[Nl];exact (zA DJ).hd x.1 Mk
  have RB:=(zA DJ).len x.1 Mk;have aB:w.ownsRow base 191 1 (.slice ah (kz r).ts.length ch) (kz r).ts.length ((kz r).ts.map zcb):=by
   have:=(zA gJ).hd;rw[zA A5] at this;exact this
  have oK:=zC (λ (V:W8) (hV:Below W.heap.size W V)=>zg8 V base x.1 (kz r) ah ch (zH aB (hL.k.trans (hV.mono hL.k.size)) (λ g e=>(aB.lt g e).2)) (zA DJ).h4 RB);rw[<-Nl] at oK;obtain⟨S,va⟩:∃ S:W8->Prop,S=λ V=>∀ i,i<W.heap.size->V.heap[i]?=W.heap[i]?:=⟨_,rfl⟩
  have cY:=zC (λ (V:W8) (hV:S V)=>(show V.cell? ⟨w.heap.size+1,0,none⟩=some (.map (some mb))/\BV V Bx x.1/\jg V mb K/\V.cell? ⟨w.heap.size,0,none⟩=some (.string r.R.pd)/\V.cell? ⟨w.heap.size,1,none⟩=some (.slice ah r.R.ts.length ch) from by
   rw[va] at hV;have rV:=(hV _ (Array.getElem?_eq_some_iff.1 hL.rb).1).trans hL.rb
   exact⟨(zB ((hV _ (Array.getElem?_eq_some_iff.1 hL.NW).1).trans hL.NW) 0).1,(hV _ kN.lt).trans kN,hL.m.block (hV _ hL.m.lt),(zB rV 0).1,(zB rV 1).1⟩))
  have DK:=zC (λ (V:W8) (hV:Below W.heap.size W V)=>(show S V from by rw[va];exact λ i hi=>hV.block i hi));have KC:=zA DK W.drew B9.drew;have HL:=zC hL;have OU:=zC LZ;have SQ:=zC Nl;clear hL LZ Nl Mk aB va kN
  gi_upto_region 3 with fail
  refine zqc S (by kernel_rfl) (by kernel_rfl) (λ ⟨_,_,h⟩=>h) ?_;refine K9 0 (.map (some mb)) rfl (Or.inl ⟨by rfl,λ V hV=>by obtain⟨m4,b4,yg,R1,R2⟩:=zA cY V hV;go_simp⟩) KC ?_;refine K9 1 (jV x.1) rfl (Or.inl ⟨by rfl,λ V hV=>by obtain⟨m4,b4,yg,R1,R2⟩:=zA cY V hV;have ld:=b4.load;go_simp⟩) KC ?_;refine K9 2 (.pointer (some ⟨w.heap.size,0,none⟩)) rfl (Or.inl ⟨by rfl,λ w _=>by go_simp⟩) KC ?_;refine K9 3 (.agg #[.string r.R.pd,.slice ah r.R.ts.length ch]) rfl (Or.inl ⟨by rfl,λ V hV=>by obtain⟨m4,b4,yg,R1,R2⟩:=zA cY V hV;go_simp⟩) KC ?_;refine wpAnyH_ready (rs:=[4]) (by kernel_rfl) (by simp) ?_;refine AllReadyH.cons rfl (λ K2 hK2=>?_) AllReadyH.nil
  go_simp
  refine (zA oK _ B9.drew).mono ?_;rintro en w4 ⟨cM,rfl⟩;have dT:=zV cM;have Da:=zA DK w4 dT;have ki:=zC dT;refine hK2.out _ _ Da (λ _=>?_);clear hK2 K2 cM dT;obtain⟨c,hc⟩:∃ c,c=(j2 K T).isSome:=⟨_,rfl⟩;refine K9 5 (.tuple #[.int .i64 (((j2 K T).getD 0:Nat):Int),.bool c]) rfl (Or.inl ⟨by rfl,λ V hV=>by obtain⟨m4,b4,yg,R1,R2⟩:=zA cY V hV;have Ht:=yg.look hT Tryz.underlying82;rw[<-hc] at Ht;go_simp⟩) Da ?_;have HC:=zC hc;clear hc;refine K9 6 (.tuple #[.int .i64 (((j2 K T).getD 0:Nat):Int),.bool c]) rfl (Or.inl ⟨by rfl,λ w _=>by go_simp⟩) Da ?_;refine K9 7 (.int .i64 (((j2 K T).getD 0:Nat):Int)) rfl (Or.inl ⟨by rfl,λ w _=>by go_simp⟩) Da ?_;refine K9 8 (.bool c) rfl (Or.inl ⟨by rfl,λ w _=>by go_simp⟩) Da ?_;refine K9 9 (.int .i64 (((j2 K T).getD 0:Nat):Int)) rfl (Or.inl ⟨by rfl,λ w _=>by go_simp⟩) Da ?_;refine K9 10 (.bool c) rfl (Or.inl ⟨by rfl,λ w _=>by go_simp⟩) Da ?_;refine wpAnyH_done (by kernel_rfl) ?_ _;have b5:=zA ki;have PL:=(zA HL).below b5;have GU:KeepsFrom w1.heap.size W w4:=(KeepsOthers.of_grownBy (row:=none) ⟨b5.os,b5.tape,b5.output,b5.size,λ i hi _=>b5.block i hi⟩ (λ _ _ e=>by cases e)).from _
  have SB:=zC GU;have OL:=zC PL;obtain⟨l9,z9⟩:=zB PL.fb 0;simp only[List.getElem?_toArray,List.getElem?_cons_zero] at l9;clear b5 PL GU Da KC
  cases zo:c with
  | true=>
   rw[zo] at HC
   gi_wp2
   refine⟨zA SB,iT.ai (zA ki),zA OL,Nat.le_trans hz (zA ki).size,λ y hy=>?_⟩;rcases List.mem_append.1 hy with hy | hy
   ·exact zA OU y hy
   ·rw[List.mem_singleton.1 hy,<-zA SQ];exact zan.1 (zA HC).symm
  | false=>
   rw[zo] at HC
   gi_wp2
   rw[zwx (zA OL).fb rfl];refine⟨zA SB,rfl,zA OL,λ hA=>?_⟩;have:=zan.2 (hA x.1 x.2);rw[<-zA SQ,<-zA HC] at this
   cases this
 case done=>
  rintro D xs W hD hS ⟨hL,hz,aL⟩ BE;have cY:=zC (show zhn K r from λ e he=>aL ⟨e,he⟩ (hS _));have HL:=zC hL;have HD:=zC hD;have Ot:=zC BE;obtain⟨l9,z9⟩:=zB hL.fb 0;simp only[List.getElem?_toArray,List.getElem?_cons_zero] at l9;clear hL hD BE hS aL;go_wp2_with fail;have hDD:=zA HD;have ux:=zA EH;refine zf6 [D] _ (by simp) (λ E hE=>?_) (λ w' hs=>?_)
  ·rw[List.mem_singleton.1 hE,Below.heap_setCell _ _ _ _ (by simp;omega)];exact zA Ot
  ·have aR:∀ i,i<=w.heap.size+1+1->i∉[D]:=λ i hi hm=>by have:=List.mem_singleton.1 hm;omega
   have q9:w'.cell? ⟨w.heap.size+1+1,0,none⟩=some (.bool true):=by
    rw[World.cell?_of_block (by exact hs.block (w.heap.size+1+1) (aR _ (by omega))),World.cell?_setCell_same' _ _ _ (by rw[l9];rfl)]
   have hL:=zA HL;refine⟨.bool true,by simp[results,Tryz.results224,go_sem,q9],⟨hs.os.trans hL.k.os,hs.tape.trans hL.k.tape,hs.output.trans hL.k.output,by rw[hs.size];simp;exact hL.k.size,λ i hi=>?_⟩,true,rfl,⟨λ _=>zA cY,λ _=>rfl⟩⟩;rw[hs.block i (aR i (by omega)),Below.heap_setCell _ _ _ _ (by simp;omega)];exact hL.k.block i hi
 case stop=>
  rintro D c pre W hD-⟨rfl,hL,aR⟩ BE;have HL:=zC hL;have HD:=zC hD;have Ot:=zC BE;have lz:=zC aR;clear hL hD BE aR
  gi_wp2
  have hL:=zA HL;have hD:=zA HD;have ux:=zA EH;refine zf6 [D] _ (by simp) (λ E hE=>?_) (λ w' hs=>?_)
  ·rw[List.mem_singleton.1 hE];exact zA Ot
  ·have aR:∀ i,i<=w.heap.size+1+1->i∉[D]:=λ i hi hm=>by have:=List.mem_singleton.1 hm;omega
   have q9:w'.cell? ⟨w.heap.size+1+1,0,none⟩=some (.bool false):=(zB ((hs.block (w.heap.size+1+1) (aR _ (by omega))).trans hL.fb) 0).1;exact⟨.bool false,by simp[results,Tryz.results224,go_sem,q9],⟨hs.os.trans hL.k.os,hs.tape.trans hL.k.tape,hs.output.trans hL.k.output,by rw[hs.size];exact hL.k.size,λ i hi=>(hs.block i (aR i (by omega))).trans (hL.k.block i hi)⟩,false,rfl,⟨λ h=>(by cases h),λ h=>absurd h (zA lz)⟩⟩
end
section
open Go.RowKit Go.Maps
def z6f (Sp:B8->Nat)(k:Nat)(rs:List PR)(K:List (Th × Nat)):Prop:=∀ r∈rs,Sp r.R.pd<k->zhn K r
theorem zu9 (w:W8)(base mb tb n k:Nat)(an:O8)(nn cn:Nat)(ps:P9)(Sp:B8->Nat)(ar:O8)(cr:Nat)(rs:List PR)(K:List (Th × Nat))(hr:l8 w base (.slice ar rs.length cr) rs)(hm:jg w mb K)(ht:fD Tryz.prog 9 w tb n (stV ps Sp))(cd:∀ r∈rs,zxz K r)(nS:∀ r∈rs,r.R.pd.size<=800/\(xH ps r.R.pd).isSome=true):
  Calls Tryz.prog 181 #[.agg #[.int .i64 (k:Nat),.slice an nn cn],.slice ar rs.length cr,.map (some mb),.map (some tb)] w (zsy w (z6f Sp k rs K)):=by
 have kX:=yN hr.row;unfold maxLen at kX;have HR:=zC hr;have HM:=zC hm;have HT:=zC ht;have gK:=zC cd;have VT:=zC nS;have bh:=hm.lt;have vu:=ht.lt;clear hr hm ht cd nS;have Fg:=znb;go_enter Tryz.func181,Tryz.ntmps181;go_upto_region 1 with fail;have iW:Below w.heap.size w (w.alloc (.cells #[.int .i64 (k:Nat),.slice an nn cn] 93)):=B9.alloc L9 _;have sR:=heap_alloc_new w (.cells #[.int .i64 (k:Nat),.slice an nn cn] 93);generalize (w.alloc (.cells #[.int .i64 (k:Nat),.slice an nn cn] 93))=w0 at *;have tl:=zC (And.intro iW sR);clear iW sR;go_wp2_with fail
 go_loopg [13] rs.length (λ gg ii wr=>∃ i:Nat,i<=rs.length/\gg=rs.length-i/\ii=.int .i64 i/\Below w.heap.size w wr/\wr.heap[w.heap.size]?=some (.cells #[.int .i64 (k:Nat),.slice an nn cn] 93 (0,0))/\∀ r∈rs.take i,Sp r.R.pd<k->zhn K r)
 exact⟨0,Nat.zero_le _,rfl,rfl,(zA tl).1,(zA tl).2,by simp⟩
 case round=>
  clear tl;obtain⟨i,hi,IV,rfl,dh,ed,aL⟩:=hrel;have ly:=zC dh;have Du:=zC ed;have cY:=zC aL;have sY:=(Array.getElem?_eq_some_iff.1 ed).1
  by_cases jb:i<rs.length
  ·have rF:(i:Int)<rs.length:=(by omega);obtain⟨r,sW⟩:∃ r,r=rs[i]:=⟨_,rfl⟩;have bY:r∈rs:=(by rw[sW];exact List.getElem_mem jb);have ay:=(zA HR).each r bY;obtain⟨ah,ch,sP⟩:=zD ay.hd;obtain⟨ab,cb,rY⟩:=zD ay.bo.row;obtain⟨g,cap,hv,oN,bR,cZ,da,hc⟩:=vU z75 (zA HR).row i jb;injection hv with h1 h2 h3
   subst h1 h3;have e0:wr.cell? ⟨g,i*3,none⟩=some (.string r.R.pd):=(by rw[sW];exact (dh.cell (p:=⟨g,i*3,none⟩) bR).trans (hc 0 (by omega)));have e1:wr.cell? ⟨g,i*3+1,none⟩=some (.slice ah r.R.ts.length ch):=(by rw[<-sP,sW];exact (dh.cell (p:=⟨g,i*3+1,none⟩) bR).trans (hc 1 (by omega)));have e2:wr.cell? ⟨g,i*3+2,none⟩=some (.slice ab r.bs.length cb):=(by rw[<-rY,sW];exact (dh.cell (p:=⟨g,i*3+2,none⟩) bR).trans (hc 2 (by omega)));have lR:=zC (show rs.take (i+1)=rs.take i++[r] by rw[sW];exact List.take_succ_eq_append_getElem jb);have L4:=zA gK r bY;obtain⟨kx,rf⟩:=zA VT r bY;have eU:r.R.pd.size<=maxLen:=(by unfold maxLen;omega);obtain⟨m,il⟩:=Option.isSome_iff_exists.1 rf;have hu:(stV ps Sp r.R.pd).getD (.agg #[.string { data:=#[] },.int .i64 0,.int .i64 0])=.agg #[.string r.R.pd,.int .i64 (Sp r.R.pd),.int .i64 m]:=(by unfold stV;rw[il];rfl);have kA:=(Below.refl wr.heap.size wr).alloc L9 (.cells #[.string r.R.pd,.slice ah r.R.ts.length ch,.slice ab r.bs.length cb] 123);have nc:=heap_alloc_new wr (.cells #[.string r.R.pd,.slice ah r.R.ts.length ch,.slice ab r.bs.length cb] 123);have kr:=zC bY;have gJ:=zC ay;have DJ:=zC L4;have Ix:=zC (And.intro sP rY);clear hc ay sW bY rf il L4 aL sP rY h2;go_upto_region 4 with fail;generalize lL:World.alloc wr _=w2 at *;have rO:Below w.heap.size w w2:=dh.trans (kA.mono dh.size);have lV:=(kA.block _ sY).trans ed;have t2:fD Tryz.prog 9 w2 tb n (stV ps Sp):=(zA HT).block (rO.block tb vu);have m2:jg w2 mb K:=(zA HM).block (rO.block mb bh);have a0:=(zB nc 0).1;have a1:=(zB nc 1).1;have a2:=(zB nc 2).1;have q0:=(zB lV 0).1;simp only[List.getElem?_toArray,List.getElem?_cons_zero,List.getElem?_cons_succ] at a0 a1 a2 q0;have qt:=zC rO;have F4:=zC lV
   by_cases uZ:Sp r.R.pd<k
   ·have va:decide ((Sp r.R.pd:Int)<k)=true:=(by simp;omega);have ay:=zA gJ;have Rl:=z4x w2 base mb r K ⟨zH ay.hd rO (λ g e=>(ay.hd.lt g e).2),ay.bo.below rO,ay.eq⟩ m2 (zA DJ);rw[(zA Ix).1,(zA Ix).2] at Rl;have Wi:=zC Rl;clear ay Rl lL kA nc e0 e1 e2 ed dh m2 rO lV;go_wp2_with (first | (at_lookup;refine zgk _ rfl _ _ 73 rfl 9 185 Tryz.underlying9 Tryz.underlying73 (Tryz.zeroValue185 _) tb n (stV ps Sp) rfl t2 r.R.pd rfl eU _ hu ?_) | (go_at_call 224;refine (zA Wi).mono ?_;rintro en w4 ⟨cM,c,rfl,TW⟩;have ki:=zC cM;have EI:=zC TW;clear cM TW;cases zo:c))
    ·rw[zo] at EI;go_ret;have kw:=(zA qt).trans ((zA ki).mono (zA qt).size);refine⟨kw,false,rfl,λ h=>(by cases h),λ h=>?_⟩;exact ((zA EI).2 (h r (zA kr) uZ))
    ·rw[zo] at EI;go_roundg (rs.length-(i+1))
     case measure=>omega
     case rel=>
      have kw:=(zA qt).trans ((zA ki).mono (zA qt).size);refine⟨i+1,by omega,rfl,by go_num,kw,((zA ki).block _ (Array.getElem?_eq_some_iff.1 (zA F4)).1).trans (zA F4),λ x hx=>?_⟩;rw[zA lR] at hx;rcases List.mem_append.1 hx with hx | hx
      ·exact zA cY x hx
      ·rw[List.mem_singleton.1 hx];exact λ _=>(zA EI).1 rfl
   ·have va:decide ((Sp r.R.pd:Int)<k)=false:=(by simp;omega);clear lL kA nc e0 e1 e2 ed dh m2 rO lV gJ DJ;go_wp2_with (at_lookup;refine zgk _ rfl _ _ 73 rfl 9 185 Tryz.underlying9 Tryz.underlying73 (Tryz.zeroValue185 _) tb n (stV ps Sp) rfl t2 r.R.pd rfl eU _ hu ?_);go_roundg (rs.length-(i+1))
    case measure=>omega
    case rel=>
     refine⟨i+1,by omega,rfl,by go_num,zA qt,zA F4,λ x hx=>?_⟩;rw[zA lR] at hx;rcases List.mem_append.1 hx with hx | hx
     ·exact zA cY x hx
     ·rw[List.mem_singleton.1 hx];exact λ h=>absurd h uZ
  ·have rF:¬ (i:Int)<rs.length:=(by omega);have qn:rs.take i=rs:=List.take_of_length_le (by omega);rw[qn] at cY;clear aL ed dh qn;go_wp2_with fail;go_ret;exact⟨zA ly,true,rfl,λ _=>zA cY,λ _=>rfl⟩
end
section
open Go.RowKit Go.Maps
def z81 (rs:List PR)(Sp:B8->Nat)(m k:Nat)(ns:List (Nat × List Nat))(st:List xA):Prop:=k<=m/\j8 rs ns []=some st/\(st.map (·.t)).Nodup/\zux Sp k st/\zxo Sp k rs st
def z6r (w:W8)(ps:P9)(Sp:B8->Nat)(P:Nat->List xA->Prop)(e:Ending)(w':W8):Prop:=
 Below w.heap.size w w'/\∃ m,za1 ps Sp m/\((∃ st mb,P m st/\e=.returned (.tuple #[.map (some mb),.bool true])/\jg w' mb (j3 st))\/((∀ st,¬ P m st)/\e=.returned (.tuple #[.map none,.bool false])))
theorem z50 {Sp:B8->Nat}{k:Nat}{rs:List PR}{st:List xA}:z6f Sp k rs (j3 st)↔zxo Sp k rs st:=by
 unfold z6f zhn zxo;rw[qK]
structure z80 (w:W8)(base tb n:Nat)(ps:P9)(Sp:B8->Nat)(rs:List PR)(rv:Value)(bZ:List ND)(nv:Value):Prop where
 rules:l8 w base rv rs
 de:∀ r∈rs,xh ps r
 nodes:CK w 0 nv bZ
 gH:bZ.length<=50
 ix:∀ x∈bZ,∃ h:x.r<rs.length,x.fr.length=(yZ rs[x.r].bs).length
 t:fD Tryz.prog 9 w tb n (stV ps Sp)
 str:∀ k,(xH ps k).isSome=true->Sp k<=1000000
theorem zl6 (rp:List PR):∀ (ns:List (Nat × List Nat)) (st ky:List xA),j8 rp ns st=some ky->ky.length=st.length+ns.length
 | [],st,ky,h=>by obtain rfl:=Option.some.inj h;simp
 | x::q,st,ky,h=>by
  rw[j8] at h
  split at h
  ·cases h
  ·split at h
   ·cases h
   ·have:=zl6 rp q _ _ h;rw[this];simp;omega
theorem z08 (w:W8)(base tb n k:Nat)(ps:P9)(Sp:B8->Nat)(rs:List PR)(ar:O8)(cr:Nat)(bZ:List ND)(an:O8)(cn:Nat)(h:z80 w base tb n ps Sp rs (.slice ar rs.length cr) bZ (.slice an bZ.length cn)):
  Calls Tryz.prog 122 #[.agg #[.int .i64 (k:Nat),.slice an bZ.length cn],.slice ar rs.length cr,.map (some tb)] w (z6r w ps Sp (λ m st=>z81 rs Sp m k (bZ.map sA) st)):=by
 have H:=zC h;have vu:=h.t.lt;clear h;go_enter Tryz.func122,Tryz.ntmps122;go_upto_region 1 with fail;have iW:Below w.heap.size w (w.alloc (.cells #[.int .i64 (k:Nat),.slice an bZ.length cn] 93)):=B9.alloc L9 _;have sR:=heap_alloc_new w (.cells #[.int .i64 (k:Nat),.slice an bZ.length cn] 93);generalize (w.alloc (.cells #[.int .i64 (k:Nat),.slice an bZ.length cn] 93))=w0 at *;have sY:w.heap.size<w0.heap.size:=(Array.getElem?_eq_some_iff.1 sR).1;have c0:=(zB sR 0).1;simp only[List.getElem?_toArray,List.getElem?_cons_zero] at c0;have HC:=zC (λ (W:W8) (hW:Below w0.heap.size w0 W)=>zys W tb n ps Sp ((zA H).t.block ((iW.trans (hW.mono iW.size)).block tb vu)) (zA H).str);have A3:=zC (λ (W:W8) (hW:Below w0.heap.size w0 W)=>(hW.cell (p:=⟨w.heap.size,0,none⟩) sY).trans c0);have eW:=zC iW;have lh:=zC sR;clear iW sR
 go_cut [15] from 11 to 47 (λ c wc=>∃ m:Nat,c=.bool (decide ((m:Int)<(k:Int)))/\za1 ps Sp m/\Below w0.heap.size w0 wc)
 case first=>
  go_region_held3 (λ w'=>w'.cell? ⟨w.heap.size,0,none⟩=some (.int .i64 (k:Nat))) (first | exact zA A3 _ dT | exact zA A3 _ B9.drew) ((go_at_call 59;refine (zA HC _ (by first | exact B9.drew)).mono ?_;rintro en w4 ⟨m,rfl,tE,cM⟩;have dT:Below w0.heap.size w0 w4:=zV cM;have x4:=zA A3 w4 dT))
  all_goals
   go_wp2_with fail;go_meet
   case rel=>exact⟨_,by first | rfl | simp,tE,dT⟩
 case rest=>
  generalize wc=wA at *;obtain⟨m,rfl,tE,lA⟩:=hcut;have oP:Below w.heap.size w wA:=(zA eW).trans (lA.mono (zA eW).size);have lE:=(lA.block _ sY).trans (zA lh);have sM:=zC tE;have oL:=zC oP;have Vl:=zC lE
  by_cases nQ:k<=m
  ·have hd:decide ((m:Int)<(k:Int))=false:=(by simp;omega);rw[hd];have q0:=(zB lE 0).1;have q1:=(zB lE 1).1;simp only[List.getElem?_toArray,List.getElem?_cons_zero,List.getElem?_cons_succ] at q0 q1
   have Cb:l8 wA base (.slice ar rs.length cr) rs:=⟨zH (zA H).rules.row oP (λ g e=>((zA H).rules.row.lt g e).2),λ r hr=>by
    have:=(zA H).rules.each r hr
    exact⟨zH this.hd oP (λ g e=>(this.hd.lt g e).2),this.bo.below oP,this.eq⟩⟩
   have eN:=zC (z1l wA base k rs ar cr bZ an cn ⟨Cb,λ r hr=>((zA H).de r hr).l3,λ r hr x hx=>(((zA H).de r hr).ls x hx).w.gH,λ r hr=>((zA H).de r hr).hd.w.gH,(zA H).nodes.below oP,(zA H).gH,(zA H).ix⟩);clear tE lA oP Cb HC A3 eW lh c0;have HQ1:=zC (And.intro q0 q1)
   cases hO:j8 rs (bZ.map sA) [] with
   | none=>
    rw[hO] at eN;have HO:=zC hO;clear hO lE;go_wp2_with (go_at_call 178;refine (zA eN).mono ?_;rintro en wS ⟨KR,v,rfl,ay⟩;have EH:=zC KR;clear KR ay)
    go_ret2
    exact⟨(zA oL).trans ((zA EH).mono (zA oL).size),m,zA sM,.inr ⟨λ st h=>(by have h2:=h.2.1;rw[zA HO] at h2;cases h2),rfl⟩⟩
   | some st=>
    rw[hO] at eN;have HO:=zC hO;have UG:=ze0 (zA H).de (bZ.map sA) [] st (by simp) hO;have vp:st.length<=50:=by
     have:=zl6 rs _ _ _ hO;have h2:=(zA H).gH;simp at this;omega
    have C5:=zC UG;clear hO UG;go_upto_region 4 with (go_at_call 178;refine (zA eN).mono ?_;rintro en wS ⟨KR,v,rfl,ay⟩;have NK:=ay.row;simp only[Option.getD_some] at NK;obtain⟨sa,cs,rfl⟩:=zD NK;have Aw:=zC NK;have EH:=zC KR;clear KR ay NK);have Uf:Below w.heap.size w wS:=(zA oL).trans ((zA EH).mono (zA oL).size);have GD:=((zA EH).block _ (Array.getElem?_eq_some_iff.1 lE).1).trans lE;have Vy:=zC (zvs wS 0 st sa cs ⟨zF (zA Aw) (Nat.zero_le _)⟩ (λ s hs=>(zA C5 s hs).ti.ok) vp (λ s hs=>((zA H).rules.each _ (zA C5 s hs).aX).one));have IB:=zC Uf;have Om:=zC GD;have YA:w.heap.size<wS.heap.size:=(Array.getElem?_eq_some_iff.1 GD).1;clear q0 q1 lE Uf GD eN;go_upto_region 7 with (go_at_call 179;refine (zA Vy).mono ?_;rintro en wG ⟨IQ,hg⟩;have Vk:=zC IQ;rcases hg with⟨kY,rfl⟩ | ⟨kY,rfl,I1⟩)
    ·have za:=zC kY;clear kY IQ;go_wp2_with fail
     go_ret2
     exact⟨(zA IB).trans ((zA Vk).mono (zA IB).size),m,zA sM,.inr ⟨λ ky h=>(by have h2:=h.2.1;rw[zA HO] at h2;obtain rfl:=Option.some.inj h2;exact zA za h.2.2.1),rfl⟩⟩
    ·have za:=zC kY;have Fl:Below w.heap.size w wG:=(zA IB).trans (IQ.mono (zA IB).size);have By:=(IQ.block _ YA).trans (zA Om);have q0:=(zB By 0).1;have q1:=(zB By 1).1;simp only[List.getElem?_toArray,List.getElem?_cons_zero,List.getElem?_cons_succ] at q0 q1;have Ro:=(zA H).t.block (Fl.block tb vu);have Hd:∀ r∈rs,sL wG base r:=λ r hr=>by
      have:=(zA H).rules.each r hr;exact⟨zH this.hd Fl (λ g e=>(this.hd.lt g e).2),this.bo.below Fl,this.eq⟩
     have EJ:=zC (zvf wG base wS.heap.size tb n k (.slice an bZ.length cn) ps Sp st sa cs ⟨⟨zH (zF (zA Aw) (Nat.zero_le _)) IQ (λ g e=>((zA Aw).lt g e).2)⟩,vp,λ s hs=>Hd _ (zA C5 s hs).aX,λ s hs=>((zA H).de _ (zA C5 s hs).aX).l3,λ s hs x hx=>(((zA H).de _ (zA C5 s hs).aX).ls x hx).w.gH,λ s hs=>(zA C5 s hs).xe.len,λ s hs a ha=>⟨((zA C5 s hs).xe.neg a ha).ok,by have:=(((zA H).de _ (zA C5 s hs).aX).neg a ha).w.pd.le;omega,by rw[(((zA H).de _ (zA C5 s hs).aX).neg a ha).num];rfl⟩,I1,Ro⟩ an bZ.length cn rfl);have VK:=zC I1;have IA:=zC Fl;have Vm:=zC By;have Tp:∀ p∈j3 st,sO ps p.1:=λ p hp=>by
      have:p.1∈(j3 st).map (·.1):=List.mem_map_of_mem hp;rw[qK] at this;obtain⟨s,hs,e⟩:=List.mem_map.1 this;rw[<-e];exact (zA C5 s hs).ti
     have Oo:=zC (λ (W:W8) (hW:Below wG.heap.size wG W)=>zu9 W base wS.heap.size tb n k an bZ.length cn ps Sp ar cr rs (j3 st) ⟨zH (zA H).rules.row (Fl.trans (hW.mono Fl.size)) (λ g e=>((zA H).rules.row.lt g e).2),λ r hr=>by
       have:=Hd r hr
       exact⟨zH this.hd hW (λ g e=>(this.hd.lt g e).2),this.bo.below hW,this.eq⟩⟩ (I1.block (hW.block _ I1.lt)) (Ro.block (hW.block tb (by have:=Fl.size;omega))) (λ r hr=>(zyq (zA H).de (j3 st) Tp r hr).1) (λ r hr=>⟨by have:=((zA H).de r hr).hd.w.pd.le;show r.R.pd.size<=800;have e:(kz r).p=r.R.pd:=rfl;rw[e] at this;omega,by have:=((zA H).de r hr).hd.num;have e:(kz r).p=r.R.pd:=rfl;rw[e] at this;rw[this];rfl⟩))
     have Md:w.heap.size<wG.heap.size:=(Array.getElem?_eq_some_iff.1 By).1;have V2:=zC (λ (W:W8) (hW:Below wG.heap.size wG W)=>(show W.cell? ⟨w.heap.size,0,none⟩=some (.int .i64 (k:Nat))/\W.cell? ⟨w.heap.size,1,none⟩=some (.slice an bZ.length cn) from ⟨(hW.cell (p:=⟨w.heap.size,0,none⟩) Md).trans q0,(hW.cell (p:=⟨w.heap.size,1,none⟩) Md).trans q1⟩));have QG:=I1.lt;clear kY Fl By Ro Hd I1 Tp IQ;go_wp2_with (first | (go_at_call 180;refine (zA EJ).mono ?_;rintro en wD ⟨Db,c1,rfl,oO⟩;obtain⟨d0,d1⟩:=zA V2 wD Db;have oJ:=zC Db;have On:=zC oO;have Vo:=zC (zA Oo wD Db);clear Db oO;cases zo:c1 <;> rw[zo] at On) | (go_at_call 181;refine (zA Vo).mono ?_;rintro en wE ⟨TP,c2,rfl,nN⟩;have CV:=zC TP;have Iu:=zC nN;clear TP nN;cases hce:c2 <;> rw[hce] at Iu))
     ·go_ret2
      exact⟨(zA IA).trans ((zA oJ).mono (zA IA).size),m,zA sM,.inr ⟨λ ky h=>(by have h2:=h.2.1;rw[zA HO] at h2;obtain rfl:=Option.some.inj h2;exact absurd ((zA On).2 h.2.2.2.1) (by simp)),rfl⟩⟩
     ·go_ret2
      exact⟨(zA IA).trans (((zA oJ).trans ((zA CV).mono (zA oJ).size)).mono (zA IA).size),m,zA sM,.inr ⟨λ ky h=>(by have h2:=h.2.1;rw[zA HO] at h2;obtain rfl:=Option.some.inj h2;exact absurd ((zA Iu).2 (z50.2 h.2.2.2.2)) (by simp)),rfl⟩⟩
     ·go_ret2
      have kE:=(zA oJ).trans ((zA CV).mono (zA oJ).size);exact⟨(zA IA).trans (kE.mono (zA IA).size),m,zA sM,.inl ⟨st,_,⟨nQ,zA HO,zA za,(zA On).1 (by trivial),z50.1 ((zA Iu).1 (by trivial))⟩,rfl,(zA VK).block (kE.block _ QG)⟩⟩
  ·have hd:decide ((m:Int)<(k:Int))=true:=(by simp;omega);rw[hd];clear tE lA oP HC A3;go_wp2_with fail
   go_ret2
   exact⟨zA oL,m,zA sM,.inr ⟨λ st h=>nQ h.1,rfl⟩⟩
end
section
open Go.RowKit Go.Maps
attribute [local go_sem ↓] za9 zau zat zas
theorem zlh {ps:P9}{Sp:B8->Nat}{m m':Nat}(h:za1 ps Sp m)(h':za1 ps Sp m'):m=m':=by
 rcases h.2 with h0 | ⟨k,hk,e⟩
 ·rcases h'.2 with Nc | ⟨k',ph,e'⟩
  ·omega
  ·have:=h.1 k' ph;omega
 ·have h1:=h'.1 k hk;rcases h'.2 with Nc | ⟨k',ph,e'⟩
  ·omega
  ·have h2:=h.1 k' ph;omega
theorem z6a {pos:List Nat}:∀ (n:Nat) (rest:List Nat) (l:List (Nat × List Nat)),rdP pos n rest=some l->l.length=n/\∀ x∈l,pos[x.1]?=some x.2.length
 | 0,[],l,h=>by obtain rfl:=Option.some.inj h;simp
 | 0,_::_,l,h=>by cases h
 | _+1,[],l,h=>by cases h
 | n+1,r::q,l,h=>by
  rw[rdP] at h
  split at h
  ·cases h
  ·rename_i m hm
   split at h
   ·cases h
   ·rename_i hq
    split at h
    ·cases h
    ·rename_i l' rG;obtain rfl:=Option.some.inj h;obtain⟨h1,h2⟩:=z6a n _ l' rG;refine⟨by simp[h1],λ x hx=>?_⟩;rcases List.mem_cons.1 hx with rfl | hx
     ·simp only[List.length_take];rw[hm,Nat.min_eq_left (by omega)]
     ·exact h2 x hx
theorem z3l {rs:List PR}{bs:List Nat}{k:Nat}{ns:List (Nat × List Nat)}(h:zg2 (zdy rs) bs=some (k,ns)):ns.length<=50/\∀ x∈ns,∃ hx:x.1<rs.length,x.2.length=(yZ rs[x.1].bs).length:=by
 match bs,h with
 | k'::n::rest,h=>
  unfold zg2 at h;simp only at h
  split at h
  ·cases h
  ·rename_i hn;obtain⟨l,h1,h2⟩:=Option.map_eq_some_iff.1 h;injection h2 with _ h2
   subst h2;obtain⟨q1,q2⟩:=z6a n rest l h1;refine⟨by omega,λ x hx=>?_⟩;have:=q2 x hx;unfold zdy at this;rw[List.getElem?_map] at this
   cases hr:rs[x.1]? with
   | none=>rw[hr] at this;cases this
   | some R=>
    rw[hr] at this;obtain⟨h5,h6⟩:=List.getElem?_eq_some_iff.1 hr;refine⟨h5,?_⟩;rw[h6];exact (Option.some.inj this).symm
noncomputable def zi0 (ps:P9)(Sp:B8->Nat)(k:Nat)(T:List Th)(t:Th):Nat:=open Classical in if t∈T then 1 else if (xH ps t.p).isSome=true/\k<=Sp t.p then 3 else 2
def z20 (w:W8)(ps:P9)(Sp:B8->Nat)(rs:List PR)(bs:List Nat)(t:Th)(e:Ending)(w':W8):Prop:=
 Below w.heap.size w w'/\((∃ m k st,za1 ps Sp m/\Dp rs Sp m bs k st/\e=.returned (.int .i64 (zi0 ps Sp k (st.map (·.t)) t:Nat)))\/((∀ m k st,za1 ps Sp m->¬ Dp rs Sp m bs k st)/\e=.returned (.int .i64 (3:Nat))))
theorem ML.shape {w w':W8}{F:Option (Nat × List (Nat × List Nat))}{e:Ending}(h:ML w w' F e):(F=none/\e=.returned (.tuple #[.agg #[.int .i64 0,.slice none 0 0],.bool false]))\/∃ (k:Nat) (bZ:List ND) (a:O8) (c:Nat),F=some (k,bZ.map sA)/\CK w' w.heap.size (.slice a bZ.length c) bZ/\e=.returned (.tuple #[.agg #[.int .i64 (k:Nat),.slice a bZ.length c],.bool true]):=by
 cases h with
 | no=>exact .inl ⟨rfl,rfl⟩
 | yes h=>exact .inr ⟨_,_,_,_,rfl,h,rfl⟩
structure z6t (w:W8)(base tb n:Nat)(ps:P9)(Sp:B8->Nat)(rs:List PR)(rv:Value)(a:O8)(c:Nat)(bs:List Nat)(t:Th):Prop where
 rules:l8 w base rv rs
 de:∀ r∈rs,xh ps r
 tab:fD Tryz.prog 9 w tb n (stV ps Sp)
 str:∀ k,(xH ps k).isSome=true->Sp k<=1000000
 b:nJ w a c bs
 th:zhm t
theorem z1h (w:W8)(base tb n:Nat)(ps:P9)(Sp:B8->Nat)(rs:List PR)(ar:O8)(cr:Nat)(a:O8)(c:Nat)(bs:List Nat)(t:Th)(h:z6t w base tb n ps Sp rs (.slice ar rs.length cr) a c bs t):
  Calls Tryz.prog 78 #[.slice a bs.length c,.slice ar rs.length cr,.map (some tb),thV t] w (z20 w ps Sp rs bs t):=by
 have H:=zC h;have vu:=h.tab.lt;have ym:=h.th;obtain⟨ct,tE⟩:∃ ct,ct=(yK t).toArray:=⟨_,rfl⟩;have sM:=zC tE;unfold thV;rw[<-tE];have q1:ct.size=5:=by rw[tE];rfl
 clear tE h;go_enter Tryz.func78,Tryz.ntmps78;go_upto_region 1 with fail;generalize dK:World.alloc w _=w0;have k0:Below w.heap.size w w0:=by rw[<-dK];exact B9.alloc L9 _
 have x0:TV w0 w.heap.size t:=by rw[<-dK,zA sM];exact TV.new w t
 clear dK
 have pt:l8 w0 base (.slice ar rs.length cr) rs:=⟨zH (zA H).rules.row k0 (λ g e=>((zA H).rules.row.lt g e).2),λ r hr=>by
  have:=(zA H).rules.each r hr
  exact⟨zH this.hd k0 (λ g e=>(this.hd.lt g e).2),this.bo.below k0,this.eq⟩⟩
 have Dy:=zC (znd w0 base a c bs ((zA H).b.below k0) ar cr rs pt (λ r hr=>((zA H).de r hr).l3));have eW:=zC k0;have xo:=zC x0;clear k0 x0 pt;go_upto_region 2 with (go_at_call 121;refine (zA Dy).mono ?_;rintro en w1 ⟨T5,aM⟩;have lC:=zC aM;clear aM;rcases T5.shape with⟨hF,rfl⟩ | ⟨k,bZ,an,cn,hF,kY,rfl⟩ <;> (have HF:=zC hF;clear hF T5))
 ·go_wp2_with fail;go_ret;exact⟨((zA eW).trans ((zA lC).mono (zA eW).size)).alloc (Nat.le_trans (zA eW).size (zA lC).size) _,.inr ⟨λ m k st _ h=>(by obtain⟨ns,h1,_⟩:=h;rw[zA HF] at h1;cases h1),rfl⟩⟩
 ·obtain⟨zq,hZ⟩:=z3l (zA HF);generalize lL:World.alloc w1 _=w2;have k2:Below w1.heap.size w1 w2:=by rw[<-lL];exact B9.alloc L9 _
  have y2:w2.heap[w1.heap.size]?=some (.cells #[.int .i64 (k:Nat),.slice an bZ.length cn] 93 (0,0)):=by rw[<-lL];exact heap_alloc_new w1 _
  clear lL;have rO:Below w.heap.size w w2:=(zA eW).trans (((zA lC).trans (k2.mono (zA lC).size)).mono (zA eW).size);have c0:=(zB y2 0).1;have c1:=(zB y2 1).1;simp only[List.getElem?_toArray,List.getElem?_cons_zero,List.getElem?_cons_succ] at c0 c1
  have mS:l8 w2 base (.slice ar rs.length cr) rs:=⟨zH (zA H).rules.row rO (λ g e=>((zA H).rules.row.lt g e).2),λ r hr=>by
   have:=(zA H).rules.each r hr
   exact⟨zH this.hd rO (λ g e=>(this.hd.lt g e).2),this.bo.below rO,this.eq⟩⟩
  have C4:=zC (z08 w2 base tb n k ps Sp rs ar cr bZ an cn ⟨mS,(zA H).de,(kY.below k2).low (Nat.zero_le _),by simpa using zq,λ x hx=>hZ (sA x) (List.mem_map_of_mem hx),(zA H).tab.block (rO.block tb vu),(zA H).str⟩);have Mg:TV w2 w.heap.size t:=((zA xo).below (zA lC)).below k2;have DM:=zC Mg;have qt:=zC rO;have C6:=zC y2;clear kY hZ rO mS Mg y2 k2 eW xo;go_upto_region 5 with (go_at_call 122;refine (zA C4).mono ?_;rintro en w3 ⟨eG,m,tE,h3⟩;have kZ:=zC eG;have sM:=zC tE;clear eG tE;rcases h3 with⟨st,mb,hq,rfl,kP⟩ | ⟨aR,rfl⟩)
  ·have GV:Below w.heap.size w w3:=(zA qt).trans ((zA kZ).mono (zA qt).size);have RD:=((zA DM).below (zA kZ)).load;have RF:=((zA kZ).block _ (Array.getElem?_eq_some_iff.1 (zA C6)).1).trans (zA C6);have uQ:=zC GV;have KB:Dp rs Sp m bs k st:=⟨bZ.map sA,zA HF,hq⟩;have C3:=zC KB;have yl:=(zA H).tab.block (GV.block tb vu);have eU:t.p.size<=maxLen:=by
    have:=ym.pd;unfold maxLen;omega
   have t0:w3.cell? ⟨w.heap.size,0,none⟩=some (.string t.p):=(zB ((zA DM).below (zA kZ)) 0).1;have d0:=(zB RF 0).1;simp only[List.getElem?_toArray,List.getElem?_cons_zero] at d0;have Yg:w1.heap.size<w3.heap.size:=(Array.getElem?_eq_some_iff.1 RF).1;have YM:w.heap.size<w3.heap.size:=((zA DM).below (zA kZ)).lt;clear GV hq KB RF c0 c1
   cases qo:j2 (j3 st) t with
   | some j=>
    have HE:=zC (show zi0 ps Sp k (st.map (·.t)) t=1 by
     unfold zi0
     rw[if_pos (by rw[<-qK];exact zan.1 (by rw[qo];rfl))])
    have uR:=zC qo;clear qo;go_wp2_with (at_lookup;refine zbr _ rfl _ _ 82 rfl Tryz.underlying82 mb (j3 st) rfl kP t rfl ym _ rfl true (by rw[zA uR];rfl) ?_);go_ret;exact⟨zA uQ,.inl ⟨m,k,st,zA sM,zA C3,by rw[zA HE];rfl⟩⟩
   | none=>
    have AK:t∉st.map (·.t):=λ h5=>by
     rw[<-qK] at h5;have:=zan.2 h5;rw[qo] at this
     cases this
    have uR:=zC qo;clear qo
    cases hn:xH ps t.p with
    | none=>
     have HE:=zC (show zi0 ps Sp k (st.map (·.t)) t=2 by
      unfold zi0
      rw[if_neg AK,if_neg (λ h=>by rw[hn] at h;cases h.1)])
     have hu:(stV ps Sp t.p).getD (.agg #[.string { data:=#[] },.int .i64 0,.int .i64 0])=.agg #[.string { data:=#[] },.int .i64 0,.int .i64 0]:=(by unfold stV;rw[hn];rfl);have hc:(stV ps Sp t.p).isSome=false:=(by unfold stV;rw[hn];rfl);go_wp2_with (first | (at_lookup;refine zbr _ rfl _ _ 82 rfl Tryz.underlying82 mb (j3 st) rfl kP t rfl ym _ rfl false (by rw[zA uR];rfl) ?_) | (at_lookup;refine jX _ rfl _ _ 73 rfl 9 185 Tryz.underlying9 Tryz.underlying73 (Tryz.zeroValue185 _) tb n (stV ps Sp) rfl yl t.p rfl eU _ hu _ hc ?_));go_ret;exact⟨(zA uQ).alloc (zA uQ).size _,.inl ⟨m,k,st,zA sM,zA C3,by rw[zA HE];rfl⟩⟩
    | some q=>
     have hu:(stV ps Sp t.p).getD (.agg #[.string { data:=#[] },.int .i64 0,.int .i64 0])=.agg #[.string t.p,.int .i64 (Sp t.p),.int .i64 q]:=(by unfold stV;rw[hn];rfl);have hc:(stV ps Sp t.p).isSome=true:=by unfold stV;rw[hn];rfl
     by_cases hS:Sp t.p<k
     ·have va:decide ((Sp t.p:Int)<k)=true:=by simp;omega
      have HE:=zC (show zi0 ps Sp k (st.map (·.t)) t=2 by
       unfold zi0
       rw[if_neg AK,if_neg (λ h=>by omega)])
      go_wp2_with (first | (at_lookup;refine zbr _ rfl _ _ 82 rfl Tryz.underlying82 mb (j3 st) rfl kP t rfl ym _ rfl false (by rw[zA uR];rfl) ?_) | (at_lookup;refine jX _ rfl _ _ 73 rfl 9 185 Tryz.underlying9 Tryz.underlying73 (Tryz.zeroValue185 _) tb n (stV ps Sp) rfl yl t.p rfl eU _ hu _ hc ?_));go_ret;exact⟨(zA uQ).alloc (zA uQ).size _,.inl ⟨m,k,st,zA sM,zA C3,by rw[zA HE];rfl⟩⟩
     ·have va:decide ((Sp t.p:Int)<k)=false:=by simp;omega
      have HE:=zC (show zi0 ps Sp k (st.map (·.t)) t=3 by
       unfold zi0
       rw[if_neg AK,if_pos ⟨by rw[hn];rfl,by omega⟩])
      go_wp2_with (first | (at_lookup;refine zbr _ rfl _ _ 82 rfl Tryz.underlying82 mb (j3 st) rfl kP t rfl ym _ rfl false (by rw[zA uR];rfl) ?_) | (at_lookup;refine jX _ rfl _ _ 73 rfl 9 185 Tryz.underlying9 Tryz.underlying73 (Tryz.zeroValue185 _) tb n (stV ps Sp) rfl yl t.p rfl eU _ hu _ hc ?_));go_ret;exact⟨(zA uQ).alloc (zA uQ).size _,.inl ⟨m,k,st,zA sM,zA C3,by rw[zA HE];rfl⟩⟩
  ·go_wp2_with fail;go_ret;refine⟨(zA qt).trans ((zA kZ).mono (zA qt).size),.inr ⟨λ m' k' st qp h=>?_,rfl⟩⟩;obtain⟨ns,h1,h2,h3⟩:=h;rw[zA HF] at h1;obtain⟨rfl,rfl⟩:k=k'/\bZ.map sA=ns:=by simpa using h1
   have e:=zlh (zA sM) qp;subst e;exact aR st ⟨h2,h3⟩
end
end Go.Proofs.YtldkpahaocjdpaaGreat
