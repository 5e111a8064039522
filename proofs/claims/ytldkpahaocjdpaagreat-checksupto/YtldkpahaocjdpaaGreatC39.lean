/-
  A region inside a round: where no operation defers, it goes as outside.
-/
import Derived.OrdersIn
import Derived.OrdersHeld
import Derived.Deep.RegionHeld
import Derived.Test.YtldkpahaocjdpaaGreatC37
import Derived.Test.YtldkpahaocjdpaaGreatC38
import Derived.Maps.OwnIn
import Derived.Sort.LoopGhostIn
import Derived.StepT
set_option maxHeartbeats 16000000
set_option maxRecDepth 1000000
namespace Go.Proofs.YtldkpahaocjdpaaGreat
section
open Go
def zr6 (ops:Array Oper):Bool:=ops.all λ o=>match o.op with | .defer _=>false | _=>true
theorem zsm {o:Oper}(h:(match o.op with | .defer _=>false | _=>true)=true)(l:Nat)(ρ:Operand->Value):o.semAt (some l) ρ=o.semAt none ρ:=by
 unfold Oper.semAt
 split
 ·rename_i h1;rw[h1] at h;cases h
 ·rfl
variable {w:W8} {a:Act} {Q:Exit->Act->W8->Prop} {ops:Array Oper} {P:Program} {n:Nat}
theorem zq8 {i:Nat}{K K':Act->W8->Prop}(hd:zr6 ops=true)(hQ:¬ LetsOut Q)(l:Nat)(hK:∀ a w,K a w->K' a w)(h:wpOp P ops Q i K a w):wpOpIn (Fence.wide.inRound l) n P ops Q i K' a w:=by
 refine wpOpIn_mono hK ?_;unfold wpOp at h;unfold wpOpIn
 split
 ·rename_i ho;rw[ho] at h;exact h
 ·rename_i o ho;rw[ho] at h;simp only at h;have aR:=Array.all_eq_true.1 hd i (Array.getElem?_eq_some_iff.1 ho).1;rw[(Array.getElem?_eq_some_iff.1 ho).2] at aR
  split
  ·rename_i hw;rw[if_pos hw] at h;refine⟨λ _ _=>trivial,?_⟩
   show o.uponIn (Fence.wide.inRound l) n P a K Q ((o.semAt (some l) a.eval).run P w)
   rw[zsm aR l];rcases h with h | h
   ·unfold Oper.wp at h;have e:o.semAt none a.eval=execOp a.eval o:=rfl;rw[e];generalize (execOp a.eval o).run P w=r at h ⊢
    cases r with
    | ok x w'=>
     cases x <;> first
      | exact h
      | exact h.elim
      | exact⟨λ e=>(by cases e),callsIn_wide.2 h⟩
      | exact⟨λ e=>(by cases e),λ c cs _=>(let ⟨v,w',r,s⟩:=h c cs;⟨v,w',r,stepsIn_wide.2 s⟩)⟩
    | halt x w'=>cases x <;> first | exact h | exact h.elim
   ·exact absurd h.2 hQ
  ·rename_i hw;rw[if_neg hw] at h;exact⟨λ _ _=>trivial,h⟩
theorem zfn {n:Nat}{P:Program}{md:Region.Mode}{ops:Array Oper}{Q:Exit->Act->W8->Prop}(hd:zr6 ops=true)(hQ:¬ LetsOut Q)(l:Nat):∀ (fuel:Nat) (lZ:Array Bool) (a:Act) (w:W8),wpAny P md ops Q fuel lZ a w->wpAnyIn (Fence.wide.inRound l) n P md ops Q fuel lZ a w
 | 0,_,_,_,h=>h
 | fuel+1,_,_,_,h=>⟨h.1,λ i hi=>zq8 hd hQ l (λ a w h=>zfn hd hQ l fuel _ a w h) (h.2 i hi)⟩
theorem zqc {id:Nat}(S:W8->Prop)(hm:P.follows .mixedOrders=true)(hd:zr6 ops=true)(hQ:¬ LetsOut Q){l:Nat}(h:wpAnyH P .any ops Q S ops.size (Array.replicate ops.size false) a w.drew):(Code.region id ops true).wpIn (Fence.wide.inRound l) n P Q a w:=
 wpIn_region_any hm (zfn hd hQ l _ _ _ _ (wpAny_of_held _ _ _ _ h))
end
section
def znu:List zQ->Nat->List (Th × Nat)
 | [],_=>[]
 | f::r,i=>(thA f.ao,i)::znu r (i+1)
theorem znv:∀ (l:List zQ) (i:Nat),(znu l i).map (·.1)=l.map λ f=>thA f.ao
 | [],_=>rfl
 | f::r,i=>by rw[znu,List.map_cons,List.map_cons,znv r (i+1)]
theorem zic {a:zL}{x y:Way}:∀ (l:List zQ) (i:Nat),y∈zgn a x l i->∃ (k:Nat) (h:k<l.length) (e:Env),vN x.1 a l[k].ao=some e/\y=(e,x.2++[i+k])
 | [],_,h=>by simp[zgn] at h
 | f::r,i,h=>by
  rw[zgn] at h;rcases List.mem_append.1 h with h | h
  ·cases hm:vN x.1 a f.ao with
   | none=>rw[hm] at h;cases h
   | some e=>rw[hm] at h;exact⟨0,by simp,e,hm,List.mem_singleton.1 h⟩
  ·obtain⟨k,hk,e,h1,h2⟩:=zic r (i+1) h;exact⟨k+1,by simpa using hk,e,h1,by rw[h2,show i+1+k=i+(k+1) by omega]⟩
theorem Ve {a:zL}{x:Way}:∀ (l:List zQ) (i:Nat),(zgn a x l i).Pairwise λ y z=>zk5 y.2 z.2=true
 | [],_=>by simp[zgn]
 | f::r,i=>by
  rw[zgn];refine List.pairwise_append.2 ⟨?_,Ve r (i+1),λ y hy z hz=>?_⟩
  ·split <;> simp
  ·obtain⟨k,_,e,_,rfl⟩:=zic r (i+1) hz
   split at hy
   ·rw[List.mem_singleton.1 hy];exact zpk _ (by omega)
   ·cases hy
theorem zk1 {a:zL}{l:List zQ}{m:Nat}:∀ (now:List Way),(now.Pairwise λ y z=>zk5 y.2 z.2=true)->(∀ x∈now,x.2.length=m)->((zgi a l now).Pairwise λ y z=>zk5 y.2 z.2=true)/\∀ x∈zgi a l now,x.2.length=m+1
 | [],_,_=>by simp[zgi]
 | x::r,hs,hl=>by
  have e:zgi a l (x::r)=zgn a x l 0++zgi a l r:=by simp[zgi]
  rw[List.pairwise_cons] at hs;obtain⟨h1,h2⟩:=zk1 (a:=a) (l:=l) r hs.2 (λ y hy=>hl y (List.mem_cons_of_mem _ hy));have hx:=hl x List.mem_cons_self;rw[e];refine⟨List.pairwise_append.2 ⟨Ve l 0,h1,λ y hy z hz=>?_⟩,λ y hy=>?_⟩
  ·obtain⟨k,_,_,_,rfl⟩:=zic l 0 hy;obtain⟨u,hu,hz⟩:=List.mem_flatMap.1 hz;obtain⟨j,_,_,_,rfl⟩:=zic l 0 hz;exact ztp _ _ (hx.trans (hl u (List.mem_cons_of_mem _ hu)).symm) (hs.1 u hu)
  ·rcases List.mem_append.1 hy with hy | hy
   ·obtain⟨k,_,_,_,rfl⟩:=zic l 0 hy;simp[hx]
   ·exact h2 y hy
theorem zgj {l:List zQ}:∀ (b:List zL) (now:List Way) (m:Nat),(now.Pairwise λ y z=>zk5 y.2 z.2=true)->(∀ x∈now,x.2.length=m)->(zis l b now).Pairwise λ y z=>zk5 y.2 z.2=true
 | [],_,_,h,_=>h
 | a::r,now,m,h,hl=>by
  rw[zis]
  split
  ·exact zgj r now m h hl
  ·obtain⟨h1,h2⟩:=zk1 (a:=a) (l:=l) now h hl;exact zgj r _ (m+1) h1 h2
theorem zq7 (R:zP)(l:List zQ):(zdt R l).Pairwise λ y z=>zk5 y.2 z.2=true:=
 (zgj R.body [([],[])] 0 (by simp) (by simp)).filter _
theorem zkr {l:List zQ}{f:zQ}:∀ (cs out:List zQ),f∈(vR l cs out).1->f∈out\/((∃ a b,cs=a++f::b/\∀ g∈a,g.text≠f.text)/\yL l f.text<0/\∀ g∈out,g.text≠f.text)
 | [],out,h=>.inl h
 | c::r,out,h=>by
  rw[vR] at h
  split at h
  ·exact .inl h
  ·rcases zkr r _ h with h1 | ⟨⟨a,b,rfl,h2⟩,h3,h4⟩
   ·unfold lT at h1
    split at h1
    ·rename_i hc;rcases List.mem_append.1 h1 with h1 | h1
     ·exact .inl h1
     ·rw[List.mem_singleton.1 h1];exact .inr ⟨⟨[],r,rfl,by simp⟩,hc.1,(zhx out c.text).1 hc.2⟩
    ·exact .inl h1
   ·refine .inr ⟨⟨c::a,b,rfl,λ g hg=>?_⟩,h3,λ g hg=>h4 g (zx4 hg)⟩;rcases List.mem_cons.1 hg with rfl | hg
    ·intro e;obtain⟨g2,nA,e2⟩:=z24 (l:=l) (out:=out) (f:=g) (by rw[e];exact h3);exact h4 g2 nA (e2.trans e)
    ·exact h2 g hg
theorem zfv {ps:P9}{S:Nat->Nat}{l:List zQ}{s n:Nat}{f:zQ}:∀ (rs:List zP) (i:Nat) (a b:List zQ),za3 ps S l s n rs i=a++f::b->∃ (j:Nat) (R:zP),rs[j]?=some R/\S (zM ps R.head.pred).toNat=s/\(∃ ya y yb,zdt R l=ya++y::yb/\f=zcn R s n (i+j) y/\∀ y'∈ya,zcn R s n (i+j) y'∈a)/\∀ j' R',j'<j->rs[j']?=some R'->S (zM ps R'.head.pred).toNat=s->∀ y'∈zdt R' l,zcn R' s n (i+j') y'∈a
 | [],i,a,b,h=>by
  rw[za3] at h;simp at h
 | R::r,i,a,b,h=>by
  rw[za3] at h;rcases List.append_eq_append_iff.1 h with⟨a',h1,h2⟩ | ⟨c',h1,h2⟩
  ·obtain⟨j,Q,hj,hs,⟨ya,y,yb,h3,h4,h5⟩,h6⟩:=zfv r (i+1) a' b h2;refine⟨j+1,Q,by simpa using hj,hs,⟨ya,y,yb,h3,by rw[h4,show i+1+j=i+(j+1) by omega],λ y' oR=>?_⟩,λ j' R' AI sQ mh y' oR=>?_⟩
   ·rw[h1,show i+(j+1)=i+1+j by omega];exact List.mem_append.2 (.inr (h5 y' oR))
   ·rw[h1]
    cases j' with
    | zero=>
     rw[List.getElem?_cons_zero] at sQ
     cases sQ
     refine List.mem_append.2 (.inl ?_);rw[if_pos mh];exact List.mem_map.2 ⟨y',oR,rfl⟩
    | succ j''=>
     refine List.mem_append.2 (.inr ?_);rw[show i+(j''+1)=i+1+j'' by omega];exact h6 j'' R' (by omega) (by simpa using sQ) mh y' oR
  ·cases c' with
   | nil=>
    rw[List.nil_append] at h2;obtain⟨j,Q,hj,hs,⟨ya,y,yb,h3,h4,h5⟩,h6⟩:=zfv r (i+1) [] b h2.symm;rw[List.append_nil] at h1;refine⟨j+1,Q,by simpa using hj,hs,⟨ya,y,yb,h3,by rw[h4,show i+1+j=i+(j+1) by omega],λ y' oR=>?_⟩,λ j' R' AI sQ mh y' oR=>?_⟩
    ·cases h5 y' oR
    ·cases j' with
     | zero=>
      rw[List.getElem?_cons_zero] at sQ
      cases sQ
      rw[<-h1,if_pos mh];exact List.mem_map.2 ⟨y',oR,rfl⟩
     | succ j''=>cases h6 j'' R' (by omega) (by simpa using sQ) mh y' oR
   | cons x c''=>
    rw[List.cons_append] at h2;injection h2 with h2 h3
    subst h2
    split at h1
    ·rename_i hs;obtain⟨ya,ys,e1,e2,e3⟩:=List.map_eq_append_iff.1 h1;obtain⟨y,yb,e4,e5,e6⟩:=List.map_eq_cons_iff.1 e3;refine⟨0,R,rfl,hs,⟨ya,y,yb,by rw[e1,e4],e5.symm,λ y' oR=>?_⟩,λ j' R' AI=>absurd AI (Nat.not_lt_zero _)⟩;rw[<-e2];exact List.mem_map.2 ⟨y',oR,rfl⟩
    ·simp at h1
structure z6j (ps:P9)(S:Nat->Nat)(rs:List zP)(l:List zQ)(f:zQ):Prop where
 tx:f.text=zU f.ao
 has:∃ R,rs[f.r]?=some R/\S (zM ps R.head.pred).toNat=f.s/\(∃ y∈zdt R l,y.2=f.fr/\bf y.1 R.head=f.ao)/\∀ y∈zdt R l,zU (bf y.1 R.head)=f.text->zk5 y.2 f.fr=false
 low:∀ j R,j<f.r->rs[j]?=some R->S (zM ps R.head.pred).toNat=f.s->∀ y∈zdt R l,zU (bf y.1 R.head)≠f.text
theorem z3k {ps:P9}{S:Nat->Nat}{rs:List zP}{l:List zQ}{s n:Nat}{out:List zQ}(h:FQ ps S rs l s n out){f:zQ}(hf:f∈out):z6j ps S rs l f/\f.s=s/\f.h=n:=by
 have hm:f∈(vR l (za3 ps S l s n rs 0) []).1:=by
  rcases h with⟨_,rfl⟩ | ⟨_,_,hp⟩
  ·exact hf
  ·exact hp.mem_iff.1 hf
 rcases zkr _ _ hm with h1 | ⟨⟨a,b,h1,h2⟩,_⟩
 ·cases h1
 ·obtain⟨j,R,hj,hs,⟨ya,y,yb,h3,h4,h5⟩,h6⟩:=zfv rs 0 a b h1;have er:f.r=j:=by rw[h4];exact Nat.zero_add j
  have es:f.s=s:=by rw[h4];rfl
  have eh:f.h=n:=by rw[h4];rfl
  have et:f.text=zU (bf y.1 R.head):=by rw[h4];rfl
  have Ta:f.ao=bf y.1 R.head:=by rw[h4];rfl
  have ef:f.fr=y.2:=by rw[h4];rfl
  refine⟨⟨by rw[et,Ta],⟨R,by rw[er];exact hj,by rw[es];exact hs,⟨y,by rw[h3];simp,ef.symm,Ta.symm⟩,λ y' oR he=>?_⟩,λ j' R' AI sQ mh y' oR he=>?_⟩,es,eh⟩
  ·have FC:=zq7 R l;rw[h3] at oR FC;rcases List.mem_append.1 oR with oR | oR
   ·exact absurd he (h2 _ (h5 y' oR))
   ·rcases List.mem_cons.1 oR with rfl | oR
    ·rw[ef];exact znj _
    ·have:=((List.pairwise_cons.1 (List.pairwise_append.1 FC).2.1).1) y' oR;rw[ef]
     cases hq:zk5 y'.2 y.2 with
     | false=>rfl
     | true=>have:=zln this hq;rw[znj] at this;cases this
  ·rw[es] at mh;rw[er] at AI;exact h2 _ (h6 j' R' AI sQ mh y' oR) he
end
section
def zky (g f:zQ):Bool:=decide (g.s<f.s)||(decide (g.s=f.s)&&decide (g.h<f.h))
variable {g f:zQ}
theorem ze8:zky g f=true↔g.s<f.s\/(g.s=f.s/\g.h<f.h):=by unfold zky;simp
theorem zq2:zky g f=false↔¬ (g.s<f.s\/(g.s=f.s/\g.h<f.h)):=by rw[<-ze8];simp
structure Dm (ps:P9)(S:Nat->Nat)(rs:List zP)(l:List zQ):Prop where
 Ze:l.Pairwise λ x y=>jN y x=false
 each:∀ f∈l,∃ l0 r,l=l0++r/\f∈r/\(∀ g∈l0,zky g f=true)/\(∀ g∈r,zky g f=false)/\z6j ps S rs l0 f
theorem Dm.nil (ps:P9)(S:Nat->Nat)(rs:List zP):Dm ps S rs []:=⟨by simp,by simp⟩
theorem zrf {x y:zQ}(h:zky x y=true):jN y x=false:=by
 rw[ze8] at h;unfold jN
 by_cases h1:y.s=x.s
 ·rw[if_neg (by simp[h1])];rw[if_pos (by simp;omega)];simp;omega
 ·rw[if_pos (by simpa using h1)];simp;omega
variable {s n:Nat} {l:List zQ} {rs:List zP} {S:Nat->Nat} {ps:P9}
theorem Dm.more {out:List zQ}(h:Dm ps S rs l)(hb:∀ f∈l,f.s<s\/(f.s=s/\f.h<n))(hr:FQ ps S rs l s n out)(hl:l.length+out.length<=50):Dm ps S rs (l++out)/\∀ f∈l++out,f.s<s\/(f.s=s/\f.h<n+1):=by
 have hf:∀ f∈out,z6j ps S rs l f/\f.s=s/\f.h=n:=λ f hf=>z3k hr hf
 have hs:out.Pairwise λ x y=>jN y x=false:=by
  rcases hr with⟨h1,rfl⟩ | ⟨_,h2,_⟩
  ·have:=zqw _ _ h1;omega
  ·exact h2
 have hu:∀ g∈l,∀ f∈out,zky g f=true:=λ g hg f hf'=>by
  obtain⟨_,e1,e2⟩:=hf f hf';rw[ze8,e1,e2];exact hb g hg
 refine⟨⟨List.pairwise_append.2 ⟨h.Ze,hs,λ x hx y hy=>zrf (hu x hx y hy)⟩,λ f hf'=>?_⟩,λ f hf'=>?_⟩
 ·rcases List.mem_append.1 hf' with h1 | h1
  ·obtain⟨l0,r,rfl,h2,h3,h4,h5⟩:=h.each f h1;refine⟨l0,r++out,by rw[List.append_assoc],List.mem_append.2 (.inl h2),h3,λ g hg=>?_,h5⟩;rcases List.mem_append.1 hg with hg | hg
   ·exact h4 g hg
   ·have:=hu f h1 g hg;rw[ze8] at this;rw[zq2];omega
  ·obtain⟨h2,e1,e2⟩:=hf f h1;refine⟨l,out,rfl,h1,λ g hg=>hu g hg f h1,λ g hg=>?_,h2⟩;obtain⟨_,e3,e4⟩:=hf g hg;rw[zq2];omega
 ·rcases List.mem_append.1 hf' with h1 | h1
  ·have:=hb f h1;omega
  ·obtain⟨_,e1,e2⟩:=hf f h1;omega
variable {r:Option (List zQ)} {aq:Nat}
theorem zu8 (hl:aq<=50)(h:zbk ps S rs aq s n l r):Dm ps S rs l->(∀ f∈l,f.s<s\/(f.s=s/\f.h<n))->∀ l',r=some l'->Dm ps S rs l'/\∀ f∈l',f.s<s+1:=by
 induction h with
 | Cu _ _=>intro _ _ l' e;cases e
 | done _ _=>intro ht hb l' e;cases e;exact⟨ht,λ f hf=>by have:=hb f hf;omega⟩
 | more hr _ hle _ ih=>
  intro ht hb l' e;obtain⟨h1,h2⟩:=ht.more hb hr (by omega);exact ih h1 h2 l' e
theorem z5a {fk:Nat}(hl:aq<=50)(h:zld ps S rs aq fk s l r):Dm ps S rs l->(∀ f∈l,f.s<s)->∀ l',r=some l'->Dm ps S rs l':=by
 induction h with
 | ends _=>intro ht _ l' e;cases e;exact ht
 | E4 _ _=>intro _ _ l' e;cases e
 | next _ hc _ ih=>
  intro ht hb l' e;obtain⟨h1,h2⟩:=zu8 hl hc ht (λ f hf=>.inl (hb f hf)) _ rfl;exact ih h1 h2 l' e
structure z2q (rs:List zP)(rp:List PR):Prop where
 len:rs.length=rp.length
 at_:∀ (i:Nat) (h:i<rs.length) (h':i<rp.length),qA rs[i] rp[i]
end
section
open Go.RowKit Go.Maps
structure ND where
 r:Nat
 fr:List Nat
 v:Value
def sA (x:ND):Nat × List Nat:=(x.r,x.fr)
def zc1 (x:ND):V8:=[.int .i64 (x.r:Nat),x.v]
theorem zr4 (x:ND):(zc1 x).length=2:=rfl
structure CK (w:W8)(base:Nat)(nv:Value)(bZ:List ND):Prop where
 row:w.ownsRow base 150 2 nv bZ.length (bZ.flatMap zc1)
 each:∀ x∈bZ,w.ownsRow base 3 1 x.v x.fr.length (zxj x.fr)
variable {bZ:List ND} {nv:Value} {base:Nat} {w:W8}
theorem CK.below {w':W8}(h:CK w base nv bZ)(k:Below w.heap.size w w'):CK w' base nv bZ:=
 ⟨zH h.row k (λ g e=>(h.row.lt g e).2),λ x hx=>zH (h.each x hx) k (λ g e=>((h.each x hx).lt g e).2)⟩
theorem CK.low {base':Nat}(h:CK w base nv bZ)(hb:base'<=base):CK w base' nv bZ:=⟨zF h.row hb,λ x hx=>zF (h.each x hx) hb⟩
theorem z3r:(Tryz.prog.info? 150).map (λ i=>(i.zero,i.size,i.bytes))=some (some (.agg #[.int .i64 0,.slice none 0 0]),2,32):=by kernel_rfl
theorem z7p (w1:W8)(x:ND)(j:Nat)(u:Value)(h:(zc1 x)[j]?=some u):(w1.alloc (.cells #[.int .i64 (x.r:Nat),x.v] 150)).cell? ((⟨w1.heap.size,0,none⟩:Addr).add j)=some u:=by
 have e:(⟨w1.heap.size,0,none⟩:Addr).add j=⟨w1.heap.size,j,none⟩:=by unfold Addr.add;split <;> simp_all
 rw[e,World.cell?_alloc_at _ _ _ _ rfl];simpa[zc1] using h
theorem z9l {r:Nat}{fr:List Nat}(p:O8){n c:Nat}:∀ u∈zc1 ⟨r,fr,.slice p n c⟩,u.oneCell'=true:=by
 intro u hu;simp[zc1] at hu;rcases hu with rfl | rfl <;> rfl
end
section
open Go.RowKit Go.Maps
def z2m (A:j6):Option Th:=if A.ts.any (·.1) then none else some (A.p,A.ts.map (·.2))
theorem zh6 {fn:Func}{p u:Tmp}(h:fn.results=#[.cell p 88,.tmp u])(tmps:Array Value)(w:W8)(g:Nat)(t:Th)(hp:tmps.getD p undef=.pointer (some ⟨g,0,none⟩))(hg:w.heap[g]?=some (.cells (yK t).toArray 88 (0,0))):
  (results fn tmps).run Tryz.prog w=.ok (.tuple #[thV t,tmps.getD u undef]) w:=by
 have Eh:tmps[p]?.getD undef=.pointer (some ⟨g,0,none⟩):=by simpa using hp
 have nH:tmps.getD u undef=tmps[u]?.getD undef:=by simp
 rw[nH];simp[results,h,Eh,asAddr,run_loadVar_row w g _ 88 _ _ _ hg Tryz.underlying88 rfl (by rw[zfi];rfl),thV]
def zs2 (w:W8)(r:Option Th)(en:Ending)(w':W8):Prop:=Below w.heap.size w w'/\en=.returned (.tuple #[thV (r.getD ({ data:=#[] },[])),.bool r.isSome])
theorem z5k (w:W8)(base:Nat)(A:j6)(a:O8)(c:Nat)(h:w.ownsRow base 191 1 (.slice a A.ts.length c) A.ts.length (A.ts.map zcb))(h4:A.ts.length<=4):
  Calls Tryz.prog 65 #[.agg #[.string A.p,.slice a A.ts.length c]] w (zs2 w (z2m A)):=by
 have H:=zC h;clear h;have a1:=zjt;have a2:=zht;have a3:=zjs;go_enter Tryz.func65,Tryz.ntmps65;go_upto_region 2 with fail;generalize dK:World.alloc (World.alloc (World.alloc w _) _) _=w0;have k0:Below w.heap.size w w0:=by
  rw[<-dK];exact (((Below.refl w.heap.size w).alloc L9 _).alloc (by simp) _).alloc (by simp only[World.size_alloc];omega) _
 have x1:w0.heap[w.heap.size]?=some (.cells #[.string A.p,.slice a A.ts.length c] 79 (0,0)):=by
  rw[<-dK,Below.heap_alloc _ _ _ (by simp only[World.size_alloc];omega),Below.heap_alloc _ _ _ (by simp)];exact heap_alloc_new w _
 have x2:w0.heap[w.heap.size+1]?=some (.cells (yK ⟨{ data:=#[] },[]⟩).toArray 88 (0,0)):=by
  rw[<-dK,Below.heap_alloc _ _ _ (by simp)];have:=heap_alloc_new (w.alloc (.cells #[.string A.p,.slice a A.ts.length c] 79)) (.cells (yK ⟨{ data:=#[] },[]⟩).toArray 88);rw[World.size_alloc] at this;exact this
 have x3:w0.heap[w.heap.size+1+1]?=some (.cells (yK ⟨A.p,[]⟩).toArray 88 (0,0)):=by
  rw[<-dK];have:=heap_alloc_new ((w.alloc (.cells #[.string A.p,.slice a A.ts.length c] 79)).alloc (.cells (yK ⟨{ data:=#[] },[]⟩).toArray 88)) (.cells (yK ⟨A.p,[]⟩).toArray 88);rw[World.size_alloc,World.size_alloc] at this;exact this
 have s0:w.heap.size+1+1+1=w0.heap.size:=by rw[<-dK];simp
 have pt:=xI (zA H) (λ g e=>k0.block g ((zA H).lt g e).2);have HG:=zC (λ g (e1:(Value.slice a A.ts.length c).ownBlock=some g)=>((zA H).lt g e1).2);clear dK H;have tC:=zC s0;have DN:=zC x3;have DM:=zC x2;have zh:=zC pt;have eW:=zC k0;obtain⟨p1,-⟩:=zB x1 1;simp only[List.getElem?_toArray,List.getElem?_cons_zero,List.getElem?_cons_succ] at p1;clear x1 x2 x3 pt k0 s0;go_wp2_with fail
 go_loopg [15] A.ts.length (λ gg i wr=>∃ (k:Nat) (L:List B8),k<=A.ts.length/\gg=A.ts.length-k/\i=.int .i64 k/\L=(A.ts.take k).map (·.2)/\(A.ts.take k).any (·.1)=false/\wr.heap[w.heap.size+1+1]?=some (.cells (yK ⟨A.p,L⟩).toArray 88 (0,0))/\zN [w.heap.size+1+1] w0 wr)
 exact⟨0,[],Nat.zero_le _,rfl,rfl,rfl,rfl,zA DN,zN.refl _ _⟩
 case round=>
  obtain⟨k,L,hk,iZ,rfl,hL,Br,hx,dh⟩:=hrel;have mg:L.length=k:=by rw[hL];simp;omega
  have FM:=zA tC;have rA:=zC (show Below w.heap.size w wr from ⟨dh.os.trans (zA eW).os,dh.tape.trans (zA eW).tape,dh.output.trans (zA eW).output,Nat.le_trans (zA eW).size dh.size,λ i hi=>(dh.block i (by omega) (by simp;omega)).trans ((zA eW).block i hi)⟩);have HX:=zC hx;have ly:=zC dh;have HL:=zC hL;have C1:=zC mg;have Oc:=zC Br;have C6:=zC ((dh.block (w.heap.size+1) (by omega) (by simp)).trans (zA DM))
  by_cases aE:k<A.ts.length
  ·obtain⟨g,rfl,AE,cZ,da,hc⟩:=zsp (zA zh) k aE;have AF:=zA HG g rfl;have mY:wr.cell? ⟨g,k,none⟩=some (zcb A.ts[k]):=((zA ly).cell (p:=⟨g,k,none⟩) AE (by simp;omega)).trans hc;obtain⟨eT,T6⟩:=zB hx (1+k);replace eT:wr.cell? ⟨w.heap.size+1+1,1+k,none⟩=some (.string (zgm L k)):=by
    rw[eT,List.getElem?_toArray];exact zep ⟨A.p,L⟩ (by omega)
   have nC:(k:Int)<A.ts.length:=(by omega);have sV:(1+k:Int)<5:=(by omega);clear hc FM hx dh hL mg Br
   cases hv:A.ts[k].1 with
   | false=>
    have nN:wr.cell? ⟨g,k,none⟩=some (.iface 193 (.string A.ts[k].2)):=(by rw[mY];unfold zcb;rw[hv];rfl);have HV:=zC hv;clear mY hv;go_wp2_with fail;go_roundg (A.ts.length-(k+1))
    case measure=>omega
    case rel=>
     have:=znc (zA HX) (by rw[zA C1];omega) A.ts[k].2;rw[zA C1] at this;refine⟨k+1,L++[A.ts[k].2],by omega,rfl,by go_num,?_,?_,this,(zA ly).setCell (by simp) _⟩
     ·rw[List.take_succ_eq_append_getElem aE,List.map_append,zA HL];rfl
     ·rw[List.take_succ_eq_append_getElem aE,List.any_append,zA Oc];simp[zA HV]
   | true=>
    have nN:wr.cell? ⟨g,k,none⟩=some (.iface 130 (.string A.ts[k].2)):=(by rw[mY];unfold zcb;rw[hv];rfl);have HE:=zC (show z2m A=none by unfold z2m;rw[if_pos (List.any_eq_true.2 ⟨_,List.getElem_mem aE,hv⟩)]);clear mY hv;go_wp2_with (first | (refine wpList_store_row rfl 88 _ _ rfl _ _ rfl rfl _ _ (zA C6) (by rw[zfi];rfl) rfl (zdr ({ data:=#[] },[])) ?_) | fail);refine bodyPost_ret (v:=.tuple #[thV ({ data:=#[] },[]),.bool false]) (zh6 Tryz.results65 _ _ _ _ rfl (setRow_heap _ _ _ _ _ _ (zA C6))) rfl ?_;rw[zA HE];exact⟨yI (zA rA) (by omega) _,rfl⟩
  ·have HE:=zC (show z2m A=some (A.p,L) by unfold z2m;rw[List.take_of_length_le (by omega)] at hL Br;rw[Br,hL];rfl);clear FM hx dh hL mg Br;go_wp2_with (first | (refine wpList_load_row rfl 88 _ rfl _ rfl _ _ _ _ (zA HX) Tryz.underlying88 rfl (by rw[zfi];rfl) ?_) | (refine wpList_store_row rfl 88 _ _ rfl _ _ rfl rfl _ _ (zA C6) (by rw[zfi];rfl) rfl (zdr _) ?_) | fail);refine bodyPost_ret (v:=.tuple #[thV (A.p,L),.bool true]) (zh6 Tryz.results65 _ _ _ _ rfl (setRow_heap _ _ _ _ _ _ (zA C6))) rfl ?_;rw[zA HE];exact⟨yI (zA rA) (by omega) _,rfl⟩
end
section
open Go.RowKit Go.Maps
attribute [local go_sem ↓] za9 zau zat zas
attribute [local go_sem] zby zbx
def zcv (ps:P9)(s:B8):Option Th:=(zdx ps s).bind z2m
theorem TV.result {fn:Func}{p u:Tmp}(h:fn.results=#[.cell p 88,.tmp u]){w:W8}{g:Nat}{t:Th}(hg:TV w g t)(tmps:Array Value)(hp:tmps.getD p undef=.pointer (some ⟨g,0,none⟩)):(results fn tmps).run Tryz.prog w=.ok (.tuple #[thV t,tmps.getD u undef]) w:=zh6 h tmps w g t hp hg
theorem zn2 (w:W8)(s:B8)(tb n:Nat)(ps:P9)(S:B8->Nat)(h:fD Tryz.prog 9 w tb n (stV ps S))(hs:s.size<=2000000):
  Calls Tryz.prog 41 #[.string s,.map (some tb)] w (zs2 w (zcv ps s)):=by
 have vu:=h.lt;have k0:Below w.heap.size w (w.alloc (.cells (yK ({ data:=#[] },[])).toArray 88)):=B9.alloc L9 _;have HA:=zC (zn1 (w.alloc (.cells (yK ({ data:=#[] },[])).toArray 88)) s tb n ps S (h.block (k0.block tb vu)) hs);have eW:=zC k0;clear h k0;go_enter Tryz.func41,Tryz.ntmps41;go_wp2_with fail;refine (zA HA).mono ?_;rintro e w1 ⟨aM,hp⟩;have cz:w.heap.size+1<=w1.heap.size:=by have:=aM.size;simpa using this
 have eM:Below w.heap.size w w1:=(zA eW).trans (aM.mono (by simp));have lX:TV w1 w.heap.size ({ data:=#[] },[]):=(aM.block _ (by simp)).trans (heap_alloc_new w _)
 cases hP:zdx ps s with
 | none=>
  rw[hP] at hp;subst hp;have HN:=zC (show zcv ps s=none by unfold zcv;rw[hP];rfl);have ni:TV (w1.alloc (.cells #[.string { data:=#[] },.slice none 0 0] 79)) w.heap.size ({ data:=#[] },[]):=lX.alloc _;have aP:(zqv (.pointer (some ⟨w.heap.size,0,none⟩)) (.agg #[.string { data:=#[] },.string { data:=#[] },.string { data:=#[] },.string { data:=#[] },.string { data:=#[] }])).run Tryz.prog (w1.alloc (.cells #[.string { data:=#[] },.slice none 0 0] 79))=.ok () ((w1.alloc (.cells #[.string { data:=#[] },.slice none 0 0] 79)).setRow w.heap.size (yK ({ data:=#[] },[])).toArray):=ni.store ({ data:=#[] },[]);have DG:=zC ni;have HB:=zC (eM.alloc eM.size (.cells #[.string { data:=#[] },.slice none 0 0] 79));have hz:=z1c;clear hP lX aM eM ni;go_wp2_with fail;refine bodyPost_ret (v:=.tuple #[thV ({ data:=#[] },[]),.bool false]) (TV.result Tryz.results41 (setRow_heap _ _ _ _ _ _ (zA DG)) _ rfl) rfl ?_;rw[zA HN];exact⟨yI (zA HB) L9 _,rfl⟩
 | some A=>
  rw[hP] at hp;obtain⟨a,c,rfl,aB⟩:=hp;obtain⟨aT,h4⟩:A.p.size<=s.size/\A.ts.length<=4:=by
   unfold zdx at hP
   split at hP
   ·cases hP
   ·rename_i A' hA
    split at hP
    ·cases hP;exact zp3 hA
    ·cases hP
  have O9:=zC (show zcv ps s=z2m A by unfold zcv;rw[hP];rfl);have HO:=zC (z5k (w1.alloc (.cells #[.string A.p,.slice a A.ts.length c] 79)) _ A a c (aB.alloc _) h4);have lE:=eM.alloc eM.size (.cells #[.string A.p,.slice a A.ts.length c] 79);have Cb:TV (w1.alloc (.cells #[.string A.p,.slice a A.ts.length c] 79)) w.heap.size ({ data:=#[] },[]):=lX.alloc _;have tq:=zC lE;have OX:=zC Cb;clear hP lX aM eM aB lE Cb;generalize z2m A=R at *;go_wp2_with fail;refine (zA HO).mono ?_;rintro e w2 ⟨aH,rfl⟩;have mS:TV w2 w.heap.size ({ data:=#[] },[]):=(zA OX).below aH;have aP:=mS.store (R.getD ({ data:=#[] },[]));have rU:=zC mS;have kR:=zC ((zA tq).trans (aH.mono (zA tq).size));clear aH mS;go_wp2_with fail;refine bodyPost_ret (v:=.tuple #[thV (R.getD ({ data:=#[] },[])),.bool R.isSome]) (TV.result Tryz.results41 (setRow_heap _ _ _ _ _ _ (zA rU)) _ rfl) rfl ?_;rw[zA O9];exact⟨yI (zA kR) L9 _,rfl⟩
end
section
open Go.RowKit Go.Maps
theorem zqq {w1:W8}{n:Nat}{u0 u1 u2:Value}(h0:w1.cell? ⟨n,0,none⟩=some u0)(h1:w1.cell? ⟨n,1,none⟩=some u1)(h2:w1.cell? ⟨n,2,none⟩=some u2)(v0 v1 v2:Value):(((w1.setCell ⟨n,0,none⟩ v0).setCell ⟨n,1,none⟩ v1).setCell ⟨n,2,none⟩ v2).cell? ⟨n,0,none⟩=some v0/\(((w1.setCell ⟨n,0,none⟩ v0).setCell ⟨n,1,none⟩ v1).setCell ⟨n,2,none⟩ v2).cell? ⟨n,1,none⟩=some v1/\(((w1.setCell ⟨n,0,none⟩ v0).setCell ⟨n,1,none⟩ v1).setCell ⟨n,2,none⟩ v2).cell? ⟨n,2,none⟩=some v2:=
 ⟨by rw[yC (by omega),yC (by omega)];exact jR h0,by rw[yC (by omega)];exact jR (by rw[yC (by omega)];exact h1),jR (by rw[yC (by omega),yC (by omega)];exact h2)⟩
end
section
open Go.RowKit Go.Maps
theorem z8i (A:zL):z2m (pa A)=if vP A then some (thA A) else none:=by
 unfold z2m vP thA pa;simp only[List.any_map,List.map_map];have e:(A.ae.any ((λ x=>x.1) ∘ gZ))=!(A.ae.all λ t=>!t.isVar):=by
  induction A.ae with
  | nil=>rfl
  | cons t r ih=>
   rw[List.any_cons,List.all_cons,ih]
   show (t.isVar||_)=_
   cases t.isVar <;> simp
 rw[e]
 cases (A.ae.all λ t=>!t.isVar) with
 | true=>rfl
 | false=>rfl
theorem zum (ps:P9)(q:B8):zcv ps q=if zae ps q&&vP (zJ q) then some (thA (zJ q)) else none:=by
 unfold zcv;rw[z29]
 cases zae ps q with
 | false=>rfl
 | true=>
  rw[if_pos rfl,Bool.true_and];exact z8i (zJ q)
end
section
open Go.RowKit Go.Maps
attribute [local go_sem ↓] za9 zau zat zas
attribute [local go_sem] zby zbx
def WV (w:W8)(b:Nat)(v0 v1 v2:Value):Prop:=w.heap[b]?=some (.cells #[v0,v1,v2] 49 (0,0))
variable {b:Nat} {w:W8}
theorem WV.zero (h:WV w b (.int .i64 0) (.int .i64 0) (.slice none 0 0)):w.cell? ⟨b,0,none⟩=some (.int .i64 0)/\w.cell? ⟨b,1,none⟩=some (.int .i64 0)/\w.cell? ⟨b,2,none⟩=some (.slice none 0 0)/\∀ i,w.frozen? ⟨b,i,none⟩=false:=
 ⟨(zB h 0).1,(zB h 1).1,(zB h 2).1,λ i=>(zB h i).2⟩
theorem WV.below {w':W8}{v0 v1 v2:Value}(h:WV w b v0 v1 v2)(k:Below w.heap.size w w'):WV w' b v0 v1 v2:=(k.block b (Array.getElem?_eq_some_iff.1 h).1).trans h
theorem znx {wr:W8}{base n:Nat}{e:TypeId}{size:Nat}{v:Value}{xs:V8}(h:wr.ownsRow base e size v n xs)(hb:b<base)(u0 u1 u2:Value):(((wr.setCell ⟨b,0,none⟩ u0).setCell ⟨b,1,none⟩ u1).setCell ⟨b,2,none⟩ u2).ownsRow base e size v n xs:=
 xI h λ g hg=>by
  have:=(h.lt g hg).1;rw[Below.heap_setCell _ _ _ _ (by simp;omega),Below.heap_setCell _ _ _ _ (by simp;omega),Below.heap_setCell _ _ _ _ (by simp;omega)]
end
end Go.Proofs.YtldkpahaocjdpaaGreat
