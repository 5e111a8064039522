/-
  Lists that are begun at one list, in its spare room or elsewhere: what stands in them where each entry is one mark.
-/
import Derived.Test.YtldkpahaocjdpaaGreatE15
import Derived.Deep.DeepAppendRoom
import Derived.ArgAppend
import Derived.Maps.OwnSet
import Derived.Maps.RangeWalk
set_option maxHeartbeats 16000000
set_option maxRecDepth 1000000
namespace Go.Proofs.YtldkpahaocjdpaaGreat
section
open Go.RowKit
def yc (w w':W8)(v v':Value)(n m:Nat):Prop:=
 (∃ g cap,v=.slice (some ⟨g,0,none⟩) n cap/\v'=.slice (some ⟨g,0,none⟩) (n+m) cap/\n+m<=cap/\w.grownBy w' (some g)) \/
 (∃ g cap,v'=.slice (some ⟨g,0,none⟩) (n+m) cap/\w.heap.size<=g/\w.grownBy w' none/\∀ a c,v=.slice a n c->c<n+m)
theorem zbd {P:Program}(w:W8){ops:Array Oper}{rest:List Oper}{o:Oper}{a:Act}{Q:Exit->Act->W8->Prop}(Io:o.guard=none)(s x:Operand)(t:TypeId)
  (ho:o.op=.call { callee:=.builtin .append,args:=#[s,x],argTypes:=#[t,t] })
  (base:Nat) (e:TypeId) (i:TypeInfo) (z:Value) (size bytes:Nat) (ht:P.underlying t=some (.slice e)) (hi:P.info? e=some i) (hz:i.zero=some z)
  (kV:i.size=size) (XG:i.bytes=bytes) (YY:z.cells.size=size) (bj:0<size)
  (ao:O8) (n cap:Nat) (xs:V8) (hs:a.eval s=.slice ao n cap) (ay:w.ownsRow base e size (.slice ao n cap) n xs)
  (ad:Addr) (m c:Nat) (news:V8) (hx:a.eval x=.slice (some ad) m c) (hl:news.length=m*size) (dt:∀ j u,news[j]?=some u->w.cell? (ad.add j)=some u) (h1:∀ u∈news,u.oneCell'=true)
  (hm:0<m) (Xm:n+m<=maxLen) (FV:(n+m)*bytes<=140737488355328) (uv:base<=w.heap.size)
  (h:∀ a' dn w',w'.ownsRow base e size (.slice a' (n+m) dn) (n+m) (xs++news)->yc w w' (.slice ao n cap) (.slice a' (n+m) dn) n m->wpList P ops Q rest (a.put o.dst (.slice a' (n+m) dn)) w'):wpList P ops Q (o::rest) a w:=by
 have hlen:=ay.1;have grow:cap<n+m->wpList P ops Q (o::rest) a w:=λ qq=>by
  refine wpList_append_grows w Io s x t ho e i z size bytes ht hi hz kV XG YY bj ao n cap xs hs ?_ hlen ?_ ad m c news hx hl dt h1 qq Xm FV λ v' w' hr hg=>?_
  ·intro e0;rcases ay.2 with⟨hv,h0⟩ | ⟨g,cp,cur,hv,_⟩
   ·injection hv with h1 h2 h3;exact⟨h0,h3⟩
   ·injection hv with h1 h2 h3;rw[e0] at h1;cases h1
  ·intro b hb j u hj;rcases ay.2 with⟨hv,h0⟩ | ⟨g,cp,cur,hv,_,mP,_,_,ij,nz⟩
   ·injection hv with h1 h2 h3;rw[hb] at h1;cases h1
   ·injection hv with h1 h2 h3
    rw[hb] at h1;injection h1 with h1
    subst h1;have dO:(⟨g,0,none⟩:Addr).add j=⟨g,j,none⟩:=(by unfold Addr.add;split <;> simp_all);rw[dO,cell_of_row w g j cur e (0,0) mP];rw[<-nz,List.getElem?_take] at hj
    split at hj
    ·simpa using hj
    ·cases hj
  ·obtain⟨g,cp,rfl,qu,_⟩:=hr.form (by omega);refine h _ _ _ (zG hr uv) (.inr ⟨g,cp,rfl,qu,hg,λ a0 c0 e0=>?_⟩);injection e0 with _ _ e3
   omega
 rcases ay.2 with⟨hv,h0⟩ | ⟨g,cp,cur,hv,iF,mP,bO,bQ,ij,nz⟩
 ·injection hv with _ _ h3
  exact grow (by omega)
 ·injection hv with h1 h2 h3
  subst h1 h3
  by_cases Ey:n+m<=cap
  ·exact wpList_append_own_spare w Io s x t ho base e i size ht hi kV g n cap xs hs ay ad m c news hx hl dt h1 Ey λ w' hr hg=>h _ _ _ hr (.inl ⟨g,cap,rfl,rfl,Ey,hg⟩)
  ·exact grow (by omega)
def rep (mk:V8)(n:Nat):V8:=(List.replicate n ()).flatMap λ _=>mk
theorem NZ (mk:V8)(n:Nat):(rep mk n).length=n*mk.length:=by
 induction n with
 | zero=>simp[rep]
 | succ n ih=>rw[rep,List.replicate_succ,List.flatMap_cons,List.length_append];rw[rep] at ih;rw[ih,Nat.succ_mul];omega
theorem zpz (mk:V8)(n m:Nat):rep mk (n+m)=rep mk n++rep mk m:=by
 rw[rep,<-List.replicate_append_replicate,List.flatMap_append];rfl
variable {j n:Nat}
theorem z8e (mk:V8)(h:j<=n):(rep mk n).take (j*mk.length)=rep mk j:=by
 obtain⟨d,rfl⟩:=Nat.exists_eq_add_of_le h;rw[zpz,List.take_append_of_le_length (by rw[NZ];exact Nat.le_refl _),List.take_of_length_le (by rw[NZ];exact Nat.le_refl _)]
def Lm (w:W8)(base:Nat)(e:TypeId)(mk:V8)(v:Value)(n:Nat):Prop:=w.ownsRow base e mk.length v n (rep mk n)
variable {a:O8} {mk:V8} {e:TypeId} {base:Nat} {w:W8}
theorem Lm.pre {k cap:Nat}(h:Lm w base e mk (.slice a k cap) k)(hj:j<=k)(h0:0<k):Lm w base e mk (.slice a j cap) j:=by
 refine⟨NZ mk j,?_⟩;rcases h.2 with⟨_,h1⟩ | ⟨g,cp,cur,hv,hb,hg,hn,hc,hs,ht⟩
 ·omega
 ·injection hv with h1 h2 h3
  subst h1 h3;refine .inr ⟨g,cap,cur,rfl,hb,hg,by omega,hc,hs,?_⟩;rw[<-z8e mk hj,<-ht,List.take_take,Nat.min_eq_left (Nat.mul_le_mul_right _ hj)]
variable {v:Value} {w':W8}
theorem Lm.kept {B:List Nat}(h:Lm w base e mk v n)(k:zK B w w')(hB:∀ g,v.ownBlock=some g->g∉B):Lm w' base e mk v n:=
 zZ h (λ g hg=>k.block g (h.lt g hg).2 (hB g hg))
theorem Lm.cap {cap:Nat}(h:Lm w base e mk (.slice a n cap) n):n<=cap/\(a=none->cap=0):=by
 rcases h.2 with⟨hv,h1⟩ | ⟨g,cp,cur,hv,hb,hg,hn,hc,hs,ht⟩
 ·injection hv with h2 h3 h4;exact⟨by omega,λ _=>h4⟩
 ·injection hv with h2 h3 h4;exact⟨by omega,λ e=>by rw[e] at h2;cases h2⟩
variable {m:Nat} {v':Value}
theorem yc.kept (h:yc w w' v v' n m):zK v.ownBlock.toList w w':=by
 rcases h with⟨g,cap,rfl,_,_,hg⟩ | ⟨g,cap,_,_,hg,_⟩
 ·exact zK.aR hg
 ·exact (zK.aR hg).mono (by simp)
theorem yc.first {cap:Nat}(h:yc w w' (.slice a n cap) v' n m)(hm:0<m)(h1:Lm w base e mk (.slice a n cap) n)(h2:Lm w' base e mk v' (n+m)):Lm w' base e mk (.slice a n cap) n:=by
 rcases h with⟨g,cp,hv,rfl,hr,hg⟩ | ⟨g,cp,_,_,hg,_⟩
 ·injection hv with e1 e2 e3
  subst e1 e3;exact h2.pre (by omega) (by omega)
 ·exact h1.kept (zK.aR hg) (by simp)
theorem yc.other {w0 w1:W8}{cap:Nat}{v1:Value}{M:Nat}(h:yc w0 w1 (.slice a n cap) v1 n m)(hm:0<m)(h0:Lm w0 base e mk (.slice a n cap) n)(h1:Lm w base e mk v1 (n+m))(k:zK (Value.slice a n cap).ownBlock.toList w w')(hM:Lm w' base e mk (.slice a M cap) M)(nx:n+m<=M\/M=cap):Lm w' base e mk v1 (n+m):=by
 rcases h with⟨g,cp,hv,rfl,hr,hg⟩ | ⟨g,cp,rfl,qu,hg,_⟩
 ·injection hv with e1 e2 e3
  subst e1 e3;exact hM.pre (by omega) (by omega)
 ·refine h1.kept k (λ g' e' nw=>?_);have e2:g=g':=by simpa[Value.ownBlock] using e'
  have:=(h0.lt g' (by simpa using nw)).2;omega
theorem z1h (a:O8)(n c m d:Nat):(Value.slice a n c).ownBlock=(Value.slice a m d).ownBlock:=by cases a <;> rfl
structure uI (w2:W8)(base:Nat)(e:TypeId)(mk:V8)(a:O8)(n cap i:Nat)(v3:Value)(w:W8):Prop where
 lm:Lm w base e mk v3 (n+i)
 kept:zK (Value.slice a n cap).ownBlock.toList w2 w
 at_:v3=.slice a (n+i) cap\/((∀ g,v3.ownBlock=some g->w2.heap.size<=g)/\Lm w base e mk (.slice a cap cap) cap)
variable {i:Nat} {w2:W8}
theorem uI.one {a3:O8}{cap c3:Nat}{v4:Value}(h:uI w2 base e mk a n cap i (.slice a3 (n+i) c3) w)(h0:Lm w2 base e mk (.slice a n cap) n)(hp:yc w w' (.slice a3 (n+i) c3) v4 (n+i) 1)(h4:Lm w' base e mk v4 (n+i+1)):uI w2 base e mk a n cap (i+1) v4 w':=by
 have hk:=hp.kept;have bj:=h.kept.size;rcases h.at_ with he | ⟨FY,qq⟩
 ·injection he with e1 e2 e3
  subst e1 e3;rw[z1h _ _ _ n c3] at hk;refine⟨h4,h.kept.trans hk,?_⟩;rcases hp with⟨g,cp,hv,rfl,hr,hg⟩ | ⟨g,cp,rfl,qu,hg,hc⟩
  ·injection hv with e1 e2 e3
   subst e1 e3;exact .inl rfl
  ·right
   have nT:=h.lm.cap;have hcc:=hc _ _ rfl;have XH:c3=n+i:=(by omega);refine⟨λ g' e'=>?_,?_⟩
   ·have:g=g':=by simpa[Value.ownBlock] using e'
    omega
   ·have:=h.lm.kept (zK.aR hg) (by simp);rw[<-XH] at this;exact this
 ·have eI:∀ g,(Value.slice a cap cap).ownBlock=some g->g∉(Value.slice a3 (n+i) c3).ownBlock.toList:=λ g hg hm=>by
   have h1:=FY g (by simpa using hm);have h2:=(h0.lt g (by cases a with | none=>cases hg | some _=>exact hg)).2;omega
  refine⟨h4,h.kept.step hk (λ x hx=>.inr (FY x (by simpa using hx))) ,.inr ⟨λ g' e'=>?_,qq.kept hk eI⟩⟩;rcases hp with⟨g,cp,hv,rfl,hr,hg⟩ | ⟨g,cp,rfl,qu,hg,hc⟩
  ·exact FY g' (by rw[hv];exact e')
  ·have:g=g':=by simpa[Value.ownBlock] using e'
   omega
theorem uI.reach {cap:Nat}{v3:Value}(h:uI w2 base e mk a n cap i v3 w):∃ M,Lm w base e mk (.slice a M cap) M/\(n+i<=M\/M=cap):=by
 rcases h.at_ with he | ⟨_,hf⟩
 ·exact⟨n+i,by rw[<-he];exact h.lm,.inl L9⟩
 ·exact⟨cap,hf,.inr rfl⟩
end
section
open Go.RowKit
structure MB where
 l:Value
 one:Value
 two:Value
 three:Value
 mark:Nat
def MB.cells (m:MB):V8:=[m.l,m.one,m.two,m.three,.int .i64 (m.mark:Nat)]
def MB.blocks (m:MB):List Nat:=m.l.ownBlock.toList++m.one.ownBlock.toList++m.two.ownBlock.toList++m.three.ownBlock.toList
structure sr (w:W8)(e:TypeId)(mk:V8)(m:MB):Prop where
 eJ:m.mark<=1000000000
 each:∃ n,n<=1000/\Lm w 0 e mk m.l n/\Lm w 0 e mk m.one (n+1)/\Lm w 0 e mk m.two (n+2)/\Lm w 0 e mk m.three (n+64)
variable {n base:Nat} {v:Value} {mk:V8} {e:TypeId} {w:W8}
theorem Lm.Rl {g:Nat}(h:Lm w base e mk v n)(hg:v.ownBlock=some g):¬ dW w e g:=by
 intro hn;rcases h.2 with⟨hv,_⟩ | ⟨g',cp,cur,hv,_,mP,_⟩
 ·rw[hv] at hg;cases hg
 ·rw[hv] at hg;have:g'=g:=by simpa[Value.ownBlock] using hg
  subst this;exact hn _ _ mP
variable {w':W8} {B:List Nat}
theorem Lm.od (h:Lm w base e mk v n)(k:zK B w w')(hB:∀ x∈B,dW w e x\/x∉v.ownBlock.toList):Lm w' base e mk v n:=
 h.kept k λ g hg hm=>by
  rcases hB g hm with h1 | h1
  ·exact h.Rl hg h1
  ·exact h1 (by simpa using hg)
variable {m:MB}
theorem sr.kept (h:sr w e mk m)(k:zK B w w')(hB:∀ x∈B,dW w e x\/x∉m.blocks):sr w' e mk m:=by
 obtain⟨n,hn,h1,h2,h3,h4⟩:=h.each;have sub:∀ (v:Value),(∀ x∈v.ownBlock.toList,x∈m.blocks)->∀ x∈B,dW w e x\/x∉v.ownBlock.toList:=λ v hv x hx=>(hB x hx).imp id λ hn hm=>hn (hv x hm)
 refine⟨h.eJ,n,hn,h1.od k (sub _ ?_),h2.od k (sub _ ?_),h3.od k (sub _ ?_),h4.od k (sub _ ?_)⟩
 all_goals (intro x hx;simp only[MB.blocks,List.mem_append];simp[hx])
theorem sr.lt {w:W8}{e:TypeId}{mk:V8}{m:MB}(h:sr w e mk m):∀ g∈m.blocks,g<w.heap.size:=by
 obtain⟨n,hn,h1,h2,h3,h4⟩:=h.each;intro g hg;simp only[MB.blocks,List.mem_append] at hg;rcases hg with ((hg | hg) | hg) | hg
 ·exact (h1.lt g (by simpa using hg)).2
 ·exact (h2.lt g (by simpa using hg)).2
 ·exact (h3.lt g (by simpa using hg)).2
 ·exact (h4.lt g (by simpa using hg)).2
structure jS (w:W8)(base:Nat)(tB e:TypeId)(mk:Nat->V8)(v:Value)(ms:List MB):Prop where
 row:w.ownsRow base tB 5 v ms.length (ms.flatMap MB.cells)
 each:∀ m∈ms,sr w e (mk m.mark) m
theorem jS.nil (w:W8)(base:Nat)(tB e:TypeId)(mk:Nat->V8):jS w base tB e mk (.slice none 0 0) []:=⟨World.ownsRow_nil _ _ _ _,by simp⟩
theorem jS.kept {B:List Nat}{w w':W8}{base:Nat}{tB e:TypeId}{mk:Nat->V8}{v:Value}{ms:List MB}(h:jS w base tB e mk v ms)(k:zK B w w')(h1:∀ x∈B,x<base\/dW w tB x)(h2:∀ x∈B,dW w e x\/∀ m∈ms,x∉m.blocks):jS w' base tB e mk v ms:=
 ⟨xF h.row k h1,λ m hm=>(h.each m hm).kept k λ x hx=>(h2 x hx).imp id λ f=>f m hm⟩
variable {ms:List MB} {tB:TypeId}
theorem jS.below {mk:Nat->V8}(h:jS w base tB e mk v ms)(k:Below w.heap.size w w'):jS w' base tB e mk v ms:=
 h.kept (B:=[]) ((zK.refl [] w).ak k) (by simp) (by simp)
theorem jS.add {w2 w3:W8}{mk:Nat->V8}{v':Value}{b:Nat}(h:jS w2 base tB e mk v ms)(hm:sr w2 e (mk m.mark) m)(k:zK (b::v.ownBlock.toList) w2 w3)(ay:w3.ownsRow base tB 5 v' (ms.length+1) (ms.flatMap MB.cells++m.cells))(hb:dW w2 e b)(bF:tB≠e):jS w3 base tB e mk v' (ms++[m]):=by
 have hB:∀ x∈b::v.ownBlock.toList,dW w2 e x:=λ x hx=>by
  rcases List.mem_cons.1 hx with rfl | hx
  ·exact hb
  ·exact yH h.row bF x hx
 refine⟨?_,λ y hy=>?_⟩
 ·rw[List.length_append,List.flatMap_append];simpa using ay
 ·rcases List.mem_append.1 hy with hy | hy
  ·exact (h.each y hy).kept k λ x hx=>.inl (hB x hx)
  ·rw[List.mem_singleton.1 hy];exact hm.kept k λ x hx=>.inl (hB x hx)
end
section
open Go.RowKit Go.Maps Go.ChangeMaps Go.WideMaps
def jP (v:Value):Option (DataW Value × List MemPlace):=some (.held v,[])
def z2y (s:B8):Lit:=.string s.data.toList
theorem zuc {a b:B8}(h:a≠b):z2y a≠z2y b:=λ e=>h (by
 have:a.data.toList=b.data.toList:=by simpa[z2y] using e
 exact ByteArray.ext (Array.toList_inj.1 this))
open Classical in
noncomputable def z0b (V:B8->Option Value)(k:B8)(v:Value):B8->Option Value:=λ x=>if x=k then some v else V x
theorem zbc (V:B8->Option Value)(k:B8)(v:Value):z0b V k v k=some v:=by simp[z0b]
variable {v:Value} {V:B8->Option Value}
theorem qB {k x:B8}(h:x≠k):z0b V k v x=V x:=by simp[z0b,h]
def dE (P:Program)(K:TypeId)(w:W8)(b n:Nat)(V:B8->Option Value):Prop:=
 ∃ D:DataW Value,w.ownsMap P K jP b n D/\∀ k:B8,Maps.has D (z2y k)=(V k).isSome/\∀ z,D.atKey (z2y k) (.held z)=.held ((V k).getD z)
theorem dE.made (P:Program)(K:TypeId)(w:W8):dE P K (w.alloc (.map #[] 0)) w.heap.size 0 (λ _=>none):=
 ⟨.map [],World.ownsMap_made w P K jP,λ _=>⟨rfl,λ _=>rfl⟩⟩
theorem dE.lt {P:Program}{K:TypeId}{w:W8}{b n:Nat}{V:B8->Option Value}(h:dE P K w b n V):b<w.heap.size:=by
 obtain⟨D,hD,_⟩:=h;exact hD.lt
theorem dE.block {P:Program}{K:TypeId}{w w':W8}{b n:Nat}(h:dE P K w b n V)(hb:w'.heap[b]?=w.heap[b]?):dE P K w' b n V:=by
 obtain⟨D,⟨es,clock,h1,h2⟩,h3⟩:=h;exact⟨D,⟨es,clock,hb.trans h1,h2⟩,h3⟩
theorem dE.alloc {P:Program}{K:TypeId}{w:W8}{b n:Nat}{V:B8->Option Value}(h:dE P K w b n V)(o:Obj):dE P K (w.alloc o) b n V:=by
 obtain⟨D,hD,h3⟩:=h;exact⟨D,hD.alloc o,h3⟩
theorem dE.mono {P:Program}{K:TypeId}{w:W8}{b n m:Nat}{V:B8->Option Value}(h:dE P K w b n V)(hn:n<=m):dE P K w b m V:=by
 obtain⟨D,hD,h3⟩:=h;exact⟨D,hD.mono hn,h3⟩
theorem zf8 {d:DataW Value}{ps:List MemPlace}(h:jP v=some (d,ps)):d=.held v:=by
 simp only[jP,Option.some.injEq,Prod.mk.injEq] at h;exact h.1.symm
section
variable {P:Program} (w:W8) {ops:Array Oper} {rest:List Oper} {o:Oper} {a:Act} {Q:Exit->Act->W8->Prop}
theorem qC (hg:o.guard=none)(m x:Operand)(t:TypeId)(pE:o.op=Op.lookup t m x true)
  (K e:TypeId) (hK:P.underlying K=some .string) (ht:P.underlying t=some (.map K e)) {z:Value} (hz:(zeroValue e).run P w=.ok z w) (b n:Nat) (V:B8->Option Value)
  (hm:a.eval m=.map (some b)) (ay:dE P K w b n V) (key:B8) (hx:a.eval x=.string key) (dF:key.size<=maxLen) (u:Value) (hu:(V key).getD z=u) (c:Bool) (hc:(V key).isSome=c)
  (hQ:wpList P ops Q rest (a.put o.dst (.tuple #[u,.bool c])) w):
  wpList P ops Q (o::rest) a w:=by
 obtain⟨D,hD,h3⟩:=ay;refine wpList_lookup_own_ok w hg m x t pE K e (string_keyed hK) ht jP hz (.held z) [] rfl b n D hm hD (.string key) (z2y key) hx (keyOf_string_mk hK dF) (λ v ps hv=>?_);have h1:=zf8 hv;rw[(h3 key).2 z] at h1;have h2:(V key).getD z=v:=by injection h1
 rw[(h3 key).1,hc,<-h2,hu];exact hQ
theorem zfw (hg:o.guard=none)(m x:Operand)(t:TypeId)(pE:o.op=Op.lookup t m x false)
  (K e:TypeId) (hK:P.underlying K=some .string) (ht:P.underlying t=some (.map K e)) {z:Value} (hz:(zeroValue e).run P w=.ok z w) (b n:Nat) (V:B8->Option Value)
  (hm:a.eval m=.map (some b)) (ay:dE P K w b n V) (key:B8) (hx:a.eval x=.string key) (dF:key.size<=maxLen) (u:Value) (hu:(V key).getD z=u)
  (hQ:wpList P ops Q rest (a.put o.dst u) w):
  wpList P ops Q (o::rest) a w:=by
 refine wpList_plain hg λ K' Ie=>?_
 obtain⟨D,hD,h3⟩:=ay;obtain⟨v,ps,kU,hv⟩:=hD.lookup (string_keyed hK) ht hz (zd:=.held z) (zp:=[]) rfl (keyOf_string_mk hK dF);have h1:=zf8 hv;rw[show DataW.atKey D (Lit.string key.data.toList) (DataW.held z)=DataW.held ((V key).getD z) from (h3 key).2 z] at h1;have h2:(V key).getD z=v:=by injection h1
 rw[<-h2,hu] at kU;unfold Oper.wp;simp[execOp,pE,hm,hx,kU,Result.andThen];exact Ie _ _ hQ
theorem zox (hg:o.guard=none)(m x v:Operand)(t:TypeId)(pE:o.op=Op.mapUpdate t m x v)
  (K e:TypeId) (hK:P.underlying K=some .string) (ht:P.underlying t=some (.map K e)) (b n:Nat) (V:B8->Option Value)
  (hm:a.eval m=.map (some b)) (ay:dE P K w b n V) (hn:n<maxLen) (key:B8) (u:Value) (hx:a.eval x=.string key) (hv:a.eval v=u) (dF:key.size<=maxLen)
  (hQ:∀ w',dE P K w' b (n+1) (z0b V key u)->w.grownBy w' (some b)->wpList P ops Q rest (a.put o.dst undef) w'):
  wpList P ops Q (o::rest) a w:=by
 obtain⟨D,hD,h3⟩:=ay;refine wpList_mapUpdate_own w hg m x v t pE K e (string_keyed hK) ht jP b n D hm hD hn (.string key) u (z2y key) hx hv (keyOf_string_mk hK dF) (.held u) [] rfl (λ w' h1 h2=>hQ w' ⟨_,h1,λ k=>?_⟩ h2)
 by_cases e:k=key
 ·subst e;rw[zbc];exact⟨Maps.has_put_same hD.isMap (by trivial) _,λ z=>Maps.atKey_put_same hD.isMap (by trivial) _ _⟩
 ·rw[qB e];exact⟨(Maps.has_put_other (zuc e) _).trans (h3 k).1,λ z=>(Maps.atKey_put_other (zuc e) _ _).trans ((h3 k).2 z)⟩
end
end
section
open Go.RowKit Go.Maps
theorem ya7 {α:Type}(f:α->V8)(n:Nat)(hn:∀ x,(f x).length=n):∀ (l:List α) (k j:Nat) (hk:k<l.length),j<n->(l.flatMap f)[k*n+j]?=(f l[k])[j]?:=by
 intro l
 induction l with
 | nil=>intro k j hk;simp at hk
 | cons x r ih=>
  intro k j hk hj;have hl:=hn x;rw[List.flatMap_cons]
  cases k with
  | zero=>rw[List.getElem?_append_left (by omega)];simp
  | succ k=>
   rw[List.getElem?_append_right (by rw[hl,Nat.succ_mul];omega)];have e2:(k+1)*n+j-(f x).length=k*n+j:=(by rw[hl,Nat.succ_mul];omega);rw[e2,ih k j (by simpa using hk) hj];simp
variable {v:Value} {e:TypeId} {base n:Nat} {w:W8}
theorem vX {α:Type}{f:α->V8}(hn:∀ x,(f x).length=n){l:List α}(h:w.ownsRow base e n v l.length (l.flatMap f))(k:Nat)(hk:k<l.length):∃ g cap,v=.slice (some ⟨g,0,none⟩) l.length cap/\base<=g/\g<w.heap.size/\l.length<=cap/\cap<=maxLen/\∀ j,j<n->w.cell? ⟨g,k*n+j,none⟩=(f l[k])[j]?:=by
 rcases h.2 with⟨_,h0⟩ | ⟨g,cap,cur,rfl,hb,hg,bO,bQ,ij,ht⟩
 ·omega
 ·have hl:=(Array.getElem?_eq_some_iff.1 hg).1;refine⟨g,cap,rfl,hb,hl,bO,bQ,λ j hj=>?_⟩;have:(k+1)*n<=l.length*n:=Nat.mul_le_mul_right n hk;rw[h.cellAt (k*n+j) (by rw[Nat.succ_mul] at this;omega),ya7 f n hn l k j hk hj]
theorem zul (x:xU × Value):(x.1.cells x.2).length=10:=rfl
variable {w':W8}
theorem zJ {size:Nat}{xs:V8}{m:Nat}(h:w.ownsRow base e size v n xs)(hb:Below m w w')(hm:∀ g,v.ownBlock=some g->g<m):w'.ownsRow base e size v n xs:=zZ h (λ g hg=>hb.block g (hm g hg))
variable {ms:List (xU × Value)} {mv:Value}
theorem ey.below (h:ey w base mv ms)(hb:Below w.heap.size w w'):ey w' base mv ms:=
 ⟨zJ h.row hb (λ g e=>(h.row.lt g e).2),λ x hx=>zJ (h.each x hx) hb (λ g e=>((h.each x hx).lt g e).2)⟩
def yX:P9->B8->Option Nat
 | [],_=>none
 | x::r,k=>if x.1.toList==k.toList then some x.2 else yX r k
theorem zod (nm:B8):∀ (l:P9) (k:Nat),(xR nm l k<0↔yX l nm=none)/\(0<=xR nm l k->yX l nm=some (l.getD (xR nm l k-k).toNat (nm,0)).2)
 | [],k=>by simp[xR,yX]
 | x::r,k=>by
  unfold xR yX
  by_cases h:(x.1.toList==nm.toList)=true
  ·rw[if_pos h,if_pos h];refine⟨by simp,λ _=>?_⟩;simp
  ·rw[if_neg h,if_neg h];obtain⟨h1,h2⟩:=zod nm r (k+1);refine⟨h1,λ h0=>?_⟩;rw[h2 h0];have:=(z2u nm r (k+1) h0).1;have e:(xR nm r (k+1)-(k:Int)).toNat=(xR nm r (k+1)-((k+1:Nat):Int)).toNat+1:=(by omega);rw[e];simp
theorem za6 (ps:P9)(nm:B8)(n:Nat):iJ ps nm n=match yX ps nm with | none=>true | some m=>m==n:=by
 obtain⟨h1,h2⟩:=zod nm ps 0;unfold iJ zM
 by_cases h:xR nm ps 0<0
 ·rw[if_pos h,h1.1 h]
 ·rw[if_neg h,h2 (by omega)];simp only[Int.natCast_zero,Int.sub_zero];rw[Bool.eq_iff_iff];simp;omega
theorem zr1 (ps:P9)(nm:B8)(n:Nat):qW ps nm n=if (yX ps nm).isNone then ps++[(nm,n)] else ps:=by
 obtain⟨h1,h2⟩:=zod nm ps 0;unfold qW zM
 by_cases h:xR nm ps 0<0
 ·rw[if_pos h,h1.1 h];rfl
 ·rw[if_neg h,h2 (by omega)];rfl
theorem zkl (ps:P9)(nm:B8)(n:Nat)(k:B8):yX (ps++[(nm,n)]) k=match yX ps k with | some m=>some m | none=>if nm.toList==k.toList then some n else none:=by
 induction ps with
 | nil=>rfl
 | cons x r ih=>
  rw[List.cons_append,yX,yX]
  split
  ·rfl
  ·exact ih
theorem xO {a b:B8}:(a.toList==b.toList)=true↔a=b:=by
 rw[beq_iff_eq,ByteArray.toList_eq,ByteArray.toList_eq];exact⟨λ h=>ByteArray.ext (Array.toList_inj.1 h),λ h=>by rw[h]⟩
def arV (ps:P9):B8->Option Value:=λ k=>(yX ps k).map λ n=>.int .i64 n
theorem z05 (ps:P9)(nm:B8)(n:Nat)(h:iJ ps nm n=true):z0b (arV ps) nm (.int .i64 n)=arV (qW ps nm n):=by
 funext k
 rw[za6] at h;rw[zr1]
 by_cases e:k=nm
 ·subst e;rw[zbc];unfold arV
  cases hn:yX ps k with
  | none=>
   rw[if_pos (by rfl),zkl,hn];simp
  | some m=>
   rw[hn] at h;simp at h;rw[if_neg (by simp),hn,h];rfl
 ·rw[qB e];unfold arV
  cases hn:yX ps nm with
  | none=>
   rw[if_pos (by rfl),zkl];have:¬ (nm.toList==k.toList)=true:=λ h=>e ((xO.1 h).symm)
   cases yX ps k with
   | none=>simp only[if_neg this]
   | some m=>rfl
  | some m=>rw[if_neg (by simp)]
def zcw:List xU->P9->Int
 | [],_=>-1
 | M::r,ps=>if iJ ps M.pd M.ts.length then zcw r (qW ps M.pd M.ts.length) else M.place
variable {k:Nat}
theorem zus (h:k<ms.length)(ps:P9):zcw ((ms.map (·.1)).drop k) ps=if iJ ps ms[k].1.pd ms[k].1.ts.length then zcw ((ms.map (·.1)).drop (k+1)) (qW ps ms[k].1.pd ms[k].1.ts.length) else ms[k].1.place:=by
 rw[List.drop_eq_getElem_cons (by simpa using h),zcw];simp
def zi4 (x:Int):Ending:=.returned (.tuple #[.int .i64 (if 0<=x then x else 0),.bool (decide (0<=x))])
structure ET (w:W8)(base:Nat)(mv:Value)(ms:List (xU × Value))(V:B8->Option Value)(k:Nat)(wr:W8):Prop where
 eK:ey wr base mv ms
 map:dE Tryz.prog 9 wr (w.heap.size+1) k V
 below:Below w.heap.size w wr
theorem ET.alloc {w:W8}{base:Nat}{mv:Value}{ms:List (xU × Value)}{V:B8->Option Value}{k:Nat}{wr:W8}(h:ET w base mv ms V k wr)(o:Obj):ET w base mv ms V k (wr.alloc o):=
 ⟨h.eK.below (B9.alloc L9 _),h.map.alloc o,h.below.alloc h.below.size _⟩
theorem ET.put {V V':B8->Option Value}{k':Nat}{wr w1:W8}(h:ET w base mv ms V k wr)(hm:dE Tryz.prog 9 w1 (w.heap.size+1) k' V')(hg:wr.grownBy w1 (some (w.heap.size+1)))(Ni:∀ g,mv.ownBlock=some g->g<w.heap.size)(Yr:∀ x∈ms,∀ g,x.2.ownBlock=some g->g<w.heap.size):ET w base mv ms V' k' w1:=by
 have hs:=h.below.size;have hb:∀ g,g<w.heap.size->w1.heap[g]?=wr.heap[g]?:=λ g nE=>hg.block g (by omega) (by simp;omega)
 refine⟨⟨zZ h.eK.row (λ g e=>hb g (Ni g e)),λ x hx=>zZ (h.eK.each x hx) (λ g e=>hb g (Yr x hx g e))⟩,hm,h.below.trans ⟨hg.os,hg.tape,hg.output,hg.size,hb⟩⟩
theorem zy1 (w:W8)(base:Nat)(ar:O8)(nr cr:Nat)(am:O8)(cm:Nat)(ms:List (xU × Value))(h:ey w base (.slice am ms.length cm) ms)(hl:ms.length<=1000)(jk:∀ x∈ms,x.1.pd.size<=800):
  Calls Tryz.prog 75 #[.agg #[.slice ar nr cr,.slice am ms.length cm]] w λ e w'=>e=zi4 (zcw (ms.map (·.1)) [])/\Below w.heap.size w w':=by
 have nx:=@run_makeMap Tryz.prog;have lf:=zC (λ g (e:(Value.slice am ms.length cm).ownBlock=some g)=>(h.row.lt g e).2);have Sl:=zC (λ x (hx:x∈ms) g (e:x.2.ownBlock=some g)=>((h.each x hx).lt g e).2);have h0:ET w base (.slice am ms.length cm) ms (arV []) 0 ((w.alloc (.cells #[.slice ar nr cr,.slice am ms.length cm] 100)).alloc (.map #[] 0)):=by
  have b1:=((Below.refl w.heap.size w).alloc L9 (.cells #[.slice ar nr cr,.slice am ms.length cm] 100)).alloc (by simp) (.map #[] 0);refine⟨h.below b1,?_,b1⟩;have:=dE.made Tryz.prog 9 (w.alloc (.cells #[.slice ar nr cr,.slice am ms.length cm] 100));rw[World.size_alloc] at this;exact this
 clear h;go_enter Tryz.func75,Tryz.ntmps75;go_wp2_with fail
 go_loopg [13] ms.length (λ gg i wr=>∃ (k:Nat) (ps:P9),k<=ms.length/\gg=ms.length-k/\i=.int .i64 k/\ET w base (.slice am ms.length cm) ms (arV ps) k wr/\zcw (ms.map (·.1)) []=zcw ((ms.map (·.1)).drop k) ps)
 exact⟨0,[],Nat.zero_le _,rfl,rfl,h0,rfl⟩
 case round=>
  clear h0;obtain⟨k,ps,hk,eD,rfl,hinv,aE⟩:=hrel;have HF:=zC aE;clear aE
  by_cases aF:k<ms.length
  ·have aC:=zC ((zA HF).trans (zus aF ps));obtain⟨g,cap,hv,iF,aZ,bO,bQ,hc⟩:=vX zul hinv.eK.row k aF;injection hv with h1 h2 h3
   subst h1 h3;obtain⟨br,dL,fo⟩:=zD (hinv.eK.each _ (List.getElem_mem aF));have lN:=yU (hinv.eK.each _ (List.getElem_mem aF));unfold maxLen at lN;have q0:=hc 0 (by omega);have q1:=hc 1 (by omega);have q2:=hc 2 (by omega);have q3:=hc 3 (by omega);have q4:=hc 4 (by omega);have q5:=hc 5 (by omega);have q6:=hc 6 (by omega);have q7:=hc 7 (by omega);have q8:=hc 8 (by omega);have q9:=hc 9 (by omega);simp only[xU.cells,fo,Nat.add_zero,List.getElem?_cons_zero,List.getElem?_cons_succ] at q0 q1 q2 q3 q4 q5 q6 q7 q8 q9;have ft:=jk _ (List.getElem_mem aF);have dF:ms[k].1.pd.size<=maxLen:=(by unfold maxLen;omega);have hI:=hinv.alloc (.cells #[.int .i64 ms[k].1.num,.bool ms[k].1.neg,.string ms[k].1.pd,.slice br ms[k].1.ts.length dL,.int .i64 ms[k].1.start,.int .i64 ms[k].1.place,.int .i64 (ms[k].1.pl 0),.int .i64 (ms[k].1.pl 1),.int .i64 (ms[k].1.pl 2),.int .i64 (ms[k].1.pl 3)] 221);have dI:=hI.map;have HI:=zC hI;clear hc HF hinv hI fo
   cases hn:yX ps ms[k].1.pd with
   | none=>
    have hb:iJ ps ms[k].1.pd ms[k].1.ts.length=true:=(by rw[za6,hn]);have aO:=zC ((zA aC).trans (if_pos hb));have HP:=zC (z05 ps _ _ hb);have hu:(arV ps ms[k].1.pd).getD (.int .i64 0)=.int .i64 0:=(by simp[arV,hn]);have hc:(arV ps ms[k].1.pd).isSome=false:=(by simp[arV,hn]);clear aC hb hn;go_wp2_with (first | (at_lookup;refine qC _ rfl _ _ 218 rfl 9 3 Tryz.underlying9 Tryz.underlying218 (Tryz.zeroValue3 _) (w.heap.size+1) k (arV ps) rfl dI ms[k].1.pd rfl dF _ hu _ hc ?_) | (at_mapUpdate;refine zox _ rfl _ _ _ 218 rfl 9 3 Tryz.underlying9 Tryz.underlying218 (w.heap.size+1) k (arV ps) rfl dI (by unfold maxLen;omega) ms[k].1.pd (.int .i64 ms[k].1.ts.length) (by rfl) (by rfl) dF ?_));intro w2 dD fL;have dG:=(zA HI).put dD fL (zA lf) (zA Sl);rw[zA HP] at dG;have eA:=zC dG;clear HI dD fL dG dI;go_wp2_with fail;go_roundg (ms.length-(k+1));exact⟨k+1,_,by omega,rfl,by go_num,zA eA,zA aO⟩;omega
   | some m=>
    have hu:(arV ps ms[k].1.pd).getD (.int .i64 0)=.int .i64 m:=(by simp[arV,hn]);have hc:(arV ps ms[k].1.pd).isSome=true:=by simp[arV,hn]
    by_cases pD:m=ms[k].1.ts.length
    ·have hb:iJ ps ms[k].1.pd ms[k].1.ts.length=true:=(by rw[za6,hn];simp[pD]);have aO:=zC ((zA aC).trans (if_pos hb));have HP:=zC (z05 ps _ _ hb);have bF:((m:Int) != (ms[k].1.ts.length:Int))=false:=(by simp[pD]);clear aC hb hn pD;go_wp2_with (first | (at_lookup;refine qC _ rfl _ _ 218 rfl 9 3 Tryz.underlying9 Tryz.underlying218 (Tryz.zeroValue3 _) (w.heap.size+1) k (arV ps) rfl dI ms[k].1.pd rfl dF _ hu _ hc ?_) | (at_mapUpdate;refine zox _ rfl _ _ _ 218 rfl 9 3 Tryz.underlying9 Tryz.underlying218 (w.heap.size+1) k (arV ps) rfl dI (by unfold maxLen;omega) ms[k].1.pd (.int .i64 ms[k].1.ts.length) (by rfl) (by rfl) dF ?_));intro w2 dD fL;have dG:=(zA HI).put dD fL (zA lf) (zA Sl);rw[zA HP] at dG;have eA:=zC dG;clear HI dD fL dG dI;go_wp2_with fail;go_roundg (ms.length-(k+1));exact⟨k+1,_,by omega,rfl,by go_num,zA eA,zA aO⟩;omega
    ·have hb:iJ ps ms[k].1.pd ms[k].1.ts.length=false:=(by rw[za6,hn];simp[pD]);have aO:=zC ((zA aC).trans (if_neg (by rw[hb];decide)));have bF:((m:Int) != (ms[k].1.ts.length:Int))=true:=(by simp;omega);clear aC hb hn pD;go_wp2_with (at_lookup;refine qC _ rfl _ _ 218 rfl 9 3 Tryz.underlying9 Tryz.underlying218 (Tryz.zeroValue3 _) (w.heap.size+1) k (arV ps) rfl dI ms[k].1.pd rfl dF _ hu _ hc ?_);go_wp2_with fail
     go_ret2
     refine⟨?_,(zA HI).below⟩;rw[zA aO];unfold zi4;rw[if_pos (by omega)];have:decide (0<=(ms[k].1.place:Int))=true:=by simp
     rw[this];rfl
  ·have aC:=zC (show zcw (ms.map (·.1)) []=-1 by rw[zA HF,List.drop_of_length_le (by simp;omega)];rfl);have HI:=zC hinv;clear HF hinv;go_wp2_with fail
   go_ret2
   exact⟨by rw[zA aC];rfl,(zA HI).below⟩
end
section
open Go.RowKit Go.Maps Go.ChangeMaps Go.WideMaps
def Hm (P:Program)(K:TypeId)(w:W8)(b r n:Nat)(V:B8->Option Value)(L:B8->Prop)(eC:Nat):Prop:=
 ∃ (D:DataW Value) (left:Lit->Bool),w.ranges P K jP b r n D left eC/\(∀ k:B8,Maps.has D (z2y k)=(V k).isSome/\∀ z,D.atKey (z2y k) (.held z)=.held ((V k).getD z))/\∀ k,left (z2y k)=true↔L k
theorem Hm.alloc {P:Program}{K:TypeId}{w:W8}{b r n:Nat}{V:B8->Option Value}{L:B8->Prop}{eC:Nat}(h:Hm P K w b r n V L eC)(o:Obj):Hm P K (w.alloc o) b r n V L eC:=by
 obtain⟨D,left,h1,h2⟩:=h;exact⟨D,left,h1.alloc o,h2⟩
variable {kl:Lit} {k:TypeId} {P:Program}
theorem z2x (hk:P.underlying k=some .string){s:B8}(h:keyOf P k (.string s)=some kl):kl=z2y s:=by
 simp[keyOf,hk,mapKey] at h;exact h.2.symm
theorem zpj (hk:P.underlying k=some .string){key:Value}(h:keyOf P k key=some kl):∃ s,key=.string s:=by
 cases key <;> simp[keyOf,hk,mapKey] at h
 exact⟨_,rfl⟩
section
variable {P:Program} (w:W8) {ops:Array Oper} {rest:List Oper} {o:Oper} {a:Act} {Q:Exit->Act->W8->Prop}
theorem z87 (hg:o.guard=none)(m:Operand)(t:TypeId)(pE:o.op=Op.range t m)(K e:TypeId)(hK:P.underlying K=some .string)(ht:P.underlying t=some (.map K e))(b n:Nat)(V:B8->Option Value)
  (hm:a.eval m=.map (some b)) (ay:dE P K w b n V)
  (hQ:∀ w' eC,Hm P K w' b w.heap.size n V (λ k=>(V k).isSome=true) eC->eC<=n->w.grownBy w' none->w'.heap.size=w.heap.size+1->wpList P ops Q rest (a.put o.dst (.pointer (some ⟨w.heap.size,0,none⟩))) w'):
  wpList P ops Q (o::rest) a w:=by
 obtain⟨D,hD,h3⟩:=ay;refine wpList_range_own w hg m t pE K e (string_keyed hK) ht jP b n D hm hD λ w' h1 h2 hs=>hQ w' (Maps.size D) ⟨D,_,h1,h3,λ k=>by rw[(h3 k).1]⟩ ?_ h2 hs
 obtain⟨es,clock,_,_,hn,rfl⟩:=hD;rw[Maps.size_eq,(WideShapes.sorted_perm _).length_eq];simpa using hn
theorem yco (hg:o.guard=none)(it:Operand)(pE:o.op=Op.next it false)(K:TypeId)(hK:P.underlying K=some .string)(b r n:Nat)(V:B8->Option Value)(L:B8->Prop)(eC:Nat)(mk:B8->Value)(ji:∀ k u,V k=some u->u=mk k)
  (P1:a.eval it=.pointer (some ⟨r,0,none⟩)) (h:Hm P K w b r n V L eC)
  (ze:(∀ k,¬ L k)->wpList P ops Q rest (a.put o.dst (.tuple #[.bool false])) w)
  (zg:∀ (k:B8) (w':W8) (oA:Nat),L k->V k=some (mk k)->Hm P K w' b r n V (λ x=>L x/\x≠k) oA->oA<eC->w.grownBy w' (some r)->w'.heap.size=w.heap.size ->
   (Instr.entry (.pointer (some ⟨r,0,none⟩))).run P w'=.ok (.tuple #[.string k,mk k]) w'->wpList P ops Q rest (a.put o.dst (.tuple #[.bool true,.string k,mk k])) w'):
  wpList P ops Q (o::rest) a w:=by
 obtain⟨D,left,h1,h2,h3⟩:=h;refine wpList_next_ranges w hg it pE K (string_keyed hK) jP Value.string (id:Value->Value) (λ key kl hkey=>zpj hK hkey) (λ v y _=>⟨v,rfl⟩) b r n D left eC P1 h1 (λ _ hl=>ze λ k hk=>by rw[<-h3,hl] at hk;cases hk) ?_;intro x c kl y w' oA hkey aF hv du oL aH mP bj xh;have dF:=z2x hK hkey;subst dF;have hy:=zf8 (v:=c) (d:=y.1) (ps:=y.2) hv;have hV:V x=some c:=by
  have e1:=(h2 x).2 undef;have e2:=(h2 x).2 (.bool true);rw[du,hy] at e1 e2;injection e1 with e1
  injection e2 with e2
  cases hVx:V x with
  | none=>rw[hVx] at e1 e2;rw[e1] at e2;cases e2
  | some u=>rw[hVx] at e1;rw[e1];rfl
 have hc:=ji x c hV;subst hc;refine zg x w' oA ((h3 x).1 aF) hV ⟨D,_,oL,h2,λ k=>?_⟩ aH mP bj xh;rw[Bool.and_eq_true,h3,Bool.not_eq_true'];refine and_congr_right λ _=>⟨λ hs e=>?_,λ bF=>Maps.sameKey_ne (zuc bF)⟩
 subst e;rw[WideAt.sameKey_self (by trivial)] at hs
 cases hs
end
end
section
open Go.RowKit
def jT (w:W8):Ending->W8->Prop:=λ e w'=>e=.returned (.bool true)/\Below w.heap.size w w'
def MB.agg (m:MB):Value:=.agg #[m.l,m.one,m.two,m.three,.int .i64 (m.mark:Nat)]
variable {e:TypeId} {w:W8}
theorem sr.shape {mk:V8}{m:MB}(h:sr w e mk m):∃ (a1 a2 a3 a4:O8) (n c1 c2 c3 c4:Nat),n<=1000/\m.l=.slice a1 n c1/\m.one=.slice a2 (n+1) c2/\m.two=.slice a3 (n+2) c3/\m.three=.slice a4 (n+64) c4:=by
 obtain⟨n,hn,h1,h2,h3,h4⟩:=h.each;obtain⟨a1,c1,e1⟩:=zD h1;obtain⟨a2,c2,e2⟩:=zD h2;obtain⟨a3,c3,e3⟩:=zD h3;obtain⟨a4,c4,e4⟩:=zD h4;exact⟨a1,a2,a3,a4,n,c1,c2,c3,c4,hn,e1,e2,e3,e4⟩
theorem jS.at_ {base:Nat}{tB:TypeId}{mk:Nat->V8}{v:Value}{ms:List MB}(h:jS w base tB e mk v ms){k:Nat}(hk:k<ms.length):∃ g cap,v=.slice (some ⟨g,0,none⟩) ms.length cap/\g<w.heap.size/\ms.length<=cap/\cap<=maxLen/\w.cell? ⟨g,k*5,none⟩=some ms[k].l/\w.cell? ⟨g,k*5+1,none⟩=some ms[k].one/\w.cell? ⟨g,k*5+2,none⟩=some ms[k].two/\w.cell? ⟨g,k*5+3,none⟩=some ms[k].three/\w.cell? ⟨g,k*5+4,none⟩=some (.int .i64 (ms[k].mark:Nat)):=by
 obtain⟨g,cap,hv,-,aZ,bO,bQ,hc⟩:=vX (f:=MB.cells) (λ _=>rfl) h.row k hk;have p0:=hc 0 (by simp);have p1:=hc 1 (by simp);have p2:=hc 2 (by simp);have p3:=hc 3 (by simp);have p4:=hc 4 (by simp);simp only[MB.cells,Nat.add_zero,List.getElem?_cons_zero,List.getElem?_cons_succ] at p0 p1 p2 p3 p4;exact⟨g,cap,hv,aZ,bO,bQ,p0,p1,p2,p3,p4⟩
theorem z3c (w:W8)(b:Nat)(bz bv tv sv:Value)(mb mt ms:List MB)(fB fT fS:Nat->V8)(hblk:w.heap[b]?=some (.cells #[bz,bv,tv,sv] 69 (0,0)))(hB:jS w (b+1) 115 5 fB bv mb)(hT:jS w (b+1) 117 9 fT tv mt)(hS:jS w (b+1) 120 185 fS sv ms)
  (oG:mb.length<=100000000) (aH:mt.length<=100000000) (Ir:ms.length<=100000000)
  (cB:∀ m∈mb,∀ w',sr w' 5 (fB m.mark) m->Calls Tryz.prog 52 #[m.agg] w' (jT w')) (cT:∀ m∈mt,∀ w',sr w' 9 (fT m.mark) m->Calls Tryz.prog 53 #[m.agg] w' (jT w')) (cS:∀ m∈ms,∀ w',sr w' 185 (fS m.mark) m->Calls Tryz.prog 54 #[m.agg] w' (jT w')):
  Calls Tryz.prog 33 #[.pointer (some ⟨b,1,none⟩)] w (jT w):=by
 obtain⟨ab,cb,rfl⟩:=zD hB.row;obtain⟨fy,ct,rfl⟩:=zD hT.row;obtain⟨as_,cs,rfl⟩:=zD hS.row;have mD:=zC hblk;have dK:=(Array.getElem?_eq_some_iff.1 hblk).1;have HB:=zC hB;have HT:=zC hT;have HS:=zC hS;have CB:=zC cB;have CT:=zC cT;have CS:=zC cS;clear hB hT hS cB cT cS hblk;go_enter Tryz.func33,Tryz.ntmps33;go_wp2_with fail
 go_loopg [3,4] mb.length (λ gg ok i wr=>∃ k:Nat,k<=mb.length/\gg=mb.length-k/\ok=.bool true/\i=.int .i64 k/\Below w.heap.size w wr)
 exact⟨0,Nat.zero_le _,rfl,rfl,rfl,Below.refl _ _⟩
 case round=>
  obtain⟨k,hk,eD,rfl,rfl,hb⟩:=hrel;have hblk:=(hb.block b dK).trans (zA mD);have bj:=hb.size;obtain⟨x1,mZ⟩:=zB hblk 1
  by_cases aF:k<mb.length
  ·as_aux_lemma=>
   obtain⟨g,cap,hv,aZ,bO,bQ,p0,p1,p2,p3,p4⟩:=((zA HB).below hb).at_ aF;have hm:=(((zA HB).below hb).each mb[k] (List.getElem_mem aF));have hc:=zA CB mb[k] (List.getElem_mem aF) wr hm;obtain⟨a1,a2,a3,a4,n,c1,c2,c3,c4,hn,e1,e2,e3,e4⟩:=hm.shape;unfold MB.agg at hc;rw[e1,e2,e3,e4] at hc;rw[e1] at p0;rw[e2] at p1;rw[e3] at p2;rw[e4] at p3;injection hv with h1 h2 h3
   subst h1 h3;clear hm e1 e2 e3 e4 hblk;generalize mb[k].mark=mkk at *;go_wp2_with fail;refine hc.mono ?_;rintro e w1 ⟨rfl,aL⟩;have fN:=zC (hb.trans (aL.mono bj));clear aL hb hc p0 p1 p2 p3 p4 x1 mZ;go_wp2_with fail;go_roundg (mb.length-(k+1));exact⟨k+1,by omega,rfl,rfl,by go_num,zA fN⟩;omega
  ·clear HB CB hblk;have HH:=zC hb;clear hb;go_wp2_with fail
   go_loopg [3,6] mt.length (λ gg ok i wr=>∃ k:Nat,k<=mt.length/\gg=mt.length-k/\ok=.bool true/\i=.int .i64 k/\Below w.heap.size w wr)
   exact⟨0,Nat.zero_le _,rfl,rfl,rfl,zA HH⟩
   case round=>
    clear HH x1 mZ bj;obtain⟨k2,bn,KJ,rfl,rfl,hb⟩:=hrel;have hblk:=(hb.block b dK).trans (zA mD);have bj:=hb.size;obtain⟨x1,mZ⟩:=zB hblk 2
    by_cases hlk2:k2<mt.length
    ·as_aux_lemma=>
     obtain⟨g,cap,hv,aZ,bO,bQ,p0,p1,p2,p3,p4⟩:=((zA HT).below hb).at_ hlk2;have hm:=(((zA HT).below hb).each mt[k2] (List.getElem_mem hlk2));have hc:=zA CT mt[k2] (List.getElem_mem hlk2) wr hm;obtain⟨a1,a2,a3,a4,n,c1,c2,c3,c4,hn,e1,e2,e3,e4⟩:=hm.shape;unfold MB.agg at hc;rw[e1,e2,e3,e4] at hc;rw[e1] at p0;rw[e2] at p1;rw[e3] at p2;rw[e4] at p3;injection hv with h1 h2 h3
     subst h1 h3;clear hm e1 e2 e3 e4 hblk;generalize mt[k2].mark=mkk at *;go_wp2_with fail;refine hc.mono ?_;rintro e w1 ⟨rfl,aL⟩;have fN:=zC (hb.trans (aL.mono bj));clear aL hb hc p0 p1 p2 p3 p4 x1 mZ;go_wp2_with fail;go_roundg (mt.length-(k2+1));exact⟨k2+1,by omega,rfl,rfl,by go_num,zA fN⟩;omega
    ·clear HT CT hblk;have HH:=zC hb;clear hb;go_wp2_with fail
     go_loopg [3,8] ms.length (λ gg ok i wr=>∃ k:Nat,k<=ms.length/\gg=ms.length-k/\ok=.bool true/\i=.int .i64 k/\Below w.heap.size w wr)
     exact⟨0,Nat.zero_le _,rfl,rfl,rfl,zA HH⟩
     case round=>
      clear HH x1 mZ bj;obtain⟨k3,eE,XV,rfl,rfl,hb⟩:=hrel;have hblk:=(hb.block b dK).trans (zA mD);have bj:=hb.size;obtain⟨x1,mZ⟩:=zB hblk 3
      by_cases hlk3:k3<ms.length
      ·as_aux_lemma=>
       obtain⟨g,cap,hv,aZ,bO,bQ,p0,p1,p2,p3,p4⟩:=((zA HS).below hb).at_ hlk3;have hm:=(((zA HS).below hb).each ms[k3] (List.getElem_mem hlk3));have hc:=zA CS ms[k3] (List.getElem_mem hlk3) wr hm;obtain⟨a1,a2,a3,a4,n,c1,c2,c3,c4,hn,e1,e2,e3,e4⟩:=hm.shape;unfold MB.agg at hc;rw[e1,e2,e3,e4] at hc;rw[e1] at p0;rw[e2] at p1;rw[e3] at p2;rw[e4] at p3;injection hv with h1 h2 h3
       subst h1 h3;clear hm e1 e2 e3 e4 hblk;generalize ms[k3].mark=mkk at *;go_wp2_with fail;refine hc.mono ?_;rintro e w1 ⟨rfl,aL⟩;have fN:=zC (hb.trans (aL.mono bj));clear aL hb hc p0 p1 p2 p3 p4 x1 mZ;go_wp2_with fail;go_roundg (ms.length-(k3+1));exact⟨k3+1,by omega,rfl,rfl,by go_num,zA fN⟩;omega
      ·clear hblk;have HH:=zC hb;clear hb;go_wp2_with fail;go_ret;exact⟨rfl,zA HH⟩
end
end Go.Proofs.YtldkpahaocjdpaaGreat
