/-
  Ranging over a map with strings for keys, as a plain function from texts to values.
-/
import Derived.Test.YtldkpahaocjdpaaGreatA06
import Derived.BigRegion
import Derived.Deep.CutBlock
import Derived.Deep.MidRow
import Derived.RangeFuncNested
import Derived.Deep.WholeRow
import Derived.Deep.DeepAppendRoom
import Derived.ArgAppend
import Derived.Test.YtldkpahaocjdpaaGreatA05
import Derived.StillTailTactics
import Derived.KernelRfl
import Derived.OrdersIn
import Derived.OrdersHeld
import Derived.Deep.RegionHeld
import Derived.RangeFuncCalls
set_option maxHeartbeats 16000000
set_option maxRecDepth 1000000
namespace Go.Proofs.YtldkpahaocjdpaaGreat
open Go.Value renaming slice->U,int->I,string->Y,bool->Vb,pointer->Vp,agg->Va,tuple->Vt
open Go.IntKind renaming i64->J
open Go.Ending renaming returned->Vr
open Go.Obj renaming cells->Vc
open _root_.Option renaming none->G,some->P
open _root_.Bool renaming true->Bt,false->Bf
open Go.Addr renaming mk->C
open _root_.List renaming length->Z
open Go.World renaming heap->X,alloc->Al,setCell->Sc,cell?->Ce,ownsRow->Ow
open _root_.Array renaming size->F
open Go.Proofs.Tryz
set_option linter.defProp false
section
section
open Go.RowKit Go.Maps Go.ChangeMaps Go.WideMaps
def o8(f:Program)(K:TypeId)(w:W8)(b r n:Nat)(V:B8->Option V9)(L:B8->Prop)(cA:Nat):Prop:=
 ∃(D:DataW V9)(left:Lit->Bool),w.ranges f K pU b r n D left cA/\(∀k:B8,Maps.has D (uJ k)=(V k).isSome/\∀z,D.atKey (uJ k) (.held z)=.held ((V k).getD z))/\∀k,left (uJ k)=Bt↔L k
def o8.lt{f K w b r n V L cA}(h:o8 f K w b r n V L cA):r<F (X w):=by obtain⟨_,_,c,_⟩:=h;exact c.lt
def o8.kept{f K w d b r n V L cA c}(h:o8 f K w b r n V L cA)(l:w.grownBy d c)(k:P b≠c)(m:P r≠c):o8 f K d b r n V L cA:=by obtain⟨D,left,e,j⟩:=h;exact⟨D,left,e.kept l k m,j⟩
def o8.alloc{f K w b r n V L cA}(h:o8 f K w b r n V L cA)(o):o8 f K (Al w o) b r n V L cA:=by obtain⟨D,left,c,d⟩:=h;exact⟨D,left,c.alloc o,d⟩
def o8.XO{f K w b r n V L c cA}(h:o8 f K w b r n V L cA)(e:∀k,L k↔c k):o8 f K w b r n V c cA:=by obtain⟨D,left,d,j,l⟩:=h;exact⟨D,left,d,j,λk=>(l k).trans (e k)⟩
def ahA{f k}(c:f.underlying k=some .string){s b}(h:keyOf f k (.string s)=some b):b=uJ s:=by simp[keyOf,c,mapKey]at h;exact h.2.symm
def ahB{f k}(c:f.underlying k=some .string){b d}(h:keyOf f k b=some d):∃s,b=.string s:=by
 cases b<;>simp[keyOf,c,mapKey]at h
 exact⟨_,rfl⟩
section
variable{f:Program} (w:W8) {i:Array Oper} {g:List Oper} {o:Oper} {a:Act} {Q:Exit->Act->W8->Prop}
def aby(s:o.guard=none)(m t)(h:o.op=Op.range t m)(K e)(q:f.underlying K=some .string)(x:f.underlying t=some (.map K e))(b n V)(u:a.eval m=.map (some b)) (d:dt f K w b n V)(r:∀c cA,o8 f K c b (F (X w)) n V (λk=>(V k).isSome=Bt) cA->cA<=n->w.grownBy c none->F (X c)=F (X w)+1->wpList f i Q g (a.put o.dst (.pointer (some ⟨F (X w),0,none⟩))) c):wpList f i Q (o::g) a w:=by
 obtain⟨D,l,j⟩:=d;refine wpList_range_own w s m t h K e (string_keyed q) x pU b n D u l λc d p v=>r c (Maps.size D) ⟨D,_,d,j,λk=>by rw[(j k).1]⟩ ?_ p v
 obtain⟨_,_,_,_,p,rfl⟩:=l;rw[Maps.size_eq,(WideShapes.sorted_perm _).length_eq];simpa using p
def abx(hg:o.guard=none)(it)(T:o.op=Op.next it Bf)(K)(z:f.underlying K=some .string)(b r n V L cA)(q:B8->V9)(S:∀k u,V k=some u->u=q k)(M:a.eval it=.pointer (some ⟨r,0,none⟩)) (h:o8 f K w b r n V L cA)(l:(∀k,¬L k)->wpList f i Q g (a.put o.dst (.tuple #[.bool Bf])) w)(m:∀k j d,L k->V k=some (q k)->o8 f K j b r n V (λx=>L x/\x≠k) d->d<cA->w.grownBy j (some r)->F (X j)=(F (X w)) ->(Instr.entry (.pointer (some ⟨r,0,none⟩))).run f j=.ok (.tuple #[.string k,q k]) j->wpList f i Q g (a.put o.dst (.tuple #[.bool Bt,.string k,q k])) j):wpList f i Q (o::g) a w:=by
 obtain⟨D,left,h1,s,t⟩:=h;refine wpList_next_ranges w hg it T K (string_keyed z) pU Value.string (id:V9->V9) (λv kl h=>ahB z h) (λv y _=>⟨v,rfl⟩) b r n D left cA M h1 (λ_ c=>l λk hk=>by rw[<-t,c]at hk;cases hk) ?_;intro x c kl y j d h N hv A W R E hsz B;have e:=ahA z h;subst e;have hy:=Ac (v:=c) (d:=y.1) (ps:=y.2) hv;have hV:V x=some c:=by
  have e:=(s x).2 undef;have v:=(s x).2 (.bool Bt);rw[A,hy]at e v;injection e with e
  injection v with v
  cases p:V x with
  |none=>rw[p]at e v;rw[e]at v;cases v
  |some u=>rw[p]at e;rw[e];rfl
 have e:=S x c hV;subst e;refine m x j d ((t x).1 N) hV ⟨D,_,W,s,λk=>?_⟩ R E hsz B;rw[pE,t,zL];refine Mf λ_=>⟨λp e=>?_,λk=>Maps.sameKey_ne (OM k)⟩
 subst e;rw[WideAt.sameKey_self (by trivial)]at p
 cases p
end
end
open Go.RowKit
abbrev bJ:=List (B8×B8)
abbrev tw:=Bool×B8
def fQ:bJ->B8->Option B8
 | [],_=>G
 |x::r,n=>if x.1.toList==n.toList then P x.2 else fQ r n
def nj(e:bJ)(n:B8):B8:=(fQ e n).getD ⟨#[]⟩
variable {a:Nat}{b:bJ}
def ajQ{n}(h:a<Z b):fQ (b.drop a) n=if b[a].1.toList==n.toList then P b[a].2 else fQ (b.drop (a+1)) n:=by rw[dM h];rfl
def iS(e:bJ)(i:Nat):B8×B8:=(e[i]?).getD (⟨#[]⟩,⟨#[]⟩)
def CJ(e:bJ):V8:=
 [I J (Z e:Nat),Y (iS e 0).1,Y (iS e 0).2,Y (iS e 1).1,Y (iS e 1).2,Y (iS e 2).1,Y (iS e 2).2,Y (iS e 3).1,Y (iS e 3).2,Y (iS e 4).1,Y (iS e 4).2,Y (iS e 5).1,Y (iS e 5).2,
 Y (iS e 6).1,Y (iS e 6).2,Y (iS e 7).1,Y (iS e 7).2,Y (iS e 8).1,Y (iS e 8).2,Y (iS e 9).1,Y (iS e 9).2,Y (iS e 10).1,Y (iS e 10).2,Y (iS e 11).1,Y (iS e 11).2]
def ig(e:bJ):V9:=Va (CJ e).toArray
def Eo(e){i}(h:i<12):(CJ e)[1+i*2]?=P (Y (iS e i).1):=by
 match i,h with
 | 0,_|1,_|2,_|3,_|4,_|5,_|6,_|7,_|8,_|9,_|10,_|11,_=>rfl
def En(e){i}(h:i<12):(CJ e)[1+i*2+1]?=P (Y (iS e i).2):=by
 match i,h with
 | 0,_|1,_|2,_|3,_|4,_|5,_|6,_|7,_|8,_|9,_|10,_|11,_=>rfl
def af6(h:a<Z b):iS b a=b[a]:=by unfold iS;rw[dr h];rfl
def Rz(w:W8)(b:Nat)(e:bJ):Prop:=∀j v,(CJ e)[j]?=P v->Ce w (C b j G)=P v
def ZH(w b e v)(h:Rz w b e)(o:Z e<=12):Calls prog 201 #[Vp (P (C b 0 G)),Y v] w λc i=>c=Vr (Vt #[Y (nj e v),Vb (fQ e v).isSome])/\i=w:=by
 have n:=h 0 _ rfl;have c:=H h;clear h;go_in;go_wp2
 go_loop [11] (λi=>∃k:Nat,k<=Z e/\i=I J k/\fQ (e.drop k) v=fQ e v) (λi=>Z e-(intOf i).toNat)
 exact⟨0,aI _,rfl,rfl⟩
 case round=>
  obtain⟨k,_,rfl,i⟩:=hrel;have a:=H i;clear i
  by_cases h:k<Z e
  .have g:=ag c _ _ (Eo e (i:=k) O);have j:=ag c _ _ (En e (i:=k) O);rw[af6 h]at g j;have d:=H (ajQ (n:=v) h);have m:(k:Int)<Z e:=O;have l:(k:Int)<12:=O
   cases f:e[k].1.toList==v.toList with
   |true=>
    have i:=H (show fQ e v=P e[k].2 by rw[<-ag a,ag d,aD f]);go_wp2
    go_ret2
    exact⟨by unfold nj;rw[ag i];rfl,rfl⟩
   |false=>
    have i:=H (show fQ (e.drop (k+1)) v=fQ e v by rw[<-ag a,ag d,aB (by rw[f];decide)]);go_wp2
    go_round
    case rel=>exact⟨k+1,O,oN,i⟩
    case measure=>simp[intOf];omega
  have i:=H (show fQ e v=G by rw[<-ag a,gE O];rfl);go_wp2
  go_ret2
  exact⟨by unfold nj;rw[ag i];rfl,rfl⟩
variable {b:Nat}{d:V9}
def ae3(e)(h:(CJ e)[b]?=P d):(b=0/\d=I J (Z e:Nat))\/∃i,i<12/\((b=1+i*2/\d=Y (iS e i).1)\/(b=1+i*2+1/\d=Y (iS e i).2)):=by
 have j:b<25:=(qj.1 h).1;rcases Nat.eq_zero_or_pos b with rfl|c
 .left;refine⟨rfl,?_⟩;exact(cI h).symm
 right
 refine⟨(b-1)/2,O,?_⟩;rcases Td (b-1)with a|a
 .left
  have i:b=1+(b-1)/2*2:=O
  refine⟨i,?_⟩;have:=Eo e (i:=(b-1)/2) O;rw[<-i]at this;exact cI (h.symm.trans this)
 right
 have i:b=1+(b-1)/2*2+1:=O
 refine⟨i,?_⟩;have:=En e (i:=(b-1)/2) O;rw[<-i]at this;exact cI (h.symm.trans this)
def UE(e x i):iS (e++[x]) i=if i=(Z e) then x else iS e i:=by
 unfold iS;rw[List.getElem?_append]
 split
 .rename_i h;rw[aB O]
 rename_i h
 split
 .rename_i a;subst a;simp
 rename_i a;rw[od oT,od O]
structure kz(w:W8)(b:Nat)(e:bJ):Prop where
 cells:Rz w b e
 Ej:∃cs,w.heap[b]?=P (Vc cs 135)/\cs.size=25
variable {c:bJ}{a e:W8}
def kz.fz(h:kz a b c)(j):a.frozen? (C b j G)=false:=by obtain⟨_,w,_⟩:=h.Ej;simp[World.frozen?,w]
def kz.lt(h:kz a b c):b<F (X a):=by obtain⟨_,w,_⟩:=h.Ej;exact(aM.1 w).1
def kz.whole(h:kz a b c):a.heap[b]?=P (Vc (CJ c).toArray 135):=by
 obtain⟨e,d,f⟩:=h.Ej;have:e=(CJ c).toArray:=by
  apply GF
  .rw[f];rfl
  intro j g w;have:=h.cells j _ (by rw[<-bt];exact SS w);rw[G9 a b j e _ _ d,SS g]at this;exact cI this
 rw[d,this]
def kz.of(h:a.heap[b]?=P (Vc (CJ c).toArray 135)):kz a b c:=
 ⟨λj v w=>by rw[G9 a b j _ _ _ h,bt];exact w,_,h,rfl⟩
def kz.block(h:kz e b c)(w:a.heap[b]?=e.heap[b]?):kz a b c:=kz.of (w.trans h.whole)
def kz.drew(h:kz a b c):kz a.drew b c:=⟨h.cells,h.Ej⟩
def MD{j T n}(h:∃w,a.heap[b]?=P (Vc w T)/\w.size=n):∃w,(Sc a (C b j G) d).heap[b]?=P (Vc w T)/\w.size=n:=by obtain⟨w,c,v⟩:=h;rw[vg a b j w T (0,0) d c];exact⟨_,kn a b w _ T _ c,by simpa using v⟩
def Ep(w:W8)(b k:Nat)(v n:B8):W8:=Sc (Sc (Sc w (C b (1+k*2) G) (Y v)) (C b (1+k*2+1) G) (Y n)) (C b 0 G) (I J ((k:Int)+1))
def kz.set{b}(h:kz a b c)(w:Z c<12)(v n):kz (Ep a b (Z c) v n) b (c++[(v,n)]):=by
 refine⟨λj x g=>?_,MD (MD (MD h.Ej))⟩;have e:=h.cells 0 _ rfl;have f:=h.cells _ _ (Eo c w);have d:=h.cells _ _ (En c w);unfold Ep;rcases ae3 _ g with⟨rfl,rfl⟩|⟨i,x,⟨rfl,rfl⟩|⟨rfl,rfl⟩⟩
 .rw[BH _ _ _ (by rw[ui _ _ _ _ (by intro c;injection c;omega),ui _ _ _ _ (by intro c;injection c;omega),e];rfl)];simp
 .rw[ui _ _ _ _ (by intro c;injection c;omega),ui _ _ _ _ (by intro c;injection c;omega),UE]
  by_cases j:i=Z c
  .subst j;rw[BH _ _ _ (by rw[f];rfl),aD rfl]
  rw[ui _ _ _ _ (by intro c;injection c;omega),aB j];exact h.cells _ _ (Eo c x)
 rw[ui _ _ _ _ (by intro c;injection c;omega),UE]
 by_cases j:i=Z c
 .subst j;rw[BH _ _ _ (by rw[ui _ _ _ _ (by intro c;injection c;omega),d];rfl),aD rfl]
 rw[ui _ _ _ _ (by intro c;injection c;omega),ui _ _ _ _ (by intro c;injection c;omega),aB j];exact h.cells _ _ (En c x)
def ak.Ep{B b}(h:ak B a e)(c:b∈B\/F (X a)<=b)(k v n):ak B a (Go.Proofs.YtldkpahaocjdpaaGreat.Ep e b k v n):=
 ((h.setCell (p:=(C b (1+k*2) G)) c _).setCell (p:=(C b (1+k*2+1) G)) c _).setCell (p:=(C b 0 G)) c _
def xG(e:bJ)(v n:B8):Option bJ:=
 match fQ e v with
 |some x=>if x.toList==n.toList then P e else G
 |none=>P (e++[(v,n)])
def xV(w:W8)(b:Nat)(r:Option bJ)(en:Ending)(w':W8):Prop:=ak [b] w w'/\en=Vr (Vb r.isSome)/\∀e',r=P e'->kz w' b e'
def ak3(w b e v n)(h:kz w b e)(q:Z e<=12)(k:fQ e v=G->Z e<12):Calls prog 147 #[Vp (P (C b 0 G)),Y v,Y n] w (xV w b (xG e v n)):=by
 have g:=H (ZH w b e v h.cells q);have i:=H (show xV w b (xG e v n)=xV w b (match fQ e v with|some x=>if x.toList==n.toList then P e else G|none=>P (e++[(v,n)])) from rfl);have r:=h.cells 0 _ rfl;have t:=h.fz 0;have f:=H h;have z:=h.lt;clear h
 cases a:fQ e v with
 |some x=>
  have l:=H (show nj e v=x by unfold nj;rw[a];rfl);rw[a]at i g;clear k;have j:=H a;clear a;go_in;go_wp2_with(go_at_call 201;refine(g).mono ?_;rintro p m⟨rfl,d⟩;subst d);rw[ag l];go_wp2;go_ret;rw[ag i];refine⟨ak.refl _ _,?_,λo h=>?_⟩
  .split<;>rename_i c<;>simp[c]
  split at h
  .cases h;exact f
  cases h
 |none=>
  have c:=k a;have l:=H (show nj e v=⟨#[]⟩ by unfold nj;rw[a];rfl);rw[a]at i g;clear k;have j:=H a;clear a;have s:=f.cells _ _ (Eo e c);have k:=f.cells _ _ (En e c);have y:=f.fz (1+Z e*2);have u:=f.fz (1+Z e*2+1);have a:(Z e:Int)<12:=O
  go_in;go_wp2_with(go_at_call 201;refine(g).mono ?_;rintro p m⟨rfl,d⟩;subst d)
  go_region
  go_wp2;go_ret;rw[ag i];exact⟨((ak.refl [b] m).Ep (b:=b) oS (Z e) v n).drew,rfl,λo h=>by cases h;exact(f.set c v n).drew⟩
def MG(W v):(Instr.typeAssert (.iface 130 v) 191 130 Bt).run prog W=.ok (Vt #[v,Vb Bt]) W:=oK
def MF(W v):(Instr.typeAssert (.iface 193 v) 191 193 Bt).run prog W=.ok (Vt #[v,Vb Bt]) W:=oK
def ME(W v):(Instr.typeAssert (.iface 130 v) 191 193 Bt).run prog W=.ok (Vt #[Y ⟨#[]⟩,Vb Bf]) W:=oK
def kx(t:tw):V9:=.iface (if t.1 then 130 else 193) (Y t.2)
def px(e:bJ)(t:tw)(n:B8):Option bJ:=if t.1 then xG e t.2 n else if t.2.toList==n.toList then P e else G
def ako(w b e t n)(h:kz w b e)(j:Z e<=12)(a:t.1=Bt->fQ e t.2=G->Z e<12):Calls prog 101 #[Vp (P (C b 0 G)),kx t,Y n] w (xV w b (px e t n)):=by
 obtain⟨c,v⟩:=t;have f:=H h;have t:=H h;clear h;have l:=MG;have m:=MF;have o:=ME
 cases c with
 |true=>have i:=H (ak3 w b e v n t j (a rfl));clear a;have a:=H (show xV w b (px e (Bt,v) n)=xV w b (xG e v n) from rfl);rw[show kx (Bt,v)=.iface 130 (Y v) from rfl];go_in;go_wp2_with(go_at_call 147;refine(i).mono ?_;rintro k p⟨d,rfl,h⟩;have g:=H d;have t:=H h;clear d h);go_ret;rw[ag a];exact⟨g,rfl,t⟩
 |false=>
  have a:=H (show xV w b (px e (Bf,v) n)=xV w b (if v.toList==n.toList then P e else G) from rfl);rw[show kx (Bf,v)=.iface 193 (Y v) from rfl];go_in;go_wp2;go_ret;rw[ag a];refine⟨ak.refl _ _,?_,λg h=>?_⟩
  .split<;>rename_i g<;>simp[g]
  split at h
  .cases h;exact f
  cases h
def lf:bJ->List tw->List B8->Option bJ
 |e,[],_=>P e
 |e,t::ts,ns=>match px e t (ns.headD ⟨#[]⟩) with
  |some e'=>lf e' ts ns.tail
  |none=>G
structure du where
 p:B8
 ts:List tw
def dZ(e:bJ)(a:du)(t:Th):Option bJ:=if a.p.toList==t.p.toList then lf e a.ts t.ts else G
def agt(l k):(l.drop k).headD ⟨#[]⟩=bj l k:=by unfold bj;rw[List.headD_eq_head?_getD,List.head?_drop]
variable {e:List tw}{d f:Nat}
def akn{e a ns k}(h:k<Z a):lf e (a.drop k) (ns.drop k)=match px e a[k] (bj ns k) with|some b=>lf b (a.drop (k+1)) (ns.drop (k+1))|none=>none:=by rw[dM h,lf,agt,List.tail_drop]
structure iY(Vs:List B8)(e:bJ):Prop where
 nd:(e.map (·.1)).Nodup
 sub:∀x∈e,x.1∈Vs
def iY.nil(a):iY a []:=⟨oS,oS⟩
def Jr{α:Type}[DecidableEq α]:∀(y a:List α),y.Nodup->(∀x∈y,x∈a)->Z y<=Z a
 | [],_,_,_=>by simp
 |x::y,a,hn,h=>by
  obtain⟨d,f⟩:=wN.1 hn;have b:=h x bz;have:=Jr y (a.erase x) f (λy c=>(List.mem_erase_of_ne (λe:y=x=>d (e▸c))).2 (h y (bG _ c)));rw[List.length_erase_of_mem b]at this;have:0<Z a:=List.length_pos_of_mem b;simp;omega
variable {a:List B8}{b g:bJ}
def iY.len(h:iY a b):Z b<=Z a:=by have:=Jr _ a h.nd (λx e=>by obtain⟨y,x,rfl⟩:=aU.1 e;exact h.sub y x);simpa using this
variable {c:B8}
def Zr :∀{e:bJ},fQ e c=G->c∉e.map (·.1)
 | [],_=>by simp
 |x::r,h=>by
  rw[fQ]at h
  split at h
  .cases h
  rename_i a;rw[ir,bS];rintro(e|e)
  .rw[e]at a;simp at a
  exact Zr h e
def iY.xM(h:iY a b){n}(j:c∈a)(i:fQ b c=G):iY a (b++[(c,n)]):=by
 refine⟨?_,λx v=>?_⟩
 .rw[fg,pF];exact⟨h.nd,oS,λd f e g b=>Zr i (by rw[<-(bu.1 g:e=c),<-b];exact f)⟩
 rcases aS.1 v with v|v
 .exact h.sub x v
 rw[bu.1 v];exact j
def iY.room(h:iY a b)(v:c∈a)(e:fQ b c=G):Z b<Z a:=by have:=(h.xM (n:=c) v e).len;rw[br]at this;exact this
def iY.aaP(h:iY a b){t}(n:t.1=Bt->t.2∈a)(e:px b t c=P g):iY a g:=by
 unfold px xG at e
 split at e
 .rename_i d
  split at e
  .split at e
   .cases e;exact h
   cases e
  rename_i f;cases e;exact h.xM (n d) f
 split at e
 .cases e;exact h
 cases e
def iY.aq :∀{c:List tw} {d:List B8} {e x:bJ},iY a e->(∀t∈c,t.1=Bt->t.2∈a)->lf e c d=P x->iY a x
 | [],_,e,x,h,_,b=>by rw[lf]at b;cases b;exact h
 |t::c,d,e,x,h,ht,b=>by
  rw[lf]at b
  split at b
  .rename_i c d;exact iY.aq (h.aaP (ht t bz) d) (λx t=>ht x (bG _ t)) b
  cases b
def iY.Je{A t}(h:iY a b)(d:∀t∈A.ts,t.1=Bt->t.2∈a)(e:dZ b A t=P g):iY a g:=by
 unfold dZ at e
 split at e
 .exact h.aq d e
 cases e
def J7(t)(h:d<4):(bP t)[1+d]?=P (Y (bj t.ts d)):=by
 match d,h with
 | 0,_|1,_|2,_|3,_=>rfl
variable {h:W8}
def QW{a}(w:Ow h d 191 1 (U a (Z e) f) (Z e) (e.map kx))(k)(m:k<Z e):∃g,a=P (C g 0 G)/\g<F (X h)/\(Z e)<=f/\f<=maxLen/\Ce h (C g k G)=P (kx e[k]):=by
 rcases w.2 with⟨_,_⟩|⟨g,_,_,n,_,l,c,b,_,_⟩
 .omega
 injection n with i o j
 subst i j;refine⟨g,rfl,(aM.1 l).1,c,b,?_⟩;rw[w.cellAt k O,gP,dr m];rfl
def acg(w:W8)(r:Option bJ)(en:Ending)(w':W8):Prop:=Below (F (X w)) w w'/\en=Vr (Vt #[ig (r.getD []),Vb r.isSome])
def ze:(prog.info? 135).map (·.size)=P 25:=oK
def Ib(e):(CJ e).toArray.all (·.oneCell')=true:=by simp[CJ,Value.oneCell']
def Qf{d p u}(h:d.results=#[.cell p 135,.tmp u])(a w g e)(i:a.getD p undef=Vp (P (C g 0 G)))(f:w.heap[g]?=P (Vc (CJ e).toArray 135)):(results d a).run prog w=.ok (Vt #[ig e,a.getD u undef]) w:=by
 have b:a[p]?.getD undef=Vp (P (C g 0 G)):=by simpa using i
 have c:a.getD u undef=a[u]?.getD undef:=oS
 rw[c];simp[results,h,b,asAddr,Hb w g _ 135 _ _ _ f underlying135 rfl (by rw[ze];rfl),ig]
def mJ{a}(w:Below d h a)(B:d<=f)(b):Below d h (a.setRow f b):=
 ⟨w.os,w.tape,w.output,by rw[setRow_size];exact w.size,λk c=>(yr a f k b O).trans (w.block k c)⟩
def JH(w L e A a c t)(h:Ow w L 191 1 (U a (Z A.ts) c) (Z A.ts) (A.ts.map kx))(h4:Z A.ts<=4)(T)(hV:Z T<=12)(k:iY T e)(R:∀t∈A.ts,t.1=Bt->t.2∈T):Calls prog 62 #[ig e,Va #[Y A.p,U a (Z A.ts) c],cP t] w (acg w (dZ e A t)):=by
 obtain⟨u,i⟩:∃u,u=(CJ e).toArray:=⟨_,rfl⟩;obtain⟨x,o⟩:∃x,x=(bP t).toArray:=⟨_,rfl⟩;have z:=H i;have p:=H o;unfold ig cP;rw[<-i,<-o];clear i o;have i:=H h;have W:=H k;have K:=H R;clear h k R;have q0:u.size=25:=by rw[ag z];rfl
 have q1:x.size=5:=by rw[ag p];rfl
 go_in;go_upto_region 1 with fail;generalize h:World.alloc (World.alloc (World.alloc (World.alloc w _) _) _) _=o;have k:Below (F (X w)) w o:=by rw[<-h];exact((((aZ (F (X w)) w).alloc L9 _).alloc oS _).alloc oW _).alloc oW _
 have q:o.heap[F (X w)]?=P (Vc u 135):=by rw[<-h,aW _ _ _ oW,aW _ _ _ oW,aW _ _ _ oS];exact aG w _
 have R:o.heap[F (X w)+1]?=P (Vc #[Y A.p,U a (Z A.ts) c] 79):=by rw[<-h,aW _ _ _ oW,aW _ _ _ oS];have:=aG (Al w (Vc u 135)) (Vc #[Y A.p,U a (Z A.ts) c] 79);rw[bL]at this;exact this
 have n:o.heap[F (X w)+1+1]?=P (Vc x 88):=by rw[<-h,aW _ _ _ oS];have:=aG (Al (Al w (Vc u 135)) (Vc #[Y A.p,U a (Z A.ts) c] 79)) (Vc x 88);rw[bL,bL]at this;exact this
 have l:o.heap[F (X w)+1+1+1]?=P (Vc (CJ []).toArray 135):=by rw[<-h];have:=aG (Al (Al (Al w (Vc u 135)) (Vc #[Y A.p,U a (Z A.ts) c] 79)) (Vc x 88)) (Vc (CJ []).toArray 135);rw[bL,bL,bL]at this;exact this
 have Q:F (X w)+1+1+1+1=F (X o):=by rw[<-h];simp
 have v:kz o (F (X w)) e:=kz.of (by rw[q,ag z]);have j:=gC i (λg e=>k.block g (i.lt g e).2);clear h i;have y:=H v;have E:=H Q;have r:=H l;have D:=H j;have d:=H k;obtain⟨_,-⟩:=aj R 0;obtain⟨_,-⟩:=aj R 1;obtain⟨t0,-⟩:=aj n 0;replace t0:Ce o (C (F (X w)+1+1) 0 G)=P (Y t.p):=by rw[t0,ag p];rfl
 have SO:=H R;have Lq:=H n;clear q R n l v j k Q
 cases hq:A.p.toList==t.p.toList with
 |false=>have R:=H (show dZ e A t=G by unfold dZ;rw[hq];rfl);go_wp2_with(first|(refine BM rfl 135 _ _ rfl _ _ rfl rfl _ _ r (by rw[ze];rfl) rfl (Ib []) ?_)|fail);refine bN (v:=Vt #[ig [],Vb Bf]) (Qf results62 _ _ _ [] rfl (kn _ _ _ _ _ _ r)) rfl ?_;rw[ag R];exact⟨mJ d O _,rfl⟩
 |true=>
  have R:=H (show dZ e A t=lf e A.ts t.ts by unfold dZ;rw[hq];rfl);go_wp2
  go_loopg [19] (Z A.ts) (λh i wr=>∃(k:Nat)(j:bJ),k<=Z A.ts/\h=Z A.ts-k/\i=I J k/\lf j (A.ts.drop k) (t.ts.drop k)=lf e A.ts t.ts/\kz wr (F (X w)) j/\ak [F (X w)] o wr/\iY T j)
  exact⟨0,e,aI _,rfl,rfl,rfl,y,ak.refl _ _,W⟩
  case round=>
   obtain⟨k,j,_,_,rfl,n,Q,h,v⟩:=hrel;have q:=H v;have HF:=H n;have HB:=H Q;have l:=H h;have M:=ag E;have N:wr.heap[F (X w)+1+1+1]?=P (Vc (CJ []).toArray 135):=(h.block _ O oT).trans r;have s:=H N;have b:=H (show Below (F (X w)) w wr from ⟨h.os.trans d.os,h.tape.trans d.tape,h.output.trans d.output,bf d.size h.size,λi hi=>(h.block i O oT).trans (d.block i hi)⟩);clear n Q h N v
   by_cases n:k<Z A.ts
   .obtain⟨g,rfl,hg0,_,_,V⟩:=QW D k n;have N9:Ce wr (C (F (X w)+1+1) (1+k) G)=P (Y (bj t.ts k)):=by
     have:=(aj (l.block _ O oT |>.trans Lq) (1+k)).1;rw[this,ag p,bt];exact J7 t O
    have Ck:g≠(F (X w)):=λQ=>by
     have h1:=y.whole;rcases(D).2 with⟨_,_⟩|⟨_,_,_,S,_,h,_⟩
     .omega
     injection S with v _ _
     injection v with v
     injection v with v
     rw[<-v,Q,h1]at h;injection h with h
     injection h with _ h _
     cases h
    have hc':Ce wr (C g k G)=P (kx A.ts[k]):=(l.cell (p:=(C g k G)) hg0 (by simp;exact Ck)).trans V;have Q:=H (ako wr (F (X w)) j A.ts[k] (bj t.ts k) HB (oF q.len) (λh1 v=>iz (q.room (K _ (aN n) h1) v) hV));have S:=H (akn (e:=j) (ns:=t.ts) n);have kf:(k:Int)<Z A.ts:=O;have Ae:(1+k:Int)<5:=O;clear V M
    cases hr:px j A.ts[k] (bj t.ts k) with
    |none=>rw[hr]at S Q;have V:=H (show lf e A.ts t.ts=G by rw[<-ag HF,ag S]);go_upto_region 7 with(go_at_call 101;refine(Q).mono ?_;rintro en w1⟨f,rfl,m⟩;have h:=H f;clear f m);have N:w1.heap[F (X w)+1+1+1]?=P (Vc (CJ []).toArray 135):=(h.block _ (by have:=ag E;have:=l.size;omega) oT).trans s;have HY:=H N;have B:=H (show Below (F (X w)) w w1 from ⟨h.os.trans b.os,h.tape.trans b.tape,h.output.trans b.output,bf b.size h.size,λi hi=>(h.block i (oF b.size) oT).trans (b.block i hi)⟩);clear N;go_wp2_with(first|(refine BM rfl 135 _ _ rfl _ _ rfl rfl _ _ HY (by rw[ze];rfl) rfl (Ib []) ?_)|fail);refine bN (v:=Vt #[ig [],Vb Bf]) (Qf results62 _ _ _ [] rfl (kn _ _ _ _ _ _ HY)) rfl ?_;rw[ag R,ag V];exact⟨mJ B O _,rfl⟩
    |some e2=>have i:=H (q.aaP (K _ (aN n)) hr);rw[hr]at S Q;have B:=H (show lf e2 (A.ts.drop (k+1)) (t.ts.drop (k+1))=lf e A.ts t.ts by rw[<-ag HF,ag S]);go_wp2_with(go_at_call 101;refine(Q).mono ?_;rintro en w1⟨f,rfl,m⟩;have h:=H f;have N:=H (m e2 rfl);clear f m);go_roundg(Z A.ts-(k+1));exact⟨k+1,e2,O,rfl,oN,B,N,l.trans h,i⟩;omega
   have V:=H (show lf e A.ts t.ts=P j by rw[<-ag HF,gE O];rfl);have h:=HB.whole;have i:=H h;clear h M;go_wp2_with(first|(refine Mh rfl 135 _ rfl _ rfl _ _ _ _ i underlying135 rfl (by rw[ze];rfl) ?_)|(refine BM rfl 135 _ _ rfl _ _ rfl rfl _ _ s (by rw[ze];rfl) rfl (Ib _) ?_)|fail);refine bN (v:=Vt #[ig j,Vb Bt]) (Qf results62 _ _ _ j rfl (kn _ _ _ _ _ _ s)) rfl ?_;rw[ag R,ag V];exact⟨mJ b O _,rfl⟩
def kr(e:bJ)(t:tw):B8:=if t.1 then nj e t.2 else t.2
def bM(e:bJ)(A:du):Th:=⟨A.p,A.ts.map (kr e)⟩
def ajf(L x i):bj (L++[x]) i=if i=(Z L) then x else bj L i:=by
 unfold bj;rw[List.getElem?_append]
 split
 .rename_i h;rw[aB O]
 rename_i h
 split
 .rename_i a;subst a;simp
 rename_i a;rw[od oT,od O]
def ano(p L x)(h:Z L<4):(bP ⟨p,L⟩).toArray.setIfInBounds (1+Z L) (Y x)=(bP ⟨p,L++[x]⟩).toArray:=by
 unfold bP;simp only[Th.p,Th.ts,ajf]
 match hl:Z L,h with
 | 0,_|1,_|2,_|3,_=>simp
def vN:(prog.info? 88).map (·.size)=P 5:=oK
def J8(t):(bP t).toArray.all (·.oneCell')=true:=by simp[bP,Value.oneCell']
def Nf{wr b p L}(h:wr.heap[b]?=P (Vc (bP ⟨p,L⟩).toArray 88))(a:Z L<4)(x):(Sc wr (C b (1+Z L) G) (Y x)).heap[b]?=P (Vc (bP ⟨p,L++[x]⟩).toArray 88):=by rw[vg wr b _ _ _ (0,0) _ h,ano p L x a];exact kn _ _ _ _ _ _ h
def abJ(w:W8)(t:Th)(en:Ending)(w':W8):Prop:=Below (F (X w)) w w'/\en=Vr (cP t)
def CX(w q e A a c)(h:Ow w q 191 1 (U a (Z A.ts) c) (Z A.ts) (A.ts.map kx))(h4:Z A.ts<=4)(hl:Z e<=12):Calls prog 146 #[ig e,Va #[Y A.p,U a (Z A.ts) c]] w (abJ w (bM e A)):=by
 obtain⟨m,i⟩:∃m,m=(CJ e).toArray:=⟨_,rfl⟩;have o:=H i;unfold ig;rw[<-i];clear i;have i:=H h;clear h;have q0:m.size=25:=by rw[ag o];rfl
 have a1:=MG;have a2:=MF;have a3:=ME;go_in;go_upto_region 2 with fail;generalize h:World.alloc (World.alloc (World.alloc (World.alloc w _) _) _) _=j;have L:Below (F (X w)) w j:=by rw[<-h];exact((((aZ (F (X w)) w).alloc L9 _).alloc oS _).alloc oW _).alloc oW _
 have t:j.heap[F (X w)]?=P (Vc m 135):=by rw[<-h,aW _ _ _ oW,aW _ _ _ oW,aW _ _ _ oS];exact aG w _
 have r:j.heap[F (X w)+1]?=P (Vc #[Y A.p,U a (Z A.ts) c] 79):=by rw[<-h,aW _ _ _ oW,aW _ _ _ oS];have:=aG (Al w (Vc m 135)) (Vc #[Y A.p,U a (Z A.ts) c] 79);rw[bL]at this;exact this
 have B:j.heap[F (X w)+1+1]?=P (Vc (bP ⟨⟨#[]⟩,[]⟩).toArray 88):=by rw[<-h,aW _ _ _ oS];have:=aG (Al (Al w (Vc m 135)) (Vc #[Y A.p,U a (Z A.ts) c] 79)) (Vc (bP ⟨⟨#[]⟩,[]⟩).toArray 88);rw[bL,bL]at this;exact this
 have K:j.heap[F (X w)+1+1+1]?=P (Vc (bP ⟨A.p,[]⟩).toArray 88):=by rw[<-h];have:=aG (Al (Al (Al w (Vc m 135)) (Vc #[Y A.p,U a (Z A.ts) c] 79)) (Vc (bP ⟨⟨#[]⟩,[]⟩).toArray 88)) (Vc (bP ⟨A.p,[]⟩).toArray 88);rw[bL,bL,bL]at this;exact this
 have n:F (X w)+1+1+1+1=F (X j):=by rw[<-h];simp
 have v:kz j (F (X w)) e:=kz.of (by rw[t,ag o]);have k:=gC i (λg e=>L.block g (i.lt g e).2);have S:=H (λg (x:(U a (Z A.ts) c).ownBlock=P g)=>(i.lt g x).2);clear h i;have x:=H v;have E:=H n;have N:=H K;have M:=H B;have D:=H k;have b:=H L;obtain⟨_,-⟩:=aj r 1;have W:=H r;clear t r B K v k L n;go_wp2
 go_loopg [16] (Z A.ts) (λn i wr=>∃(k:Nat)(L:List B8),k<=Z A.ts/\n=Z A.ts-k/\i=I J k/\L=(A.ts.take k).map (kr e)/\wr.heap[F (X w)+1+1+1]?=P (Vc (bP ⟨A.p,L⟩).toArray 88)/\ak [F (X w)+1+1+1] j wr)
 exact⟨0,[],aI _,rfl,rfl,rfl,N,ak.refl _ _⟩
 case round=>
  obtain⟨k,L,_,_,rfl,r,v,h⟩:=hrel;have n:Z L=k:=by rw[r];simp;omega
  have t:=ag E;have B:=H (show Below (F (X w)) w wr from ⟨h.os.trans b.os,h.tape.trans b.tape,h.output.trans b.output,bf b.size h.size,λi K=>(h.block i O oT).trans (b.block i K)⟩);have K:=H v;have l:=H h;have T:=H r;have d:=H n
  by_cases s:k<Z A.ts
  .obtain⟨g,rfl,R,_,_,u⟩:=QW D k s;have hg1:=ag S g rfl;have f:Ce wr (C g k G)=P (kx A.ts[k]):=(l.cell (p:=(C g k G)) R oT).trans u;have y:=H (x.block (h.block _ O oT));obtain⟨i,_⟩:=aj v (1+k);replace i:Ce wr (C (F (X w)+1+1+1) (1+k) G)=P (Y (bj L k)):=by
    rw[i,bt];exact J7 ⟨A.p,L⟩ O
   have kf:(k:Int)<Z A.ts:=O;have Ae:(1+k:Int)<5:=O;have p:=H (show(A.ts.take (k+1)).map (kr e)=L++[kr e A.ts[k]] by rw[jr s,fg,ag T];rfl);clear u t v h r n
   cases u:A.ts[k].1 with
   |false=>
    have z:=H (show kr e A.ts[k]=A.ts[k].2 by unfold kr;rw[u];rfl);have Q:Ce wr (C g k G)=P (.iface 193 (Y A.ts[k].2)):=(by rw[f];unfold kx;rw[u];rfl);clear f;go_wp2;go_roundg(Z A.ts-(k+1))
    case measure=>omega
    case rel=>have:=Nf K (by rw[ag d];omega) A.ts[k].2;rw[ag d]at this;exact⟨k+1,L++[A.ts[k].2],O,rfl,oN,by rw[ag p,ag z],this,l.setCell oS _⟩
   |true=>
    have z:=H (show kr e A.ts[k]=nj e A.ts[k].2 by unfold kr;rw[u];rfl);have Q:Ce wr (C g k G)=P (.iface 130 (Y A.ts[k].2)):=(by rw[f];unfold kx;rw[u];rfl);have V:=H (ZH wr (F (X w)) e A.ts[k].2 y.cells hl);clear f;go_wp2_with(go_at_call 201;refine(V).mono ?_;rintro en w1⟨rfl,f⟩;subst f);go_roundg(Z A.ts-(k+1))
    case measure=>omega
    case rel=>have:=Nf K (by rw[ag d];omega) (nj e A.ts[k].2);rw[ag d]at this;exact⟨k+1,L++[nj e A.ts[k].2],O,rfl,oN,by rw[ag p,ag z],this,l.setCell oS _⟩
  have p:=H (show(⟨A.p,L⟩:Th)=bM e A by unfold bM;rw[r,j7 O]);have i:=H ((h.block (F (X w)+1+1) O oS).trans M);clear t v h r n;go_wp2_with(first|(refine Mh rfl 88 _ rfl _ rfl _ _ _ _ K underlying88 rfl (by rw[vN];rfl) ?_)|(refine BM rfl 88 _ _ rfl _ _ rfl rfl _ _ i (by rw[vN];rfl) rfl (J8 _) ?_)|fail);refine bN (v:=cP ⟨A.p,L⟩) (results_cell_row results146 _ _ _ _ _ _ _ rfl (kn _ _ _ _ _ _ i) underlying88 rfl (by rw[vN];rfl)) rfl ?_;exact⟨mJ B O _,by rw[ag p]⟩
structure bU(No:Nat->Prop)(w w':W8):Prop where
 os:w'.os=w.os
 tape:w'.tape=w.tape
 output:w'.output=w.output
 size:F (X w)<=F (X w')
 same:∀(k:Nat)(o:Obj),w.heap[k]?=P o->¬No k->(o.isCells=Bt\/o.isWalk=Bt)->w'.heap[k]?=P o
def bU.refl(a w):bU a w w:=⟨rfl,rfl,rfl,bD _,λ_ _ h _ _=>h⟩
variable {a:Nat->Prop}{b c j:W8}
def bU.trans(h:bU a j b)(k:bU a b c):bU a j c:=
 ⟨k.os.trans h.os,k.tape.trans h.tape,k.output.trans h.output,bf h.size k.size,λi o g e f=>k.same i o (h.same i o g e f) e f⟩
def bU.bC(k:Below (F (X c)) c b):bU a c b:=
 ⟨k.os,k.tape,k.output,k.size,λi _ w _ _=>(k.block i (aM.1 w).1).trans w⟩
def bU.grown{row}(h:bU a b c)(w:c.grownBy j row)(g:∀r,row=P r->F (X b)<=r\/a r):bU a b j:=
 ⟨w.os.trans h.os,w.tape.trans h.tape,w.output.trans h.output,bf h.size w.size,λi o d f e=>by
  have r:=h.same i o d f e;refine(w.block i (aM.1 r).1 λe=>?_).trans r;rcases g i e.symm with o|o
  .have:=(aM.1 d).1;omega
  exact f o⟩
def bU.alloc(h:bU a b c)(o):bU a b (Al c o):=h.grown (BI c o G) (λ_ e=>by cases e)
variable {h i:Nat}
def bU.cells(h:bU a b c){w t e}(f:b.heap[d]?=P (Vc w t e))(g:¬a d):c.heap[d]?=P (Vc w t e):=h.same d _ f g (.inl rfl)
variable {g:List (Th×Nat)}
def bU.map(h:bU a b c)(e:bQ b d g)(f:¬a d):bQ c d g:=by obtain⟨_,_,w⟩:=e.isMap;exact e.block ((h.same d _ w f (.inr rfl)).trans w.symm)
variable {e:V9}
def bU.row(w:bU a b j){v k}(n:Ow b d v h e i k)(o:∀g,e.ownBlock=P g->¬a g):Ow j d v h e i k:=by
 refine gC n λg f=>?_
 rcases n.2 with⟨m,_⟩|⟨l,_,_,rfl,_,c,_⟩
 .rw[m]at f;cases f
 have v:l=g:=by simpa[Value.ownBlock]using f
 subst v;exact(w.same _ _ c (o _ f) (.inl rfl)).trans c.symm
def El(x:du×V9):V8:=[Y x.1.p,x.2]
structure nx(No:Nat->Prop)(w:W8)(v:V9)(As:List (du×V9)):Prop where
 row:∃base,Ow w base 79 2 v (Z As) (As.flatMap El)
 aq:∀x∈As,∃base,Ow w base 191 1 x.2 x.1.ts.length (x.1.ts.map kx)
 ap:∀g,v.ownBlock=P g->¬No g
 MC:∀x∈As,∀g,x.2.ownBlock=P g->¬No g
 dc:∀x∈As,x.1.ts.length<=4
variable {f:List (du×V9)}
def nx.rT(h:nx a b e f)(k:bU a b c):nx a c e f:=
 ⟨let ⟨w,hb⟩:=h.row;⟨w,k.row hb h.ap⟩,λx d=>let ⟨w,hb⟩:=h.aq x d;⟨w,k.row hb (h.MC x d)⟩,h.ap,h.MC,h.dc⟩
structure zv(No:Nat->Prop)(w:W8)(sb mb l:Nat)(pos neg:List (du×V9))(pv nv:V9)(K:List (Th×Nat)):Prop where
 s:w.heap[sb]?=P (Vc #[pv,nv,.map (P mb),.func (.yield l) #[] #[]] 361)
 ns:¬No sb
 p:nx No w pv pos
 n:nx No w nv neg
 m:bQ w mb K
 nm:¬No mb
 p3:Z pos<=3
def zv.rT{w K}(l:zv a b h d i f w K e g)(k:bU a b c):zv a c h d i f w K e g:=
 ⟨k.cells l.s l.ns,l.ns,l.p.rT k,l.n.rT k,k.map l.m l.nm,l.nm,l.p3⟩
def nJ(K:List (Th×Nat))(neg:List du)(e:bJ):Bool:=neg.any λx=>(bK K (bM e x)).isSome
def gn(K:List (Th×Nat)):List du->bJ->List bJ
 | [],e=>[e]
 |a::r,e=>K.flatMap λt=>match dZ e a t.1 with
  |some e'=>gn K r e'
  |none=>[]
def jn(K:List (Th×Nat))(neg pos:List du)(e:bJ):List bJ:=(gn K pos e).filter λx=>!nJ K neg x
def BV(w:W8)(b:Nat)(e:bJ):Prop:=w.heap[b]?=P (Vc (CJ e).toArray 135)
noncomputable def rf(v:V9):Sem V9:=Instr.loadAt 135 v
noncomputable def H7(p v:V9):Sem Unit:=Instr.storeAt 135 p v
noncomputable def MR:Sem V9:=zeroValue 135
def tW(v):Instr.loadAt 135 v=rf v:=rfl
def tX(p v):Instr.storeAt 135 p v=H7 p v:=rfl
def ab4:zeroValue 135=MR:=rfl
def aa9(w):MR.run prog w=.ok (ig []) w:=by unfold MR;kernel_rfl
def tF(e):(ig e).cells=(CJ e).toArray:=rfl
variable {b g:Nat}{c:bJ}{a e:W8}
def BV.load(h:BV a b c):(rf (Vp (P (C b 0 G)))).run prog a=.ok (ig c) a:=by unfold rf Instr.loadAt Instr.sureAddr;simp only[wV,yq,wU];exact Hb a b _ 135 _ _ _ h underlying135 rfl (by rw[ze];rfl)
def BV.store(h:BV a b c)(w):(H7 (Vp (P (C b 0 G))) (ig w)).run prog a=.ok () (a.setRow b (CJ w).toArray):=by unfold H7 Instr.storeAt Instr.sureAddr;simp only[wV,yq,wU];exact Hc a b _ 135 _ _ h (by rw[ze];rfl) rfl (Ib w)
def BV.new(w e):BV (Al w (Vc (CJ e).toArray 135)) (F (X w)) e:=aG w _
def ux(w e a):(H7 (Vp (P (C (F (X w)) 0 G))) (ig a)).run prog (Al w (Vc (CJ e).toArray 135))=.ok () (Al w (Vc (CJ a).toArray 135)):=by rw[(BV.new w e).store a,World.setRow_alloc_new]
def BV.lt(h:BV a b c):b<F (X a):=(aM.1 h).1
def BV.alloc(h:BV a b c)(o):BV (Al a o) b c:=(aW a o b h.lt).trans h
def BV.ai(h:BV e b c)(k:Below (F (X e)) e a):BV a b c:=(k.block b h.lt).trans h
def Ry :BV a.drew b c↔BV a b c:=Iff.rfl
def BV.rT{w}(h:BV a b c)(k:bU w a e)(d:¬w b):BV e b c:=k.cells h d
def TV(w:W8)(b:Nat)(t:Th):Prop:=w.heap[b]?=P (Vc (bP t).toArray 88)
noncomputable def oO(v:V9):Sem V9:=Instr.loadAt 88 v
noncomputable def F2(p v:V9):Sem Unit:=Instr.storeAt 88 p v
noncomputable def aaG:Sem V9:=zeroValue 88
def pB(v):Instr.loadAt 88 v=oO v:=rfl
def qa(p v):Instr.storeAt 88 p v=F2 p v:=rfl
def alQ(w):aaG.run prog w=.ok (cP (⟨#[]⟩,[])) w:=by unfold aaG;kernel_rfl
def pY(t):(cP t).cells=(bP t).toArray:=rfl
variable {d:Th}
def TV.load(h:TV a b d):(oO (Vp (P (C b 0 G)))).run prog a=.ok (cP d) a:=by unfold oO Instr.loadAt Instr.sureAddr;simp only[wV,yq,wU];exact Hb a b _ 88 _ _ _ h underlying88 rfl (by rw[vN];rfl)
def TV.store(h:TV a b d)(w):(F2 (Vp (P (C b 0 G))) (cP w)).run prog a=.ok () (a.setRow b (bP w).toArray):=by unfold F2 Instr.storeAt Instr.sureAddr;simp only[wV,yq,wU];exact Hc a b _ 88 _ _ h (by rw[vN];rfl) rfl (J8 w)
def TV.new(w t):TV (Al w (Vc (bP t).toArray 88)) (F (X w)) t:=aG w _
def sT(w t a):(F2 (Vp (P (C (F (X w)) 0 G))) (cP a)).run prog (Al w (Vc (bP t).toArray 88))=.ok () (Al w (Vc (bP a).toArray 88)):=by rw[(TV.new w t).store a,World.setRow_alloc_new]
def TV.lt(h:TV a b d):b<F (X a):=(aM.1 h).1
def TV.alloc(h:TV a b d)(o):TV (Al a o) b d:=(aW a o b h.lt).trans h
def TV.ai(h:TV e b d)(k:Below (F (X e)) e a):TV a b d:=(k.block b h.lt).trans h
noncomputable def QR(h:Bool)(v:V9):Sem V9:=Instr.alloc 88 h v
def p9(h v):Instr.alloc 88 h v=QR h v:=rfl
def sR(w v):(QR Bt v).run prog w=.ok (Vp (P (C (F (X w)) 0 G))) (Al w (Vc (bP (⟨#[]⟩,[])).toArray 88)):=by unfold QR;simp[Instr.alloc,newVar,newRow,go_sem,bP,bj,Th.p,Th.ts]
noncomputable def MQ(h:Bool)(v:V9):Sem V9:=Instr.alloc 135 h v
def wj(h v):Instr.alloc 135 h v=MQ h v:=rfl
def xJ(w v):(MQ Bt v).run prog w=.ok (Vp (P (C (F (X w)) 0 G))) (Al w (Vc (CJ []).toArray 135)):=by unfold MQ;simp[Instr.alloc,newVar,newRow,go_sem,CJ,iS]
variable {f:Array V9}
def BV.rI(h:BV a b c)(w:b≠g):BV (a.setRow g f) b c:=(yr a g b f w).trans h
def cell_far{o v}(h:Ce a (C b o G)=P v)(w:b≠g):(a.setRow g f).cell? (C b o G)=P v:=(cell_setRow_other a g f (C b o G) w).trans h
def BZ{c}(h:Below (F (X a)) a e)(w:Below (F (X e.drew)) e.drew c):Below (F (X a)) a c:=h.trans ((⟨w.os,w.tape,w.output,w.size,w.block⟩:Below (F (X e)) e c).mono h.size)
def jB(h:Below (F (X e.drew)) e.drew a):Below (F (X e)) e a:=⟨h.os,h.tape,h.output,h.size,h.block⟩
def sZ(w w':W8)(v v':V9)(n m:Nat):Prop:=
 (∃g cap,v=U (P (C g 0 G)) n cap/\v'=U (P (C g 0 G)) (n+m) cap/\n+m<=cap/\w.grownBy w' (P g)) \/
 (∃g cap,v'=U (P (C g 0 G)) (n+m) cap/\(F (X w))<=g/\w.grownBy w' G/\∀a c,v=U a n c->c<n+m)
def xS{d}(w){R D o a Q}(T:o.guard=none)(s x t)(ho:o.op=.call { callee:=.builtin .append,args:=#[s,x],argTypes:=#[t,t] })(v) (e) (i) (z) (f r) (ht:d.underlying t=some (.slice e)) (hi:d.info? e=some i) (hz:i.zero=some z)(A:i.size=f) (hby:i.bytes=r) (hzs:z.cells.size=f) (hsz:0<f)(ao) (n l) (xs) (hs:a.eval s=.slice ao n l) (p:Ow w v e f (.slice ao n l) n xs)(ad) (m c) (k) (hx:a.eval x=.slice (some ad) m c) (hl:Z k=m*f) (y:∀j u,k[j]?=some u->Ce w (ad.add j)=some u) (q:∀u∈k,u.oneCell'=Bt)(hm:0<m) (h63:n+m<=maxLen) (E:(n+m)*r<=140737488355328) (N:v<=F (X w))(h:∀W g w',Ow w' v e f (.slice W (n+m) g) (n+m) (xs++k)->sZ w w' (.slice ao n l) (.slice W (n+m) g) n m->wpList d R Q D (a.put o.dst (.slice W (n+m) g)) w'):wpList d R Q (o::D) a w:=by
 have W:=p.1;have K:l<n+m->wpList d R Q (o::D) a w:=λg=>by
  refine wpList_append_grows w T s x t ho e i z f r ht hi hz A hby hzs hsz ao n l xs hs ?_ W ?_ ad m c k hx hl y q g h63 E λg w' hr hg=>?_
  .intro e0;rcases p.2 with⟨B,h0⟩|⟨g,cp,L,B,_⟩
   .injection B with q h2 M;exact⟨h0,M⟩
   injection B with q h2 M;rw[e0]at q;cases q
  .intro b hb j u hj;rcases p.2 with⟨B,h0⟩|⟨g,cp,L,B,_,V,_,_,xp,EY⟩
   .injection B with q h2 M;rw[hb]at q;cases q
   injection B with q h2 M
   rw[hb]at q;injection q with q
   subst q;have S:(⟨g,0,none⟩:Addr).add j=⟨g,j,none⟩:=(by unfold Addr.add;split<;>simp_all);rw[S,G9 w g j L e (0,0) V];rw[<-EY,List.getElem?_take]at hj
   split at hj
   .simpa using hj
   cases hj
  obtain⟨g,cp,rfl,b,_⟩:=hr.form O;refine h _ _ _ (aX hr N) (.inr ⟨g,cp,rfl,b,hg,λS c0 e0=>?_⟩);injection e0 with _ _ S
  omega
 rcases p.2 with⟨B,h0⟩|⟨g,cp,L,B,_,V,_,_,xp,EY⟩
 .injection B with _ _ M
  exact K O
 injection B with q h2 M
 subst q M
 by_cases b:n+m<=l
 .exact wpList_append_own_spare w T s x t ho v e i f ht hi A g n l xs hs p ad m c k hx hl y q b λw' hr hg=>h _ _ _ hr (.inl ⟨g,l,rfl,rfl,b,hg⟩)
 exact K O
def gq(mk:V8)(n:Nat):V8:=(List.replicate n ()).flatMap λ_=>mk
def FT(b n):(gq b n).length=n*Z b:=by
 induction n with
 |zero=>simp[gq]
 |succ n a=>rw[gq,List.replicate_succ,lY,br];rw[gq]at a;rw[a,wT];omega
def FQ(a n m):gq a (n+m)=gq a n++gq a m:=by rw[gq,<-List.replicate_append_replicate,oc];rfl
variable {a e j:Nat}
def al7(n)(h:j<=a):(gq n a).take (j*Z n)=gq n j:=by obtain⟨_,rfl⟩:=Nat.exists_eq_add_of_le h;rw[FQ,List.take_append_of_le_length (by rw[FT];exact bD _),j7 (by rw[FT];exact bD _)]
def Lm(w:W8)(base:Nat)(e:TypeId)(mk:V8)(v:V9)(n:Nat):Prop:=Ow w base e (Z mk) v n (gq mk n)
variable {d:V8}{f:O8}{c h k:W8}
def Lm.pre{k}(h:Lm c b k d (U f a e) a)(l:j<=a)(t:0<a):Lm c b k d (U f j e) j:=by
 refine⟨FT d j,?_⟩;rcases h.2 with⟨_,i⟩|⟨g,_,w,s,n,p,_,o,q,r⟩
 .omega
 injection s with i u m
 subst i m;refine .inr ⟨g,e,w,rfl,n,p,O,o,q,?_⟩;rw[<-al7 d l,<-r,L3,BG (yn _ l)]
variable {g:V9}
def Lm.kept{B e}(w:Lm c a e d g b)(k:ak B c h)(f:∀v,g.ownBlock=P v->v∉B):Lm h a e d g b:=
 gC w (λv n=>k.block v (w.lt v n).2 (f v n))
def Lm.cap{n}(h:Lm c a n d (U f e b) e):e<=b/\(f=G->b=0):=by
 rcases h.2 with⟨j,_⟩|⟨_,_,_,j,_,_,_,_,_,_⟩
 .injection j with w i g;exact⟨O,λ_=>g⟩
 injection j with w i g;exact⟨O,λn=>by rw[n]at w;cases w⟩
def sZ.kept{d}(w:sZ h c g d a b):ak g.ownBlock.toList h c:=by
 rcases w with⟨v,n,rfl,_,_,m⟩|⟨v,n,_,_,m,_⟩
 .exact ak.jF m
 exact(ak.jF m).mono oS
def sZ.first{n}(w:sZ c h (U f e a) g e i)(t:0<i)(p:Lm c b n d (U f e a) e)(q:Lm h b n d g (e+i)):Lm h b n d (U f e a) e:=by
 rcases w with⟨j,k,r,rfl,_,m⟩|⟨j,k,_,_,m,_⟩
 .injection r with l s o
  subst l o;exact q.pre O O
 exact p.kept (ak.jF m) oS
def sZ.JB{w0 M}(y:sZ w0 c (U f e a) g e i)(z:0<i)(r:Lm w0 b M d (U f e a) e)(s:Lm h b M d g (e+i))(w:ak (U f e a).ownBlock.toList h k)(t:Lm k b M d (U f j a) j)(v:e+i<=j\/j=a):Lm k b M d g (e+i):=by
 rcases y with⟨m,o,x,rfl,_,u⟩|⟨m,o,rfl,_,u,_⟩
 .injection x with n q l
  subst n l;exact t.pre O O
 refine s.kept w (λl p n=>?_);have q:m=l:=by simpa[Value.ownBlock]using p
 have:=(r.lt l (oU n)).2;omega
def ae7(a n c m d):(U a n c).ownBlock=(U a m d).ownBlock:=by cases a<;>rfl
structure mV(w2:W8)(base:Nat)(e:TypeId)(mk:V8)(a:O8)(n cap i:Nat)(v3:V9)(w:W8):Prop where
 lm:Lm w base e mk v3 (n+i)
 kept:ak (U a n cap).ownBlock.toList w2 w
 aC:v3=U a (n+i) cap\/((∀g,v3.ownBlock=P g->F (X w2)<=g)/\Lm w base e mk (U a cap cap) cap)
def mV.one{p q}(A:mV c b p d f a e i (U q (a+i) j) h)(E:Lm c b p d (U f a e) a)(u:sZ h k (U q (a+i) j) g (a+i) 1)(B:Lm k b p d g (a+i+1)):mV c b p d f a e (i+1) g k:=by
 have o:=u.kept;have Q:=A.kept.size;rcases A.aC with M|⟨w,z⟩
 .injection M with l x m
  subst l m;rw[ae7 _ _ _ a j]at o;refine⟨B,A.kept.trans o,?_⟩;rcases u with⟨y,r,v,rfl,N,n⟩|⟨y,r,rfl,t,n,D⟩
  .injection v with l x m
   subst l m;exact .inl rfl
  right
  have L:=A.lm.cap;have K:=D _ _ rfl;have s:j=a+i:=O
  refine⟨λm l=>?_,?_⟩
  .have:y=m:=by simpa[Value.ownBlock]using l
   omega
  have:=A.lm.kept (ak.jF n) oS;rw[<-s]at this;exact this
 have s:∀y,(U f e e).ownBlock=P y->y∉(U q (a+i) j).ownBlock.toList:=λy n x=>by
  have K:=w y (oU x);have x:=(E.lt y (by cases f with|none=>cases n|some _=>exact n)).2;omega
 refine⟨B,A.kept.step o (λx K=>.inr (w x (oU K))) ,.inr ⟨λm l=>?_,z.kept o s⟩⟩;rcases u with⟨y,r,v,rfl,N,n⟩|⟨y,r,rfl,t,n,D⟩
 .exact w m (by rw[v];exact l)
 have:y=m:=by simpa[Value.ownBlock]using l
 omega
def mV.akY{n}(j:mV c a n d f e b i g h):∃M,Lm h a n d (U f M b) M/\(e+i<=M\/M=b):=by
 rcases j.aC with M|⟨_,w⟩
 .exact⟨e+i,by rw[<-M];exact j.lm,.inl L9⟩
 exact⟨b,w,.inr rfl⟩
structure MB where
 l:V9
 one:V9
 Dd:V9
 Dc:V9
 mark:Nat
def MB.cells(m:MB):V8:=[m.l,m.one,m.Dd,m.Dc,I J (m.mark:Nat)]
def MB.kT(m:MB):List Nat:=m.l.ownBlock.toList++m.one.ownBlock.toList++m.Dd.ownBlock.toList++m.Dc.ownBlock.toList
structure pH(w:W8)(e:TypeId)(mk:V8)(m:MB):Prop where
 dc:m.mark<=1000000000
 aK:∃n,n<=1000/\Lm w 0 e mk m.l n/\Lm w 0 e mk m.one (n+1)/\Lm w 0 e mk m.Dd (n+2)/\Lm w 0 e mk m.Dc (n+64)
variable {h:Nat}{c:V9}{a e:W8}
def Lm.aje{e g}(n:Lm a b e d c h)(w:c.ownBlock=P g):¬er a e g:=by
 intro i;rcases n.2 with⟨j,_⟩|⟨f,_,_,j,_,v,_⟩
 .rw[j]at w;cases w
 rw[j]at w;have:f=g:=by simpa[Value.ownBlock]using w
 subst this;exact i _ _ v
def Lm.CG{B w}(n:Lm a b w d c h)(k:ak B a e)(f:∀x∈B,er a w x\/x∉c.ownBlock.toList):Lm e b w d c h:=
 n.kept k λg v i=>by
  rcases f g i with x|x
  .exact n.aje v x
  exact x (oU v)
variable {g:MB}
def pH.kept{B f}(h:pH a f d g)(k:ak B a e)(o:∀x∈B,er a f x\/x∉g.kT):pH e f d g:=by
 obtain⟨n,b,m,i,j,l⟩:=h.aK;have w:∀(v:V9),(∀x∈v.ownBlock.toList,x∈g.kT)->∀x∈B,er a f x\/x∉v.ownBlock.toList:=λv p x c=>(o x c).imp id λb v=>b (p x v)
 refine⟨h.dc,n,b,m.CG k (w _ ?_),i.CG k (w _ ?_),j.CG k (w _ ?_),l.CG k (w _ ?_)⟩
 all_goals(intro x c;simp only[MB.kT,aS];simp[c])
def pH.lt{e}(h:pH a e d g):∀m∈g.kT,m<F (X a):=by
 obtain⟨_,_,b,c,i,f⟩:=h.aK;intro m w;simp only[MB.kT,aS]at w;rcases w with((w|w)|w)|w
 .exact(b.lt m (oU w)).2
 .exact(c.lt m (oU w)).2
 .exact(i.lt m (oU w)).2
 exact(f.lt m (oU w)).2
structure jH(w:W8)(base:Nat)(tB e:TypeId)(mk:Nat->V8)(v:V9)(ms:List MB):Prop where
 row:Ow w base tB 5 v (Z ms) (ms.flatMap MB.cells)
 aK:∀m∈ms,pH w e (mk m.mark) m
def jH.nil(w a c e b):jH w a c e b (U G 0 0) []:=⟨dm _ _ _ _,oS⟩
variable {f:List MB}{i:Nat->V8}
def jH.kept{B g w}(h:jH a b g w i c f)(k:ak B a e)(j:∀x∈B,x<b\/er a g x)(l:∀x∈B,er a w x\/∀m∈f,x∉m.kT):jH e b g w i c f:=
 ⟨j3 h.row k j,λm d=>(h.aK m d).kept k λx v=>(l x v).imp id λv=>v m d⟩
def jH.ai{d w}(h:jH a b d w i c f)(k:Below (F (X a)) a e):jH e b d w i c f:=
 h.kept (B:=[]) ((ak.refl [] a).bC k) oS oS
def jH.add{g o a j e n v v' i m b}(h:jH g a j e n v i)(r:pH g e (n m.mark) m)(k:ak (b::v.ownBlock.toList) g o)(d:Ow o a j 5 v' (Z i+1) (i.flatMap MB.cells++m.cells))(q:er g e b)(l:j≠e):jH o a j e n v' (i++[m]):=by
 have p:∀x∈b::v.ownBlock.toList,er g e x:=λx c=>by
  rcases bS.1 c with rfl|c
  .exact q
  exact gl h.row l x c
 refine⟨?_,λy f=>?_⟩
 .rw[br,oc];simpa using d
 rcases aS.1 f with f|f
 .exact(h.aK y f).kept k λx c=>.inl (p x c)
 rw[bu.1 f];exact r.kept k λx c=>.inl (p x c)
def OG:(prog.info? 185).map (λi=>(i.zero,i.size,i.bytes))=P (P (Va #[Y ⟨#[]⟩,I J 0,I J 0]),3,32):=oK
def iN(mk:Nat):V8:=[Y ⟨#[]⟩,I J (-1000-(mk:Int)),I J 0]
variable {a:V8}{c d e f:Nat}{g:W8}
def lI{w}(h:Ow g b w c (U (P (C f 0 G)) e d) e a)(j u):Ow (Sc g (C f j G) u) b w c (U (P (C f 0 G)) e d) e (a.set j u):=by
 obtain⟨i,n⟩:=h;refine⟨by simpa using i,?_⟩;rcases n with⟨n,_⟩|⟨_,_,_,r,k,m,o,l,p,q⟩
 .cases n
 injection r with n s h
 injection n with n
 injection n with n
 subst n h;refine .inr ⟨f,d,_,rfl,k,j9 _ _ _ _ _ _ m,o,l,by simpa using p,?_⟩;rw[Array.toList_setIfInBounds,List.take_set,q]
def CV{w m}(h:Ow g b w c (U (P (C f 0 G)) e d) m a):∀j,g.frozen? (C f j G)=false:=by
 intro j;rcases h.2 with⟨k,_⟩|⟨_,_,_,i,_,n,_⟩
 .cases k
 injection i with k l o
 injection k with k
 injection k with k
 subst k;simp[World.frozen?,n]
def JO{n}(h:Ow g b n c (U (P (C e 0 G)) d f) d a):d<=f/\f<=maxLen:=by
 rcases h.2 with⟨w,_⟩|⟨_,_,_,k,_,_,j,i,_⟩
 .cases w
 injection k with w m l
 subst l;exact⟨j,i⟩
def PH{n}(h:Ow g c n b (U (P (C f 0 G)) e d) e a):∀j,j<e*b->∃u,Ce g (C f j G)=P u:=by
 intro j k;rcases h.2 with⟨w,_⟩|⟨_,_,u,o,_,i,l,_,m,_⟩
 .cases w
 injection o with w q p
 injection w with w
 injection w with w
 subst w p;have:j<u.size:=by rw[m];exact iz k (yn _ l)
 exact⟨u[j],by rw[G9 g f j u n (0,0) i];simp[this]⟩
def iq:List Nat->List Nat->Bool
 | [],[]=>Bf
 | [],_::_=>Bt
 |_::_,[]=>Bf
 |a::x,b::y=>if a<b then Bt else if b<a then Bf else iq x y
def Ja:∀x:List Nat,iq x x=Bf
 | []=>rfl
 |a::x=>by rw[iq,aB (BD a),aB (BD a)];exact Ja x
def OQ:∀{x y z:List Nat},iq x y=Bt->iq y z=Bt->iq x z=Bt
 | [],[],_,h,_=>by cases h
 | [],_::_,[],_,h=>by cases h
 | [],_::_,_::_,_,_=>rfl
 |_::_,[],_,h,_=>by cases h
 |_::_,_::_,[],_,h=>by cases h
 |a::x,b::y,c::z,h,k=>by
  rw[iq]at h k⊢
  by_cases d:a<b
  .by_cases z:b<c
   .rw[aD O]
   rw[aB z]at k
   by_cases y:c<b
   .rw[aD y]at k;cases k
   rw[aD O]
  rw[aB d]at h
  by_cases x:b<a
  .rw[aD x]at h;cases h
  rw[aB x]at h;have:a=b:=O
  subst this
  by_cases z:a<c
  .rw[aD z]
  rw[aB z]at k⊢
  by_cases y:c<a
  .rw[aD y]at k;cases k
  rw[aB y]at k⊢;exact OQ h k
def Yk:∀{x y:List Nat},iq x y=Bf->iq y x=Bf->x=y
 | [],[],_,_=>rfl
 | [],_::_,h,_=>by cases h
 |_::_,[],_,h=>by cases h
 |a::x,b::y,h,k=>by
  rw[iq]at h k
  by_cases y:a<b
  .rw[aD y]at h;cases h
  by_cases x:b<a
  .rw[aD x]at k;cases k
  rw[aB y,aB x]at h;rw[aB x,aB y]at k;rw[Yk h k,show a=b by omega]
def Yj:∀{x y:List Nat} (u v:List Nat),Z x=Z y->iq x y=Bt->iq (x++u) (y++v)=Bt
 | [],[],_,_,_,h=>by cases h
 | [],_::_,_,_,c,_=>by cases c
 |_::_,[],_,_,c,_=>by cases c
 |a::x,b::y,u,v,c,h=>by
  rw[iq]at h;rw[jA,jA,iq]
  by_cases y:a<b
  .rw[aD y]
  rw[aB y]at h⊢
  by_cases x:b<a
  .rw[aD x]at h;cases h
  rw[aB x]at h⊢;exact Yj u v (oU c) h
def Yl:∀(x:List Nat) {i j:Nat},i<j->iq (x++[i]) (x++[j])=Bt
 | [],i,j,h=>by simp[iq,h]
 |a::x,i,j,h=>by
  rw[jA,jA,iq,aB (BD a),aB (BD a)];exact Yl x h
def mZ(x y:Nat):Int:=if x<y then -1 else if y<x then 1 else 0
def nO:List Nat->List Nat->Int
 | [],[]=>0
 | [],_::_=>-1
 |_::_,[]=>1
 |a::x,b::y=>if mZ a b=0 then nO x y else mZ a b
def Ym:∀x y:List Nat,nO x y<0↔iq x y=Bt
 | [],[]=>by simp[nO,iq]
 | [],_::_=>by simp[nO,iq]
 |_::_,[]=>by simp[nO,iq]
 |a::x,b::y=>by
  have c:=Ym x y;rw[nO,iq];unfold mZ
  by_cases y:a<b
  .simp[y]
  by_cases x:b<a
  .simp[y,x]
  simp only[aB y,aB x,lM];exact c
def jk(l:List Nat):V8:=l.map λ(x:Nat)=>I J x
variable {a:List Nat}
def FC{w d c}(h:Ow w b 3 1 (U d (Z a) c) (Z a) (jk a))(k)(m:k<Z a):∃g,d=P (C g 0 G)/\g<F (X w)/\(Z a)<=c/\c<=maxLen/\Ce w (C g k G)=P (I J a[k]):=by
 rcases h.2 with⟨_,_⟩|⟨g,_,_,n,_,l,f,e,_,_⟩
 .omega
 injection n with i o j
 subst i j;refine⟨g,rfl,(aM.1 l).1,f,e,?_⟩;rw[h.cellAt k O];unfold jk;rw[gP,dr m];rfl
def ahr(x w):Calls prog 216 #[I J x] w λe a=>e=Vr (Vb Bf)/\a=w:=by go_in;go_wp2;go_ret;exact⟨oS,rfl⟩
def Uk(x y:Nat)(w):Calls prog 161 #[I J x,I J y] w λe d=>e=Vr (I J (mZ x y))/\d=w:=by
 have f:=ahr
 by_cases a:x<y
 .have b:=H (show mZ x y=-1 by unfold mZ;rw[aD a]);have g:(x:Int)<y:=O
  clear a;go_in;go_wp2_with(go_at_call 216;refine(f _ _).mono ?_;rintro e d⟨rfl,rfl⟩);go_ret;exact⟨by rw[ag b];rfl,rfl⟩
 by_cases c:y<x
 .have b:=H (show mZ x y=1 by unfold mZ;rw[aB a,aD c]);have g:¬(x:Int)<y:=O
  have h:(y:Int)<x:=O
  clear a c;go_in;go_wp2_with(go_at_call 216;refine(f _ _).mono ?_;rintro e d⟨rfl,rfl⟩);go_ret;exact⟨by rw[ag b];rfl,rfl⟩
 have b:=H (show mZ x y=0 by unfold mZ;rw[aB a,aB c]);have g:¬(x:Int)<y:=O
 have h:¬(y:Int)<x:=O
 clear a c;go_in;go_wp2_with(go_at_call 216;refine(f _ _).mono ?_;rintro e d⟨rfl,rfl⟩);go_ret;exact⟨by rw[ag b];rfl,rfl⟩
def ahN{x}(y:b<Z x)(k:b<Z a):nO (x.drop b) (a.drop b)=if mZ x[b] a[b]=0 then nO (x.drop (b+1)) (a.drop (b+1)) else mZ x[b] a[b]:=by rw[dM y,dM k,nO]
def aeG(w l f a b c d x y)(i:Ow w l 3 1 (U a (Z x) c) (Z x) (jk x))(k:Ow w f 3 1 (U b (Z y) d) (Z y) (jk y)):Calls prog 166 #[U a (Z x) c,U b (Z y) d] w λe q=>e=Vr (I J (nO x y))/\q=w:=by
 have v:=H i;have z:=H k;have A:=ej i;have B:=ej k;unfold maxLen at A B;clear i k;go_in;go_wp2
 go_loop [11] (λi=>∃k:Nat,k<=Z x/\k<=Z y/\i=I J k/\nO (x.drop k) (y.drop k)=nO x y) (λi=>Z x-(intOf i).toNat)
 exact⟨0,aI _,aI _,rfl,rfl⟩
 case round=>
  obtain⟨k,_,_,rfl,i⟩:=hrel;have j:=H i;clear i
  by_cases h:k<Z x
  .obtain⟨_,rfl,_,_,_,_⟩:=FC v k h;have p:(k:Int)<Z x:=O
   by_cases g:k<Z y
   .obtain⟨_,rfl,_,_,_,_⟩:=FC z k g;have m:(k:Int)<Z y:=O;have u:=H (ahN h g);have o:=H (λw=>Uk x[k] y[k] w);generalize x[k]=s at*;generalize y[k]=t at*
    by_cases n:mZ s t=0
    .have i:=H (show nO (x.drop (k+1)) (y.drop (k+1))=nO x y by rw[<-ag j,ag u,aD n]);rw[n]at o;clear n;go_wp2_with(go_at_call 161;refine(o _).mono ?_;rintro e q⟨rfl,rfl⟩)
     go_round
     case rel=>exact⟨k+1,O,O,oN,i⟩
     case measure=>simp[intOf];omega
    have i:=H (show nO x y=mZ s t by rw[<-ag j,ag u,aB n]);generalize mZ s t=r at*;go_wp2_with(go_at_call 161;refine(o _).mono ?_;rintro e q⟨rfl,rfl⟩);go_ret;exact⟨by rw[ag i];rfl,rfl⟩
   have m:¬(k:Int)<Z y:=O;have n:(Z y:Int)<=k:=O;have i:=H (show nO x y=1 by rw[<-ag j,dM h,gE (l:=y) O];rfl);go_wp2;go_ret;exact⟨by rw[ag i];rfl,rfl⟩
  have p:¬(k:Int)<Z x:=O
  by_cases g:Z x<Z y
  .have m:(Z x:Int)<Z y:=O;have i:=H (show nO x y=-1 by rw[<-ag j,gE (l:=x) O,dM (l:=y) O];rfl);go_wp2;go_ret;exact⟨by rw[ag i];rfl,rfl⟩
  have m:¬(Z x:Int)<Z y:=O
  have i:=H (show nO x y=0 by rw[<-ag j,gE (l:=x) O,gE (l:=y) O];rfl);go_wp2;go_ret;exact⟨by rw[ag i];rfl,rfl⟩
def tP(a b c:Int):Int:=if a≠0 then a else if b≠0 then b else c
def ajv(w g a b c)(h:w.heap[g]?=P (Vc #[I J a,I J b,I J c] 3)):Calls prog 160 #[U (P (C g 0 G)) 3 3] w λe l=>e=Vr (I J (tP a b c))/\l=w:=by
 have l:=(aj h 0).1;have m:=(aj h 1).1;have n:=(aj h 2).1;simp only[bt,aT,bx]at l m n;have q:=(aM.1 h).1;clear h;go_in;go_wp2
 go_loop [8] (λi=>∃k:Nat,k<=3/\i=I J k/\(0<k->a=0)/\(1<k->b=0)/\(2<k->c=0)) (λi=>3-(intOf i).toNat)
 exact⟨0,O,rfl,O,O,O⟩
 case round=>
  obtain⟨k,p,rfl,h,e,f⟩:=hrel
  match k,p with
  | 0,_=>
   clear h e f
   by_cases j:a=0
   .go_wp2
    go_round
    case rel=>exact⟨1,O,oN,λ_=>j,O,O⟩
    case measure=>simp[intOf]
   have i:=H (show tP a b c=a by unfold tP;rw[aD j]);go_wp2;go_ret;exact⟨by rw[ag i];rfl,rfl⟩
  | 1,_=>
   have j:=h O;have d:=H j;clear h e f j
   by_cases j:b=0
   .go_wp2
    go_round
    case rel=>exact⟨2,O,oN,λ_=>d,λ_=>j,O⟩
    case measure=>simp[intOf]
   have i:=H (show tP a b c=b by unfold tP;rw[aB (by simp[ag d]),aD j]);go_wp2;go_ret;exact⟨by rw[ag i];rfl,rfl⟩
  | 2,_=>
   have d:=H (h O);have j:=H (e O);clear h e f
   by_cases o:c=0
   .go_wp2
    go_round
    case rel=>exact⟨3,O,oN,λ_=>d,λ_=>j,λ_=>o⟩
    case measure=>simp[intOf]
   have i:=H (show tP a b c=c by unfold tP;rw[aB (by simp[ag d]),aB (by simp[ag j])]);go_wp2;go_ret;exact⟨by rw[ag i];rfl,rfl⟩
  | 3,_=>have i:=H (show tP a b c=0 by unfold tP;rw[aB (by simp[h]),aB (by simp[e])];exact f O);clear h e f;go_wp2;go_ret;exact⟨by rw[ag i];rfl,rfl⟩
end
section
open Go.RowKit
structure Pl where
 t:Th
 s:Nat
 h:Nat
instance:Inhabited Pl:=⟨⟨({ data:=#[] },[]),0,0⟩⟩
def gy(p:Pl):V8:=[Y p.t.p,Y (bj p.t.ts 0),Y (bj p.t.ts 1),Y (bj p.t.ts 2),Y (bj p.t.ts 3),I J p.s,I J p.h]
def tQ(p:Pl):V9:=Va (gy p).toArray
def Zy(p):(gy p).length=7:=rfl
def Zz(p):∀v∈gy p,v.oneCell'=true:=by intro v a;simp[gy]at a;rcases a with rfl|rfl|rfl|rfl|rfl|rfl|rfl<;>rfl
def sX(p q:Pl):Bool:=decide (p.s<q.s)||(decide (p.s=q.s)&&decide (p.h<q.h))
def anS(w p q):Calls prog 163 #[tQ p,tQ q] w λe b=>e=Vr (Vb (sX p q))/\Below (F (X w)) w b:=by
 have b:=((aZ (F (X w)) w).alloc L9 (Vc (gy p).toArray 148)).alloc oS (Vc (gy q).toArray 148);have e:=H b;clear b;unfold tQ
 by_cases b:p.s<q.s
 .have a:=H (show sX p q=Bt by unfold sX;simp[b]);have d:(p.s:Int)<q.s:=O
  clear b;unfold gy at e⊢;go_in;go_wp2;go_ret;exact⟨by rw[ag a];rfl,e⟩
 by_cases c:p.s=q.s
 .have a:=H (show sX p q=decide (p.h<q.h) by unfold sX;simp[c]);have d:¬(p.s:Int)<q.s:=O
  clear b;unfold gy at e⊢;rw[c]at d e⊢;clear c;go_in;go_wp2_with fail
  all_goals go_ret
  all_goals exact⟨by rw[ag a];simp,e⟩
 have a:=H (show sX p q=Bf by unfold sX;simp[b,c]);have d:¬(p.s:Int)<q.s:=O
 have f:¬(p.s:Int)=q.s:=O
 clear b c;unfold gy at e⊢;go_in;go_wp2;go_ret;exact⟨by rw[ag a];rfl,e⟩
def J3{b f Q a w}{l:List Oper}(n)(e:b.follows .mixedOrders=Bt)(d:Region.lexTailB .any l.toArray n=Bt)(h:∀W,W=w.drew->wpStill b l.toArray W (λc=>wpList b l.toArray Q (l.drop n) c W) (l.take n) a):(Code.region f l.toArray Bt).wp b Q a w:=wp_region_still_tail n e d (h _ rfl)
def Jj:prog.follows .mixedOrders=true:=oK
open Go
def Pn(ops:Array Oper):Bool:=ops.all λo=>match o.op with|.defer _=>Bf|_=>Bt
def alZ{o:Oper}(h:(match o.op with|.defer _=>Bf|_=>Bt)=Bt)(l)(ρ:Operand->V9):o.semAt (P l) ρ=o.semAt G ρ:=by
 unfold Oper.semAt
 split
 .rename_i a;rw[a]at h;cases h
 rfl
variable {e:Act}{a:Array Oper}{b:Exit->Act->W8->Prop}{c f:Nat}{d:Program}{g:W8}
def aoe{K m}(u:Pn a=Bt)(t:¬LetsOut b)(l)(q:∀e g,K e g->m e g)(h:wpOp d a b f K e g):wpOpIn (Fence.wide.inRound l) c d a b f m e g:=by
 refine wpOpIn_mono q ?_;unfold wpOp at h;unfold wpOpIn
 split
 .rename_i w;rw[w]at h;exact h
 rename_i o w;rw[w]at h;simp only at h;have Q:=Array.all_eq_true.1 u f (aM.1 w).1;rw[(aM.1 w).2]at Q
 split
 .rename_i j;rw[aD j]at h;refine⟨λ_ _=>trivial,?_⟩
  show o.uponIn (Fence.wide.inRound l) c d e K b ((o.semAt (P l) e.eval).run d g)
  rw[alZ Q l];rcases h with h|h
  .unfold Oper.wp at h;have i:o.semAt G e.eval=execOp e.eval o:=rfl;rw[i];generalize(execOp e.eval o).run d g=r at h⊢
   cases r with
   |ok x k=>
    cases x<;>first
     |exact h
     |exact h.elim
     |exact⟨λi=>(by cases i),callsIn_wide.2 h⟩
     |exact⟨λi=>(by cases i),λn p _=>(let ⟨v,k,r,s⟩:=h n p;⟨v,k,r,stepsIn_wide.2 s⟩)⟩
   |halt x k=>cases x<;>first|exact h|exact h.elim
  exact absurd h.2 t
 rename_i j;rw[aB j]at h;exact⟨λ_ _=>trivial,h⟩
def abv{g:Region.Mode}(f:Pn a=Bt)(e:¬LetsOut b)(l:Nat):∀(n:Nat)(h:Array Bool)(Q:Act)(w:W8),wpAny d g a b n h Q w->wpAnyIn (Fence.wide.inRound l) c d g a b n h Q w
 | 0,_,_,_,h=>h
 |n+1,_,_,_,h=>⟨h.1,λi j=>aoe f e l (λQ w h=>abv f e l n _ Q w h) (h.2 i j)⟩
def P7(S)(Q:d.follows .mixedOrders=Bt)(w:Pn a=Bt)(n:¬LetsOut b){l}(h:wpAnyH d .any a b S a.size (Array.replicate a.size Bf) e g.drew):(Code.region c a Bt).wpIn (Fence.wide.inRound l) f d b e g:=
 wpIn_region_any Q (abv w n l _ _ _ _ (wpAny_of_held _ _ _ _ h))
end
end Go.Proofs.YtldkpahaocjdpaaGreat
