/-
  Plain: the bytes of a witness, as the program takes them.
-/
import Derived.Test.YtldkpahaocjdpaaGreatC39
set_option maxHeartbeats 16000000
set_option maxRecDepth 1000000
namespace Go.Proofs.YtldkpahaocjdpaaGreat
section
def rdP (pos:List Nat):Nat->List Nat->Option (List (Nat × List Nat))
 | 0,[]=>some []
 | 0,_::_=>none
 | _+1,[]=>none
 | n+1,r::q=>match pos[r]? with
  | none=>none
  | some m=>if q.length<m then none else match rdP pos n (q.drop m) with
   | none=>none
   | some l=>some ((r,q.take m)::l)
def zca:List j6->List Nat->List Th->xF->Option xF
 | [],_,_,e=>some e
 | a::r,fr,S,e=>match fr with
  | []=>none
  | x::q=>match S[x]? with
   | none=>none
   | some t=>match jA e a t with
    | none=>none
    | some e'=>zca r q S e'
structure xA where
 r:PR
 e:xF
 t:Th
def j8 (rp:List PR):List (Nat × List Nat)->List xA->Option (List xA)
 | [],st=>some st
 | x::q,st=>match rp[x.1]? with
  | none=>none
  | some R=>match zca (yZ R.bs) x.2 (st.map (·.t)) [] with
   | none=>none
   | some e=>j8 rp q (st++[⟨R,e,xZ e (kz R)⟩])
theorem ze1 (a:j6)(r:List j6)(fr:List Nat)(S:List Th)(e:xF):zca (a::r) fr S e=match fr with | []=>none | x::q=>match S[x]? with | none=>none | some t=>match jA e a t with | none=>none | some e'=>zca r q S e':=by cases fr <;> rfl
def zdy (rp:List PR):List Nat:=rp.map λ r=>(yZ r.bs).length
theorem zeo:∀ (cs:List j6) (fr:List Nat) (S:List Th) (e0 e:xF),zca cs fr S e0=some e->e∈yY (S.map λ t=>(t,0)) cs e0
 | [],_,_,_,_,h=>by obtain rfl:=Option.some.inj h;simp[yY]
 | a::r,fr,S,e0,e,h=>by
  rw[ze1] at h
  cases fr with
  | nil=>cases h
  | cons x q=>
   simp only at h
   cases hx:S[x]? with
   | none=>rw[hx] at h;cases h
   | some t=>
    rw[hx] at h;simp only at h
    cases hp:jA e0 a t with
    | none=>rw[hp] at h;cases h
    | some e'=>
     rw[hp] at h;simp only at h;rw[yY,List.mem_flatMap];refine⟨(t,0),List.mem_map.2 ⟨t,List.mem_of_getElem? hx,rfl⟩,?_⟩;simp only[hp];exact zeo r q S e' e h
theorem zkg (ls:List (vJ × Value)):(yZ ls).length<=ls.length:=by
 unfold yZ yQ;rw[List.length_map,List.length_map];exact List.length_filter_le _ _
end
section
def xM (rs:List zP)(F:zL->Nat->zQ)(b:List Nat):Nat->Nat->List zQ->List Env->Option (List zQ × List Env × Nat)
 | 0,i,l,es=>some (l,es,i)
 | n+1,i,l,es=>match b[i]? with
  | none=>none
  | some r=>match rs[r]? with
   | none=>none
   | some R=>if b.length<i+1+zcd R.body then none else match zaw l R.body ((b.drop (i+1)).take (zcd R.body)) [] with
    | none=>none
    | some E=>if yL l (zU (bf E R.head))<0 then xM rs F b n (i+1+zcd R.body) (l++[F (bf E R.head) r]) (es++[E]) else none
theorem zkb {ps:P9}{l:List zQ}(hl:∀ f∈l,sO ps (thA f.ao)):∀ (b:List zL) (fr:List Nat) (e:Env),(∀ a∈b,zjk ps (pa a))->tj e->zaw l b fr e=zca (zok b) fr (l.map λ f=>thA f.ao) e
 | [],_,_,_,_=>rfl
 | a::r,fr,e,hb,he=>by
  rw[zda]
  cases hn:a.no with
  | true=>
   have e1:zok (a::r)=zok r:=(by unfold zok;rw[List.filter_cons_of_neg (by simp[hn])]);rw[if_pos rfl,e1];exact zkb hl r fr e (λ x hx=>hb x (List.mem_cons_of_mem _ hx)) he
  | false=>
   have e1:zok (a::r)=pa a::zok r:=(by unfold zok;rw[List.filter_cons_of_pos (by simp[hn])];rfl);rw[if_neg (by simp),e1,ze1]
   cases fr with
   | nil=>rfl
   | cons x q=>
    simp only[List.getElem?_map]
    cases hx:l[x]? with
    | none=>rfl
    | some f=>
     have hf:f∈l:=List.mem_of_getElem? hx;have hg:=hb a List.mem_cons_self;have ht:=hl f hf;have hm:vN e a f.ao=jA e (pa a) (thA f.ao):=zpp he hg.w ht.w λ e0=>by
      have h1:xH ps a.pred=some (pa a).ts.length:=hg.num;have h2:xH ps f.ao.pred=some (thA f.ao).2.length:=ht.num;rw[e0,h2] at h1;simp only[Option.some.injEq,pa,thA,List.length_map] at h1;exact h1.symm
     simp only[Option.map_some,hm]
     cases hp:jA e (pa a) (thA f.ao) with
     | none=>rfl
     | some e'=>
      simp only;exact zkb hl r q e' (λ x hx=>hb x (List.mem_cons_of_mem _ hx)) (zh5 hg ht he hp).1.w
end
section
open Go.RowKit
theorem z2g (m:Nat)(h:m<256):IntKind.i64.wrap (m:Int)=m:=by
 simp[IntKind.wrap,IntKind.signed,IntKind.bits];omega
def zdz (ps:P9)(S:Nat->Nat)(A:zL)(r:Nat):zQ:=⟨A,zU A,S (zM ps A.pred).toNat,0,r,[]⟩
structure EV where
 e:Env
 nv:Value
 tv:Value
def EV.cells (x:EV):V8:=[x.nv,x.tv]
structure FV (w:W8)(base:Nat)(v:Value)(xs:List EV):Prop where
 row:w.ownsRow base 258 2 v xs.length (xs.flatMap EV.cells)
 each:∀ x∈xs,qL w base x.e x.nv x.tv
variable {xs:List EV} {base:Nat} {w w':W8}
theorem FV.below {v:Value}(h:FV w base v xs)(k:Below w.heap.size w w'):FV w' base v xs:=⟨zH h.row k (λ g e=>(h.row.lt g e).2),λ x hx=>(h.each x hx).below k⟩
theorem qL.sy {B:List Nat}{e:Env}{nv tv:Value}(h:qL w base e nv tv)(k:zN B w w')(h1:∀ b∈B,iq w 9 b):qL w' base e nv tv:=
 ⟨xC h.ns k (λ b hb=>.inr (h1 b hb)),xC h.ts k (λ b hb=>.inr (h1 b hb)),h.nil⟩
theorem z7f:(Tryz.prog.info? 258).map (λ i=>(i.zero,i.size,i.bytes))=some (some (.agg #[.slice none 0 0,.slice none 0 0]),2,48):=by kernel_rfl
structure uo (w:W8)(v7:Value)(fs:List FG)(v8:Value)(xs:List EV)(wr:W8):Prop where
 below:Below w.heap.size w wr
 facts:yW wr w.heap.size v7 fs
 qx:FV wr w.heap.size v8 xs
variable {v8 v7:Value} {fs:List FG}
theorem uo.dm {wr:W8}(h:uo w v7 fs v8 xs wr)(k:Below wr.heap.size wr w'):uo w v7 fs v8 xs w':=⟨h.below.trans (k.mono h.below.size),h.facts.below k,h.qx.below k⟩
variable {v':Value} {wX W w5:W8}
theorem uo.lT {x:FG}(h:uo w v7 fs v8 xs wX)(hx:j5 wX w.heap.size x)(hW:zN [] wX W)(hg:W.grownBy w5 v7.ownBlock)(aC:w5.ownsRow w.heap.size 262 10 v' (fs.length+1) (fs.flatMap FG.cells++x.cells)):uo w v' (fs++[x]) v8 xs w5:=by
 have k5:zN v7.ownBlock.toList wX w5:=(hW.mono (by simp)).trans (zN.aN hg);have nt:∀ e,262≠e->∀ b∈v7.ownBlock.toList,iq wX e b:=λ e he=>yP h.facts.row he
 exact⟨zY h.below k5 h.below.size (λ b hm=>(h.facts.row.lt b (by simpa using hm)).1),h.facts.add hx hW hg aC,⟨xC h.qx.row k5 (λ b hb=>.inr (nt _ (by decide) b hb)),λ y hy=>(h.qx.each y hy).sy k5 (nt _ (by decide))⟩⟩
theorem uo.Pm {x:EV}(h:uo w v7 fs v8 xs wX)(hx:qL wX w.heap.size x.e x.nv x.tv)(hW:zN [] wX W)(hg:W.grownBy w5 v8.ownBlock)(aC:w5.ownsRow w.heap.size 258 2 v' (xs.length+1) (xs.flatMap EV.cells++x.cells)):uo w v7 fs v' (xs++[x]) w5:=by
 have k5:zN v8.ownBlock.toList wX w5:=(hW.mono (by simp)).trans (zN.aN hg);have nt:∀ e,258≠e->∀ b∈v8.ownBlock.toList,iq wX e b:=λ e he=>yP h.qx.row he
 refine⟨zY h.below k5 h.below.size (λ b hm=>(h.qx.row.lt b (by simpa using hm)).1),⟨xC h.facts.row k5 (λ b hb=>.inr (nt _ (by decide) b hb)),λ y hy=>(h.facts.each y hy).cq k5 (nt _ (by decide)) (nt _ (by decide))⟩,⟨by rw[List.length_append,List.flatMap_append];simpa using aC,λ y hy=>?_⟩⟩;rcases List.mem_append.1 hy with hy | hy
 ·exact (h.qx.each y hy).sy k5 (nt _ (by decide))
 ·rw[List.mem_singleton.1 hy];exact hx.sy k5 (nt _ (by decide))
theorem uo.Mp (h:uo w v7 fs v8 xs wX)(hW:zN [] wX W)(hg:W.grownBy w5 v7.ownBlock){b:Nat}{cs:Array Value}{t:TypeId}(hb:wX.heap[b]?=some (.cells cs t (0,0)))(ht:262≠t):w5.heap[b]?=some (.cells cs t (0,0)):=
 yX hb ((hW.mono (by simp)).trans (zN.aN hg)) (λ x hx=>.inr (yP h.facts.row ht x hx))
theorem uo.Mo (h:uo w v7 fs v8 xs wX)(hW:zN [] wX W)(hg:W.grownBy w5 v7.ownBlock){e:Env}{nv tv:Value}(he:qL wX base e nv tv):qL w5 base e nv tv:=
 he.sy ((hW.mono (by simp)).trans (zN.aN hg)) (yP h.facts.row (by decide))
structure yab (w:W8)(o:Nat)(rs:List RR)(ps:P9)(rv pv tv:Value)(gs:Nat)(S:Nat->Nat)(G:zQ->Prop):Prop where
 prog:ziv w o rs ps rv pv tv (.slice (some ⟨gs,0,none⟩) ps.length ps.length)
 jf:nk w gs ps.length S
 body:∀ r∈rs,r.bs.length<=3
 ae:∀ r∈rs,∀ a∈r.R.head::r.R.body,a.ae.length<=4
 Ev:∀ r∈rs,0<=zM ps r.R.head.pred
 de:∀ (i:Nat) (r:RR) (l:List zQ) (fr:List Nat) (E:Env),rs[i]?=some r->(∀ f∈l,G f)->zaw l r.R.body fr []=some E->(xS (bf E r.R.head)).length<=1000000000/\G (zdz ps S (bf E r.R.head) i)
variable {es:List Env} {l:List zQ} {n i:Nat} {b:List Nat} {F:zL->Nat->zQ} {rs:List zP}
theorem zv6 (h:b.length<=i):xM rs F b (n+1) i l es=none:=by
 rw[xM,List.getElem?_eq_none h]
variable {x:Nat}
theorem zr7 (h:b[i]?=some x)(hr:rs.length<=x):xM rs F b (n+1) i l es=none:=by
 rw[xM,h];simp only[List.getElem?_eq_none hr]
variable {R:zP}
theorem zv7 (h:b[i]?=some x)(hr:rs[x]?=some R)(hf:b.length<i+1+zcd R.body):xM rs F b (n+1) i l es=none:=by
 rw[xM,h];simp only[hr];rw[if_pos hf]
theorem z0f (h:b[i]?=some x)(hr:rs[x]?=some R)(hf:¬ b.length<i+1+zcd R.body):xM rs F b (n+1) i l es=match zaw l R.body ((b.drop (i+1)).take (zcd R.body)) [] with
  | none=>none
  | some E=>if yL l (zU (bf E R.head))<0 then xM rs F b n (i+1+zcd R.body) (l++[F (bf E R.head) x]) (es++[E]) else none:=by
 rw[xM,h];simp only[hr];rw[if_neg hf]
 all_goals rfl
theorem Io.none_ {e:Ending}(h:Io w w' none e):∃ (an at_:O8) (n cn m ct:Nat),e=.returned (.tuple #[.agg #[.slice an n cn,.slice at_ m ct],.bool false]):=by
 cases h with
 | no=>exact⟨_,_,_,_,_,_,rfl⟩
theorem Io.some_ {E:Env}{e:Ending}(h:Io w w' (some E) e):∃ (an at_:O8) (cn ct:Nat),qL w' w.heap.size E (.slice an E.length cn) (.slice at_ E.length ct)/\e=.returned (.tuple #[.agg #[.slice an E.length cn,.slice at_ E.length ct],.bool true]):=by
 cases h with
 | yes h=>exact⟨_,_,_,_,h,rfl⟩
end
section
theorem zl7 (rp:List PR):∀ (ns:List (Nat × List Nat)) (st ky:List xA),j8 rp ns st=some ky->∃ q,ky=st++q
 | [],st,ky,h=>⟨[],by rw[List.append_nil];exact (Option.some.inj h).symm⟩
 | x::r,st,ky,h=>by
  rw[j8] at h
  split at h
  ·cases h
  ·split at h
   ·cases h
   ·obtain⟨q,hq⟩:=zl7 rp r _ _ h;exact⟨_,by rw[hq,List.append_assoc]⟩
structure z8v (ps:P9)(rp:List PR)(l:List zQ)(es:List Env)(st:List xA):Prop where
 th:l.map (λ f=>thA f.ao)=st.map (·.t)
 en:es=st.map (·.e)
 ru:l.map (λ f=>rp[f.r]?)=st.map λ s=>some s.r
 de:∀ f∈l,sO ps (thA f.ao)
 text:∀ f∈l,f.text=zhg (thA f.ao)
 nd:(st.map (·.t)).Nodup
def yac (rp:List PR)(r:Option (List (Nat × List Nat)))(st:List xA):Prop:=r=none\/∃ ns,r=some ns/\(j8 rp ns st=none\/∃ ky,j8 rp ns st=some ky/\¬ (ky.map (·.t)).Nodup)
theorem znt {ps:P9}{rs:List zP}{rp:List PR}(hR:zgs ps rs rp)(hI:z2q rs rp){F:zL->Nat->zQ}(hF:∀ A r,(F A r).ao=A/\(F A r).text=zU A/\(F A r).r=r)(b:List Nat):∀ (n i:Nat) (l:List zQ) (es:List Env) (st:List xA),i<=b.length->z8v ps rp l es st ->
  (∀ l' kj i',xM rs F b n i l es=some (l',kj,i')->i'=b.length->∃ ns ky,rdP (zdy rp) n (b.drop i)=some ns/\j8 rp ns st=some ky/\z8v ps rp l' kj ky) /\
  ((∀ l' kj i',xM rs F b n i l es=some (l',kj,i')->i'≠b.length)->yac rp (rdP (zdy rp) n (b.drop i)) st)
 | 0,i,l,es,st,hi,hN=>by
  constructor
  ·intro l' kj i' h hl;obtain⟨rfl,rfl,rfl⟩:l=l'/\es=kj/\i=i':=by simpa[xM] using h
   exact⟨[],st,by rw[List.drop_eq_nil_of_le (by omega)];rfl,rfl,hN⟩
  ·intro h;have:=h l es i rfl
   left
   rw[List.drop_eq_getElem_cons (by omega)];rfl
 | n+1,i,l,es,st,hi,hN=>by
  cases hb:b[i]? with
  | none=>
   have hd:b.drop i=[]:=List.drop_eq_nil_of_le (List.getElem?_eq_none_iff.1 hb);have hn:xM rs F b (n+1) i l es=none:=(by rw[xM,hb]);refine⟨λ l' kj i' h=>(by rw[hn] at h;cases h),λ _=>.inl ?_⟩;rw[hd];rfl
  | some r=>
   obtain⟨aG,GC⟩:=List.getElem?_eq_some_iff.1 hb;have hd:b.drop i=r::b.drop (i+1):=by rw[List.drop_eq_getElem_cons aG,GC]
   cases sX:rs[r]? with
   | none=>
    have hn:xM rs F b (n+1) i l es=none:=(by rw[xM,hb];simp only[sX]);have hp:(zdy rp)[r]?=none:=by
     rw[List.getElem?_eq_none_iff] at sX ⊢;unfold zdy;rw[List.length_map,<-hI.len];exact sX
    refine⟨λ l' kj i' h=>(by rw[hn] at h;cases h),λ _=>.inl ?_⟩;rw[hd,rdP];simp only[hp]
   | some R=>
    obtain⟨oQ,Yv⟩:=List.getElem?_eq_some_iff.1 sX;have Hg:r<rp.length:=(by rw[<-hI.len];exact oQ);have hrel:qA R rp[r]:=(by rw[<-Yv];exact hI.at_ r oQ Hg);have hg:=hR.de _ (List.getElem_mem Hg);have pw:rp[r]?=some rp[r]:=List.getElem?_eq_getElem Hg;have Q6:(yZ rp[r].bs).length=zcd R.body:=(by rw[hrel.pos];unfold zok zcd;rw[List.length_map]);have hp:(zdy rp)[r]?=some (zcd R.body):=by unfold zdy;rw[List.getElem?_map,pw,Option.map_some,Q6]
    by_cases hlen:b.length<i+1+zcd R.body
    ·have hn:xM rs F b (n+1) i l es=none:=(by rw[xM,hb];simp only[sX];rw[if_pos hlen]);refine⟨λ l' kj i' h=>(by rw[hn] at h;cases h),λ _=>.inl ?_⟩;rw[hd,rdP];simp only[hp];rw[if_pos (by rw[List.length_drop];omega)]
    ·have L1:rdP (zdy rp) (n+1) (b.drop i)=match rdP (zdy rp) n (b.drop (i+1+zcd R.body)) with | none=>none | some ns=>some ((r,(b.drop (i+1)).take (zcd R.body))::ns):=by
      rw[hd,rdP];simp only[hp];rw[if_neg (by rw[List.length_drop];omega),List.drop_drop]
      all_goals (cases rdP (zdy rp) n (b.drop (i+1+zcd R.body)) <;> rfl)
     have vt:zaw l R.body ((b.drop (i+1)).take (zcd R.body)) []=zca (yZ rp[r].bs) ((b.drop (i+1)).take (zcd R.body)) (st.map (·.t)) []:=by
      rw[hrel.pos,<-hN.th];exact zkb hN.de R.body _ [] (hrel.body hg) zm8
     have fy:∀ ns,j8 rp ((r,(b.drop (i+1)).take (zcd R.body))::ns) st=match zca (yZ rp[r].bs) ((b.drop (i+1)).take (zcd R.body)) (st.map (·.t)) [] with | none=>none | some e=>j8 rp ns (st++[⟨rp[r],e,xZ e (kz rp[r])⟩]):=λ ns=>by
      rw[j8];simp only[pw]
      all_goals (cases zca (yZ rp[r].bs) ((b.drop (i+1)).take (zcd R.body)) (st.map (·.t)) [] <;> rfl)
     cases ht:zca (yZ rp[r].bs) ((b.drop (i+1)).take (zcd R.body)) (st.map (·.t)) [] with
     | none=>
      have hn:xM rs F b (n+1) i l es=none:=(by rw[xM,hb];simp only[sX];rw[if_neg hlen,vt,ht]);refine⟨λ l' kj i' h=>(by rw[hn] at h;cases h),λ _=>?_⟩;rw[L1]
      cases hq:rdP (zdy rp) n (b.drop (i+1+zcd R.body)) with
      | none=>exact .inl rfl
      | some ns=>exact .inr ⟨_,rfl,.inl (by rw[fy,ht])⟩
     | some E=>
      have gY:=hg.xe (K:=(st.map (·.t)).map λ t=>(t,0)) (λ p hp=>by
       obtain⟨t,ht,rfl⟩:=List.mem_map.1 hp;rw[<-hN.th] at ht;obtain⟨f,hf,rfl⟩:=List.mem_map.1 ht
       exact hN.de f hf) (zeo _ _ _ _ _ ht)
      have ym:thA (bf E R.head)=xZ E (kz rp[r]):=(by rw[zkv,hrel.hd]);have NN:sO ps (thA (bf E R.head)):=(by rw[ym];exact gY.hd);have Fe:yL l (zU (bf E R.head))<0↔xZ E (kz rp[r])∉st.map (·.t):=by
       rw[zhx,<-hN.th,zgg,<-ym]
       constructor
       ·intro h hm;obtain⟨f,hf,e⟩:=List.mem_map.1 hm;exact h f hf (by rw[hN.text f hf,e])
       ·intro h f hf e;rw[hN.text f hf] at e;exact h (List.mem_map.2 ⟨f,hf,ze4 (hN.de f hf).w NN.w e⟩)
      by_cases sT:yL l (zU (bf E R.head))<0
      ·have hn:xM rs F b (n+1) i l es=xM rs F b n (i+1+zcd R.body) (l++[F (bf E R.head) r]) (es++[E]):=by
        rw[xM,hb];simp only[sX];rw[if_neg hlen,vt,ht];simp only;rw[if_pos sT]
       obtain⟨f1,f2,f3⟩:=hF (bf E R.head) r;have W7:z8v ps rp (l++[F (bf E R.head) r]) (es++[E]) (st++[⟨rp[r],E,xZ E (kz rp[r])⟩]):=by
        refine⟨?_,?_,?_,λ f hf=>?_,λ f hf=>?_,?_⟩
        ·rw[List.map_append,List.map_append,hN.th];simp[f1,ym]
        ·rw[List.map_append,<-hN.en];rfl
        ·rw[List.map_append,List.map_append,hN.ru];simp[f3,pw]
        ·rcases List.mem_append.1 hf with hf | hf
         ·exact hN.de f hf
         ·rw[List.mem_singleton.1 hf,f1];exact NN
        ·rcases List.mem_append.1 hf with hf | hf
         ·exact hN.text f hf
         ·rw[List.mem_singleton.1 hf,f1,f2,zgg]
        ·rw[List.map_append,List.nodup_append];refine⟨hN.nd,by simp,λ a ha c hc=>?_⟩;have hc:c=xZ E (kz rp[r]):=(by simpa using hc);rw[hc];intro e;rw[e] at ha;exact Fe.1 sT ha
       obtain⟨h1,h2⟩:=znt hR hI hF b n (i+1+zcd R.body) _ _ _ (by omega) W7;rw[hn,L1]
       constructor
       ·intro l' kj i' h hl;obtain⟨ns,ky,e1,e2,e3⟩:=h1 l' kj i' h hl;exact⟨_,ky,by rw[e1],by rw[fy,ht];exact e2,e3⟩
       ·intro h;rcases h2 h with e | ⟨ns,e1,e2⟩
        ·exact .inl (by rw[e])
        ·refine .inr ⟨_,by rw[e1],?_⟩;rw[fy,ht];exact e2
      ·have hn:xM rs F b (n+1) i l es=none:=by
        rw[xM,hb];simp only[sX];rw[if_neg hlen,vt,ht];simp only;rw[if_neg sT]
       refine⟨λ l' kj i' h=>(by rw[hn] at h;cases h),λ _=>?_⟩;rw[L1]
       cases hq:rdP (zdy rp) n (b.drop (i+1+zcd R.body)) with
       | none=>exact .inl rfl
       | some ns=>
        refine .inr ⟨_,rfl,?_⟩;rw[fy,ht];simp only
        cases hs:j8 rp ns (st++[⟨rp[r],E,xZ E (kz rp[r])⟩]) with
        | none=>exact .inl rfl
        | some ky=>
         refine .inr ⟨ky,rfl,λ kY=>?_⟩;obtain⟨q,rfl⟩:=zl7 rp ns _ _ hs;rw[List.map_append,List.nodup_append] at kY;have kY:=kY.1;rw[List.map_append,List.nodup_append] at kY;have ay:xZ E (kz rp[r])∈st.map (·.t):=by
          refine Classical.byContradiction λ c=>sT (Fe.2 c)
         exact kY.2.2 _ ay _ (by simp) rfl
end
section
open Go.RowKit Go.Maps
def zha (pos:List Nat):List Nat->Option (Nat × List Nat)
 | []=>none
 | r::q=>match pos[r]? with
  | none=>none
  | some m=>if q.length<m then none else some (r,q.take m)
inductive z2w (w w':W8):Option (Nat × List Nat)->Ending->Prop
 | no:z2w w w' none (.returned (.tuple #[.agg #[.int .i64 0,.slice none 0 0],.bool false]))
 | yes {r:Nat} {fr:List Nat} {a:O8} {c:Nat}:w'.ownsRow w.heap.size 3 1 (.slice a fr.length c) fr.length (zxj fr)->z2w w w' (some (r,fr)) (.returned (.tuple #[.agg #[.int .i64 (r:Nat),.slice a fr.length c],.bool true]))
structure ur (w:W8)(r:Nat)(fr:List Nat)(v:Value)(wr:W8):Prop where
 k:Below w.heap.size w wr
 res:wr.heap[w.heap.size]?=some (.cells #[.int .i64 0,.slice none 0 0] 150 (0,0))
 box:wr.heap[w.heap.size+1]?=some (.cells #[.int .i64 (r:Nat),v] 150 (0,0))
 row:wr.ownsRow (w.heap.size+1+1) 3 1 v fr.length (zxj fr)
variable {wr w:W8} {v:Value} {fr:List Nat}
theorem ur.lt {r:Nat}(h:ur w r fr v wr):w.heap.size+1<wr.heap.size:=(Array.getElem?_eq_some_iff.1 h.box).1
theorem ur.below {r:Nat}{w':W8}(h:ur w r fr v wr)(k:Below wr.heap.size wr w'):ur w r fr v w':=
 have l:=h.lt
 ⟨h.k.trans (k.mono h.k.size),(k.block _ (by omega)).trans h.res,(k.block _ l).trans h.box,zH h.row k (λ g e=>(h.row.lt g e).2)⟩
theorem ur.start (w:W8)(r:Nat):ur w r [] (.slice none 0 0) ((w.alloc (.cells #[.int .i64 0,.slice none 0 0] 150)).alloc (.cells #[.int .i64 (r:Nat),.slice none 0 0] 150)):=by
 refine⟨((Below.refl _ w).alloc L9 _).alloc (by simp) _,?_,?_,World.ownsRow_nil _ _ _ _⟩
 ·rw[Below.heap_alloc _ _ _ (by simp)];exact heap_alloc_new w _
 ·have:=heap_alloc_new (w.alloc (.cells #[.int .i64 0,.slice none 0 0] 150)) (.cells #[.int .i64 (r:Nat),.slice none 0 0] 150);rw[World.size_alloc] at this;exact this
variable {W w5:W8}
theorem ur.add {r:Nat}{v':Value}{x:Nat}(h:ur w r fr v wr)(hW:Below wr.heap.size wr W)(hg:W.grownBy w5 v.ownBlock)(aC:w5.ownsRow (w.heap.size+1+1) 3 1 v' (fr.length+1) (zxj fr++[.int .i64 (x:Nat)])):ur w r (fr++[x]) v' (w5.setCell ⟨w.heap.size+1,1,none⟩ v'):=by
 have hB:=h.below hW;have l:=hB.lt;have k5:zN v.ownBlock.toList W w5:=zN.aN hg;have cC:∀ x∈v.ownBlock.toList,w.heap.size+1+1<=x:=λ x hx=>(hB.row.lt x (by simpa using hx)).1
 have b1:w5.heap[w.heap.size+1]?=some (.cells #[.int .i64 (r:Nat),v] 150 (0,0)):=(k5.block _ l (λ hm=>by have:=cC _ hm;omega)).trans hB.box;have b0:w5.heap[w.heap.size]?=some (.cells #[.int .i64 0,.slice none 0 0] 150 (0,0)):=(k5.block _ (by omega) (λ hm=>by have:=cC _ hm;omega)).trans hB.res;refine⟨?_,?_,by rw[heap_setCell_same _ _ _ _ _ _ b1];rfl,?_⟩
 ·refine Below.setCell ?_ (by show w.heap.size<=w.heap.size+1;omega) _;have hs:=hB.k.size;refine⟨hg.os.trans hB.k.os,hg.tape.trans hB.k.tape,hg.output.trans hB.k.output,Nat.le_trans hB.k.size hg.size,λ i hi=>?_⟩;rw[hg.block i (by omega) (λ e=>by have:=(hB.row.lt i e.symm).1;omega)];exact hB.k.block i hi
 ·rw[Below.heap_setCell _ _ _ _ (by show w.heap.size≠w.heap.size+1;omega)];exact b0
 ·rw[List.length_append,show zxj (fr++[x])=zxj fr++[.int .i64 (x:Nat)] by unfold zxj;rw[List.map_append];rfl];exact ownsRow_setCell_below aC (by show w.heap.size+1<_;omega) _
theorem ur.NY {r:Nat}(h:ur w r fr v wr)(hW:Below wr.heap.size wr W)(hg:W.grownBy w5 v.ownBlock):w5.heap[w.heap.size+1]?=some (.cells #[.int .i64 (r:Nat),v] 150 (0,0)):=by
 have hB:=h.below hW;have l:=hB.lt;have k5:zN v.ownBlock.toList W w5:=zN.aN hg;exact (k5.block _ l (λ hm=>by have:=(hB.row.lt _ (by simpa using hm)).1;omega)).trans hB.box
theorem ur.Hw {r:Nat}(h:ur w r fr v wr):wr.cell? ⟨w.heap.size,0,none⟩=some (.int .i64 0)/\wr.cell? ⟨w.heap.size,1,none⟩=some (.slice none 0 0)/\wr.frozen? ⟨w.heap.size,0,none⟩=false/\wr.frozen? ⟨w.heap.size,1,none⟩=false:=⟨(zB h.res 0).1,(zB h.res 1).1,(zB h.res 0).2,(zB h.res 1).2⟩
theorem zqb (w:W8)(base:Nat)(a:O8)(c:Nat)(bs:List Nat)(hb:nJ w a c bs)(ar:O8)(cr:Nat)(rs:List PR)(hr:l8 w base (.slice ar rs.length cr) rs)(h3:∀ r∈rs,r.bs.length<=3):
  Calls Tryz.prog 177 #[.slice a bs.length c,.slice ar rs.length cr] w λ e w'=>z2w w w' (zha (zdy rs) bs) e/\Below w.heap.size w w':=by
 have k0:Below w.heap.size w (w.alloc (.cells #[.int .i64 0,.slice none 0 0] 150)):=B9.alloc L9 _;have z0:(w.alloc (.cells #[.int .i64 0,.slice none 0 0] 150)).cell? ⟨w.heap.size,0,none⟩=some (.int .i64 0):=(zB (heap_alloc_new w _) 0).1;have z1:(w.alloc (.cells #[.int .i64 0,.slice none 0 0] 150)).cell? ⟨w.heap.size,1,none⟩=some (.slice none 0 0):=(zB (heap_alloc_new w _) 1).1;have eW:=zC k0;have HR:=zC hr
 cases bs with
 | nil=>
  clear hb hr k0;go_enter Tryz.func177,Tryz.ntmps177;go_wp2_with fail;refine bodyPost_ret (v:=.tuple #[.agg #[.int .i64 0,.slice none 0 0],.bool false]) (by simp[results,Tryz.results177,go_sem]) rfl ?_;exact⟨.no,zA eW⟩
 | cons r q=>
  obtain⟨g,o,rfl,hg,hc⟩:=hb.at_ (by simp);have Ux:=hb.byte r List.mem_cons_self;have pe:=hb.cap;have re:=hb.max;have HB:=zC hb;have c0:=(k0.cell (p:=⟨g,o,none⟩) hg).trans (hc 0 (by simp));simp only[List.getElem_cons_zero] at c0;have hlen:(r::q).length=q.length+1:=rfl;rw[hlen] at pe ⊢;clear hb hr k0 hc hlen;have Yt:((q.length:Int)+1==0)=false:=by rw[beq_eq_false_iff_ne];omega
  by_cases sW:r<rs.length
  ·have UC:(r:Int)<rs.length:=(by omega);have ng:¬ rs.length<=r:=(by omega);have BW:(rs[r].bs.filter (vD false)).length=(yZ rs[r].bs).length:=(by unfold yZ yQ;rw[List.length_map,List.length_map]);have Ab:(zdy rs)[r]?=some (yZ rs[r].bs).length:=(by unfold zdy;rw[List.getElem?_map,List.getElem?_eq_getElem sW];rfl);have kP:(yZ rs[r].bs).length<=3:=Nat.le_trans (zkg _) (h3 _ (List.getElem_mem sW));have Az:=ur.start w r;go_enter Tryz.func177,Tryz.ntmps177;go_upto_region 4 with fail;clear c0;generalize ((w.alloc (.cells #[.int .i64 0,.slice none 0 0] 150)).alloc (.cells #[.int .i64 (r:Nat),.slice none 0 0] 150))=w1 at *;have lK:=(zA HR).below Az.k;obtain⟨gr,eR,rh,Bt,BJ,B0,BB,lP⟩:=vU zly lK.row r sW;injection rh with h4 h5 h6
   subst h4 h6;have ay:=lK.each _ (List.getElem_mem sW);obtain⟨ah,ch,zn⟩:=zD ay.hd;obtain⟨ab,cb,nx⟩:=zD ay.bo.row;have r0:=lP 0 (by omega);have r1:=lP 1 (by omega);have r2:=lP 2 (by omega);simp only[PR.cells,zn,nx,Nat.add_zero,List.getElem?_cons_zero,List.getElem?_cons_succ] at r0 r1 r2;obtain⟨b0,-⟩:=zB Az.box 0;simp only[List.getElem?_toArray,List.getElem?_cons_zero] at b0;have gX:=ay.bo;rw[nx] at gX;have zg:=zC (zcs w1 base rs[r].R.pd ah rs[r].R.ts.length ch ab cb rs[r].bs gX (by have:=h3 _ (List.getElem_mem sW);omega));have Iy:=zC Az;clear ay gX lP lK Az z0 z1;go_wp2_with fail;refine (zA zg).mono ?_;rintro e w2 ⟨ap,cp,rfl,-,aH,-⟩;have dj:=(zA Iy).below aH;have lf:=(zA HB).below dj.k;have cW:=dj.box;rw[BW];generalize hM:(yZ rs[r].bs).length=M at *
   by_cases hq:q.length<M
   ·have HN:=zC (show zha (zdy rs) (r::q)=none by rw[zha];simp only[Ab];rw[if_pos hq]);obtain⟨s0,s1,f0,f1⟩:=dj.Hw;have Gb:=zC dj.k;have Uw:(q.length:Int)+1<1+M:=(by omega);clear dj lf cW Ab zg Iy b0 r0 r1 r2 hM;go_wp2_with fail;obtain⟨p0,p1⟩:=zgy s0 s1 (.int .i64 0) (.slice none 0 0);refine bodyPost_ret (v:=.tuple #[.agg #[.int .i64 0,.slice none 0 0],.bool false]) (by simp[results,Tryz.results177,go_sem,p0,p1]) rfl ?_;rw[zA HN];exact⟨.no,((zA Gb).setCell L9 _).setCell L9 _⟩
   ·have HN:=zC (show zha (zdy rs) (r::q)=some (r,q.take M) by rw[zha];simp only[Ab];rw[if_neg hq]);have Uw:¬ (q.length:Int)+1<1+M:=(by omega);obtain⟨i0,hi,cQ,cz,cx⟩:=info_parts zj3;have iR:=zC dj;have s1:(1:Int)<=1+M:=(by omega);have s2:(1:Int)+M<=c:=(by omega);have s3:(0:Int)<=1+M:=(by omega);clear dj lf cW Ab zg Iy b0 r0 r1 r2 hM
    by_cases oO:c=1
    ·have W6:M=0:=(by omega);subst W6;go_wp2_with fail
     go_loopg [45] 0 (λ gg i wr=>gg=0/\i=.int .i64 0/\ur w r [] (.slice none 0 0) wr)
     exact⟨rfl,rfl,zA iR⟩
     case round=>
      clear iR;obtain⟨AE,rfl,ay⟩:=hrel;obtain⟨b0,Wy⟩:=zB ay.box 0;obtain⟨b1,Wz⟩:=zB ay.box 1;obtain⟨s0,s4,f0,f1⟩:=ay.Hw;simp only[List.getElem?_toArray,List.getElem?_cons_zero,List.getElem?_cons_succ] at b0 b1;have gJ:=zC ay;clear ay;go_wp2_with fail;obtain⟨p0,p1⟩:=zgy s0 s4 (.int .i64 (r:Nat)) (.slice none 0 0);refine bodyPost_ret (v:=.tuple #[.agg #[.int .i64 (r:Nat),.slice none 0 0],.bool true]) (by simp[results,Tryz.results177,go_sem,p0,p1]) rfl ?_;rw[zA HN];exact⟨.yes (fr:=q.take 0) (World.ownsRow_nil _ _ _ _),((zA gJ).k.setCell L9 _).setCell L9 _⟩
    ·go_wp2_with fail;rw[show 1+M-1=M by omega]
     go_loopg [45] M (λ gg i wr=>∃ (j:Nat) (v:Value),j<=M/\gg=M-j/\i=.int .i64 j/\ur w r (q.take j) v wr)
     exact⟨0,_,Nat.zero_le _,rfl,rfl,zA iR⟩
     case round=>
      clear iR;obtain⟨j,v,hj,BI,rfl,ay⟩:=hrel;obtain⟨av,cv,rfl⟩:=zD ay.row;have aG:=ay.lt;have ig:(q.take j).length=j:=(by rw[List.length_take];omega);obtain⟨b0,Wy⟩:=zB ay.box 0;obtain⟨b1,Wz⟩:=zB ay.box 1;simp only[List.getElem?_toArray,List.getElem?_cons_zero,List.getElem?_cons_succ] at b0 b1
      by_cases hlj:j<M
      ·have Ud:j<q.length:=(by omega);obtain⟨g',o',e1,uz,zo⟩:=((zA HB).below ay.k).at_ (by simp);injection e1 with e1
       injection e1 with e1 e2
       subst e1 e2;have cj:=zo (j+1) (by simp;omega);simp only[List.getElem_cons_succ] at cj;have rM:q[j]<256:=(zA HB).byte _ (List.mem_cons_of_mem _ (List.getElem_mem Ud));have IW:(j:Int)<M:=(by omega);have HT:=zC (show q.take (j+1)=q.take j++[q[j]] from List.take_succ_eq_append_getElem Ud);generalize q[j]=x at *;rw[show o+(j+1)=o+1+j by omega] at cj;have aB:=ay.row;have bT:=aB.alloc (.cells #[.int .i64 (x:Nat)] 3);have dJ:=zC (World.news_of_block (heap_alloc_new wr (.cells #[.int .i64 (x:Nat)] 3)));have gJ:=zC ay;rw[ig] at b1 bT;generalize hF:q.take j=F at *;have HF:=zC hF;have Iz:=zC ig;clear ay aB zo hF ig;go_wp2_with (at_builtin;refine wpList_append_own _ rfl _ _ 24 rfl (w.heap.size+1+1) 3 i0 _ 1 8 Tryz.underlying24 hi cQ cz cx rfl (by decide) _ _ _ rfl bT ⟨wr.heap.size,0,none⟩ 1 1 [.int .i64 (x:Nat)] rfl rfl (zA dJ) (by intro u hu;rw[List.mem_singleton.1 hu];rfl) (by unfold maxLen;omega) (by omega) (by simp;omega) ?_;intro v6 w6 hown6 na hne6;clear hne6;obtain⟨a6,c6,rfl⟩:=zD hown6;have LC:=(zA gJ).NY (B9.alloc L9 _) (by rw[zA Iz];exact na);obtain⟨d1,df1⟩:=zB LC 1;have VC:=zC ((zA gJ).add (x:=x) (v':=.slice a6 (j+1) c6) (B9.alloc L9 _) (by rw[zA Iz];exact na) (by rw[zA Iz];exact hown6));clear hown6 na LC);go_roundg (M-(j+1));exact⟨j+1,_,by omega,rfl,by go_num,by rw[zA HT];exact zA VC⟩;omega
      ·have XQ:j=M:=(by omega);subst XQ;obtain⟨s0,s4,f0,f1⟩:=ay.Hw;have aB:=ay.row;rw[ig] at aB b1;have gL:=zC (show wr.ownsRow (w.heap.size+1+1) 3 1 (.slice av j cv) j (zxj (q.take j)) from aB);have gJ:=zC ay;have Iz:=zC ig;clear ay aB ig;go_wp2_with fail;obtain⟨p0,p1⟩:=zgy s0 s4 (.int .i64 (r:Nat)) (.slice av j cv);refine bodyPost_ret (v:=.tuple #[.agg #[.int .i64 (r:Nat),.slice av j cv],.bool true]) (by simp[results,Tryz.results177,go_sem,p0,p1]) rfl ?_;rw[zA HN];have hy:=z2w.yes (w:=w) (w':=(wr.setCell ⟨w.heap.size,0,none⟩ (.int .i64 (r:Nat))).setCell ⟨w.heap.size,1,none⟩ (.slice av j cv)) (r:=r) (fr:=q.take j) (a:=av) (c:=cv) (by rw[zA Iz];exact zF (ownsRow_setCell_below (ownsRow_setCell_below (zA gL) (by show w.heap.size<_;omega) _) (by show w.heap.size<_;omega) _) (by omega));rw[zA Iz] at hy;exact⟨hy,((zA gJ).k.setCell L9 _).setCell L9 _⟩
  ·have UC:¬ (r:Int)<rs.length:=(by omega);have HN:=zC (show zha (zdy rs) (r::q)=none by rw[zha,List.getElem?_eq_none (by unfold zdy;rw[List.length_map];omega)]);go_enter Tryz.func177,Tryz.ntmps177;go_wp2_with fail;refine bodyPost_ret (v:=.tuple #[.agg #[.int .i64 0,.slice none 0 0],.bool false]) (by simp[results,Tryz.results177,go_sem]) rfl ?_;rw[zA HN];exact⟨.no,zA eW⟩
end
end Go.Proofs.YtldkpahaocjdpaaGreat
