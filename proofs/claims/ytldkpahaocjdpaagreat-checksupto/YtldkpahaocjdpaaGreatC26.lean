/-
  Lists that are begun at one list, in its spare room or elsewhere: what stands in them where each entry is one mark.
-/
import Derived.Deep.DeepAppendRoom
import Derived.ArgAppend
import Derived.Test.YtldkpahaocjdpaaGreatC25
import Derived.Shelf.SlSortCmp.NoneTotal
import Derived.Test.YtldkpahaocjdpaaGreatC24
import Derived.Lib.Builder
import Derived.Lib.AppendStr
import Derived.Lib.UnsafeStr
import Derived.Laws.Externs
import Derived.OwnWalk
import Derived.Lib.Hide
import Derived.Shelf.Strings.Builder1
set_option maxHeartbeats 16000000
set_option maxRecDepth 1000000
namespace Go.Proofs.YtldkpahaocjdpaaGreat
section
open Go.RowKit
def rep (mk:V8)(n:Nat):V8:=(List.replicate n ()).flatMap λ _=>mk
def Lm (w:W8)(base:Nat)(e:TypeId)(mk:V8)(v:Value)(n:Nat):Prop:=w.ownsRow base e mk.length v n (rep mk n)
theorem Lm.kept {B:List Nat}{w w':W8}{base:Nat}{e:TypeId}{mk:V8}{v:Value}{n:Nat}(h:Lm w base e mk v n)(k:zN B w w')(hB:∀ g,v.ownBlock=some g->g∉B):Lm w' base e mk v n:=
 xI h (λ g hg=>k.block g (h.lt g hg).2 (hB g hg))
end
section
open Go.RowKit
structure MB where
 l:Value
 one:Value
 two:Value
 three:Value
 mark:Nat
def MB.cells (m:MB):V8:=[m.l,m.one,m.two,m.three,.int .i64 (m.mark:Nat)]
def MB.blocks (m:MB):List Nat:=m.l.ownBlock.toList++m.one.ownBlock.toList++m.two.ownBlock.toList++m.three.ownBlock.toList
structure AU (w:W8)(e:TypeId)(mk:V8)(m:MB):Prop where
 gH:m.mark<=1000000000
 each:∃ n,n<=1000/\Lm w 0 e mk m.l n/\Lm w 0 e mk m.one (n+1)/\Lm w 0 e mk m.two (n+2)/\Lm w 0 e mk m.three (n+64)
variable {n base:Nat} {v:Value} {mk:V8} {e:TypeId} {w:W8}
theorem Lm.RL {g:Nat}(h:Lm w base e mk v n)(hg:v.ownBlock=some g):¬ iq w e g:=by
 intro hn;rcases h.2 with⟨hv,_⟩ | ⟨g',cp,cur,hv,_,sg,_⟩
 ·rw[hv] at hg;cases hg
 ·rw[hv] at hg;have:g'=g:=by simpa[Value.ownBlock] using hg
  subst this;exact hn _ _ sg
variable {w':W8} {B:List Nat}
theorem Lm.rN (h:Lm w base e mk v n)(k:zN B w w')(hB:∀ x∈B,iq w e x\/x∉v.ownBlock.toList):Lm w' base e mk v n:=
 h.kept k λ g hg hm=>by
  rcases hB g hm with h1 | h1
  ·exact h.RL hg h1
  ·exact h1 (by simpa using hg)
theorem AU.kept {m:MB}(h:AU w e mk m)(k:zN B w w')(hB:∀ x∈B,iq w e x\/x∉m.blocks):AU w' e mk m:=by
 obtain⟨n,hn,h1,h2,h3,h4⟩:=h.each;have sub:∀ (v:Value),(∀ x∈v.ownBlock.toList,x∈m.blocks)->∀ x∈B,iq w e x\/x∉v.ownBlock.toList:=λ v hv x hx=>(hB x hx).imp id λ hn hm=>hn (hv x hm)
 refine⟨h.gH,n,hn,h1.rN k (sub _ ?_),h2.rN k (sub _ ?_),h3.rN k (sub _ ?_),h4.rN k (sub _ ?_)⟩
 all_goals (intro x hx;simp only[MB.blocks,List.mem_append];simp[hx])
structure sK (w:W8)(base:Nat)(tB e:TypeId)(mk:Nat->V8)(v:Value)(ms:List MB):Prop where
 row:w.ownsRow base tB 5 v ms.length (ms.flatMap MB.cells)
 each:∀ m∈ms,AU w e (mk m.mark) m
theorem sK.nil (w:W8)(base:Nat)(tB e:TypeId)(mk:Nat->V8):sK w base tB e mk (.slice none 0 0) []:=⟨World.ownsRow_nil _ _ _ _,by simp⟩
theorem sK.kept {B:List Nat}{w w':W8}{base:Nat}{tB e:TypeId}{mk:Nat->V8}{v:Value}{ms:List MB}(h:sK w base tB e mk v ms)(k:zN B w w')(h1:∀ x∈B,x<base\/iq w tB x)(h2:∀ x∈B,iq w e x\/∀ m∈ms,x∉m.blocks):sK w' base tB e mk v ms:=
 ⟨xC h.row k h1,λ m hm=>(h.each m hm).kept k λ x hx=>(h2 x hx).imp id λ f=>f m hm⟩
theorem sK.below {tB:TypeId}{mk:Nat->V8}{ms:List MB}(h:sK w base tB e mk v ms)(k:Below w.heap.size w w'):sK w' base tB e mk v ms:=
 h.kept (B:=[]) ((zN.refl [] w).ai k) (by simp) (by simp)
end
section
open Go.RowKit Go.Maps Go.Sort
theorem zc8 (x y:B8):ltOf yae x y=zb5 x y:=by
 unfold ltOf yae
 cases zb5 x y <;> cases x.toList==y.toList <;> simp
theorem yaw:SWO (ltOf yae) where
 irrefl x:=by rw[zc8];exact zio x
 trans x y z h1 h2:=by rw[zc8] at *;exact zf7 h1 h2
 ntrans x y z h1 h2:=by
  rw[zc8] at *
  cases h:zb5 x z with
  | false=>rfl
  | true=>
   cases h3:zb5 z y with
   | true=>rw[zf7 h h3] at h1;cases h1
   | false=>rw[zzt h2 h3] at h1;rw[h1] at h;cases h
end
section
open Go.RowKit
def ziy (mk:Nat):V8:=[.string { data:=#[] },.int .i64 (-1000-(mk:Int)),.int .i64 0]
variable {xs:V8} {size n g cap base:Nat} {e:TypeId} {w:W8}
theorem vT (h:w.ownsRow base e size (.slice (some ⟨g,0,none⟩) n cap) n xs)(j:Nat)(u:Value):(w.setCell ⟨g,j,none⟩ u).ownsRow base e size (.slice (some ⟨g,0,none⟩) n cap) n (xs.set j u):=by
 obtain⟨h0,h1⟩:=h;refine⟨by simpa using h0,?_⟩;rcases h1 with⟨h1,_⟩ | ⟨g',kD,cur,hv,hb,hg,hn,hc,hs,ht⟩
 ·cases h1
 ·injection hv with h1 h2 h3
  injection h1 with h1
  injection h1 with h1
  subst h1 h3;refine .inr ⟨g,cap,_,rfl,hb,heap_setCell_same _ _ _ _ _ _ hg,hn,hc,by simpa using hs,?_⟩;rw[Array.toList_setIfInBounds,List.take_set,ht]
theorem zg6 {m:Nat}(h:w.ownsRow base e size (.slice (some ⟨g,0,none⟩) n cap) m xs):∀ j,w.frozen? ⟨g,j,none⟩=false:=by
 intro j;rcases h.2 with⟨h1,_⟩ | ⟨g',kD,cur,hv,hb,hg,_⟩
 ·cases h1
 ·injection hv with h1 h2 h3
  injection h1 with h1
  injection h1 with h1
  subst h1;simp[World.frozen?,hg]
theorem z4t (h:w.ownsRow base e size (.slice (some ⟨g,0,none⟩) n cap) n xs):n<=cap/\cap<=maxLen:=by
 rcases h.2 with⟨h1,_⟩ | ⟨g',kD,cur,hv,hb,hg,hn,hc,_⟩
 ·cases h1
 ·injection hv with h1 h2 h3
  subst h3;exact⟨hn,hc⟩
end
section
open Go.RowKit Go.Maps
variable {x y:B8}
theorem zpj {z:B8}(h1:zb5 x y=false)(h2:zb5 y z=false):zb5 x z=false:=by
 have:=yaw.ntrans x y z (by rw[zc8];exact h1) (by rw[zc8];exact h2)
 rwa [zc8] at this
theorem zvz (h:zb5 x y=true):zb5 y x=false:=by
 cases h2:zb5 y x with
 | false=>rfl
 | true=>have:=zf7 h h2;rw[zio] at this;cases this
end
section
open Go.RowKit Go.Maps
theorem z46 (ps:P9)(S:B8->Nat)(k:B8)(u:Value)(h:stV ps S k=some u):u=.agg #[.string k,.int .i64 (S k),.int .i64 ((xH ps k).getD 0:Nat)]:=by
 unfold stV at h
 cases hn:xH ps k with
 | none=>rw[hn] at h;cases h
 | some m=>rw[hn] at h;injection h with h;exact h.symm
end
section
open Go.RowKit Go.Maps
def zv4 (mk n:Nat):V8:=(List.replicate n ()).flatMap λ _=>ziy mk
theorem z7m {w:W8}{base mk:Nat}{v:Value}{n:Nat}(h:w.ownsRow base 185 3 v n (zv4 mk n))(k:Nat)(hk:k<n):∃ g cap,v=.slice (some ⟨g,0,none⟩) n cap/\g<w.heap.size/\n<=cap/\cap<=maxLen/\w.cell? ⟨g,k*3,none⟩=some (.string { data:=#[] })/\w.cell? ⟨g,k*3+1,none⟩=some (.int .i64 (-1000-(mk:Int)))/\w.cell? ⟨g,k*3+2,none⟩=some (.int .i64 0):=by
 have h':w.ownsRow base 185 3 v (List.replicate n ()).length ((List.replicate n ()).flatMap λ _=>ziy mk):=by rw[List.length_replicate];exact h
 obtain⟨g,cap,hv,-,bR,cZ,da,hc⟩:=vU (f:=λ _:Unit=>ziy mk) (λ _=>rfl) h' k (by simpa using hk);rw[List.length_replicate] at hv cZ;refine⟨g,cap,hv,bR,cZ,da,?_,?_,?_⟩
 ·have:=hc 0 (by simp[ziy]);simpa[ziy] using this
 ·have:=hc 1 (by simp[ziy]);simpa[ziy] using this
 ·have:=hc 2 (by simp[ziy]);simpa[ziy] using this
theorem zbn (w:W8)(base mk:Nat)(a:O8)(n c:Nat)(h:w.ownsRow base 185 3 (.slice a n c) n (zv4 mk n))(hn:n<=100000)(pk:mk<=1000000000000):
  Calls Tryz.prog 96 #[.slice a n c,.int .i64 mk] w λ e w'=>e=.returned (.bool true)/\w'=w:=by
 have HA:=zC h;clear h;go_enter Tryz.func96,Tryz.ntmps96;go_wp2_with fail
 go_loopg [5] n (λ gg i wr=>∃ k:Nat,k<=n/\gg=n-k/\i=.int .i64 k/\wr=w)
 exact⟨0,Nat.zero_le _,rfl,rfl,rfl⟩
 case round=>
  obtain⟨k,hk,iZ,rfl,rfl⟩:=hrel
  by_cases aE:k<n
  ·obtain⟨g,cap,hv,bR,cZ,da,p0,p1,p2⟩:=z7m (zA HA) k aE;injection hv with h1 h2 h3
   subst h1 h3;go_wp2_with fail;go_roundg (n-(k+1));exact⟨k+1,by omega,rfl,by go_num,rfl⟩;omega
  ·go_wp2_with fail;go_ret;exact⟨rfl,rfl⟩
end
section
open Go.RowKit Go.Maps
variable {rs:List zP} {ps:P9}
theorem zq3 {f:Nat->Nat}(h:zdf ps rs f):zd7 (rs.map yT) (λ k=>f (vZ ps k)):=by
 intro R hR l hl;obtain⟨Q,hQ,rfl⟩:=List.mem_map.1 hR;obtain⟨A,hA,rfl⟩:=List.mem_map.1 hl;exact h Q hQ A hA
theorem zoe {g:B8->Nat}(h:zd7 (rs.map yT) g)(aL:zd2 ps (rs.flatMap zP.atoms)):zdf ps rs (λ i=>g (z7q ps i)):=by
 intro R hR A hA;have h1:=h (yT R) (List.mem_map_of_mem hR) (nI A) (List.mem_map_of_mem hA);have a1:0<=zM ps R.head.pred:=aL _ (List.mem_flatMap.2 ⟨R,hR,List.mem_cons_self⟩);have a2:0<=zM ps A.pred:=aL _ (List.mem_flatMap.2 ⟨R,hR,List.mem_cons_of_mem _ hA⟩);unfold zhp;simp only[zns a1,zns a2];exact h1
theorem z1p {Sn:B8->Nat}{Si:Nat->Nat}(aL:zd2 ps (rs.flatMap zP.atoms))(hv:zdf ps rs Si)(hl:Low ps rs Si)(Rv:zd7 (rs.map yT) Sn)(vf:z5v (rs.map yT) Sn)(k:B8)(hk:0<=zM ps k):Sn k=Si (vZ ps k):=by
 refine Nat.le_antisymm (vf _ (zq3 hv) k) ?_;have:=hl _ (zoe Rv aL) (vZ ps k);simp only[zns hk] at this;exact this
def zxs (ps:P9):Prop:=(ps.map (·.1)).Nodup
theorem z56 {nm:B8}:∀ {l:P9} {k:Nat},xV nm l k<0->∀ p∈l,p.1≠nm
 | [],_,_,p,hp=>by cases hp
 | x::r,k,h,p,hp=>by
  rw[xV] at h
  split at h
  ·omega
  ·rename_i hx;rcases List.mem_cons.1 hp with rfl | hp
   ·exact λ e=>hx (vO.2 e)
   ·exact z56 h p hp
theorem z0i (h:zxs ps)(nm:B8)(n:Nat):zxs (qG ps nm n):=by
 unfold qG
 split
 ·rename_i hx;unfold zxs;rw[List.map_append,List.nodup_append];refine⟨h,by simp,λ a ha b hb e=>?_⟩;obtain⟨p,hp,rfl⟩:=List.mem_map.1 ha;simp at hb;exact z56 hx p hp (e.trans hb)
 ·exact h
theorem zlu:∀ (l ps:P9),zxs ps->zxs (qQ l ps)
 | [],_,h=>h
 | x::r,_,h=>zlu r _ (z0i h x.1 x.2)
theorem zr8:∀ {ps:P9},zxs ps->∀ (i k:Nat) (hi:i<ps.length),xV ps[i].1 ps k=(k+i:Nat)
 | [],_,i,_,hi=>by simp at hi
 | x::r,h,i,k,hi=>by
  have hn:=List.nodup_cons.1 h;rw[xV]
  cases i with
  | zero=>rw[if_pos (by rw[List.getElem_cons_zero];exact vO.2 rfl)];simp
  | succ i=>
   have AG:i<r.length:=by simpa using hi
   have:¬ (x.1.toList==((x::r)[i+1]).1.toList)=true:=λ e=>hn.1 (List.mem_map.2 ⟨r[i],List.getElem_mem AG,by
    have:=vO.1 e;rw[List.getElem_cons_succ] at this
    exact this.symm⟩)
   rw[if_neg this,List.getElem_cons_succ,zr8 hn.2 i (k+1) AG];omega
end
section
open Go.RowKit
theorem zi7:(Tryz.prog.info? 5).map (λ i=>(i.zero,i.size,i.bytes))=some (some (.int .u8 0),1,1):=by kernel_rfl
end
section
open Go.RowKit
def vG:List (Bool × B8)->Nat->List UInt8
 | [],_=>[]
 | t::r,i=>(if i=0 then 40 else 44)::(t.2.data.toList++vG r (i+1))
def zhu (pd:B8)(ts:List (Bool × B8)):List UInt8:=pd.data.toList++(vG ts 0++if ts.length=0 then [] else [41])
theorem qR (s:B8):s.data.toList.length=s.size:=by rw[Array.length_toList];rfl
end
section
open Go.RowKit Go.Maps
theorem zp5 (w:W8)(b:Nat)(v:Value)(a:O8)(n c:Nat)(hv:v=.slice a n c)(hb:w.cell? ⟨b,0,none⟩=some v):
  Calls Tryz.prog 36 #[.pointer (some ⟨b,0,none⟩)] w λ e w'=>e=.returned (.slice a n c)/\w'=w:=by
 subst hv;go_enter Tryz.func36,Tryz.ntmps36;go_wp2_with fail;go_ret;exact⟨rfl,rfl⟩
end
section
open Go.RowKit
def jC (w:W8):Ending->W8->Prop:=λ e w'=>e=.returned (.bool true)/\Below w.heap.size w w'
def MB.agg (m:MB):Value:=.agg #[m.l,m.one,m.two,m.three,.int .i64 (m.mark:Nat)]
variable {e:TypeId} {w:W8}
theorem AU.shape {mk:V8}{m:MB}(h:AU w e mk m):∃ (a1 a2 a3 a4:O8) (n c1 c2 c3 c4:Nat),n<=1000/\m.l=.slice a1 n c1/\m.one=.slice a2 (n+1) c2/\m.two=.slice a3 (n+2) c3/\m.three=.slice a4 (n+64) c4:=by
 obtain⟨n,hn,h1,h2,h3,h4⟩:=h.each;obtain⟨a1,c1,e1⟩:=zD h1;obtain⟨a2,c2,e2⟩:=zD h2;obtain⟨a3,c3,e3⟩:=zD h3;obtain⟨a4,c4,e4⟩:=zD h4;exact⟨a1,a2,a3,a4,n,c1,c2,c3,c4,hn,e1,e2,e3,e4⟩
theorem sK.at_ {base:Nat}{tB:TypeId}{mk:Nat->V8}{v:Value}{ms:List MB}(h:sK w base tB e mk v ms){k:Nat}(hk:k<ms.length):∃ g cap,v=.slice (some ⟨g,0,none⟩) ms.length cap/\g<w.heap.size/\ms.length<=cap/\cap<=maxLen/\w.cell? ⟨g,k*5,none⟩=some ms[k].l/\w.cell? ⟨g,k*5+1,none⟩=some ms[k].one/\w.cell? ⟨g,k*5+2,none⟩=some ms[k].two/\w.cell? ⟨g,k*5+3,none⟩=some ms[k].three/\w.cell? ⟨g,k*5+4,none⟩=some (.int .i64 (ms[k].mark:Nat)):=by
 obtain⟨g,cap,hv,-,bR,cZ,da,hc⟩:=vU (f:=MB.cells) (λ _=>rfl) h.row k hk;have p0:=hc 0 (by simp);have p1:=hc 1 (by simp);have p2:=hc 2 (by simp);have p3:=hc 3 (by simp);have p4:=hc 4 (by simp);simp only[MB.cells,Nat.add_zero,List.getElem?_cons_zero,List.getElem?_cons_succ] at p0 p1 p2 p3 p4;exact⟨g,cap,hv,bR,cZ,da,p0,p1,p2,p3,p4⟩
theorem zz1 (w:W8)(b:Nat)(cG bv tv sv:Value)(mb mt ms:List MB)(fB fT fS:Nat->V8)(hblk:w.heap[b]?=some (.cells #[cG,bv,tv,sv] 69 (0,0)))(hB:sK w (b+1) 115 5 fB bv mb)(hT:sK w (b+1) 117 9 fT tv mt)(hS:sK w (b+1) 120 185 fS sv ms)
  (ji:mb.length<=100000000) (aG:mt.length<=100000000) (Fs:ms.length<=100000000)
  (cB:∀ m∈mb,∀ w',AU w' 5 (fB m.mark) m->Calls Tryz.prog 52 #[m.agg] w' (jC w')) (cT:∀ m∈mt,∀ w',AU w' 9 (fT m.mark) m->Calls Tryz.prog 53 #[m.agg] w' (jC w')) (cS:∀ m∈ms,∀ w',AU w' 185 (fS m.mark) m->Calls Tryz.prog 54 #[m.agg] w' (jC w')):
  Calls Tryz.prog 33 #[.pointer (some ⟨b,1,none⟩)] w (jC w):=by
 obtain⟨ab,cb,rfl⟩:=zD hB.row;obtain⟨fG,ct,rfl⟩:=zD hT.row;obtain⟨as_,cs,rfl⟩:=zD hS.row;have tr:=zC hblk;have eK:=(Array.getElem?_eq_some_iff.1 hblk).1;have HB:=zC hB;have HT:=zC hT;have HS:=zC hS;have CB:=zC cB;have CT:=zC cT;have CS:=zC cS;clear hB hT hS cB cT cS hblk;go_enter Tryz.func33,Tryz.ntmps33;go_wp2_with fail
 go_loopg [3,4] mb.length (λ gg ok i wr=>∃ k:Nat,k<=mb.length/\gg=mb.length-k/\ok=.bool true/\i=.int .i64 k/\Below w.heap.size w wr)
 exact⟨0,Nat.zero_le _,rfl,rfl,rfl,Below.refl _ _⟩
 case round=>
  obtain⟨k,hk,iZ,rfl,rfl,hb⟩:=hrel;have hblk:=(hb.block b eK).trans (zA tr);have aT:=hb.size;obtain⟨x1,td⟩:=zB hblk 1
  by_cases aE:k<mb.length
  ·as_aux_lemma=>
   obtain⟨g,cap,hv,bR,cZ,da,p0,p1,p2,p3,p4⟩:=((zA HB).below hb).at_ aE;have hm:=(((zA HB).below hb).each mb[k] (List.getElem_mem aE));have hc:=zA CB mb[k] (List.getElem_mem aE) wr hm;obtain⟨a1,a2,a3,a4,n,c1,c2,c3,c4,hn,e1,e2,e3,e4⟩:=hm.shape;unfold MB.agg at hc;rw[e1,e2,e3,e4] at hc;rw[e1] at p0;rw[e2] at p1;rw[e3] at p2;rw[e4] at p3;injection hv with h1 h2 h3
   subst h1 h3;clear hm e1 e2 e3 e4 hblk;generalize mb[k].mark=mkk at *;go_wp2_with fail;refine hc.mono ?_;rintro e w1 ⟨rfl,aM⟩;have lC:=zC (hb.trans (aM.mono aT));clear aM hb hc p0 p1 p2 p3 p4 x1 td;go_wp2_with fail;go_roundg (mb.length-(k+1));exact⟨k+1,by omega,rfl,rfl,by go_num,zA lC⟩;omega
  ·clear HB CB hblk;have HH:=zC hb;clear hb;go_wp2_with fail
   go_loopg [3,6] mt.length (λ gg ok i wr=>∃ k:Nat,k<=mt.length/\gg=mt.length-k/\ok=.bool true/\i=.int .i64 k/\Below w.heap.size w wr)
   exact⟨0,Nat.zero_le _,rfl,rfl,rfl,zA HH⟩
   case round=>
    clear HH x1 td aT;obtain⟨k2,cy,Ln,rfl,rfl,hb⟩:=hrel;have hblk:=(hb.block b eK).trans (zA tr);have aT:=hb.size;obtain⟨x1,td⟩:=zB hblk 2
    by_cases hlk2:k2<mt.length
    ·as_aux_lemma=>
     obtain⟨g,cap,hv,bR,cZ,da,p0,p1,p2,p3,p4⟩:=((zA HT).below hb).at_ hlk2;have hm:=(((zA HT).below hb).each mt[k2] (List.getElem_mem hlk2));have hc:=zA CT mt[k2] (List.getElem_mem hlk2) wr hm;obtain⟨a1,a2,a3,a4,n,c1,c2,c3,c4,hn,e1,e2,e3,e4⟩:=hm.shape;unfold MB.agg at hc;rw[e1,e2,e3,e4] at hc;rw[e1] at p0;rw[e2] at p1;rw[e3] at p2;rw[e4] at p3;injection hv with h1 h2 h3
     subst h1 h3;clear hm e1 e2 e3 e4 hblk;generalize mt[k2].mark=mkk at *;go_wp2_with fail;refine hc.mono ?_;rintro e w1 ⟨rfl,aM⟩;have lC:=zC (hb.trans (aM.mono aT));clear aM hb hc p0 p1 p2 p3 p4 x1 td;go_wp2_with fail;go_roundg (mt.length-(k2+1));exact⟨k2+1,by omega,rfl,rfl,by go_num,zA lC⟩;omega
    ·clear HT CT hblk;have HH:=zC hb;clear hb;go_wp2_with fail
     go_loopg [3,8] ms.length (λ gg ok i wr=>∃ k:Nat,k<=ms.length/\gg=ms.length-k/\ok=.bool true/\i=.int .i64 k/\Below w.heap.size w wr)
     exact⟨0,Nat.zero_le _,rfl,rfl,rfl,zA HH⟩
     case round=>
      clear HH x1 td aT;obtain⟨k3,mf,XE,rfl,rfl,hb⟩:=hrel;have hblk:=(hb.block b eK).trans (zA tr);have aT:=hb.size;obtain⟨x1,td⟩:=zB hblk 3
      by_cases hlk3:k3<ms.length
      ·as_aux_lemma=>
       obtain⟨g,cap,hv,bR,cZ,da,p0,p1,p2,p3,p4⟩:=((zA HS).below hb).at_ hlk3;have hm:=(((zA HS).below hb).each ms[k3] (List.getElem_mem hlk3));have hc:=zA CS ms[k3] (List.getElem_mem hlk3) wr hm;obtain⟨a1,a2,a3,a4,n,c1,c2,c3,c4,hn,e1,e2,e3,e4⟩:=hm.shape;unfold MB.agg at hc;rw[e1,e2,e3,e4] at hc;rw[e1] at p0;rw[e2] at p1;rw[e3] at p2;rw[e4] at p3;injection hv with h1 h2 h3
       subst h1 h3;clear hm e1 e2 e3 e4 hblk;generalize ms[k3].mark=mkk at *;go_wp2_with fail;refine hc.mono ?_;rintro e w1 ⟨rfl,aM⟩;have lC:=zC (hb.trans (aM.mono aT));clear aM hb hc p0 p1 p2 p3 p4 x1 td;go_wp2_with fail;go_roundg (ms.length-(k3+1));exact⟨k3+1,by omega,rfl,rfl,by go_num,zA lC⟩;omega
      ·clear hblk;have HH:=zC hb;clear hb;go_wp2_with fail;go_ret;exact⟨rfl,zA HH⟩
end
section
open Go.RowKit Go.Maps
variable {n:Nat} {c:Int}
theorem z4l (hc:c<0)(hn:0<n):∃ k:Nat,k<n/\-(c+1).tmod n=(k:Int):=by
 obtain⟨d,hd⟩:∃ d:Nat,c+1=-(d:Int):=⟨(-(c+1)).toNat,by omega⟩;refine⟨d%n,Nat.mod_lt _ hn,?_⟩;rw[hd,Int.neg_tmod,Int.neg_neg,Int.tmod_eq_emod_of_nonneg (by omega)];simp
theorem z0t (hc:0<=c)(hn:0<n):∃ k:Nat,k<n/\c%n=(k:Int):=by
 obtain⟨d,rfl⟩:∃ d:Nat,c=(d:Int):=⟨c.toNat,by omega⟩;exact⟨d%n,Nat.mod_lt _ hn,by simp⟩
end
section
open Go.RowKit Go.Maps
theorem zw3 (w:W8)(base mk:Nat)(a1 a2 a3 a4:O8)(n1 n2 n3 n4 c1 c2 c3 c4:Nat)(h1:w.ownsRow base 185 3 (.slice a1 n1 c1) n1 (zv4 mk n1))(h2:w.ownsRow base 185 3 (.slice a2 n2 c2) n2 (zv4 mk n2))(h3:w.ownsRow base 185 3 (.slice a3 n3 c3) n3 (zv4 mk n3))(h4:w.ownsRow base 185 3 (.slice a4 n4 c4) n4 (zv4 mk n4))(tN:n1<=100000)(uC:n2<=100000)(Df:n3<=100000)(LK:n4<=100000)(pk:mk<=1000000000000):
  Calls Tryz.prog 54 #[.agg #[.slice a1 n1 c1,.slice a2 n2 c2,.slice a3 n3 c3,.slice a4 n4 c4,.int .i64 mk]] w λ e w'=>e=.returned (.bool true)/\Below w.heap.size w w':=by
 have bA:=(Below.refl w.heap.size w).alloc L9 (.cells #[.slice a1 n1 c1,.slice a2 n2 c2,.slice a3 n3 c3,.slice a4 n4 c4,.int .i64 mk] 120);have H1:=zC h1;have H2:=zC h2;have H3:=zC h3;have H4:=zC h4;clear h1 h2 h3 h4;go_enter Tryz.func54,Tryz.ntmps54;go_wp2_with fail;refine (zbn _ base mk a1 n1 c1 ((zA H1).alloc _) tN pk).mono ?_;rintro e w' ⟨rfl,rfl⟩;go_wp2_with fail;refine (zbn _ base mk a2 n2 c2 ((zA H2).alloc _) uC pk).mono ?_;rintro e w' ⟨rfl,rfl⟩;go_wp2_with fail;refine (zbn _ base mk a3 n3 c3 ((zA H3).alloc _) Df pk).mono ?_;rintro e w' ⟨rfl,rfl⟩;go_wp2_with fail;refine (zbn _ base mk a4 n4 c4 ((zA H4).alloc _) LK pk).mono ?_;rintro e w' ⟨rfl,rfl⟩;go_wp2_with fail;go_ret;exact⟨rfl,bA⟩
end
section
open Go.RowKit Go.Maps
attribute [local go_sem ↓] zcw zbe zdd qB
attribute [local go_sem] za2 zdc
def zou (No:Nat->Prop)(w:W8)(mb:Nat)(pd:B8)(hv bv:Value)(base:Nat)(ls:List (vJ × Value))(K:List (Th × Nat))(e:xF)(en:Ending)(w':W8):Prop:=
 ∃ rb xb eb,en=.returned (.func (.func 233) #[] #[.pointer (some ⟨rb,0,none⟩),.pointer (some ⟨xb,0,none⟩),.pointer (some ⟨eb,0,none⟩)])/\Below w.heap.size w w'/\Jk No w' rb xb eb mb pd hv bv base ls K e
structure Jl (No:Nat->Prop)(w:W8)(mb:Nat)(hv bv:Value)(base:Nat)(ls:List (vJ × Value))(K:List (Th × Nat)):Prop where
 l:mj w base bv ls
 m:jg w mb K
 nm:¬ No mb
 nt:∀ x∈ls,∀ g,x.2.ownBlock=some g->¬ No g
 no:∀ g,No g->g<w.heap.size
 l3:ls.length<=3
 t4:∀ x∈ls,x.1.ts.length<=4
 h:∃ a n c,hv=.slice a n c
theorem Jl.below {No:Nat->Prop}{w w':W8}{mb:Nat}{hv bv:Value}{base:Nat}{ls:List (vJ × Value)}{K:List (Th × Nat)}(h:Jl No w mb hv bv base ls K)(k:Below w.heap.size w w'):Jl No w' mb hv bv base ls K:=
 ⟨h.l.below k,h.m.block (k.block _ h.m.lt),h.nm,h.nt,λ g hg=>by have:=h.no g hg;have:=k.size;omega,h.l3,h.t4,h.h⟩
theorem zq6 (No:Nat->Prop)(w:W8)(mb:Nat)(pd:B8)(hv bv:Value)(base:Nat)(ls:List (vJ × Value))(K:List (Th × Nat))(e:xF)(h:Jl No w mb hv bv base ls K):
  Calls Tryz.prog 200 #[jV e,.agg #[.string pd,hv,bv],.map (some mb)] w (zou No w mb pd hv bv base ls K e):=by
 obtain⟨ah,nh,ch,rfl⟩:=h.h;obtain⟨ab,cb,rfl⟩:=zD h.l.row;have H:=zC h;clear h;have Sk:=zC (BV.new w e);obtain⟨cs,ll⟩:∃ cs,cs=(yF e).toArray:=⟨_,rfl⟩;unfold jV;rw[<-ll] at Sk ⊢;clear ll;go_enter Tryz.func200,Tryz.ntmps200;go_wp2_with fail;go_ret;have k0:Below w.heap.size w (((w.alloc (.cells cs 135)).alloc (.cells #[.string pd,.slice ah nh ch,.slice ab ls.length cb] 123)).alloc (.cells #[.map (some mb)] 82)):=
  (((Below.refl w.heap.size w).alloc L9 _).alloc (by simp) _).alloc (by simp only[World.size_alloc];omega) _
 have hA:=(zA H).below k0;refine⟨_,_,_,rfl,k0,⟨?_,?_,?_,hA.l,hA.m,hA.nm,hA.nt,hA.no,hA.l3,hA.t4,hA.h⟩⟩
 ·rw[Below.heap_alloc _ _ _ (by simp)];have:=heap_alloc_new (w.alloc (.cells cs 135)) (.cells #[.string pd,.slice ah nh ch,.slice ab ls.length cb] 123);rw[World.size_alloc] at this;exact this
 ·have:=heap_alloc_new ((w.alloc (.cells cs 135)).alloc (.cells #[.string pd,.slice ah nh ch,.slice ab ls.length cb] 123)) (.cells #[.map (some mb)] 82);rw[World.size_alloc,World.size_alloc] at this;exact this
 ·exact ((zA Sk).alloc _).alloc _
theorem z2d (No:Nat->Prop)(w:W8)(mb:Nat)(pd:B8)(hv bv:Value)(base:Nat)(ls:List (vJ × Value))(K:List (Th × Nat))(h:Jl No w mb hv bv base ls K):
  Calls Tryz.prog 145 #[.agg #[.string pd,hv,bv],.map (some mb)] w (zou No w mb pd hv bv base ls K []):=by
 obtain⟨ah,nh,ch,rfl⟩:=h.h;obtain⟨ab,cb,rfl⟩:=zD h.l.row;have b1:=(Below.refl w.heap.size w).alloc L9 (.cells #[.string pd,.slice ah nh ch,.slice ab ls.length cb] 123);have HC:=zC (zq6 No _ mb pd _ _ base ls K [] (h.below b1));have lC:=zC b1;clear h b1;go_enter Tryz.func145,Tryz.ntmps145;go_wp2_with (go_at_call 200;refine (zA HC).mono ?_;rintro en w1 ⟨rb,xb,eb,rfl,hb,hw⟩;have HB:=zC hb;have HW:=zC hw;clear hb hw);go_ret;exact⟨_,_,_,rfl,(zA lC).trans ((zA HB).mono (by simp)),zA HW⟩
end
section
open Go.RowKit Go.Maps
theorem z75 (r:PR):r.cells.length=3:=rfl
def kz (r:PR):j6:=⟨r.R.pd,r.R.ts⟩
structure zxz (K:List (Th × Nat))(r:PR):Prop where
 l3:r.bs.length<=3
 t4:∀ x∈r.bs,x.1.ts.length<=4
 h4:r.R.ts.length<=4
 neg:∀ e∈yY K (yZ r.bs) [],∀ x∈zbh r.bs,zhm (xZ e x)
 hd:∀ e∈yY K (yZ r.bs) [],zhm (xZ e (kz r))
 len:∀ e∈yY K (yZ r.bs) [],e.length<=12
def z86 (ds:List Nat):List Deferred:=ds.map λ D=>{ target:=.collected D,args:=#[] }
theorem zrs {No:Nat->Prop}(W:W8)(l:Nat)(o o':Obj)(h:W.heap[l]?=some o)(h1:o.isCells=false)(h2:o.isWalk=false):iT No W (W.putObj l o'):=by
 have hg:=grownBy_putObj' W l o';refine⟨hg.os,hg.tape,hg.output,hg.size,λ k ob hk _ hc=>?_⟩;rw[World.putObj_heap_other (λ e=>?_)]
 ·exact hk
 ·subst e;rw[h] at hk
  cases hk
  rcases hc with hc | hc
  ·rw[h1] at hc;cases hc
  ·rw[h2] at hc;cases hc
structure yat (ds:List Nat)(w w':W8):Prop where
 os:w'.os=w.os
 tape:w'.tape=w.tape
 output:w'.output=w.output
 size:w'.heap.size=w.heap.size
 block:∀ i,i∉ds->w'.heap[i]?=w.heap[i]?
theorem zf6 {n:Nat}{P:Program}{fn:Func}{tmps:Array Value}{R:Ending->W8->Prop}:∀ (ds:List Nat) (w:W8),ds.Nodup->(∀ D∈ds,w.heap[D]?=some (.deferred (some [])))->(∀ w',yat ds w w'->LeavesIn Fence.wide n P fn tmps R [] .returning w')->LeavesInM Fence.wide n P fn tmps R (z86 ds) .returning w
 | [],w,_,_,h=>h w ⟨rfl,rfl,rfl,rfl,λ _ _=>rfl⟩
 | D::ds,w,hn,hD,h=>by
  obtain⟨h1,h2⟩:=List.nodup_cons.1 hn;refine⟨by simp,.inl ⟨D,_,rfl,run_takeDeferred (hD D List.mem_cons_self),?_⟩⟩;refine zf6 ds _ h2 (λ E hE=>?_) (λ w' hs=>h w' ?_)
  ·rw[World.putObj_heap_other (λ e=>h1 (by rw[<-e];exact hE))];exact hD E (List.mem_cons_of_mem _ hE)
  ·have hg:=grownBy_putObj' w D (.deferred none);exact⟨hs.os.trans hg.os,hs.tape.trans hg.tape,hs.output.trans hg.output,hs.size.trans (by simp),λ i hi=>(hs.block i (λ hm=>hi (List.mem_cons_of_mem _ hm))).trans (World.putObj_heap_other (λ e=>hi (by rw[e];exact List.mem_cons_self)))⟩
variable {b:Nat} {W:W8}
theorem zwx {j:Nat}{cs:Array Value}{t:TypeId}{fr:Nat × Nat}{v:Value}(h:W.heap[b]?=some (.cells cs t fr))(hv:cs[j]?=some v):(W.setCell ⟨b,j,none⟩ v)=W:=by
 rw[setCell_eq_setRow W b j cs t fr v h];have e:cs.setIfInBounds j v=cs:=by
  apply Array.ext_getElem?;intro i;rw[Array.getElem?_setIfInBounds]
  split
  ·rename_i e;subst e;have:=(Array.getElem?_eq_some_iff.1 hv).1;rw[if_pos this,hv]
  ·rfl
 rw[e];have aG:b<W.heap.size:=(Array.getElem?_eq_some_iff.1 h).1;have hb:W.heap[b]=.cells cs t fr:=(Array.getElem?_eq_some_iff.1 h).2;unfold World.setRow
 cases W with
 | mk heap tape drawn os output=>
  congr 1
  apply Array.ext
  ·simp
  ·intro k h1 h2;simp only[Array.getElem_modify]
   split
   ·rename_i hk;subst hk;simp at hb;simp[hb]
   ·rfl
theorem BV.grown {W':W8}{e:xF}(h:BV W b e){row:Option Nat}(hg:W.grownBy W' row)(hr:∀ i,row=some i->∃ o:Obj,W.heap[i]?=some o/\o.isCells=false):BV W' b e:=
 (hg.block b h.lt (λ e1=>by obtain⟨o,ho,hc⟩:=hr b e1.symm;rw[show W.heap[b]?=_ from h] at ho;cases ho;cases hc)).trans h
end
section
open Go.RowKit Go.Maps
def z8t (rs:List PR)(TI:Th->Prop):Prop:=∀ K:List (Th × Nat),(∀ p∈K,TI p.1)->∀ r∈rs,zxz K r/\∀ e∈yY K (yZ r.bs) [],TI (xZ e (kz r))
end
section
open Go.RowKit Go.Maps
attribute [local go_sem ↓] za9 zau zat zas
attribute [local go_sem] zby zbx
def j4 (t:Th):List (Bool × B8):=t.2.map λ x=>(false,x)
def zhg (t:Th):B8:=⟨(zhu t.1 (j4 t)).toArray⟩
end
end Go.Proofs.YtldkpahaocjdpaaGreat
