/-
  The reference's parser, its small steps (fail, is, take, has, need): what each does to the parser's six cells, said over the place of the next token and the place of the first fault.
-/
import Derived.Test.YtldkpahaocjdpaaGreatE04
import Derived.Deep.RegionWith
import Derived.Deep.LoopGhost
set_option maxHeartbeats 16000000
set_option maxRecDepth 1000000
namespace Go.Proofs.YtldkpahaocjdpaaGreat
section
open Go.RowKit
structure zK (B:List Nat)(w w':W8):Prop where
 os:w'.os=w.os
 tape:w'.tape=w.tape
 output:w'.output=w.output
 size:w.heap.size<=w'.heap.size
 block:∀ k,k<w.heap.size->k∉B->w'.heap[k]?=w.heap[k]?
theorem zK.refl (B:List Nat)(w:W8):zK B w w:=⟨rfl,rfl,rfl,Nat.le_refl _,λ _ _ _=>rfl⟩
theorem zK.trans {B:List Nat}{a b c:W8}(h:zK B a b)(k:zK B b c):zK B a c:=
 ⟨k.os.trans h.os,k.tape.trans h.tape,k.output.trans h.output,Nat.le_trans h.size k.size,λ i hi hn=>(k.block i (Nat.lt_of_lt_of_le hi h.size) hn).trans (h.block i hi hn)⟩
variable {a w w':W8} {B:List Nat}
theorem zK.ak (h:zK B a w)(k:Below w.heap.size w w'):zK B a w':=
 h.trans ⟨k.os,k.tape,k.output,k.size,λ i hi _=>k.block i hi⟩
theorem zK.alloc (h:zK B a w)(o:Obj):zK B a (w.alloc o):=
 h.trans ⟨rfl,rfl,rfl,by simp,λ k hk _=>Below.heap_alloc _ _ _ hk⟩
theorem zK.drewN (h:zK B a w)(n:Nat):zK B a (w.drewN n):=⟨h.os,h.tape,h.output,h.size,h.block⟩
theorem zK.drew (h:zK B a w):zK B a w.drew:=⟨h.os,h.tape,h.output,h.size,h.block⟩
theorem zK.setCell {B:List Nat}{a w:W8}(h:zK B a w){p:Addr}(hp:p.block∈B\/a.heap.size<=p.block)(u:Value):zK B a (w.setCell p u):=
 ⟨h.os,h.tape,h.output,by have:=h.size;simpa[World.setCell] using this,λ k hk hn=>(Below.heap_setCell _ _ _ _ (by rintro rfl;rcases hp with hp | hp;exact hn hp;omega)).trans (h.block k hk hn)⟩
theorem zK.mono {C:List Nat}(h:zK B w w')(hs:∀ k,k∈B->k∈C\/w.heap.size<=k):zK C w w':=
 ⟨h.os,h.tape,h.output,h.size,λ k hk hn=>h.block k hk (λ hb=>by rcases hs k hb with h1 | h1;exact hn h1;omega)⟩
variable {p:Addr}
theorem zK.cell (h:zK B w w')(hp:p.block<w.heap.size)(hn:p.block∉B):w'.cell? p=w.cell? p:=World.cell?_of_block (w:=w) (h.block p.block hp hn)
theorem zK.frozen (h:zK B w w')(hp:p.block<w.heap.size)(hn:p.block∉B):w'.frozen? p=w.frozen? p:=World.frozen?_of_block (w:=w) (h.block p.block hp hn)
structure dS (w:W8)(b:Nat)(s:B8)(pos:Nat)(bad:Int):Prop where
 lt:b<w.heap.size
 c0:w.cell? ⟨b,0,none⟩=some (.string s)
 c1:w.cell? ⟨b,1,none⟩=some (.int .u8 (tok s pos).kind)
 c2:w.cell? ⟨b,2,none⟩=some (.string (tok s pos).text)
 c3:w.cell? ⟨b,3,none⟩=some (.int .i64 (tok s pos).at_)
 c4:w.cell? ⟨b,4,none⟩=some (.int .i64 (tok s pos).to)
 c5:w.cell? ⟨b,5,none⟩=some (.int .i64 bad)
 fz:∀ o,w.frozen? ⟨b,o,none⟩=false
variable {bad:Int} {pos b:Nat} {s:B8}
theorem dS.kept (h:dS w b s pos bad)(k:zK B w w')(hn:b∉B):dS w' b s pos bad:=
 ⟨Nat.lt_of_lt_of_le h.lt k.size,(k.cell h.lt hn).trans h.c0,(k.cell h.lt hn).trans h.c1,(k.cell h.lt hn).trans h.c2,(k.cell h.lt hn).trans h.c3,(k.cell h.lt hn).trans h.c4,(k.cell h.lt hn).trans h.c5,λ o=>(k.frozen h.lt hn).trans (h.fz o)⟩
def zaw (s:B8)(pos:Nat)(bad:Int):Int:=if bad<0 then (tok s pos).at_ else bad
theorem za0 (s:B8)(pos:Nat)(bad:Int)(b:Nat)(w:W8)(h:dS w b s pos bad):
  Calls Tryz.prog 124 #[.pointer (some ⟨b,0,none⟩)] w λ e w'=>e=.returned (.tuple #[])/\zK [b] w w'/\dS w' b s pos (zaw s pos bad):=by
 have h':=h;obtain⟨aH,c0,c1,c2,c3,c4,c5,fz⟩:=h
 by_cases hb:bad<0
 ·go_enter Tryz.func124,Tryz.ntmps124
  go_wp2
  go_end0;refine⟨rfl,(zK.refl _ _).setCell (by simp) _,⟨by simpa[World.setCell] using aH,?_,?_,?_,?_,?_,?_,?_⟩⟩
  ·go_simp
  ·go_simp
  ·go_simp
  ·go_simp
  ·go_simp
  ·rw[zaw,if_pos hb];go_simp
  ·go_simp
 ·go_enter Tryz.func124,Tryz.ntmps124
  go_wp2
  go_end0;exact⟨rfl,zK.refl _ _,by rw[zaw,if_neg (by omega)];exact h'⟩
def dZ (s:B8)(pos:Nat)(bad:Int)(wd:B8):Bool:=decide (bad<0)&&((tok s pos).kind==115&&(tok s pos).text.toList==wd.toList)
theorem zwb (s wd:B8)(pos:Nat)(bad:Int)(b:Nat)(w:W8)(h:dS w b s pos bad):
  Calls Tryz.prog 226 #[.pointer (some ⟨b,0,none⟩),.string wd] w λ e w'=>e=.returned (.bool (dZ s pos bad wd))/\w'=w:=by
 obtain⟨aH,c0,c1,c2,c3,c4,c5,fz⟩:=h
 by_cases hb:bad<0
 ·by_cases hk:((tok s pos).kind==115)=true
  ·go_enter Tryz.func226,Tryz.ntmps226
   go_wp2
   go_ret;exact⟨by simp[dZ,hb,hk],rfl⟩
  ·have sP:((tok s pos).kind==115)=false:=(by simpa using hk);clear hk;go_enter Tryz.func226,Tryz.ntmps226
   go_wp2
   go_ret;exact⟨by simp[dZ,sP],rfl⟩
 ·go_enter Tryz.func226,Tryz.ntmps226
  go_wp2
  go_ret;exact⟨by rw[dZ,decide_eq_false (by omega)];rfl,rfl⟩
def zU (s:B8)(pos:Nat)(bad:Int):Int:=if (tok s pos).kind=33\/(tok s pos).kind=46 then zaw s pos bad else bad
def zW (s:B8)(pos:Nat)(bad:Int):Nat:=if zU s pos bad<0 then (tok s pos).to else pos
theorem j7 (s:B8)(pos:Nat)(bad:Int):0<=zaw s pos bad:=by unfold zaw;split <;> omega
variable {w1:W8}
theorem zK.rules {W:W8}(hk:zK [b] W w1):(∀ n o,b<n->n<W.heap.size->w1.cell? ⟨n,o,none⟩=W.cell? ⟨n,o,none⟩)/\(∀ n o,b<n->n<W.heap.size->w1.frozen? ⟨n,o,none⟩=W.frozen? ⟨n,o,none⟩):=
 ⟨λ n o h1 h2=>hk.cell (p:=⟨n,o,none⟩) h2 (by simp;omega),λ n o h1 h2=>hk.frozen (p:=⟨n,o,none⟩) h2 (by simp;omega)⟩
theorem z93 {n:Nat}{u0 u1 u2:Value}(h0:w1.cell? ⟨n,0,none⟩=some u0)(h1:w1.cell? ⟨n,1,none⟩=some u1)(h2:w1.cell? ⟨n,2,none⟩=some u2)(v0 v1 v2:Value):
  (((w1.setCell ⟨n,0,none⟩ v0).setCell ⟨n,1,none⟩ v1).setCell ⟨n,2,none⟩ v2).cell? ⟨n,0,none⟩=some v0 /\
  (((w1.setCell ⟨n,0,none⟩ v0).setCell ⟨n,1,none⟩ v1).setCell ⟨n,2,none⟩ v2).cell? ⟨n,1,none⟩=some v1 /\
  (((w1.setCell ⟨n,0,none⟩ v0).setCell ⟨n,1,none⟩ v1).setCell ⟨n,2,none⟩ v2).cell? ⟨n,2,none⟩=some v2:=by
 refine⟨?_,?_,?_⟩ <;> go_simp
theorem zd1 (w:W8)(a b c:Value)(t:TypeId)(o:Obj)(j:Nat):((w.alloc (.cells #[a,b,c] t)).alloc o).cell? ⟨w.heap.size,j,none⟩=#[a,b,c][j]?:=by
 rw[World.cell?_alloc_past _ _ _ (by simp),World.cell?_alloc_at _ _ _ _ rfl]
theorem dS.cells (h:dS w b s pos bad):b<w.heap.size/\w.cell? ⟨b,0,none⟩=some (.string s)/\w.cell? ⟨b,1,none⟩=some (.int .u8 (tok s pos).kind)/\w.cell? ⟨b,2,none⟩=some (.string (tok s pos).text)/\w.cell? ⟨b,3,none⟩=some (.int .i64 (tok s pos).at_)/\w.cell? ⟨b,4,none⟩=some (.int .i64 (tok s pos).to)/\w.cell? ⟨b,5,none⟩=some (.int .i64 bad)/\∀ o,w.frozen? ⟨b,o,none⟩=false:=
 ⟨h.lt,h.c0,h.c1,h.c2,h.c3,h.c4,h.c5,h.fz⟩
theorem z8u (s:B8)(pos:Nat)(bad:Int)(b:Nat)(w:W8)(h:dS w b s pos bad)(hk:(tok s pos).kind=33\/(tok s pos).kind=46):
  Calls Tryz.prog 225 #[.pointer (some ⟨b,0,none⟩)] w λ e w'=>e=.returned (vH (tok s pos))/\zK [b] w w'/\dS w' b s (zW s pos bad) (zU s pos bad):=by
 have hn:=j7 s pos bad;have e1:zU s pos bad=zaw s pos bad:=by rw[zU,if_pos hk]
 have e2:zW s pos bad=pos:=by rw[zW,e1,if_neg (by omega)]
 rw[e1,e2];clear e1 e2;have h':=h;obtain⟨aH,c0,c1,c2,c3,c4,c5,fz⟩:=h;have sP:(((tok s pos).kind==33)=true)\/(((tok s pos).kind==33)=false/\((tok s pos).kind==46)=true):=by
  rcases hk with hk | hk <;> simp[hk]
 clear hk;rcases sP with hk | ⟨hk,bn⟩
 all_goals
  go_enter Tryz.func225,Tryz.ntmps225;go_wp2_with fail;refine (za0 s pos bad b _ (h'.kept (((zK.refl [] _).alloc _).alloc _) (by simp))).mono ?_;rintro e w1 ⟨rfl,aW,bI⟩;have QI:=bI;obtain⟨r1,r2⟩:=aW.rules;obtain⟨sR,d0,d1,d2,d3,d4,d5,fz1⟩:=bI;have hz:w.heap.size+1<w1.heap.size:=by have:=aW.size;simp at this;omega
  clear c0 c1 c2 c3 c4 c5 h';go_wp2_with fail;obtain⟨q0,q1,q2⟩:=z93 (w1:=w1) (n:=w.heap.size) ((r1 _ _ aH (by simp;omega)).trans (zd1 w _ _ _ _ _ 0)) ((r1 _ _ aH (by simp;omega)).trans (zd1 w _ _ _ _ _ 1)) ((r1 _ _ aH (by simp;omega)).trans (zd1 w _ _ _ _ _ 2)) (.int .u8 (tok s pos).kind) (.string (tok s pos).text) (.int .i64 (tok s pos).at_);refine bodyPost_ret (v:=vH (tok s pos)) (by simp[results,Tryz.results225,go_sem,vH,q0,q1,q2]) rfl ⟨rfl,?_,?_⟩
  ·exact ((((((zK.refl _ _).alloc _).alloc _).trans aW).setCell (.inr L9) _).setCell (.inr L9) _).setCell (.inr L9) _
  ·exact QI.kept ((((zK.refl [w.heap.size] w1).setCell (by simp) _).setCell (by simp) _).setCell (by simp) _) (by simp;omega)
theorem z5a (s:B8)(pos:Nat)(bad:Int)(b:Nat)(w:W8)(h:dS w b s pos bad)(hk:¬ ((tok s pos).kind=33\/(tok s pos).kind=46))(hb:0<=bad):
  Calls Tryz.prog 225 #[.pointer (some ⟨b,0,none⟩)] w λ e w'=>e=.returned (vH (tok s pos))/\zK [b] w w'/\dS w' b s (zW s pos bad) (zU s pos bad):=by
 have e1:zU s pos bad=bad:=by rw[zU,if_neg hk]
 have e2:zW s pos bad=pos:=by rw[zW,e1,if_neg (by omega)]
 rw[e1,e2];clear e1 e2;have h':=h;obtain⟨aH,c0,c1,c2,c3,c4,c5,fz⟩:=h;have aW:((tok s pos).kind==33)=false:=by simp;omega
 have bn:((tok s pos).kind==46)=false:=by simp;omega
 clear hk;go_enter Tryz.func225,Tryz.ntmps225;go_wp2_with fail;refine bodyPost_ret (v:=vH (tok s pos)) (by simp[results,Tryz.results225,go_sem,vH]) rfl ⟨rfl,?_,?_⟩
 ·exact ((zK.refl _ _).alloc _).alloc _
 ·exact h'.kept (((zK.refl [] _).alloc _).alloc _) (by simp)
theorem zo8 (s:B8)(i:Nat)(hi:i<=s.size)(hs:s.size<=maxLen)(w:W8):
  Calls Tryz.prog 123 #[.string s,.int .i64 i] w λ e w'=>e=.returned (.tuple #[.agg #[.int .u8 (tok s i).kind,.string (tok s i).text,.int .i64 (tok s i).at_],.int .i64 (tok s i).to])/\Below w.heap.size w w':=yav s i hi hs w
theorem zs9 (s:B8)(i:Nat)(hi:i<=s.size):(tok s i).to<=s.size:=by
 have h0:=zcz zO s i hi;have h1:=zcz xL s (skip zO s i) h0;have h2:=zcz yF s (skip zO s i) h0;unfold tok zhq;generalize skip zO s i=k at *
 split
 ·simpa using h0
 ·rename_i hk
  split
  ·split
   ·exact h1
   ·split <;> exact h1
  ·split
   ·split <;> exact h2
   ·split
    ·simp;omega
    ·split
     ·rename_i h3;simp only;unfold xA at h3
      split at h3
      ·split at h3
       ·split at h3
        ·omega
        ·simp at h3
       ·split at h3 <;> simp at h3
      ·simp at h3
     ·simp;omega
end
section
open Go.RowKit
theorem zmc {W v:W8}(h:Below W.heap.size W v):
  (∀ n o,n<W.heap.size->v.cell? ⟨n,o,none⟩=W.cell? ⟨n,o,none⟩)/\(∀ n o,n<W.heap.size->v.frozen? ⟨n,o,none⟩=W.frozen? ⟨n,o,none⟩):=by
 constructor <;> intro n o hn
 ·exact World.cell?_of_block (h.block n hn)
 ·exact World.frozen?_of_block (h.block n hn)
theorem z31 {w1:W8}{b:Nat}{s:B8}{pos pos':Nat}{bad:Int}(h:dS w1 b s pos bad):
  dS ((((w1.setCell ⟨b,1,none⟩ (.int .u8 (tok s pos').kind)).setCell ⟨b,2,none⟩ (.string (tok s pos').text)).setCell ⟨b,3,none⟩ (.int .i64 (tok s pos').at_)).setCell ⟨b,4,none⟩ (.int .i64 (tok s pos').to)) b s pos' bad:=by
 obtain⟨aH,c0,c1,c2,c3,c4,c5,fz⟩:=h;refine⟨by simpa using aH,?_,?_,?_,?_,?_,?_,?_⟩
 all_goals go_simp
theorem zl0 (w1:W8)(b:Nat)(v1 v2 v3 v4:Value):zK [b] w1 ((((w1.setCell ⟨b,1,none⟩ v1).setCell ⟨b,2,none⟩ v2).setCell ⟨b,3,none⟩ v3).setCell ⟨b,4,none⟩ v4):=
 ((((zK.refl [b] w1).setCell (by simp) _).setCell (by simp) _).setCell (by simp) _).setCell (by simp) _
theorem z5b (s:B8)(pos:Nat)(bad:Int)(b:Nat)(w:W8)(h:dS w b s pos bad)(aJ:pos<=s.size)(hs:s.size<=maxLen)(hk:¬ ((tok s pos).kind=33\/(tok s pos).kind=46))(hb:bad<0):
  Calls Tryz.prog 225 #[.pointer (some ⟨b,0,none⟩)] w λ e w'=>e=.returned (vH (tok s pos))/\zK [b] w w'/\dS w' b s (zW s pos bad) (zU s pos bad):=by
 have e1:zU s pos bad=bad:=by rw[zU,if_neg hk]
 have e2:zW s pos bad=(tok s pos).to:=by rw[zW,e1,if_pos (by omega)]
 rw[e1,e2];clear e1 e2;have EG:=zs9 s pos aJ;have h':=h;obtain⟨aH,c0,c1,c2,c3,c4,c5,fz⟩:=h;have aW:((tok s pos).kind==33)=false:=by simp;omega
 have bn:((tok s pos).kind==46)=false:=by simp;omega
 clear hk;go_enter Tryz.func225,Tryz.ntmps225;go_wp2_with fail;have eZ:∀ w1 nq,Below (((w.alloc (Obj.cells #[.int IntKind.u8 0,.string { data:=#[] },.int IntKind.i64 0] 233)).alloc (Obj.cells #[.int IntKind.u8 (tok s pos).kind,.string (tok s pos).text,.int IntKind.i64 ↑(tok s pos).at_] 233)).drewN nq).heap.size (((w.alloc (Obj.cells #[.int IntKind.u8 0,.string { data:=#[] },.int IntKind.i64 0] 233)).alloc (Obj.cells #[.int IntKind.u8 (tok s pos).kind,.string (tok s pos).text,.int IntKind.i64 ↑(tok s pos).at_] 233)).drewN nq) w1->dS w1 b s pos bad:=
  λ w1 nq hb=>h'.kept (((((zK.refl [] _).alloc _).alloc _).drewN _).ak hb) (by simp)
 have HP:=zC eZ;clear eZ
 go_region_with (go_at_call 123;refine (zo8 s (tok s pos).to EG hs _).mono ?_;rintro e w1 ⟨rfl,aL⟩;obtain⟨Qo,x0,x1,x2,x3,x4,x5,Xi⟩:=(zA HP w1 1 aL).cells)
 all_goals
  obtain⟨r1,r2⟩:=zmc aL;have hz:w.heap.size+1<w1.heap.size:=by have:=aL.size;simp at this;omega
  have Uj:=zA HP w1 1 aL;have Wv:=zC (z31 (pos':=(tok s pos).to) Uj);have HK:=zC (zl0 w1 b (.int .u8 (tok s (tok s pos).to).kind) (.string (tok s (tok s pos).to).text) (.int .i64 (tok s (tok s pos).to).at_) (.int .i64 (tok s (tok s pos).to).to));clear HP Uj;go_wp2_with fail;obtain⟨k1,_⟩:=(zA HK).rules;obtain⟨q0,q1,q2⟩:=z93 (w1:=(((w1.setCell ⟨b,1,none⟩ (.int .u8 (tok s (tok s pos).to).kind)).setCell ⟨b,2,none⟩ (.string (tok s (tok s pos).to).text)).setCell ⟨b,3,none⟩ (.int .i64 (tok s (tok s pos).to).at_)).setCell ⟨b,4,none⟩ (.int .i64 (tok s (tok s pos).to).to)) (n:=w.heap.size) ((k1 _ _ aH (by omega)).trans ((r1 _ _ (by simp;omega)).trans (zd1 w _ _ _ _ _ 0))) ((k1 _ _ aH (by omega)).trans ((r1 _ _ (by simp;omega)).trans (zd1 w _ _ _ _ _ 1))) ((k1 _ _ aH (by omega)).trans ((r1 _ _ (by simp;omega)).trans (zd1 w _ _ _ _ _ 2))) (.int .u8 (tok s pos).kind) (.string (tok s pos).text) (.int .i64 (tok s pos).at_);refine bodyPost_ret (v:=vH (tok s pos)) (by simp[results,Tryz.results225,go_sem,vH,q0,q1,q2]) rfl ⟨rfl,?_,?_⟩
  ·exact ((((((((zK.refl [b] w).alloc _).alloc _).drewN 1).ak aL).trans (zA HK)).setCell (.inr L9) _).setCell (.inr L9) _).setCell (.inr L9) _
  ·exact (zA Wv).kept ((((zK.refl [w.heap.size] _).setCell (by simp) _).setCell (by simp) _).setCell (by simp) _) (by simp;omega)
theorem jQ (s:B8)(pos:Nat)(bad:Int)(b:Nat)(w:W8)(h:dS w b s pos bad)(aJ:pos<=s.size)(hs:s.size<=maxLen):
  Calls Tryz.prog 225 #[.pointer (some ⟨b,0,none⟩)] w λ e w'=>e=.returned (vH (tok s pos))/\zK [b] w w'/\dS w' b s (zW s pos bad) (zU s pos bad):=by
 by_cases hk:(tok s pos).kind=33\/(tok s pos).kind=46
 ·exact z8u s pos bad b w h hk
 ·by_cases hb:0<=bad
  ·exact z5a s pos bad b w h hk hb
  ·exact z5b s pos bad b w h aJ hs hk (by omega)
theorem zR (s:B8)(pos:Nat)(bad:Int)(aJ:pos<=s.size):zW s pos bad<=s.size:=by
 unfold zW;split
 ·exact zs9 s pos aJ
 ·exact aJ
def vF (s:B8)(pos:Nat)(bad:Int)(wd:B8):Nat:=if dZ s pos bad wd then zW s pos bad else pos
def vO (s:B8)(pos:Nat)(bad:Int)(wd:B8):Int:=if dZ s pos bad wd then zU s pos bad else bad
theorem zao (s wd:B8)(pos:Nat)(bad:Int)(b:Nat)(w:W8)(h:dS w b s pos bad)(aJ:pos<=s.size)(hs:s.size<=maxLen):
  Calls Tryz.prog 185 #[.pointer (some ⟨b,0,none⟩),.string wd] w λ e w'=>e=.returned (.bool (dZ s pos bad wd))/\zK [b] w w'/\dS w' b s (vF s pos bad wd) (vO s pos bad wd):=by
 by_cases hi:dZ s pos bad wd=true
 ·rw[vF,vO,if_pos hi,if_pos hi];go_enter Tryz.func185,Tryz.ntmps185;go_wp2_with fail;refine (zwb s wd pos bad b _ h).mono ?_;rintro e w1 ⟨rfl,rfl⟩;go_wp2_with fail;refine (jQ s pos bad b _ h aJ hs).mono ?_;rintro e w1 ⟨rfl,aW,bI⟩;go_wp2_with fail;go_ret;exact⟨by rw[hi];rfl,aW,bI⟩
 ·have ve:dZ s pos bad wd=false:=by simpa using hi
  rw[vF,vO,if_neg hi,if_neg hi];clear hi;go_enter Tryz.func185,Tryz.ntmps185;go_wp2_with fail;refine (zwb s wd pos bad b _ h).mono ?_;rintro e w1 ⟨rfl,rfl⟩;go_wp2_with fail;go_ret;exact⟨by rw[ve];rfl,zK.refl _ _,h⟩
def xM (s:B8)(pos:Nat)(bad:Int)(wd:B8):Int:=if dZ s pos bad wd then bad else zaw s pos bad
theorem za8 (s wd:B8)(pos:Nat)(bad:Int)(b:Nat)(w:W8)(h:dS w b s pos bad)(aJ:pos<=s.size)(hs:s.size<=maxLen):
  Calls Tryz.prog 187 #[.pointer (some ⟨b,0,none⟩),.string wd] w λ e w'=>e=.returned (.tuple #[])/\zK [b] w w'/\dS w' b s (zW s pos (xM s pos bad wd)) (zU s pos (xM s pos bad wd)):=by
 by_cases hi:dZ s pos bad wd=true
 ·rw[xM,if_pos hi];go_enter Tryz.func187,Tryz.ntmps187;go_wp2_with fail;refine (zwb s wd pos bad b _ h).mono ?_;rintro e w1 ⟨rfl,rfl⟩;go_wp2_with fail;refine (jQ s pos bad b _ h aJ hs).mono ?_;rintro e w1 ⟨rfl,aW,bI⟩;go_wp2_with fail;go_end0;exact⟨rfl,aW,bI⟩
 ·have ve:dZ s pos bad wd=false:=by simpa using hi
  rw[xM,if_neg hi];clear hi;go_enter Tryz.func187,Tryz.ntmps187;go_wp2_with fail;refine (zwb s wd pos bad b _ h).mono ?_;rintro e w1 ⟨rfl,rfl⟩;go_wp2_with fail;refine (za0 s pos bad b _ h).mono ?_;rintro e w1 ⟨rfl,aW,bI⟩;go_wp2_with fail;refine (jQ s pos _ b _ bI aJ hs).mono ?_;rintro e w2 ⟨rfl,bn,eZ⟩;go_wp2_with fail;go_end0;exact⟨rfl,aW.trans bn,eZ⟩
end
section
open Go.RowKit
structure xD where
 text:B8
 isVar:Bool
 at_:Nat
structure zL where
 pred:B8
 ae:List xD
 no:Bool
 at_:Nat
 az:Nat
def xD.cells (t:xD):V8:=[.string t.text,.bool t.isVar,.int .i64 t.at_]
abbrev chr (c:UInt8):B8:={ data:=#[c] }
def zQ (s:B8)(pos:Nat)(bad:Int)(n:Nat):Int:=
 if ((tok s pos).kind != 110&&(tok s pos).kind != 118)||n==4 then zaw s pos bad else bad
def z7 (s:B8)(pos:Nat):xD:=⟨(tok s pos).text,(tok s pos).kind==118,(tok s pos).at_⟩
def qG (s:B8):Nat->Nat->Int->List xD->List xD × Nat × Int
 | 0,pos,bad,l=>(l,pos,bad)
 | f+1,pos,bad,l=>
  let bad1:=zQ s pos bad l.length
  let pos2:=zW s pos bad1
  let bad2:=zU s pos bad1
  let pos3:=vF s pos2 bad2 (chr 44)
  let bad3:=vO s pos2 bad2 (chr 44)
  if dZ s pos2 bad2 (chr 44) then qG s f pos3 bad3 (l++[z7 s pos])
  else (l++[z7 s pos],zW s pos3 (xM s pos3 bad3 (chr 41)),zU s pos3 (xM s pos3 bad3 (chr 41)))
def z6 (s:B8)(pos:Nat)(bad:Int):Int:=if (tok s pos).kind != 110 then zaw s pos bad else bad
def zc9 (s:B8)(pos:Nat)(bad:Int):Nat:=zW s pos (z6 s pos bad)
def zaj (s:B8)(pos:Nat)(bad:Int):Int:=zU s pos (z6 s pos bad)
def zH (s:B8)(pos:Nat)(bad:Int):List xD × Nat × Int:=
 if dZ s (zc9 s pos bad) (zaj s pos bad) (chr 40) then
  qG s 5 (vF s (zc9 s pos bad) (zaj s pos bad) (chr 40)) (vO s (zc9 s pos bad) (zaj s pos bad) (chr 40)) []
 else ([],vF s (zc9 s pos bad) (zaj s pos bad) (chr 40),vO s (zc9 s pos bad) (zaj s pos bad) (chr 40))
variable {wd s:B8} {bad:Int} {pos:Nat}
theorem z2s (h:dZ s pos bad wd=true):bad<0:=by
 unfold dZ at h;simp at h;exact h.1
theorem jL (h:0<=bad):0<=zU s pos bad:=by
 unfold zU;split
 ·exact j7 _ _ _
 ·exact h
theorem vT (h:pos<=s.size):vF s pos bad wd<=s.size:=by
 unfold vF;split
 ·exact zR s pos bad h
 ·exact h
theorem yee:dZ s (zW s pos (zQ s pos bad 4)) (zU s pos (zQ s pos bad 4)) wd=false:=by
 cases h:dZ s (zW s pos (zQ s pos bad 4)) (zU s pos (zQ s pos bad 4)) wd with
 | false=>rfl
 | true=>
  have h1:=z2s h;have h2:0<=zQ s pos bad 4:=by simp[zQ];exact j7 _ _ _
  have h3:=jL (s:=s) (pos:=pos) h2;omega
structure BP (w:W8)(n:Nat)(pred:B8)(v:Value)(no:Bool)(at_ az:Nat):Prop where
 c0:w.cell? ⟨n,0,none⟩=some (.string pred)
 c1:w.cell? ⟨n,1,none⟩=some v
 c2:w.cell? ⟨n,2,none⟩=some (.bool no)
 c3:w.cell? ⟨n,3,none⟩=some (.int .i64 at_)
 c4:w.cell? ⟨n,4,none⟩=some (.int .i64 az)
 fz:∀ o,w.frozen? ⟨n,o,none⟩=false
variable {v:Value} {n:Nat} {w w':W8} {B:List Nat}
theorem BP.kept {pred:B8}{no:Bool}{at_ az:Nat}(h:BP w n pred v no at_ az)(k:zK B w w')(aH:n<w.heap.size)(hn:n∉B):BP w' n pred v no at_ az:=
 ⟨(k.cell aH hn).trans h.c0,(k.cell aH hn).trans h.c1,(k.cell aH hn).trans h.c2,(k.cell aH hn).trans h.c3,(k.cell aH hn).trans h.c4,λ o=>(k.frozen aH hn).trans (h.fz o)⟩
variable {row:Option Nat}
theorem zK.grown {a:W8}(h:zK B a w)(hg:w.grownBy w' row)(hr:∀ k,row=some k->a.heap.size<=k\/k∈B):zK B a w':=
 ⟨hg.os.trans h.os,hg.tape.trans h.tape,hg.output.trans h.output,Nat.le_trans h.size hg.size,λ k hk hn=>(hg.block k (Nat.lt_of_lt_of_le hk h.size) (λ e=>by rcases hr k e.symm with h1 | h1;omega;exact hn h1)).trans (h.block k hk hn)⟩
theorem zK.aR (hg:w.grownBy w' row):zK row.toList w w':=
 (zK.refl _ _).grown hg (λ k e=>.inr (by simp[e]))
variable {xs:V8} {size base:Nat} {e:TypeId}
theorem yI (h:w.ownsRow base e size v n xs)(k:zK B w w')(hB:∀ x∈B,x<base):w'.ownsRow base e size v n xs:=by
 refine⟨h.1,?_⟩;rcases h.2 with hn | ⟨g,cap,cur,rfl,hb,bS,rest⟩
 ·exact .inl hn
 ·refine .inr ⟨g,cap,cur,rfl,hb,?_,rest⟩;rw[k.block g (Array.getElem?_eq_some_iff.1 bS).1 (λ hm=>by have:=hB g hm;omega)];exact bS
def cellsOf (l:List xD):V8:=l.flatMap xD.cells
theorem zjn (l:List xD)(t:xD):cellsOf (l++[t])=cellsOf l++t.cells:=by simp[cellsOf]
structure ud (w:W8)(b:Nat)(s text:B8)(at_:Nat)(l:List xD)(p:Nat)(bd:Int)(v:Value)(wr:W8):Prop where
 bq:dS wr b s p bd
 hp:p<=s.size
 kept:zK [b] w wr
 ac:BP wr (w.heap.size+1) text v false at_ 0
 rc:BP wr w.heap.size { data:=#[] } (.slice none 0 0) false 0 0
 sz:w.heap.size+2<=wr.heap.size
 own:wr.ownsRow (w.heap.size+2) 317 3 v l.length (cellsOf l)
 blt:b<w.heap.size
variable {wr w1:W8} {bd:Int} {p b:Nat} {l:List xD}
theorem ud.call {text:B8}{at_ p':Nat}{D5:Int}(h:ud w b s text at_ l p bd v wr)(k:zK [b] wr w1)(hp:dS w1 b s p' D5)(hl:p'<=s.size):ud w b s text at_ l p' D5 v w1:=
 have aH:=h.blt;have bj:=h.sz
 ⟨hp,hl,h.kept.trans k,h.ac.kept k (by omega) (by simp;omega),h.rc.kept k (by omega) (by simp;omega),Nat.le_trans h.sz k.size,yI h.own k (by simp;omega),h.blt⟩
theorem ud.append {text:B8}{at_:Nat}{w5:W8}(h:ud w b s text at_ l p bd v w1){o1 o2:Obj}{v':Value}(t:xD)
  (ay:w5.ownsRow (w.heap.size+2) 317 3 v' (l.length+1) (cellsOf l++t.cells)) (hg:((w1.alloc o1).alloc o2).grownBy w5 v.ownBlock):
  ud w b s text at_ (l++[t]) p bd v' (w5.setCell ⟨w.heap.size+1,1,none⟩ v')/\BP w5 (w.heap.size+1) text v false at_ 0:=by
 have aH:=h.blt;have bj:=h.sz;have aB:∀ k,v.ownBlock=some k->w.heap.size+2<=k:=λ k e=>(h.own.lt k e).1
 have k5:zK v.ownBlock.toList w1 w5:=(((zK.refl _ w1).alloc o1).alloc o2).grown hg (λ k e=>.inr (by simp[e]));have kR:∀ k,k<w.heap.size+2->k∉v.ownBlock.toList:=by
  intro k hk hm
  cases hv:v.ownBlock with
  | none=>simp[hv] at hm
  | some x=>simp[hv] at hm;have:=aB x hv;omega
 have a5:=h.ac.kept k5 (by omega) (kR _ (by omega));refine⟨⟨?_,h.hp,?_,?_,?_,?_,?_,h.blt⟩,a5⟩
 ·exact (h.bq.kept k5 (kR _ (by omega))).kept ((zK.refl [w.heap.size+1] _).setCell (by simp) _) (by simp;omega)
 ·exact ((((h.kept.alloc o1).alloc o2).grown hg (λ k e=>.inl (by have:=aB k e;omega)))).setCell (.inr (by simp)) _
 ·obtain⟨x0,x1,x2,x3,x4,xf⟩:=a5;exact⟨by go_simp,by go_simp,by go_simp,by go_simp,by go_simp,by go_simp⟩
 ·exact (h.rc.kept k5 (by omega) (kR _ (by omega))).kept ((zK.refl [w.heap.size+1] _).setCell (by simp) _) (by have:=k5.size;omega) (by simp)
 ·have:=k5.size;simp;omega
 ·rw[zjn,List.length_append];exact ownsRow_setCell_below ay (by simp) _
theorem zm0 (s:B8)(p:Nat)(bd:Int)(l:List xD)(h:l.length<=4):qG s (5-l.length) p bd l =
  if dZ s (zW s p (zQ s p bd l.length)) (zU s p (zQ s p bd l.length)) { data:=#[44] } then
   qG s (5-(l++[z7 s p]).length) (vF s (zW s p (zQ s p bd l.length)) (zU s p (zQ s p bd l.length)) { data:=#[44] }) (vO s (zW s p (zQ s p bd l.length)) (zU s p (zQ s p bd l.length)) { data:=#[44] }) (l++[z7 s p])
  else (l++[z7 s p],zW s (vF s (zW s p (zQ s p bd l.length)) (zU s p (zQ s p bd l.length)) { data:=#[44] }) (xM s (vF s (zW s p (zQ s p bd l.length)) (zU s p (zQ s p bd l.length)) { data:=#[44] }) (vO s (zW s p (zQ s p bd l.length)) (zU s p (zQ s p bd l.length)) { data:=#[44] }) { data:=#[41] }),zU s (vF s (zW s p (zQ s p bd l.length)) (zU s p (zQ s p bd l.length)) { data:=#[44] }) (xM s (vF s (zW s p (zQ s p bd l.length)) (zU s p (zQ s p bd l.length)) { data:=#[44] }) (vO s (zW s p (zQ s p bd l.length)) (zU s p (zQ s p bd l.length)) { data:=#[44] }) { data:=#[41] })):=by
 have e1:5-l.length=(4-l.length)+1:=by omega
 have e2:5-(l++[z7 s p]).length=4-l.length:=by simp
 rw[e1,e2,qG]
theorem zD (h:w.ownsRow base e size v n xs):∃ a cap,v=.slice a n cap:=by
 rcases h.2 with⟨rfl,rfl⟩ | ⟨g,cap,cur,rfl,_⟩
 ·exact⟨none,0,rfl⟩
 ·exact⟨_,_,rfl⟩
theorem zri (s:B8)(p:Nat)(bd:Int)(l:List xD):(((tok s p).kind != 110)=true/\((tok s p).kind != 118)=true/\zQ s p bd l.length=zaw s p bd) \/
  (((tok s p).kind != 110)=false/\((l.length:Int)==4)=true/\zQ s p bd l.length=zaw s p bd) \/
  (((tok s p).kind != 110)=true/\((tok s p).kind != 118)=false/\((l.length:Int)==4)=true/\zQ s p bd l.length=zaw s p bd) \/
  (((tok s p).kind != 110)=false/\((l.length:Int)==4)=false/\zQ s p bd l.length=bd) \/
  (((tok s p).kind != 110)=true/\((tok s p).kind != 118)=false/\((l.length:Int)==4)=false/\zQ s p bd l.length=bd):=by
 have e:((l.length:Int)==4)=(l.length==4):=by
  rw[Bool.eq_iff_iff];simp;omega
 rw[e];unfold zQ
 cases (tok s p).kind != 110 <;> cases (tok s p).kind != 118 <;> cases l.length==4 <;> simp
theorem zdq (h4:l.length<=4)(h:dZ s (zW s p (zQ s p bd l.length)) (zU s p (zQ s p bd l.length)) wd=true):l.length+1<=4:=by
 rcases Nat.lt_or_ge l.length 4 with h1 | h1
 ·omega
 ·have e:l.length=4:=by omega
  rw[e,yee] at h
  cases h
theorem z8l {u0 u1 u2 u3 u4:Value}(h0:w1.cell? ⟨n,0,none⟩=some u0)(h1:w1.cell? ⟨n,1,none⟩=some u1)(h2:w1.cell? ⟨n,2,none⟩=some u2)(h3:w1.cell? ⟨n,3,none⟩=some u3)(h4:w1.cell? ⟨n,4,none⟩=some u4)(v0 v1 v2 v3 v4:Value):
  (((((w1.setCell ⟨n,0,none⟩ v0).setCell ⟨n,1,none⟩ v1).setCell ⟨n,2,none⟩ v2).setCell ⟨n,3,none⟩ v3).setCell ⟨n,4,none⟩ v4).cell? ⟨n,0,none⟩=some v0 /\
  (((((w1.setCell ⟨n,0,none⟩ v0).setCell ⟨n,1,none⟩ v1).setCell ⟨n,2,none⟩ v2).setCell ⟨n,3,none⟩ v3).setCell ⟨n,4,none⟩ v4).cell? ⟨n,1,none⟩=some v1 /\
  (((((w1.setCell ⟨n,0,none⟩ v0).setCell ⟨n,1,none⟩ v1).setCell ⟨n,2,none⟩ v2).setCell ⟨n,3,none⟩ v3).setCell ⟨n,4,none⟩ v4).cell? ⟨n,2,none⟩=some v2 /\
  (((((w1.setCell ⟨n,0,none⟩ v0).setCell ⟨n,1,none⟩ v1).setCell ⟨n,2,none⟩ v2).setCell ⟨n,3,none⟩ v3).setCell ⟨n,4,none⟩ v4).cell? ⟨n,3,none⟩=some v3 /\
  (((((w1.setCell ⟨n,0,none⟩ v0).setCell ⟨n,1,none⟩ v1).setCell ⟨n,2,none⟩ v2).setCell ⟨n,3,none⟩ v3).setCell ⟨n,4,none⟩ v4).cell? ⟨n,4,none⟩=some v4:=by
 refine⟨?_,?_,?_,?_,?_⟩ <;> go_simp
theorem zpi (w1:W8)(n:Nat)(v0 v1 v2 v3 v4:Value):zK [n] w1 (((((w1.setCell ⟨n,0,none⟩ v0).setCell ⟨n,1,none⟩ v1).setCell ⟨n,2,none⟩ v2).setCell ⟨n,3,none⟩ v3).setCell ⟨n,4,none⟩ v4):=
 (((((zK.refl [n] w1).setCell (by simp) _).setCell (by simp) _).setCell (by simp) _).setCell (by simp) _).setCell (by simp) _
theorem zG {base':Nat}(h:w.ownsRow base e size v n xs)(hb:base'<=base):w.ownsRow base' e size v n xs:=by
 refine⟨h.1,?_⟩;rcases h.2 with hn | ⟨g,cap,cur,rfl,gj,rest⟩
 ·exact .inl hn
 ·exact .inr ⟨g,cap,cur,rfl,by omega,rest⟩
theorem ud.ends {text:B8}{at_:Nat}(h:ud w b s text at_ l p bd v wr)(k:zK [w.heap.size] wr w'):
  zK [b] w w'/\dS w' b s p bd/\p<=s.size/\w'.ownsRow w.heap.size 317 3 v l.length (cellsOf l):=by
 have aH:=h.blt;refine⟨⟨k.os.trans h.kept.os,k.tape.trans h.kept.tape,k.output.trans h.kept.output,Nat.le_trans h.kept.size k.size,λ i hi hn=>(k.block i (Nat.lt_of_lt_of_le hi h.kept.size) (by simp;omega)).trans (h.kept.block i hi hn)⟩,h.bq.kept k (by simp;omega),h.hp,zG (yI h.own k (by simp)) (by omega)⟩
end
section
open Go.RowKit
theorem zph:(Tryz.prog.info? 317).map (λ i=>(i.zero,i.size,i.bytes))=some (some (.agg #[.string { data:=#[] },.bool false,.int .i64 0]),3,32):=by kernel_rfl
theorem z2a (x y z:Value)(w:W8):Sem.run Tryz.prog (Instr.field 233 (.agg #[x,y,z]) 1) w=.ok y w:=by kernel_rfl
theorem zai (w1:W8)(o:Obj)(t:xD)(j:Nat)(u:Value)(h:t.cells[j]?=some u):((w1.alloc o).alloc (Obj.cells #[.string t.text,.bool t.isVar,.int IntKind.i64 ↑t.at_] 317)).cell? ((⟨w1.heap.size+1,0,none⟩:Addr).add j)=some u:=by
 have e:(⟨w1.heap.size+1,0,none⟩:Addr).add j=⟨w1.heap.size+1,j,none⟩:=by unfold Addr.add;split <;> simp_all
 rw[e,World.cell?_alloc_at _ _ _ _ (by simp)];simpa[xD.cells] using h
theorem zbq (t:xD):∀ u∈t.cells,u.oneCell'=true:=by
 intro u hu;simp[xD.cells] at hu;rcases hu with rfl | rfl | rfl <;> rfl
theorem znx {s:B8}{pos b:Nat}{w w1 w2:W8}{p3:Nat}{b3:Int}(aH:b<w.heap.size)(sW:p3<=s.size)
  (aW:zK [b] ((w.alloc (Obj.cells #[.string { data:=#[] },.slice none 0 0,.bool false,.int IntKind.i64 0,.int IntKind.i64 0] 243)).alloc (Obj.cells #[.string { data:=#[] },.slice none 0 0,.bool false,.int IntKind.i64 ↑(tok s pos).at_,.int IntKind.i64 0] 243)) w1)
  (bn:zK [b] (w1.setCell ⟨w.heap.size+1,0,none⟩ (.string (tok s pos).text)) w2) (eZ:dS w2 b s p3 b3):ud w b s (tok s pos).text (tok s pos).at_ [] p3 b3 (.slice none 0 0) w2:=by
 have aY:=aW.size;have bg:=bn.size;simp at aY bg;have hx:zK [b] w w2:=(((((zK.refl [b] w).alloc _).alloc _).trans aW).setCell (.inr (by simp)) _).trans bn;refine⟨eZ,sW,hx,?_,?_,by omega,World.ownsRow_nil _ _ _ _,aH⟩
 ·have a1:BP w1 (w.heap.size+1) { data:=#[] } (.slice none 0 0) false (tok s pos).at_ 0:=by
   refine BP.kept ⟨?_,?_,?_,?_,?_,?_⟩ aW (by simp) (by simp;omega)
   all_goals first | (rw[World.cell?_alloc_at _ _ _ _ (by simp)];rfl) | (intro o;rw[World.frozen?_alloc_at _ _ _ _ (by simp)])
  have a2:BP (w1.setCell ⟨w.heap.size+1,0,none⟩ (.string (tok s pos).text)) (w.heap.size+1) (tok s pos).text (.slice none 0 0) false (tok s pos).at_ 0:=by
   obtain⟨x0,x1,x2,x3,x4,xf⟩:=a1;exact⟨by go_simp,by go_simp,by go_simp,by go_simp,by go_simp,by go_simp⟩
  exact a2.kept bn (by simp;omega) (by simp;omega)
 ·have a1:BP w1 w.heap.size { data:=#[] } (.slice none 0 0) false 0 0:=by
   refine BP.kept ⟨?_,?_,?_,?_,?_,?_⟩ aW (by simp;omega) (by simp;omega)
   all_goals first | (rw[World.cell?_alloc_past _ _ _ (by simp),World.cell?_alloc_at _ _ _ _ rfl];rfl) | (intro o;rw[World.frozen?_alloc_past _ _ _ (by simp),World.frozen?_alloc_at _ _ _ _ rfl])
  exact (a1.kept ((zK.refl [w.heap.size+1] _).setCell (by simp) _) (by omega) (by simp)).kept bn (by simp;omega) (by simp;omega)
end
section
open Go.RowKit
theorem z1b (s:B8)(pos:Nat)(bad:Int)(b:Nat)(w:W8)(h:dS w b s pos bad)(aJ:pos<=s.size)(hs:s.size<=maxLen)(sP:((tok s pos).kind != 110)=false):
  Calls Tryz.prog 184 #[.pointer (some ⟨b,0,none⟩)] w λ e w'=>∃ v,e=.returned (.agg #[.string (tok s pos).text,v,.bool false,.int .i64 (tok s pos).at_,.int .i64 0])/\zK [b] w w'/\dS w' b s (zH s pos bad).2.1 (zH s pos bad).2.2/\(zH s pos bad).2.1<=s.size/\w'.ownsRow w.heap.size 317 3 v (zH s pos bad).1.length (cellsOf (zH s pos bad).1):=by
 obtain⟨i0,hi,bL,aY,bg⟩:=info_parts zph;have f93:=z2a;have h':=h;obtain⟨aH,c0,c1,c2,c3,c4,c5,fz⟩:=h;have hB:z6 s pos bad=bad:=by simp[z6,sP]
 go_enter Tryz.func184,Tryz.ntmps184;have HB:=zC hB;clear hB;go_wp2_with fail;have Ui:dS ((w.alloc (Obj.cells #[.string { data:=#[] },.slice none 0 0,.bool false,.int IntKind.i64 0,.int IntKind.i64 0] 243)).alloc (Obj.cells #[.string { data:=#[] },.slice none 0 0,.bool false,.int IntKind.i64 ↑(tok s pos).at_,.int IntKind.i64 0] 243)) b s pos (z6 s pos bad):=by
  rw[zA HB];exact h'.kept (((zK.refl [] _).alloc _).alloc _) (by simp)
 refine (jQ s pos (z6 s pos bad) b _ Ui aJ hs).mono ?_;rintro e w1 ⟨rfl,aW,bI⟩;unfold vH;obtain⟨r1,r2⟩:=aW.rules;have hz:w.heap.size+1<w1.heap.size:=by have:=aW.size;simp at this;omega
 go_wp2_with fail;clear f93;refine (zao s _ _ _ b _ (bI.kept ((zK.refl [w.heap.size+1] _).setCell (by simp) _) (by simp;omega)) (zR _ _ _ aJ) hs).mono ?_;rintro e w2 ⟨rfl,bn,eZ⟩;have aP:=znx aH (vT (zR _ _ _ aJ)) aW bn eZ;have n9:zH s pos bad=if dZ s (zW s pos (z6 s pos bad)) (zU s pos (z6 s pos bad)) { data:=#[40] } then qG s 5 (vF s (zW s pos (z6 s pos bad)) (zU s pos (z6 s pos bad)) { data:=#[40] }) (vO s (zW s pos (z6 s pos bad)) (zU s pos (z6 s pos bad)) { data:=#[40] }) [] else ([],vF s (zW s pos (z6 s pos bad)) (zU s pos (z6 s pos bad)) { data:=#[40] },vO s (zW s pos (z6 s pos bad)) (zU s pos (z6 s pos bad)) { data:=#[40] }):=rfl;clear aW bn bI eZ r1 r2 c0 c1 c2 c3 c4 c5 fz h' HB sP hz;generalize vF s (zW s pos (z6 s pos bad)) (zU s pos (z6 s pos bad)) { data:=#[40] }=p3 at *;generalize vO s (zW s pos (z6 s pos bad)) (zU s pos (z6 s pos bad)) { data:=#[40] }=b3 at *;generalize dZ s (zW s pos (z6 s pos bad)) (zU s pos (z6 s pos bad)) { data:=#[40] }=o3 at *;have HR:=zC n9;clear n9;go_wp2_with fail
 go_loopg [4] 7 (λ g op wr=>∃ (l:List xD) (p:Nat) (bd:Int) (o:Bool) (v:Value),op=.bool o/\(o=true->l.length<=4)/\(if o then 7-l.length else 0)<=g/\ud w b s (tok s pos).text (tok s pos).at_ l p bd v wr/\zH s pos bad=(if o then qG s (5-l.length) p bd l else (l,p,bd)))
 exact⟨[],p3,b3,o3,_,rfl,by simp,by split <;> simp,aP,zA HR⟩
 case round=>
  clear HR aP;obtain⟨l,p,bd,o,v,rfl,El,hg,hinv,aE⟩:=hrel;have HF:=zC aE;clear aE;obtain⟨a0,cH,rfl⟩:=zD hinv.own;have sY:=hinv.bq;have bt:=hinv.hp;have bj:=hinv.sz
  cases o with
  | false=>
   obtain⟨x0,x1,x2,x3,x4,xf⟩:=hinv.ac;obtain⟨y0,y1,y2,y3,y4,yf⟩:=hinv.rc;clear El;go_wp2_with fail;obtain⟨q0,q1,q2,q3,q4⟩:=z8l y0 y1 y2 y3 y4 (.string (tok s pos).text) (.slice a0 l.length cH) (.bool false) (.int .i64 (tok s pos).at_) (.int .i64 0);have mN:=hinv.ends (zpi wr w.heap.size (.string (tok s pos).text) (.slice a0 l.length cH) (.bool false) (.int .i64 (tok s pos).at_) (.int .i64 0));have hF:zH s pos bad=(l,p,bd):=zA HF;refine bodyPost_ret (v:=.agg #[.string (tok s pos).text,.slice a0 l.length cH,.bool false,.int .i64 (tok s pos).at_,.int .i64 0]) (by simp[results,Tryz.results184,go_sem,q0,q1,q2,q3,q4]) rfl ⟨.slice a0 l.length cH,rfl,?_⟩;rw[hF];exact mN
  | true=>
   have lA:l.length<=4:=El rfl;clear El;have aP:=zm0 s p bd l lA;have aC:=zC ((zA HF).trans aP);clear HF aP;have Qe:(l.length:Int)<=4:=(by omega);obtain⟨Gg,c0,c1,c2,c3,c4,c5,fz⟩:=hinv.bq;obtain⟨x0,x1,x2,x3,x4,xf⟩:=hinv.ac;have FK:(((tok s p).kind != 110)=true/\((tok s p).kind != 118)=true/\zQ s p bd l.length=zaw s p bd) \/
     (((tok s p).kind != 110)=false/\((l.length:Int)==4)=true/\zQ s p bd l.length=zaw s p bd) \/
     (((tok s p).kind != 110)=true/\((tok s p).kind != 118)=false/\((l.length:Int)==4)=true/\zQ s p bd l.length=zaw s p bd) \/
     (((tok s p).kind != 110)=false/\((l.length:Int)==4)=false/\zQ s p bd l.length=bd) \/
     (((tok s p).kind != 110)=true/\((tok s p).kind != 118)=false/\((l.length:Int)==4)=false/\zQ s p bd l.length=bd):=zri s p bd l
   rcases FK with⟨t1,t2,tb⟩ | ⟨t1,t2,tb⟩ | ⟨t1,t2,t3,tb⟩ | ⟨t1,t2,tb⟩ | ⟨t1,t2,t3,tb⟩
   ·skip
    have TB:=zC tb;clear tb;go_wp2_with fail;refine (za0 s p bd b _ sY).mono ?_;rintro e w0 ⟨rfl,iA,dV⟩;rw[<-zA TB] at dV;have aM:=hinv.call iA dV bt;clear iA dV c0 c1 c2 c3 c4 c5 fz x0 x1 x2 x3 x4 xf;go_wp2_with fail;refine (jQ s p (zQ s p bd l.length) b _ aM.bq bt hs).mono ?_;rintro e w1 ⟨rfl,aW,bI⟩;unfold vH;have aG:=aM.call aW bI (zR _ _ _ bt);have aK:w.heap.size+1<w1.heap.size:=(by have:=aG.sz;omega);obtain⟨d0,d1,d2,d3,d4,lg⟩:=aG.ac;have aN:=aG.own;clear aW bI aM;go_wp2_with (at_builtin;refine wpList_append_own _ rfl _ _ 241 rfl (w.heap.size+2) 317 i0 _ 3 32 Tryz.underlying241 hi bL aY bg rfl (by decide) _ _ _ rfl ((aN.alloc _).alloc _) ⟨w1.heap.size+1,0,none⟩ 1 1 (z7 s p).cells rfl rfl (zai w1 _ (z7 s p)) (zbq _) (by unfold maxLen;omega) (by omega) (by simp;omega) ?_);intro v5 w5 aq aU hne5;clear hne5;obtain⟨a5,eH,rfl⟩:=zD aq;obtain⟨aI,e0,e1,e2,e3,e4,mI⟩:=aG.append (z7 s p) aq aU;have dC:w.heap.size+1<w5.heap.size:=(by have:=aI.sz;simp at this;omega);clear aq aU d0 d1 d2 d3 d4 lg aN aG;go_wp2_with fail;refine (zao s _ _ _ b _ aI.bq (zR _ _ _ bt) hs).mono ?_;rintro e w7 ⟨rfl,dR,ic⟩;have aD:=aI.call dR ic (vT (zR _ _ _ bt));clear dR ic aI e0 e1 e2 e3 e4 mI dC
    cases hm:dZ s (zW s p (zQ s p bd l.length)) (zU s p (zQ s p bd l.length)) { data:=#[44] } with
    | true=>
     have aO:=zC ((zA aC).trans (if_pos hm));have bh:=zdq lA hm;clear hm aC;go_wp2_with fail;go_roundg (7-(l++[z7 s p]).length);exact⟨l++[z7 s p],_,_,true,_,rfl,λ _=>by simp;omega,by simp,aD,zA aO⟩;simp at hg ⊢;omega
    | false=>
     have aO:=zC ((zA aC).trans (if_neg (by rw[hm];decide)));clear hm aC;go_wp2_with fail;refine (za8 s _ _ _ b _ aD.bq aD.hp hs).mono ?_;rintro e w8 ⟨rfl,gB,ft⟩;have bU:=aD.call gB ft (zR _ _ _ aD.hp);clear gB ft aD;go_wp2_with fail;go_roundg 0;exact⟨l++[z7 s p],_,_,false,_,rfl,by simp,by simp,bU,zA aO⟩;simp at hg ⊢;omega
   ·skip
    have TB:=zC tb;clear tb;go_wp2_with fail;refine (za0 s p bd b _ sY).mono ?_;rintro e w0 ⟨rfl,iA,dV⟩;rw[<-zA TB] at dV;have aM:=hinv.call iA dV bt;clear iA dV c0 c1 c2 c3 c4 c5 fz x0 x1 x2 x3 x4 xf;go_wp2_with fail;refine (jQ s p (zQ s p bd l.length) b _ aM.bq bt hs).mono ?_;rintro e w1 ⟨rfl,aW,bI⟩;unfold vH;have aG:=aM.call aW bI (zR _ _ _ bt);have aK:w.heap.size+1<w1.heap.size:=(by have:=aG.sz;omega);obtain⟨d0,d1,d2,d3,d4,lg⟩:=aG.ac;have aN:=aG.own;clear aW bI aM;go_wp2_with (at_builtin;refine wpList_append_own _ rfl _ _ 241 rfl (w.heap.size+2) 317 i0 _ 3 32 Tryz.underlying241 hi bL aY bg rfl (by decide) _ _ _ rfl ((aN.alloc _).alloc _) ⟨w1.heap.size+1,0,none⟩ 1 1 (z7 s p).cells rfl rfl (zai w1 _ (z7 s p)) (zbq _) (by unfold maxLen;omega) (by omega) (by simp;omega) ?_);intro v5 w5 aq aU hne5;clear hne5;obtain⟨a5,eH,rfl⟩:=zD aq;obtain⟨aI,e0,e1,e2,e3,e4,mI⟩:=aG.append (z7 s p) aq aU;have dC:w.heap.size+1<w5.heap.size:=(by have:=aI.sz;simp at this;omega);clear aq aU d0 d1 d2 d3 d4 lg aN aG;go_wp2_with fail;refine (zao s _ _ _ b _ aI.bq (zR _ _ _ bt) hs).mono ?_;rintro e w7 ⟨rfl,dR,ic⟩;have aD:=aI.call dR ic (vT (zR _ _ _ bt));clear dR ic aI e0 e1 e2 e3 e4 mI dC
    cases hm:dZ s (zW s p (zQ s p bd l.length)) (zU s p (zQ s p bd l.length)) { data:=#[44] } with
    | true=>
     have aO:=zC ((zA aC).trans (if_pos hm));have bh:=zdq lA hm;clear hm aC;go_wp2_with fail;go_roundg (7-(l++[z7 s p]).length);exact⟨l++[z7 s p],_,_,true,_,rfl,λ _=>by simp;omega,by simp,aD,zA aO⟩;simp at hg ⊢;omega
    | false=>
     have aO:=zC ((zA aC).trans (if_neg (by rw[hm];decide)));clear hm aC;go_wp2_with fail;refine (za8 s _ _ _ b _ aD.bq aD.hp hs).mono ?_;rintro e w8 ⟨rfl,gB,ft⟩;have bU:=aD.call gB ft (zR _ _ _ aD.hp);clear gB ft aD;go_wp2_with fail;go_roundg 0;exact⟨l++[z7 s p],_,_,false,_,rfl,by simp,by simp,bU,zA aO⟩;simp at hg ⊢;omega
   ·skip
    have TB:=zC tb;clear tb;go_wp2_with fail;refine (za0 s p bd b _ sY).mono ?_;rintro e w0 ⟨rfl,iA,dV⟩;rw[<-zA TB] at dV;have aM:=hinv.call iA dV bt;clear iA dV c0 c1 c2 c3 c4 c5 fz x0 x1 x2 x3 x4 xf;go_wp2_with fail;refine (jQ s p (zQ s p bd l.length) b _ aM.bq bt hs).mono ?_;rintro e w1 ⟨rfl,aW,bI⟩;unfold vH;have aG:=aM.call aW bI (zR _ _ _ bt);have aK:w.heap.size+1<w1.heap.size:=(by have:=aG.sz;omega);obtain⟨d0,d1,d2,d3,d4,lg⟩:=aG.ac;have aN:=aG.own;clear aW bI aM;go_wp2_with (at_builtin;refine wpList_append_own _ rfl _ _ 241 rfl (w.heap.size+2) 317 i0 _ 3 32 Tryz.underlying241 hi bL aY bg rfl (by decide) _ _ _ rfl ((aN.alloc _).alloc _) ⟨w1.heap.size+1,0,none⟩ 1 1 (z7 s p).cells rfl rfl (zai w1 _ (z7 s p)) (zbq _) (by unfold maxLen;omega) (by omega) (by simp;omega) ?_);intro v5 w5 aq aU hne5;clear hne5;obtain⟨a5,eH,rfl⟩:=zD aq;obtain⟨aI,e0,e1,e2,e3,e4,mI⟩:=aG.append (z7 s p) aq aU;have dC:w.heap.size+1<w5.heap.size:=(by have:=aI.sz;simp at this;omega);clear aq aU d0 d1 d2 d3 d4 lg aN aG;go_wp2_with fail;refine (zao s _ _ _ b _ aI.bq (zR _ _ _ bt) hs).mono ?_;rintro e w7 ⟨rfl,dR,ic⟩;have aD:=aI.call dR ic (vT (zR _ _ _ bt));clear dR ic aI e0 e1 e2 e3 e4 mI dC
    cases hm:dZ s (zW s p (zQ s p bd l.length)) (zU s p (zQ s p bd l.length)) { data:=#[44] } with
    | true=>
     have aO:=zC ((zA aC).trans (if_pos hm));have bh:=zdq lA hm;clear hm aC;go_wp2_with fail;go_roundg (7-(l++[z7 s p]).length);exact⟨l++[z7 s p],_,_,true,_,rfl,λ _=>by simp;omega,by simp,aD,zA aO⟩;simp at hg ⊢;omega
    | false=>
     have aO:=zC ((zA aC).trans (if_neg (by rw[hm];decide)));clear hm aC;go_wp2_with fail;refine (za8 s _ _ _ b _ aD.bq aD.hp hs).mono ?_;rintro e w8 ⟨rfl,gB,ft⟩;have bU:=aD.call gB ft (zR _ _ _ aD.hp);clear gB ft aD;go_wp2_with fail;go_roundg 0;exact⟨l++[z7 s p],_,_,false,_,rfl,by simp,by simp,bU,zA aO⟩;simp at hg ⊢;omega
   ·skip
    have TB:=zC tb;clear tb;go_wp2_with fail;have aM:ud w b s (tok s pos).text (tok s pos).at_ l p (zQ s p bd l.length) (.slice a0 l.length cH) wr:=(by rw[zA TB];exact hinv);clear c0 c1 c2 c3 c4 c5 fz x0 x1 x2 x3 x4 xf;refine (jQ s p (zQ s p bd l.length) b _ aM.bq bt hs).mono ?_;rintro e w1 ⟨rfl,aW,bI⟩;unfold vH;have aG:=aM.call aW bI (zR _ _ _ bt);have aK:w.heap.size+1<w1.heap.size:=(by have:=aG.sz;omega);obtain⟨d0,d1,d2,d3,d4,lg⟩:=aG.ac;have aN:=aG.own;clear aW bI aM;go_wp2_with (at_builtin;refine wpList_append_own _ rfl _ _ 241 rfl (w.heap.size+2) 317 i0 _ 3 32 Tryz.underlying241 hi bL aY bg rfl (by decide) _ _ _ rfl ((aN.alloc _).alloc _) ⟨w1.heap.size+1,0,none⟩ 1 1 (z7 s p).cells rfl rfl (zai w1 _ (z7 s p)) (zbq _) (by unfold maxLen;omega) (by omega) (by simp;omega) ?_);intro v5 w5 aq aU hne5;clear hne5;obtain⟨a5,eH,rfl⟩:=zD aq;obtain⟨aI,e0,e1,e2,e3,e4,mI⟩:=aG.append (z7 s p) aq aU;have dC:w.heap.size+1<w5.heap.size:=(by have:=aI.sz;simp at this;omega);clear aq aU d0 d1 d2 d3 d4 lg aN aG;go_wp2_with fail;refine (zao s _ _ _ b _ aI.bq (zR _ _ _ bt) hs).mono ?_;rintro e w7 ⟨rfl,dR,ic⟩;have aD:=aI.call dR ic (vT (zR _ _ _ bt));clear dR ic aI e0 e1 e2 e3 e4 mI dC
    cases hm:dZ s (zW s p (zQ s p bd l.length)) (zU s p (zQ s p bd l.length)) { data:=#[44] } with
    | true=>
     have aO:=zC ((zA aC).trans (if_pos hm));have bh:=zdq lA hm;clear hm aC;go_wp2_with fail;go_roundg (7-(l++[z7 s p]).length);exact⟨l++[z7 s p],_,_,true,_,rfl,λ _=>by simp;omega,by simp,aD,zA aO⟩;simp at hg ⊢;omega
    | false=>
     have aO:=zC ((zA aC).trans (if_neg (by rw[hm];decide)));clear hm aC;go_wp2_with fail;refine (za8 s _ _ _ b _ aD.bq aD.hp hs).mono ?_;rintro e w8 ⟨rfl,gB,ft⟩;have bU:=aD.call gB ft (zR _ _ _ aD.hp);clear gB ft aD;go_wp2_with fail;go_roundg 0;exact⟨l++[z7 s p],_,_,false,_,rfl,by simp,by simp,bU,zA aO⟩;simp at hg ⊢;omega
   ·skip
    have TB:=zC tb;clear tb;go_wp2_with fail;have aM:ud w b s (tok s pos).text (tok s pos).at_ l p (zQ s p bd l.length) (.slice a0 l.length cH) wr:=(by rw[zA TB];exact hinv);clear c0 c1 c2 c3 c4 c5 fz x0 x1 x2 x3 x4 xf;refine (jQ s p (zQ s p bd l.length) b _ aM.bq bt hs).mono ?_;rintro e w1 ⟨rfl,aW,bI⟩;unfold vH;have aG:=aM.call aW bI (zR _ _ _ bt);have aK:w.heap.size+1<w1.heap.size:=(by have:=aG.sz;omega);obtain⟨d0,d1,d2,d3,d4,lg⟩:=aG.ac;have aN:=aG.own;clear aW bI aM;go_wp2_with (at_builtin;refine wpList_append_own _ rfl _ _ 241 rfl (w.heap.size+2) 317 i0 _ 3 32 Tryz.underlying241 hi bL aY bg rfl (by decide) _ _ _ rfl ((aN.alloc _).alloc _) ⟨w1.heap.size+1,0,none⟩ 1 1 (z7 s p).cells rfl rfl (zai w1 _ (z7 s p)) (zbq _) (by unfold maxLen;omega) (by omega) (by simp;omega) ?_);intro v5 w5 aq aU hne5;clear hne5;obtain⟨a5,eH,rfl⟩:=zD aq;obtain⟨aI,e0,e1,e2,e3,e4,mI⟩:=aG.append (z7 s p) aq aU;have dC:w.heap.size+1<w5.heap.size:=(by have:=aI.sz;simp at this;omega);clear aq aU d0 d1 d2 d3 d4 lg aN aG;go_wp2_with fail;refine (zao s _ _ _ b _ aI.bq (zR _ _ _ bt) hs).mono ?_;rintro e w7 ⟨rfl,dR,ic⟩;have aD:=aI.call dR ic (vT (zR _ _ _ bt));clear dR ic aI e0 e1 e2 e3 e4 mI dC
    cases hm:dZ s (zW s p (zQ s p bd l.length)) (zU s p (zQ s p bd l.length)) { data:=#[44] } with
    | true=>
     have aO:=zC ((zA aC).trans (if_pos hm));have bh:=zdq lA hm;clear hm aC;go_wp2_with fail;go_roundg (7-(l++[z7 s p]).length);exact⟨l++[z7 s p],_,_,true,_,rfl,λ _=>by simp;omega,by simp,aD,zA aO⟩;simp at hg ⊢;omega
    | false=>
     have aO:=zC ((zA aC).trans (if_neg (by rw[hm];decide)));clear hm aC;go_wp2_with fail;refine (za8 s _ _ _ b _ aD.bq aD.hp hs).mono ?_;rintro e w8 ⟨rfl,gB,ft⟩;have bU:=aD.call gB ft (zR _ _ _ aD.hp);clear gB ft aD;go_wp2_with fail;go_roundg 0;exact⟨l++[z7 s p],_,_,false,_,rfl,by simp,by simp,bU,zA aO⟩;simp at hg ⊢;omega
end
end Go.Proofs.YtldkpahaocjdpaaGreat
