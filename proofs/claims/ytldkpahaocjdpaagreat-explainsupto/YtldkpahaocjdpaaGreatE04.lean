/-
  The reference's cut, where no letter comes next: what it answers is the token of the plain text (Spec), and no old memory has turned.
-/
import Derived.Test.YtldkpahaocjdpaaGreatE03
import Derived.Deep.RegionWith
set_option maxHeartbeats 16000000
set_option maxRecDepth 1000000
namespace Go.Proofs.YtldkpahaocjdpaaGreat
section
open Go.RowKit
theorem z1x (s:B8)(i:Nat)(hi:i<=s.size)(hs:s.size<=maxLen)(w:W8)(K0:skip zO s i<s.size)(K1:skip xL s (skip zO s i)=skip zO s i)(K2:skip yF s (skip zO s i)=skip zO s i)(K3:¬ (zq6 s (skip zO s i):Int)=58):
  Calls Tryz.prog 123 #[.string s,.int .i64 i] w λ e w'=>e=.returned (.tuple #[vH (tok s i),.int .i64 (tok s i).to])/\Below w.heap.size w w':=by
 unfold maxLen at hs;go_enter Tryz.func123,Tryz.ntmps123
 go_wp2
 go_loop [1] (λ t=>∃ k:Nat,i<=k/\k<=s.size/\t=.int .i64 k/\skip zO s k=skip zO s i) (λ t=>s.size-(intOf t).toNat)
 exact⟨i,Nat.le_refl _,hi,rfl,rfl⟩
 case round=>
  obtain⟨k,KL,hk,rfl,mi⟩:=hrel;have HS:Hid (skip zO s k=skip zO s i):=mi;clear mi
  by_cases aH:k<s.size
  ·by_cases hb:zO s[k].toNat=true
   ·have HB:Hid (skip zO s (k+1)=skip zO s i):=(xY zO s k aH hb).symm.trans HS.out;have hc:(s[k].toNat:Int)=32\/(s[k].toNat:Int)=10:=(by simpa[zO] using hb);clear hb HS;rcases hc with hc | hc
    all_goals
     go_wp2
     go_round
     case rel=>exact⟨k+1,by omega,by omega,by go_num,HB.out⟩
     case measure=>simp[intOf];omega
   ·have gj:zO s[k].toNat=false:=(by simpa using hb);have HB:Hid (skip zO s i=k):=HS.out.symm.trans (xZ zO s k aH gj);have va:((s[k].toNat:Int)==32)=false:=(by simp[zO] at gj;simp[gj.1]);have nS:((s[k].toNat:Int)==10)=false:=(by simp[zO] at gj;simp[gj.2]);clear hb gj HS;have D1:skip xL s k=k:=(by have:=K1;rwa [HB.out] at this);have K':=zC D1;clear K1 D1;have yr:=zC (show skip yF s k=k by rwa [HB.out] at K2);clear K2 K0;have JI:=zC (show ¬ (s[k].toNat:Int)=58 by rw[HB.out,zq7 aH] at K3;exact K3);clear K3
    go_wp2
    go_loop [6] (λ t=>∃ m:Nat,k<=m/\m<=s.size/\t=.int .i64 m/\skip xL s m=skip xL s k) (λ t=>s.size-(intOf t).toNat)
    exact⟨k,Nat.le_refl _,hk,rfl,rfl⟩
    case round=>
     obtain⟨m,nF,hm,rfl,bM⟩:=hrel;have HM:Hid (skip xL s m=skip xL s k):=bM;clear bM
     by_cases hgo:∃ h:m<s.size,xL s[m].toNat=true
     ·obtain⟨bh,bc⟩:=hgo;have ot:Hid (skip xL s (m+1)=skip xL s k):=(xY xL s m bh bc).symm.trans HM.out;go_wp2_with (go_at_call 182;refine (za3 _ _).mono ?_;rintro e w' ⟨rfl,rfl⟩)
      go_round
      case rel=>exact⟨m+1,by omega,by omega,by go_num,ot.out⟩
      case measure=>simp[intOf];omega
     ·have lU:Hid (skip xL s k=m):=by
       refine HM.out.symm.trans ?_
       by_cases bh:m<s.size
       ·exact xZ _ _ _ bh (by cases h:xL s[m].toNat;rfl;exact absurd ⟨bh,h⟩ hgo)
       ·exact jJ _ _ _ bh
      have oF:k=m:=(by rw[<-lU.out];exact (zA K').symm);subst oF;have bc:xL s[k].toNat=false:=(by cases h:xL s[k].toNat;rfl;exact absurd ⟨aH,h⟩ hgo);clear hgo HM nF hm K';go_wp2_with (go_at_call 182;refine (za3 _ _).mono ?_;rintro e w' ⟨rfl,rfl⟩)
      go_loop [6] (λ t=>∃ m:Nat,k<=m/\m<=s.size/\t=.int .i64 m/\skip yF s m=skip yF s k) (λ t=>s.size-(intOf t).toNat)
      exact⟨k,Nat.le_refl _,hk,rfl,rfl⟩
      case round=>
       obtain⟨m,nF,hm,rfl,bM⟩:=hrel;have HN:Hid (skip yF s m=skip yF s k):=bM;clear bM
       by_cases hgo:∃ h:m<s.size,yF s[m].toNat=true
       ·obtain⟨bh,Ej⟩:=hgo;have ot:Hid (skip yF s (m+1)=skip yF s k):=(xY yF s m bh Ej).symm.trans HN.out;go_wp2_with (go_at_call 183;refine (qU _ _).mono ?_;rintro e w' ⟨rfl,rfl⟩)
        go_round
        case rel=>exact⟨m+1,by omega,by omega,by go_num,ot.out⟩
        case measure=>simp[intOf];omega
       ·have pS:Hid (skip yF s k=m):=by
         refine HN.out.symm.trans ?_
         by_cases bh:m<s.size
         ·exact xZ _ _ _ bh (by cases h:yF s[m].toNat;rfl;exact absurd ⟨bh,h⟩ hgo)
         ·exact jJ _ _ _ bh
        have oF:k=m:=(by rw[<-pS.out];exact (zA yr).symm);subst oF;have Ej:yF s[k].toNat=false:=(by cases h:yF s[k].toNat;rfl;exact absurd ⟨aH,h⟩ hgo);clear hgo HN nF hm yr;have ee:=zA JI;clear JI;have PL:((s[k].toNat:Int)==58)=false:=(by simp[ee]);have lR:=zC ee;clear ee;go_wp2_with (go_at_call 183;refine (qU _ _).mono ?_;rintro e w' ⟨rfl,rfl⟩)
        go_loopw [6] (λ t wr=>∃ j n:Nat,(j=0/\t=.int .i64 0\/j=1/\t=.int .i64 1\/j=2/\t=.int .i64 2\/j=3/\t=.int .i64 3\/j=4/\t=.int .i64 4)/\(∀ c,c∈([40,41,44,46]:List Int).take j->(s[k].toNat:Int)≠c)/\wr=(w.alloc (Obj.cells #[.int IntKind.u8 0,.string { data:=#[] },.int IntKind.i64 0] 233)).drewN n) (λ t _=>4-(intOf t).toNat)
        exact⟨0,0,by simp,by simp,rfl⟩
        case round=>
         obtain⟨j,n,hj,hd,rfl⟩:=hrel;have HD:=zC hd;clear hd;rcases hj with⟨rfl,rfl⟩ | ⟨rfl,rfl⟩ | ⟨rfl,rfl⟩ | ⟨rfl,rfl⟩ | ⟨rfl,rfl⟩
         ·by_cases hq:(s[k].toNat:Int)=40
          ·have e1:(((({ data:=#[40,41,44,46] }:B8)[0]'(by decide)).toNat:Int)==(s[k].toNat:Int))=true:=(by rw[hq];rfl);have HL:Hid (xA s k=1):=zex aH (zA lR) (by omega);clear hq;go_wp2_with fail;go_quiet (fail)
           go_wp2
           have HT:=zko HB.out aH lU.out pS.out HL.out;exact bodyPost_ret (v:=.tuple #[vH (tok s i),.int .i64 (tok s i).to]) (by rw[HT];simp[results,Tryz.results123,go_sem,vH]) rfl ⟨rfl,by first | exact B9.alloc L9 _ | exact below_drewN (B9.alloc L9 _) _ | exact (((below_drewN (B9.alloc L9 _) _).setCell L9 _).setCell L9 _).setCell L9 _⟩
          ·have e1:(((({ data:=#[40,41,44,46] }:B8)[0]'(by decide)).toNat:Int)==(s[k].toNat:Int))=false:=(by rw[beq_eq_false_iff_ne];show (40:Int)≠_;omega);have HQ:=zC hq;clear hq;go_wp2_with fail;go_quiet (fail)
           go_wp2
           go_roundw
           case rel=>exact⟨1,_,by simp,more HD.out (zA HQ) rfl rfl,rfl⟩
           case measure=>simp[intOf]
         ·by_cases hq:(s[k].toNat:Int)=41
          ·have e1:(((({ data:=#[40,41,44,46] }:B8)[1]'(by decide)).toNat:Int)==(s[k].toNat:Int))=true:=(by rw[hq];rfl);have HL:Hid (xA s k=1):=zex aH (zA lR) (by omega);clear hq;go_wp2_with fail;go_quiet (fail)
           go_wp2
           have HT:=zko HB.out aH lU.out pS.out HL.out;exact bodyPost_ret (v:=.tuple #[vH (tok s i),.int .i64 (tok s i).to]) (by rw[HT];simp[results,Tryz.results123,go_sem,vH]) rfl ⟨rfl,by first | exact B9.alloc L9 _ | exact below_drewN (B9.alloc L9 _) _ | exact (((below_drewN (B9.alloc L9 _) _).setCell L9 _).setCell L9 _).setCell L9 _⟩
          ·have e1:(((({ data:=#[40,41,44,46] }:B8)[1]'(by decide)).toNat:Int)==(s[k].toNat:Int))=false:=(by rw[beq_eq_false_iff_ne];show (41:Int)≠_;omega);have HQ:=zC hq;clear hq;go_wp2_with fail;go_quiet (fail)
           go_wp2
           go_roundw
           case rel=>exact⟨2,_,by simp,more HD.out (zA HQ) rfl rfl,rfl⟩
           case measure=>simp[intOf]
         ·by_cases hq:(s[k].toNat:Int)=44
          ·have e1:(((({ data:=#[40,41,44,46] }:B8)[2]'(by decide)).toNat:Int)==(s[k].toNat:Int))=true:=(by rw[hq];rfl);have HL:Hid (xA s k=1):=zex aH (zA lR) (by omega);clear hq;go_wp2_with fail;go_quiet (fail)
           go_wp2
           have HT:=zko HB.out aH lU.out pS.out HL.out;exact bodyPost_ret (v:=.tuple #[vH (tok s i),.int .i64 (tok s i).to]) (by rw[HT];simp[results,Tryz.results123,go_sem,vH]) rfl ⟨rfl,by first | exact B9.alloc L9 _ | exact below_drewN (B9.alloc L9 _) _ | exact (((below_drewN (B9.alloc L9 _) _).setCell L9 _).setCell L9 _).setCell L9 _⟩
          ·have e1:(((({ data:=#[40,41,44,46] }:B8)[2]'(by decide)).toNat:Int)==(s[k].toNat:Int))=false:=(by rw[beq_eq_false_iff_ne];show (44:Int)≠_;omega);have HQ:=zC hq;clear hq;go_wp2_with fail;go_quiet (fail)
           go_wp2
           go_roundw
           case rel=>exact⟨3,_,by simp,more HD.out (zA HQ) rfl rfl,rfl⟩
           case measure=>simp[intOf]
         ·by_cases hq:(s[k].toNat:Int)=46
          ·have e1:(((({ data:=#[40,41,44,46] }:B8)[3]'(by decide)).toNat:Int)==(s[k].toNat:Int))=true:=(by rw[hq];rfl);have HL:Hid (xA s k=1):=zex aH (zA lR) (by omega);clear hq;go_wp2_with fail;go_quiet (fail)
           go_wp2
           have HT:=zko HB.out aH lU.out pS.out HL.out;exact bodyPost_ret (v:=.tuple #[vH (tok s i),.int .i64 (tok s i).to]) (by rw[HT];simp[results,Tryz.results123,go_sem,vH]) rfl ⟨rfl,by first | exact B9.alloc L9 _ | exact below_drewN (B9.alloc L9 _) _ | exact (((below_drewN (B9.alloc L9 _) _).setCell L9 _).setCell L9 _).setCell L9 _⟩
          ·have e1:(((({ data:=#[40,41,44,46] }:B8)[3]'(by decide)).toNat:Int)==(s[k].toNat:Int))=false:=(by rw[beq_eq_false_iff_ne];show (46:Int)≠_;omega);have HQ:=zC hq;clear hq;go_wp2_with fail;go_quiet (fail)
           go_wp2
           go_roundw
           case rel=>exact⟨4,_,by simp,more HD.out (zA HQ) rfl rfl,rfl⟩
           case measure=>simp[intOf]
         ·have HL:Hid (xA s k=0):=zzp aH (zA lR) (by have:=HD.out;simp at this;omega)
          go_wp2
          have HT:=zqa HB.out aH lU.out pS.out HL.out;exact bodyPost_ret (v:=.tuple #[vH (tok s i),.int .i64 (tok s i).to]) (by rw[HT];simp[results,Tryz.results123,go_sem,vH]) rfl ⟨rfl,by first | exact B9.alloc L9 _ | exact below_drewN (B9.alloc L9 _) _ | exact (((below_drewN (B9.alloc L9 _) _).setCell L9 _).setCell L9 _).setCell L9 _⟩
  ·exact absurd (by have h:=HS.out.symm.trans (jJ zO s k aH);rw[h] at K0;exact K0) aH
end
section
open Go.RowKit
theorem yav (s:B8)(i:Nat)(hi:i<=s.size)(hs:s.size<=maxLen)(w:W8):
  Calls Tryz.prog 123 #[.string s,.int .i64 i] w λ e w'=>e=.returned (.tuple #[vH (tok s i),.int .i64 (tok s i).to])/\Below w.heap.size w w':=by
 by_cases K:skip zO s i<s.size->skip zO s i<skip xL s (skip zO s i)
 ·exact yaw s i hi hs w K
 ·have K0:skip zO s i<s.size:=by omega
  have g1:=zp5 xL s (skip zO s i);have g2:=zp5 yF s (skip zO s i);have K1:skip xL s (skip zO s i)=skip zO s i:=by omega
  by_cases K2:skip zO s i<skip yF s (skip zO s i)
  ·exact z6w s i hi hs w K0 K1 K2
  ·have yr:skip yF s (skip zO s i)=skip zO s i:=by omega
   by_cases K3:(zq6 s (skip zO s i):Int)=58
   ·exact z1w s i hi hs w K0 K1 yr K3
   ·exact z1x s i hi hs w K0 K1 yr K3
end
section
open Go.RowKit
structure zK (B:List Nat)(w w':W8):Prop where
 os:w'.os=w.os
 tape:w'.tape=w.tape
 output:w'.output=w.output
 size:w.heap.size<=w'.heap.size
 block:∀ k,k<w.heap.size->k∉B->w'.heap[k]?=w.heap[k]?
theorem zK.refl (B:List Nat)(w:W8):zK B w w:=⟨rfl,rfl,rfl,Nat.le_refl _,λ _ _ _=>rfl⟩
theorem zK.trans {B:List Nat}{a b c:W8}(h:zK B a b)(k:zK B b c):zK B a c:=
 ⟨k.os.trans h.os,k.tape.trans h.tape,k.output.trans h.output,Nat.le_trans h.size k.size,λ i hi hn=>(k.block i (Nat.lt_of_lt_of_le hi h.size) hn).trans (h.block i hi hn)⟩
variable {a w w':W8} {B:List Nat}
theorem zK.ak (h:zK B a w)(k:Below w.heap.size w w'):zK B a w':=
 h.trans ⟨k.os,k.tape,k.output,k.size,λ i hi _=>k.block i hi⟩
theorem zK.alloc (h:zK B a w)(o:Obj):zK B a (w.alloc o):=
 h.trans ⟨rfl,rfl,rfl,by simp,λ k hk _=>Below.heap_alloc _ _ _ hk⟩
theorem zK.drewN (h:zK B a w)(n:Nat):zK B a (w.drewN n):=⟨h.os,h.tape,h.output,h.size,h.block⟩
theorem zK.drew (h:zK B a w):zK B a w.drew:=⟨h.os,h.tape,h.output,h.size,h.block⟩
theorem zK.setCell {B:List Nat}{a w:W8}(h:zK B a w){p:Addr}(hp:p.block∈B\/a.heap.size<=p.block)(u:Value):zK B a (w.setCell p u):=
 ⟨h.os,h.tape,h.output,by have:=h.size;simpa[World.setCell] using this,λ k hk hn=>(Below.heap_setCell _ _ _ _ (by rintro rfl;rcases hp with hp | hp;exact hn hp;omega)).trans (h.block k hk hn)⟩
theorem zK.mono {C:List Nat}(h:zK B w w')(hs:∀ k,k∈B->k∈C\/w.heap.size<=k):zK C w w':=
 ⟨h.os,h.tape,h.output,h.size,λ k hk hn=>h.block k hk (λ hb=>by rcases hs k hb with h1 | h1;exact hn h1;omega)⟩
variable {p:Addr}
theorem zK.cell (h:zK B w w')(hp:p.block<w.heap.size)(hn:p.block∉B):w'.cell? p=w.cell? p:=World.cell?_of_block (w:=w) (h.block p.block hp hn)
theorem zK.frozen (h:zK B w w')(hp:p.block<w.heap.size)(hn:p.block∉B):w'.frozen? p=w.frozen? p:=World.frozen?_of_block (w:=w) (h.block p.block hp hn)
structure dS (w:W8)(b:Nat)(s:B8)(pos:Nat)(bad:Int):Prop where
 lt:b<w.heap.size
 c0:w.cell? ⟨b,0,none⟩=some (.string s)
 c1:w.cell? ⟨b,1,none⟩=some (.int .u8 (tok s pos).kind)
 c2:w.cell? ⟨b,2,none⟩=some (.string (tok s pos).text)
 c3:w.cell? ⟨b,3,none⟩=some (.int .i64 (tok s pos).at_)
 c4:w.cell? ⟨b,4,none⟩=some (.int .i64 (tok s pos).to)
 c5:w.cell? ⟨b,5,none⟩=some (.int .i64 bad)
 fz:∀ o,w.frozen? ⟨b,o,none⟩=false
variable {bad:Int} {pos b:Nat} {s:B8}
theorem dS.kept (h:dS w b s pos bad)(k:zK B w w')(hn:b∉B):dS w' b s pos bad:=
 ⟨Nat.lt_of_lt_of_le h.lt k.size,(k.cell h.lt hn).trans h.c0,(k.cell h.lt hn).trans h.c1,(k.cell h.lt hn).trans h.c2,(k.cell h.lt hn).trans h.c3,(k.cell h.lt hn).trans h.c4,(k.cell h.lt hn).trans h.c5,λ o=>(k.frozen h.lt hn).trans (h.fz o)⟩
def zaw (s:B8)(pos:Nat)(bad:Int):Int:=if bad<0 then (tok s pos).at_ else bad
theorem za0 (s:B8)(pos:Nat)(bad:Int)(b:Nat)(w:W8)(h:dS w b s pos bad):
  Calls Tryz.prog 124 #[.pointer (some ⟨b,0,none⟩)] w λ e w'=>e=.returned (.tuple #[])/\zK [b] w w'/\dS w' b s pos (zaw s pos bad):=by
 have h':=h;obtain⟨aH,c0,c1,c2,c3,c4,c5,fz⟩:=h
 by_cases hb:bad<0
 ·go_enter Tryz.func124,Tryz.ntmps124
  go_wp2
  go_end0;refine⟨rfl,(zK.refl _ _).setCell (by simp) _,⟨by simpa[World.setCell] using aH,?_,?_,?_,?_,?_,?_,?_⟩⟩
  ·go_simp
  ·go_simp
  ·go_simp
  ·go_simp
  ·go_simp
  ·rw[zaw,if_pos hb];go_simp
  ·go_simp
 ·go_enter Tryz.func124,Tryz.ntmps124
  go_wp2
  go_end0;exact⟨rfl,zK.refl _ _,by rw[zaw,if_neg (by omega)];exact h'⟩
def dZ (s:B8)(pos:Nat)(bad:Int)(wd:B8):Bool:=decide (bad<0)&&((tok s pos).kind==115&&(tok s pos).text.toList==wd.toList)
theorem zwb (s wd:B8)(pos:Nat)(bad:Int)(b:Nat)(w:W8)(h:dS w b s pos bad):
  Calls Tryz.prog 226 #[.pointer (some ⟨b,0,none⟩),.string wd] w λ e w'=>e=.returned (.bool (dZ s pos bad wd))/\w'=w:=by
 obtain⟨aH,c0,c1,c2,c3,c4,c5,fz⟩:=h
 by_cases hb:bad<0
 ·by_cases hk:((tok s pos).kind==115)=true
  ·go_enter Tryz.func226,Tryz.ntmps226
   go_wp2
   go_ret;exact⟨by simp[dZ,hb,hk],rfl⟩
  ·have sP:((tok s pos).kind==115)=false:=(by simpa using hk);clear hk;go_enter Tryz.func226,Tryz.ntmps226
   go_wp2
   go_ret;exact⟨by simp[dZ,sP],rfl⟩
 ·go_enter Tryz.func226,Tryz.ntmps226
  go_wp2
  go_ret;exact⟨by rw[dZ,decide_eq_false (by omega)];rfl,rfl⟩
def zU (s:B8)(pos:Nat)(bad:Int):Int:=if (tok s pos).kind=33\/(tok s pos).kind=46 then zaw s pos bad else bad
def zW (s:B8)(pos:Nat)(bad:Int):Nat:=if zU s pos bad<0 then (tok s pos).to else pos
theorem j7 (s:B8)(pos:Nat)(bad:Int):0<=zaw s pos bad:=by unfold zaw;split <;> omega
variable {w1:W8}
theorem zK.rules {W:W8}(hk:zK [b] W w1):(∀ n o,b<n->n<W.heap.size->w1.cell? ⟨n,o,none⟩=W.cell? ⟨n,o,none⟩)/\(∀ n o,b<n->n<W.heap.size->w1.frozen? ⟨n,o,none⟩=W.frozen? ⟨n,o,none⟩):=
 ⟨λ n o h1 h2=>hk.cell (p:=⟨n,o,none⟩) h2 (by simp;omega),λ n o h1 h2=>hk.frozen (p:=⟨n,o,none⟩) h2 (by simp;omega)⟩
theorem z93 {n:Nat}{u0 u1 u2:Value}(h0:w1.cell? ⟨n,0,none⟩=some u0)(h1:w1.cell? ⟨n,1,none⟩=some u1)(h2:w1.cell? ⟨n,2,none⟩=some u2)(v0 v1 v2:Value):
  (((w1.setCell ⟨n,0,none⟩ v0).setCell ⟨n,1,none⟩ v1).setCell ⟨n,2,none⟩ v2).cell? ⟨n,0,none⟩=some v0 /\
  (((w1.setCell ⟨n,0,none⟩ v0).setCell ⟨n,1,none⟩ v1).setCell ⟨n,2,none⟩ v2).cell? ⟨n,1,none⟩=some v1 /\
  (((w1.setCell ⟨n,0,none⟩ v0).setCell ⟨n,1,none⟩ v1).setCell ⟨n,2,none⟩ v2).cell? ⟨n,2,none⟩=some v2:=by
 refine⟨?_,?_,?_⟩ <;> go_simp
theorem zd1 (w:W8)(a b c:Value)(t:TypeId)(o:Obj)(j:Nat):((w.alloc (.cells #[a,b,c] t)).alloc o).cell? ⟨w.heap.size,j,none⟩=#[a,b,c][j]?:=by
 rw[World.cell?_alloc_past _ _ _ (by simp),World.cell?_alloc_at _ _ _ _ rfl]
theorem dS.cells (h:dS w b s pos bad):b<w.heap.size/\w.cell? ⟨b,0,none⟩=some (.string s)/\w.cell? ⟨b,1,none⟩=some (.int .u8 (tok s pos).kind)/\w.cell? ⟨b,2,none⟩=some (.string (tok s pos).text)/\w.cell? ⟨b,3,none⟩=some (.int .i64 (tok s pos).at_)/\w.cell? ⟨b,4,none⟩=some (.int .i64 (tok s pos).to)/\w.cell? ⟨b,5,none⟩=some (.int .i64 bad)/\∀ o,w.frozen? ⟨b,o,none⟩=false:=
 ⟨h.lt,h.c0,h.c1,h.c2,h.c3,h.c4,h.c5,h.fz⟩
theorem z8u (s:B8)(pos:Nat)(bad:Int)(b:Nat)(w:W8)(h:dS w b s pos bad)(hk:(tok s pos).kind=33\/(tok s pos).kind=46):
  Calls Tryz.prog 225 #[.pointer (some ⟨b,0,none⟩)] w λ e w'=>e=.returned (vH (tok s pos))/\zK [b] w w'/\dS w' b s (zW s pos bad) (zU s pos bad):=by
 have hn:=j7 s pos bad;have e1:zU s pos bad=zaw s pos bad:=by rw[zU,if_pos hk]
 have e2:zW s pos bad=pos:=by rw[zW,e1,if_neg (by omega)]
 rw[e1,e2];clear e1 e2;have h':=h;obtain⟨aH,c0,c1,c2,c3,c4,c5,fz⟩:=h;have sP:(((tok s pos).kind==33)=true)\/(((tok s pos).kind==33)=false/\((tok s pos).kind==46)=true):=by
  rcases hk with hk | hk <;> simp[hk]
 clear hk;rcases sP with hk | ⟨hk,bn⟩
 all_goals
  go_enter Tryz.func225,Tryz.ntmps225;go_wp2_with fail;refine (za0 s pos bad b _ (h'.kept (((zK.refl [] _).alloc _).alloc _) (by simp))).mono ?_;rintro e w1 ⟨rfl,aW,bI⟩;have QI:=bI;obtain⟨r1,r2⟩:=aW.rules;obtain⟨sR,d0,d1,d2,d3,d4,d5,fz1⟩:=bI;have hz:w.heap.size+1<w1.heap.size:=by have:=aW.size;simp at this;omega
  clear c0 c1 c2 c3 c4 c5 h';go_wp2_with fail;obtain⟨q0,q1,q2⟩:=z93 (w1:=w1) (n:=w.heap.size) ((r1 _ _ aH (by simp;omega)).trans (zd1 w _ _ _ _ _ 0)) ((r1 _ _ aH (by simp;omega)).trans (zd1 w _ _ _ _ _ 1)) ((r1 _ _ aH (by simp;omega)).trans (zd1 w _ _ _ _ _ 2)) (.int .u8 (tok s pos).kind) (.string (tok s pos).text) (.int .i64 (tok s pos).at_);refine bodyPost_ret (v:=vH (tok s pos)) (by simp[results,Tryz.results225,go_sem,vH,q0,q1,q2]) rfl ⟨rfl,?_,?_⟩
  ·exact ((((((zK.refl _ _).alloc _).alloc _).trans aW).setCell (.inr L9) _).setCell (.inr L9) _).setCell (.inr L9) _
  ·exact QI.kept ((((zK.refl [w.heap.size] w1).setCell (by simp) _).setCell (by simp) _).setCell (by simp) _) (by simp;omega)
theorem z5a (s:B8)(pos:Nat)(bad:Int)(b:Nat)(w:W8)(h:dS w b s pos bad)(hk:¬ ((tok s pos).kind=33\/(tok s pos).kind=46))(hb:0<=bad):
  Calls Tryz.prog 225 #[.pointer (some ⟨b,0,none⟩)] w λ e w'=>e=.returned (vH (tok s pos))/\zK [b] w w'/\dS w' b s (zW s pos bad) (zU s pos bad):=by
 have e1:zU s pos bad=bad:=by rw[zU,if_neg hk]
 have e2:zW s pos bad=pos:=by rw[zW,e1,if_neg (by omega)]
 rw[e1,e2];clear e1 e2;have h':=h;obtain⟨aH,c0,c1,c2,c3,c4,c5,fz⟩:=h;have aW:((tok s pos).kind==33)=false:=by simp;omega
 have bn:((tok s pos).kind==46)=false:=by simp;omega
 clear hk;go_enter Tryz.func225,Tryz.ntmps225;go_wp2_with fail;refine bodyPost_ret (v:=vH (tok s pos)) (by simp[results,Tryz.results225,go_sem,vH]) rfl ⟨rfl,?_,?_⟩
 ·exact ((zK.refl _ _).alloc _).alloc _
 ·exact h'.kept (((zK.refl [] _).alloc _).alloc _) (by simp)
theorem zo8 (s:B8)(i:Nat)(hi:i<=s.size)(hs:s.size<=maxLen)(w:W8):
  Calls Tryz.prog 123 #[.string s,.int .i64 i] w λ e w'=>e=.returned (.tuple #[.agg #[.int .u8 (tok s i).kind,.string (tok s i).text,.int .i64 (tok s i).at_],.int .i64 (tok s i).to])/\Below w.heap.size w w':=yav s i hi hs w
theorem zs9 (s:B8)(i:Nat)(hi:i<=s.size):(tok s i).to<=s.size:=by
 have h0:=zcz zO s i hi;have h1:=zcz xL s (skip zO s i) h0;have h2:=zcz yF s (skip zO s i) h0;unfold tok zhq;generalize skip zO s i=k at *
 split
 ·simpa using h0
 ·rename_i hk
  split
  ·split
   ·exact h1
   ·split <;> exact h1
  ·split
   ·split <;> exact h2
   ·split
    ·simp;omega
    ·split
     ·rename_i h3;simp only;unfold xA at h3
      split at h3
      ·split at h3
       ·split at h3
        ·omega
        ·simp at h3
       ·split at h3 <;> simp at h3
      ·simp at h3
     ·simp;omega
end
section
open Go.RowKit
theorem zmc {W v:W8}(h:Below W.heap.size W v):
  (∀ n o,n<W.heap.size->v.cell? ⟨n,o,none⟩=W.cell? ⟨n,o,none⟩)/\(∀ n o,n<W.heap.size->v.frozen? ⟨n,o,none⟩=W.frozen? ⟨n,o,none⟩):=by
 constructor <;> intro n o hn
 ·exact World.cell?_of_block (h.block n hn)
 ·exact World.frozen?_of_block (h.block n hn)
theorem z31 {w1:W8}{b:Nat}{s:B8}{pos pos':Nat}{bad:Int}(h:dS w1 b s pos bad):
  dS ((((w1.setCell ⟨b,1,none⟩ (.int .u8 (tok s pos').kind)).setCell ⟨b,2,none⟩ (.string (tok s pos').text)).setCell ⟨b,3,none⟩ (.int .i64 (tok s pos').at_)).setCell ⟨b,4,none⟩ (.int .i64 (tok s pos').to)) b s pos' bad:=by
 obtain⟨aH,c0,c1,c2,c3,c4,c5,fz⟩:=h;refine⟨by simpa using aH,?_,?_,?_,?_,?_,?_,?_⟩
 all_goals go_simp
theorem zl0 (w1:W8)(b:Nat)(v1 v2 v3 v4:Value):zK [b] w1 ((((w1.setCell ⟨b,1,none⟩ v1).setCell ⟨b,2,none⟩ v2).setCell ⟨b,3,none⟩ v3).setCell ⟨b,4,none⟩ v4):=
 ((((zK.refl [b] w1).setCell (by simp) _).setCell (by simp) _).setCell (by simp) _).setCell (by simp) _
theorem z5b (s:B8)(pos:Nat)(bad:Int)(b:Nat)(w:W8)(h:dS w b s pos bad)(aJ:pos<=s.size)(hs:s.size<=maxLen)(hk:¬ ((tok s pos).kind=33\/(tok s pos).kind=46))(hb:bad<0):
  Calls Tryz.prog 225 #[.pointer (some ⟨b,0,none⟩)] w λ e w'=>e=.returned (vH (tok s pos))/\zK [b] w w'/\dS w' b s (zW s pos bad) (zU s pos bad):=by
 have e1:zU s pos bad=bad:=by rw[zU,if_neg hk]
 have e2:zW s pos bad=(tok s pos).to:=by rw[zW,e1,if_pos (by omega)]
 rw[e1,e2];clear e1 e2;have EG:=zs9 s pos aJ;have h':=h;obtain⟨aH,c0,c1,c2,c3,c4,c5,fz⟩:=h;have aW:((tok s pos).kind==33)=false:=by simp;omega
 have bn:((tok s pos).kind==46)=false:=by simp;omega
 clear hk;go_enter Tryz.func225,Tryz.ntmps225;go_wp2_with fail;have eZ:∀ w1 nq,Below (((w.alloc (Obj.cells #[.int IntKind.u8 0,.string { data:=#[] },.int IntKind.i64 0] 233)).alloc (Obj.cells #[.int IntKind.u8 (tok s pos).kind,.string (tok s pos).text,.int IntKind.i64 ↑(tok s pos).at_] 233)).drewN nq).heap.size (((w.alloc (Obj.cells #[.int IntKind.u8 0,.string { data:=#[] },.int IntKind.i64 0] 233)).alloc (Obj.cells #[.int IntKind.u8 (tok s pos).kind,.string (tok s pos).text,.int IntKind.i64 ↑(tok s pos).at_] 233)).drewN nq) w1->dS w1 b s pos bad:=
  λ w1 nq hb=>h'.kept (((((zK.refl [] _).alloc _).alloc _).drewN _).ak hb) (by simp)
 have HP:=zC eZ;clear eZ
 go_region_with (go_at_call 123;refine (zo8 s (tok s pos).to EG hs _).mono ?_;rintro e w1 ⟨rfl,aL⟩;obtain⟨Qo,x0,x1,x2,x3,x4,x5,Xi⟩:=(zA HP w1 1 aL).cells)
 all_goals
  obtain⟨r1,r2⟩:=zmc aL;have hz:w.heap.size+1<w1.heap.size:=by have:=aL.size;simp at this;omega
  have Uj:=zA HP w1 1 aL;have Wv:=zC (z31 (pos':=(tok s pos).to) Uj);have HK:=zC (zl0 w1 b (.int .u8 (tok s (tok s pos).to).kind) (.string (tok s (tok s pos).to).text) (.int .i64 (tok s (tok s pos).to).at_) (.int .i64 (tok s (tok s pos).to).to));clear HP Uj;go_wp2_with fail;obtain⟨k1,_⟩:=(zA HK).rules;obtain⟨q0,q1,q2⟩:=z93 (w1:=(((w1.setCell ⟨b,1,none⟩ (.int .u8 (tok s (tok s pos).to).kind)).setCell ⟨b,2,none⟩ (.string (tok s (tok s pos).to).text)).setCell ⟨b,3,none⟩ (.int .i64 (tok s (tok s pos).to).at_)).setCell ⟨b,4,none⟩ (.int .i64 (tok s (tok s pos).to).to)) (n:=w.heap.size) ((k1 _ _ aH (by omega)).trans ((r1 _ _ (by simp;omega)).trans (zd1 w _ _ _ _ _ 0))) ((k1 _ _ aH (by omega)).trans ((r1 _ _ (by simp;omega)).trans (zd1 w _ _ _ _ _ 1))) ((k1 _ _ aH (by omega)).trans ((r1 _ _ (by simp;omega)).trans (zd1 w _ _ _ _ _ 2))) (.int .u8 (tok s pos).kind) (.string (tok s pos).text) (.int .i64 (tok s pos).at_);refine bodyPost_ret (v:=vH (tok s pos)) (by simp[results,Tryz.results225,go_sem,vH,q0,q1,q2]) rfl ⟨rfl,?_,?_⟩
  ·exact ((((((((zK.refl [b] w).alloc _).alloc _).drewN 1).ak aL).trans (zA HK)).setCell (.inr L9) _).setCell (.inr L9) _).setCell (.inr L9) _
  ·exact (zA Wv).kept ((((zK.refl [w.heap.size] _).setCell (by simp) _).setCell (by simp) _).setCell (by simp) _) (by simp;omega)
theorem jQ (s:B8)(pos:Nat)(bad:Int)(b:Nat)(w:W8)(h:dS w b s pos bad)(aJ:pos<=s.size)(hs:s.size<=maxLen):
  Calls Tryz.prog 225 #[.pointer (some ⟨b,0,none⟩)] w λ e w'=>e=.returned (vH (tok s pos))/\zK [b] w w'/\dS w' b s (zW s pos bad) (zU s pos bad):=by
 by_cases hk:(tok s pos).kind=33\/(tok s pos).kind=46
 ·exact z8u s pos bad b w h hk
 ·by_cases hb:0<=bad
  ·exact z5a s pos bad b w h hk hb
  ·exact z5b s pos bad b w h aJ hs hk (by omega)
theorem zR (s:B8)(pos:Nat)(bad:Int)(aJ:pos<=s.size):zW s pos bad<=s.size:=by
 unfold zW;split
 ·exact zs9 s pos aJ
 ·exact aJ
def vF (s:B8)(pos:Nat)(bad:Int)(wd:B8):Nat:=if dZ s pos bad wd then zW s pos bad else pos
def vO (s:B8)(pos:Nat)(bad:Int)(wd:B8):Int:=if dZ s pos bad wd then zU s pos bad else bad
theorem zao (s wd:B8)(pos:Nat)(bad:Int)(b:Nat)(w:W8)(h:dS w b s pos bad)(aJ:pos<=s.size)(hs:s.size<=maxLen):
  Calls Tryz.prog 185 #[.pointer (some ⟨b,0,none⟩),.string wd] w λ e w'=>e=.returned (.bool (dZ s pos bad wd))/\zK [b] w w'/\dS w' b s (vF s pos bad wd) (vO s pos bad wd):=by
 by_cases hi:dZ s pos bad wd=true
 ·rw[vF,vO,if_pos hi,if_pos hi];go_enter Tryz.func185,Tryz.ntmps185;go_wp2_with fail;refine (zwb s wd pos bad b _ h).mono ?_;rintro e w1 ⟨rfl,rfl⟩;go_wp2_with fail;refine (jQ s pos bad b _ h aJ hs).mono ?_;rintro e w1 ⟨rfl,aW,bI⟩;go_wp2_with fail;go_ret;exact⟨by rw[hi];rfl,aW,bI⟩
 ·have ve:dZ s pos bad wd=false:=by simpa using hi
  rw[vF,vO,if_neg hi,if_neg hi];clear hi;go_enter Tryz.func185,Tryz.ntmps185;go_wp2_with fail;refine (zwb s wd pos bad b _ h).mono ?_;rintro e w1 ⟨rfl,rfl⟩;go_wp2_with fail;go_ret;exact⟨by rw[ve];rfl,zK.refl _ _,h⟩
def xM (s:B8)(pos:Nat)(bad:Int)(wd:B8):Int:=if dZ s pos bad wd then bad else zaw s pos bad
theorem za8 (s wd:B8)(pos:Nat)(bad:Int)(b:Nat)(w:W8)(h:dS w b s pos bad)(aJ:pos<=s.size)(hs:s.size<=maxLen):
  Calls Tryz.prog 187 #[.pointer (some ⟨b,0,none⟩),.string wd] w λ e w'=>e=.returned (.tuple #[])/\zK [b] w w'/\dS w' b s (zW s pos (xM s pos bad wd)) (zU s pos (xM s pos bad wd)):=by
 by_cases hi:dZ s pos bad wd=true
 ·rw[xM,if_pos hi];go_enter Tryz.func187,Tryz.ntmps187;go_wp2_with fail;refine (zwb s wd pos bad b _ h).mono ?_;rintro e w1 ⟨rfl,rfl⟩;go_wp2_with fail;refine (jQ s pos bad b _ h aJ hs).mono ?_;rintro e w1 ⟨rfl,aW,bI⟩;go_wp2_with fail;go_end0;exact⟨rfl,aW,bI⟩
 ·have ve:dZ s pos bad wd=false:=by simpa using hi
  rw[xM,if_neg hi];clear hi;go_enter Tryz.func187,Tryz.ntmps187;go_wp2_with fail;refine (zwb s wd pos bad b _ h).mono ?_;rintro e w1 ⟨rfl,rfl⟩;go_wp2_with fail;refine (za0 s pos bad b _ h).mono ?_;rintro e w1 ⟨rfl,aW,bI⟩;go_wp2_with fail;refine (jQ s pos _ b _ bI aJ hs).mono ?_;rintro e w2 ⟨rfl,bn,eZ⟩;go_wp2_with fail;go_end0;exact⟨rfl,aW.trans bn,eZ⟩
end
end Go.Proofs.YtldkpahaocjdpaaGreat
