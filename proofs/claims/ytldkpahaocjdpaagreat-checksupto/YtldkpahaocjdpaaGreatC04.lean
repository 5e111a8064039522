/-
  The reference's cut, where a row of small letters or the end comes next: what it answers is the token of the plain text (Spec), and no old memory has turned.
-/
import Derived.Test.YtldkpahaocjdpaaGreatC03
import Derived.Deep.RegionWith
set_option maxHeartbeats 16000000
set_option maxRecDepth 1000000
namespace Go.Proofs.YtldkpahaocjdpaaGreat
section
open Go.RowKit
theorem z65 (s:B8)(i:Nat)(hi:i<=s.size)(hs:s.size<=maxLen)(w:W8)(K:skip zO s i<s.size->skip zO s i<skip xP s (skip zO s i)):
  Calls Tryz.prog 123 #[.string s,.int .i64 i] w λ e w'=>e=.returned (.tuple #[vC (tok s i),.int .i64 (tok s i).to])/\Below w.heap.size w w':=by
 unfold maxLen at hs;go_enter Tryz.func123,Tryz.ntmps123
 go_wp2
 go_loop [1] (λ t=>∃ k:Nat,i<=k/\k<=s.size/\t=.int .i64 k/\skip zO s k=skip zO s i) (λ t=>s.size-(intOf t).toNat)
 exact⟨i,Nat.le_refl _,hi,rfl,rfl⟩
 case round=>
  obtain⟨k,Lp,hk,rfl,od⟩:=hrel;have HS:Hid (skip zO s k=skip zO s i):=od;clear od
  by_cases aG:k<s.size
  ·by_cases hb:zO s[k].toNat=true
   ·have HB:Hid (skip zO s (k+1)=skip zO s i):=(xW zO s k aG hb).symm.trans HS.out;have hc:(s[k].toNat:Int)=32\/(s[k].toNat:Int)=10:=(by simpa[zO] using hb);clear hb HS;rcases hc with hc | hc
    all_goals
     go_wp2
     go_round
     case rel=>exact⟨k+1,by omega,by omega,by go_num,HB.out⟩
     case measure=>simp[intOf];omega
   ·have kH:zO s[k].toNat=false:=(by simpa using hb);have HB:Hid (skip zO s i=k):=HS.out.symm.trans (xX zO s k aG kH);have oO:((s[k].toNat:Int)==32)=false:=(by simp[zO] at kH;simp[kH.1]);have nN:((s[k].toNat:Int)==10)=false:=(by simp[zO] at kH;simp[kH.2]);clear hb kH HS;have K':k<skip xP s k:=(by have:=K (by rw[HB.out];exact aG);rwa [HB.out] at this);clear K
    go_wp2
    go_loop [6] (λ t=>∃ m:Nat,k<=m/\m<=s.size/\t=.int .i64 m/\skip xP s m=skip xP s k) (λ t=>s.size-(intOf t).toNat)
    exact⟨k,Nat.le_refl _,hk,rfl,rfl⟩
    case round=>
     obtain⟨m,nQ,hm,rfl,cE⟩:=hrel;have HM:Hid (skip xP s m=skip xP s k):=cE;clear cE
     by_cases hgo:∃ h:m<s.size,xP s[m].toNat=true
     ·obtain⟨bh,cC⟩:=hgo;have rR:Hid (skip xP s (m+1)=skip xP s k):=(xW xP s m bh cC).symm.trans HM.out;go_wp2_with (go_at_call 182;refine (zal _ _).mono ?_;rintro e w' ⟨rfl,rfl⟩)
      go_round
      case rel=>exact⟨m+1,by omega,by omega,by go_num,rR.out⟩
      case measure=>simp[intOf];omega
     ·have nY:Hid (skip xP s k=m):=by
       refine HM.out.symm.trans ?_
       by_cases bh:m<s.size
       ·exact xX _ _ _ bh (by cases h:xP s[m].toNat;rfl;exact absurd ⟨bh,h⟩ hgo)
       ·exact jF _ _ _ bh
      have pj:k<m:=(by rw[<-nY.out];exact K');clear K'
      by_cases bh:m<s.size
      ·have cC:xP s[m].toNat=false:=(by cases h:xP s[m].toNat;rfl;exact absurd ⟨bh,h⟩ hgo);clear hgo;go_wp2_with (go_at_call 182;refine (zal _ _).mono ?_;rintro e w' ⟨rfl,rfl⟩)
       all_goals
        first
         | have HT:=z13 HB.out aG nY.out pj ‹_›
         | have HT:=zup HB.out aG nY.out pj ‹_› ‹_›
         | have HT:=zuo HB.out aG nY.out pj ‹_› ‹_›
        exact bodyPost_ret (v:=.tuple #[vC (tok s i),.int .i64 (tok s i).to]) (by rw[HT];simp[results,Tryz.results123,go_sem,vC]) rfl ⟨rfl,by first | exact B9.alloc L9 _ | exact below_drewN (B9.alloc L9 _) _⟩
      ·clear hgo;go_wp2_with (go_at_call 182;refine (zal _ _).mono ?_;rintro e w' ⟨rfl,rfl⟩)
       all_goals
        first
         | have HT:=z13 HB.out aG nY.out pj ‹_›
         | have HT:=zup HB.out aG nY.out pj ‹_› ‹_›
         | have HT:=zuo HB.out aG nY.out pj ‹_› ‹_›
        exact bodyPost_ret (v:=.tuple #[vC (tok s i),.int .i64 (tok s i).to]) (by rw[HT];simp[results,Tryz.results123,go_sem,vC]) rfl ⟨rfl,by first | exact B9.alloc L9 _ | exact below_drewN (B9.alloc L9 _) _⟩
  ·have HB:Hid (skip zO s i=k):=HS.out.symm.trans (jF zO s k aG);clear HS
   go_wp2
   have HT:=z8k HB.out (by omega);exact bodyPost_ret (v:=.tuple #[vC (tok s i),.int .i64 (tok s i).to]) (by rw[HT];simp[results,Tryz.results123,go_sem,vC]) rfl ⟨rfl,by first | exact B9.alloc L9 _ | exact below_drewN (B9.alloc L9 _) _⟩
end
section
open Go.RowKit
theorem z3e (s:B8)(i:Nat)(hi:i<=s.size)(hs:s.size<=maxLen)(w:W8)(K0:skip zO s i<s.size)(K1:skip xP s (skip zO s i)=skip zO s i)(K2:skip zO s i<skip yJ s (skip zO s i)):
  Calls Tryz.prog 123 #[.string s,.int .i64 i] w λ e w'=>e=.returned (.tuple #[vC (tok s i),.int .i64 (tok s i).to])/\Below w.heap.size w w':=by
 unfold maxLen at hs;go_enter Tryz.func123,Tryz.ntmps123
 go_wp2
 go_loop [1] (λ t=>∃ k:Nat,i<=k/\k<=s.size/\t=.int .i64 k/\skip zO s k=skip zO s i) (λ t=>s.size-(intOf t).toNat)
 exact⟨i,Nat.le_refl _,hi,rfl,rfl⟩
 case round=>
  obtain⟨k,Lp,hk,rfl,od⟩:=hrel;have HS:Hid (skip zO s k=skip zO s i):=od;clear od
  by_cases aG:k<s.size
  ·by_cases hb:zO s[k].toNat=true
   ·have HB:Hid (skip zO s (k+1)=skip zO s i):=(xW zO s k aG hb).symm.trans HS.out;have hc:(s[k].toNat:Int)=32\/(s[k].toNat:Int)=10:=(by simpa[zO] using hb);clear hb HS;rcases hc with hc | hc
    all_goals
     go_wp2
     go_round
     case rel=>exact⟨k+1,by omega,by omega,by go_num,HB.out⟩
     case measure=>simp[intOf];omega
   ·have kH:zO s[k].toNat=false:=(by simpa using hb);have HB:Hid (skip zO s i=k):=HS.out.symm.trans (xX zO s k aG kH);have oO:((s[k].toNat:Int)==32)=false:=(by simp[zO] at kH;simp[kH.1]);have nN:((s[k].toNat:Int)==10)=false:=(by simp[zO] at kH;simp[kH.2]);clear hb kH HS;have EY:skip xP s k=k:=(by have:=K1;rwa [HB.out] at this);have K':=zC EY;clear K1 EY;have Bc:k<skip yJ s k:=(by rwa [HB.out] at K2);clear K2 K0
    go_wp2
    go_loop [6] (λ t=>∃ m:Nat,k<=m/\m<=s.size/\t=.int .i64 m/\skip xP s m=skip xP s k) (λ t=>s.size-(intOf t).toNat)
    exact⟨k,Nat.le_refl _,hk,rfl,rfl⟩
    case round=>
     obtain⟨m,nQ,hm,rfl,cE⟩:=hrel;have HM:Hid (skip xP s m=skip xP s k):=cE;clear cE
     by_cases hgo:∃ h:m<s.size,xP s[m].toNat=true
     ·obtain⟨bh,cC⟩:=hgo;have rR:Hid (skip xP s (m+1)=skip xP s k):=(xW xP s m bh cC).symm.trans HM.out;go_wp2_with (go_at_call 182;refine (zal _ _).mono ?_;rintro e w' ⟨rfl,rfl⟩)
      go_round
      case rel=>exact⟨m+1,by omega,by omega,by go_num,rR.out⟩
      case measure=>simp[intOf];omega
     ·have nY:Hid (skip xP s k=m):=by
       refine HM.out.symm.trans ?_
       by_cases bh:m<s.size
       ·exact xX _ _ _ bh (by cases h:xP s[m].toNat;rfl;exact absurd ⟨bh,h⟩ hgo)
       ·exact jF _ _ _ bh
      have sh:k=m:=(by rw[<-nY.out];exact (zA K').symm);subst sh;have cC:xP s[k].toNat=false:=(by cases h:xP s[k].toNat;rfl;exact absurd ⟨aG,h⟩ hgo);clear hgo HM nQ hm K';go_wp2_with (go_at_call 182;refine (zal _ _).mono ?_;rintro e w' ⟨rfl,rfl⟩)
      go_loop [6] (λ t=>∃ m:Nat,k<=m/\m<=s.size/\t=.int .i64 m/\skip yJ s m=skip yJ s k) (λ t=>s.size-(intOf t).toNat)
      exact⟨k,Nat.le_refl _,hk,rfl,rfl⟩
      case round=>
       obtain⟨m,nQ,hm,rfl,cE⟩:=hrel;have HN:Hid (skip yJ s m=skip yJ s k):=cE;clear cE
       by_cases hgo:∃ h:m<s.size,yJ s[m].toNat=true
       ·obtain⟨bh,Fj⟩:=hgo;have rR:Hid (skip yJ s (m+1)=skip yJ s k):=(xW yJ s m bh Fj).symm.trans HN.out;go_wp2_with (go_at_call 183;refine (qF _ _).mono ?_;rintro e w' ⟨rfl,rfl⟩)
        go_round
        case rel=>exact⟨m+1,by omega,by omega,by go_num,rR.out⟩
        case measure=>simp[intOf];omega
       ·have tz:Hid (skip yJ s k=m):=by
         refine HN.out.symm.trans ?_
         by_cases bh:m<s.size
         ·exact xX _ _ _ bh (by cases h:yJ s[m].toNat;rfl;exact absurd ⟨bh,h⟩ hgo)
         ·exact jF _ _ _ bh
        have pj:k<m:=(by rw[<-tz.out];exact Bc);clear Bc
        by_cases bh:m<s.size
        ·have Fj:yJ s[m].toNat=false:=(by cases h:yJ s[m].toNat;rfl;exact absurd ⟨bh,h⟩ hgo);clear hgo;go_wp2_with (go_at_call 183;refine (qF _ _).mono ?_;rintro e w' ⟨rfl,rfl⟩)
         all_goals
          first
           | have HT:=z14 HB.out aG nY.out tz.out pj ‹_›
           | have HT:=zkx HB.out aG nY.out tz.out pj ‹_›
          exact bodyPost_ret (v:=.tuple #[vC (tok s i),.int .i64 (tok s i).to]) (by rw[HT];simp[results,Tryz.results123,go_sem,vC]) rfl ⟨rfl,by first | exact B9.alloc L9 _ | exact below_drewN (B9.alloc L9 _) _⟩
        ·clear hgo;go_wp2_with (go_at_call 183;refine (qF _ _).mono ?_;rintro e w' ⟨rfl,rfl⟩)
         all_goals
          first
           | have HT:=z14 HB.out aG nY.out tz.out pj ‹_›
           | have HT:=zkx HB.out aG nY.out tz.out pj ‹_›
          exact bodyPost_ret (v:=.tuple #[vC (tok s i),.int .i64 (tok s i).to]) (by rw[HT];simp[results,Tryz.results123,go_sem,vC]) rfl ⟨rfl,by first | exact B9.alloc L9 _ | exact below_drewN (B9.alloc L9 _) _⟩
  ·exact absurd (by have h:=HS.out.symm.trans (jF zO s k aG);rw[h] at K0;exact K0) aG
end
section
open Go.RowKit
theorem zyt (s:B8)(i:Nat)(hi:i<=s.size)(hs:s.size<=maxLen)(w:W8)(K0:skip zO s i<s.size)(K1:skip xP s (skip zO s i)=skip zO s i)(K2:skip yJ s (skip zO s i)=skip zO s i)(K3:(zoz s (skip zO s i):Int)=58):
  Calls Tryz.prog 123 #[.string s,.int .i64 i] w λ e w'=>e=.returned (.tuple #[vC (tok s i),.int .i64 (tok s i).to])/\Below w.heap.size w w':=by
 unfold maxLen at hs;go_enter Tryz.func123,Tryz.ntmps123
 go_wp2
 go_loop [1] (λ t=>∃ k:Nat,i<=k/\k<=s.size/\t=.int .i64 k/\skip zO s k=skip zO s i) (λ t=>s.size-(intOf t).toNat)
 exact⟨i,Nat.le_refl _,hi,rfl,rfl⟩
 case round=>
  obtain⟨k,Lp,hk,rfl,od⟩:=hrel;have HS:Hid (skip zO s k=skip zO s i):=od;clear od
  by_cases aG:k<s.size
  ·by_cases hb:zO s[k].toNat=true
   ·have HB:Hid (skip zO s (k+1)=skip zO s i):=(xW zO s k aG hb).symm.trans HS.out;have hc:(s[k].toNat:Int)=32\/(s[k].toNat:Int)=10:=(by simpa[zO] using hb);clear hb HS;rcases hc with hc | hc
    all_goals
     go_wp2
     go_round
     case rel=>exact⟨k+1,by omega,by omega,by go_num,HB.out⟩
     case measure=>simp[intOf];omega
   ·have kH:zO s[k].toNat=false:=(by simpa using hb);have HB:Hid (skip zO s i=k):=HS.out.symm.trans (xX zO s k aG kH);have oO:((s[k].toNat:Int)==32)=false:=(by simp[zO] at kH;simp[kH.1]);have nN:((s[k].toNat:Int)==10)=false:=(by simp[zO] at kH;simp[kH.2]);clear hb kH HS;have EY:skip xP s k=k:=(by have:=K1;rwa [HB.out] at this);have K':=zC EY;clear K1 EY;have Bc:=zC (show skip yJ s k=k by rwa [HB.out] at K2);clear K2 K0;have J9:=zC (show (s[k].toNat:Int)=58 by rw[HB.out,zo0 aG] at K3;exact K3);clear K3
    go_wp2
    go_loop [6] (λ t=>∃ m:Nat,k<=m/\m<=s.size/\t=.int .i64 m/\skip xP s m=skip xP s k) (λ t=>s.size-(intOf t).toNat)
    exact⟨k,Nat.le_refl _,hk,rfl,rfl⟩
    case round=>
     obtain⟨m,nQ,hm,rfl,cE⟩:=hrel;have HM:Hid (skip xP s m=skip xP s k):=cE;clear cE
     by_cases hgo:∃ h:m<s.size,xP s[m].toNat=true
     ·obtain⟨bh,cC⟩:=hgo;have rR:Hid (skip xP s (m+1)=skip xP s k):=(xW xP s m bh cC).symm.trans HM.out;go_wp2_with (go_at_call 182;refine (zal _ _).mono ?_;rintro e w' ⟨rfl,rfl⟩)
      go_round
      case rel=>exact⟨m+1,by omega,by omega,by go_num,rR.out⟩
      case measure=>simp[intOf];omega
     ·have nY:Hid (skip xP s k=m):=by
       refine HM.out.symm.trans ?_
       by_cases bh:m<s.size
       ·exact xX _ _ _ bh (by cases h:xP s[m].toNat;rfl;exact absurd ⟨bh,h⟩ hgo)
       ·exact jF _ _ _ bh
      have sh:k=m:=(by rw[<-nY.out];exact (zA K').symm);subst sh;have cC:xP s[k].toNat=false:=(by cases h:xP s[k].toNat;rfl;exact absurd ⟨aG,h⟩ hgo);clear hgo HM nQ hm K';go_wp2_with (go_at_call 182;refine (zal _ _).mono ?_;rintro e w' ⟨rfl,rfl⟩)
      go_loop [6] (λ t=>∃ m:Nat,k<=m/\m<=s.size/\t=.int .i64 m/\skip yJ s m=skip yJ s k) (λ t=>s.size-(intOf t).toNat)
      exact⟨k,Nat.le_refl _,hk,rfl,rfl⟩
      case round=>
       obtain⟨m,nQ,hm,rfl,cE⟩:=hrel;have HN:Hid (skip yJ s m=skip yJ s k):=cE;clear cE
       by_cases hgo:∃ h:m<s.size,yJ s[m].toNat=true
       ·obtain⟨bh,Fj⟩:=hgo;have rR:Hid (skip yJ s (m+1)=skip yJ s k):=(xW yJ s m bh Fj).symm.trans HN.out;go_wp2_with (go_at_call 183;refine (qF _ _).mono ?_;rintro e w' ⟨rfl,rfl⟩)
        go_round
        case rel=>exact⟨m+1,by omega,by omega,by go_num,rR.out⟩
        case measure=>simp[intOf];omega
       ·have tz:Hid (skip yJ s k=m):=by
         refine HN.out.symm.trans ?_
         by_cases bh:m<s.size
         ·exact xX _ _ _ bh (by cases h:yJ s[m].toNat;rfl;exact absurd ⟨bh,h⟩ hgo)
         ·exact jF _ _ _ bh
        have sh:k=m:=(by rw[<-tz.out];exact (zA Bc).symm);subst sh;have Fj:yJ s[k].toNat=false:=(by cases h:yJ s[k].toNat;rfl;exact absurd ⟨aG,h⟩ hgo);clear hgo HN nQ hm Bc;have di:=zA J9;clear J9;have nW:=zC di;have P2:((s[k].toNat:Int)==58)=true:=(by rw[di];rfl);clear di
        by_cases bg:k+1<s.size
        ·by_cases dd:(s[k+1].toNat:Int)=45
         ·have HL:=zC (zqr aG (zA nW) bg dd);go_wp2_with (go_at_call 183;refine (qF _ _).mono ?_;rintro e w' ⟨rfl,rfl⟩);have HT:=z5l HB.out aG nY.out tz.out (zA HL);exact bodyPost_ret (v:=.tuple #[vC (tok s i),.int .i64 (tok s i).to]) (by rw[HT];simp[results,Tryz.results123,go_sem,vC]) rfl ⟨rfl,by first | exact B9.alloc L9 _ | exact below_drewN (B9.alloc L9 _) _ | exact (((below_drewN (B9.alloc L9 _) _).setCell L9 _).setCell L9 _).setCell L9 _⟩
         ·have OK:=zC (zhd aG (zA nW) (λ _=>dd));have e45:((s[k+1].toNat:Int)==45)=false:=(by simp[dd]);clear dd;go_wp2_with (go_at_call 183;refine (qF _ _).mono ?_;rintro e w' ⟨rfl,rfl⟩)
          go_loopw [6] (λ t wr=>∃ j n:Nat,(j=0/\t=.int .i64 0\/j=1/\t=.int .i64 1\/j=2/\t=.int .i64 2\/j=3/\t=.int .i64 3\/j=4/\t=.int .i64 4)/\(∀ c,c∈([40,41,44,46]:List Int).take j->(s[k].toNat:Int)≠c)/\wr=(w.alloc (Obj.cells #[.int IntKind.u8 0,.string { data:=#[] },.int IntKind.i64 0] 233)).drewN n) (λ t _=>4-(intOf t).toNat)
          exact⟨0,0,by simp,by simp,rfl⟩
          case round=>
           obtain⟨j,n,hj,hd,rfl⟩:=hrel;have HD:=zC hd;clear hd;rcases hj with⟨rfl,rfl⟩ | ⟨rfl,rfl⟩ | ⟨rfl,rfl⟩ | ⟨rfl,rfl⟩ | ⟨rfl,rfl⟩
           ·have e1:(((({ data:=#[40,41,44,46] }:B8)[0]'(by decide)).toNat:Int)==(s[k].toNat:Int))=false:=(by rw[zA nW];rfl);have HQ:Hid (¬ (s[k].toNat:Int)=40):=(by show ¬ _;rw[zA nW];decide);go_wp2_with fail;go_quiet (fail)
            go_wp2
            go_roundw
            case rel=>exact⟨1,_,by simp,more HD.out (zA HQ) rfl rfl,rfl⟩
            case measure=>simp[intOf]
           ·have e1:(((({ data:=#[40,41,44,46] }:B8)[1]'(by decide)).toNat:Int)==(s[k].toNat:Int))=false:=(by rw[zA nW];rfl);have HQ:Hid (¬ (s[k].toNat:Int)=41):=(by show ¬ _;rw[zA nW];decide);go_wp2_with fail;go_quiet (fail)
            go_wp2
            go_roundw
            case rel=>exact⟨2,_,by simp,more HD.out (zA HQ) rfl rfl,rfl⟩
            case measure=>simp[intOf]
           ·have e1:(((({ data:=#[40,41,44,46] }:B8)[2]'(by decide)).toNat:Int)==(s[k].toNat:Int))=false:=(by rw[zA nW];rfl);have HQ:Hid (¬ (s[k].toNat:Int)=44):=(by show ¬ _;rw[zA nW];decide);go_wp2_with fail;go_quiet (fail)
            go_wp2
            go_roundw
            case rel=>exact⟨3,_,by simp,more HD.out (zA HQ) rfl rfl,rfl⟩
            case measure=>simp[intOf]
           ·have e1:(((({ data:=#[40,41,44,46] }:B8)[3]'(by decide)).toNat:Int)==(s[k].toNat:Int))=false:=(by rw[zA nW];rfl);have HQ:Hid (¬ (s[k].toNat:Int)=46):=(by show ¬ _;rw[zA nW];decide);go_wp2_with fail;go_quiet (fail)
            go_wp2
            go_roundw
            case rel=>exact⟨4,_,by simp,more HD.out (zA HQ) rfl rfl,rfl⟩
            case measure=>simp[intOf]
           ·have HL:Hid (xG s k=0):=OK
            go_wp2
            have HT:=zob HB.out aG nY.out tz.out HL.out;exact bodyPost_ret (v:=.tuple #[vC (tok s i),.int .i64 (tok s i).to]) (by rw[HT];simp[results,Tryz.results123,go_sem,vC]) rfl ⟨rfl,by first | exact B9.alloc L9 _ | exact below_drewN (B9.alloc L9 _) _ | exact (((below_drewN (B9.alloc L9 _) _).setCell L9 _).setCell L9 _).setCell L9 _⟩
        ·have OK:=zC (zhd aG (zA nW) (λ h=>absurd h bg));go_wp2_with (go_at_call 183;refine (qF _ _).mono ?_;rintro e w' ⟨rfl,rfl⟩)
         go_loopw [6] (λ t wr=>∃ j n:Nat,(j=0/\t=.int .i64 0\/j=1/\t=.int .i64 1\/j=2/\t=.int .i64 2\/j=3/\t=.int .i64 3\/j=4/\t=.int .i64 4)/\(∀ c,c∈([40,41,44,46]:List Int).take j->(s[k].toNat:Int)≠c)/\wr=(w.alloc (Obj.cells #[.int IntKind.u8 0,.string { data:=#[] },.int IntKind.i64 0] 233)).drewN n) (λ t _=>4-(intOf t).toNat)
         exact⟨0,0,by simp,by simp,rfl⟩
         case round=>
          obtain⟨j,n,hj,hd,rfl⟩:=hrel;have HD:=zC hd;clear hd;rcases hj with⟨rfl,rfl⟩ | ⟨rfl,rfl⟩ | ⟨rfl,rfl⟩ | ⟨rfl,rfl⟩ | ⟨rfl,rfl⟩
          ·have e1:(((({ data:=#[40,41,44,46] }:B8)[0]'(by decide)).toNat:Int)==(s[k].toNat:Int))=false:=(by rw[zA nW];rfl);have HQ:Hid (¬ (s[k].toNat:Int)=40):=(by show ¬ _;rw[zA nW];decide);go_wp2_with fail;go_quiet (fail)
           go_wp2
           go_roundw
           case rel=>exact⟨1,_,by simp,more HD.out (zA HQ) rfl rfl,rfl⟩
           case measure=>simp[intOf]
          ·have e1:(((({ data:=#[40,41,44,46] }:B8)[1]'(by decide)).toNat:Int)==(s[k].toNat:Int))=false:=(by rw[zA nW];rfl);have HQ:Hid (¬ (s[k].toNat:Int)=41):=(by show ¬ _;rw[zA nW];decide);go_wp2_with fail;go_quiet (fail)
           go_wp2
           go_roundw
           case rel=>exact⟨2,_,by simp,more HD.out (zA HQ) rfl rfl,rfl⟩
           case measure=>simp[intOf]
          ·have e1:(((({ data:=#[40,41,44,46] }:B8)[2]'(by decide)).toNat:Int)==(s[k].toNat:Int))=false:=(by rw[zA nW];rfl);have HQ:Hid (¬ (s[k].toNat:Int)=44):=(by show ¬ _;rw[zA nW];decide);go_wp2_with fail;go_quiet (fail)
           go_wp2
           go_roundw
           case rel=>exact⟨3,_,by simp,more HD.out (zA HQ) rfl rfl,rfl⟩
           case measure=>simp[intOf]
          ·have e1:(((({ data:=#[40,41,44,46] }:B8)[3]'(by decide)).toNat:Int)==(s[k].toNat:Int))=false:=(by rw[zA nW];rfl);have HQ:Hid (¬ (s[k].toNat:Int)=46):=(by show ¬ _;rw[zA nW];decide);go_wp2_with fail;go_quiet (fail)
           go_wp2
           go_roundw
           case rel=>exact⟨4,_,by simp,more HD.out (zA HQ) rfl rfl,rfl⟩
           case measure=>simp[intOf]
          ·have HL:Hid (xG s k=0):=OK
           go_wp2
           have HT:=zob HB.out aG nY.out tz.out HL.out;exact bodyPost_ret (v:=.tuple #[vC (tok s i),.int .i64 (tok s i).to]) (by rw[HT];simp[results,Tryz.results123,go_sem,vC]) rfl ⟨rfl,by first | exact B9.alloc L9 _ | exact below_drewN (B9.alloc L9 _) _ | exact (((below_drewN (B9.alloc L9 _) _).setCell L9 _).setCell L9 _).setCell L9 _⟩
  ·exact absurd (by have h:=HS.out.symm.trans (jF zO s k aG);rw[h] at K0;exact K0) aG
end
section
open Go.RowKit
theorem z64 (s:B8)(i:Nat)(hi:i<=s.size)(hs:s.size<=maxLen)(w:W8):
  Calls Tryz.prog 123 #[.string s,.int .i64 i] w λ e w'=>e=.returned (.tuple #[vC (tok s i),.int .i64 (tok s i).to])/\Below w.heap.size w w':=by
 by_cases K:skip zO s i<s.size->skip zO s i<skip xP s (skip zO s i)
 ·exact z65 s i hi hs w K
 ·have K0:skip zO s i<s.size:=by omega
  have g1:=zn6 xP s (skip zO s i);have g2:=zn6 yJ s (skip zO s i);have K1:skip xP s (skip zO s i)=skip zO s i:=by omega
  by_cases K2:skip zO s i<skip yJ s (skip zO s i)
  ·exact z3e s i hi hs w K0 K1 K2
  ·have Bc:skip yJ s (skip zO s i)=skip zO s i:=by omega
   by_cases K3:(zoz s (skip zO s i):Int)=58
   ·exact zyt s i hi hs w K0 K1 Bc K3
   ·exact zyu s i hi hs w K0 K1 Bc K3
end
section
open Go.RowKit
structure zN (B:List Nat)(w w':W8):Prop where
 os:w'.os=w.os
 tape:w'.tape=w.tape
 output:w'.output=w.output
 size:w.heap.size<=w'.heap.size
 block:∀ k,k<w.heap.size->k∉B->w'.heap[k]?=w.heap[k]?
theorem zN.refl (B:List Nat)(w:W8):zN B w w:=⟨rfl,rfl,rfl,Nat.le_refl _,λ _ _ _=>rfl⟩
theorem zN.trans {B:List Nat}{a b c:W8}(h:zN B a b)(k:zN B b c):zN B a c:=
 ⟨k.os.trans h.os,k.tape.trans h.tape,k.output.trans h.output,Nat.le_trans h.size k.size,λ i hi hn=>(k.block i (Nat.lt_of_lt_of_le hi h.size) hn).trans (h.block i hi hn)⟩
variable {a w w':W8} {B:List Nat}
theorem zN.ai (h:zN B a w)(k:Below w.heap.size w w'):zN B a w':=
 h.trans ⟨k.os,k.tape,k.output,k.size,λ i hi _=>k.block i hi⟩
theorem zN.alloc (h:zN B a w)(o:Obj):zN B a (w.alloc o):=
 h.trans ⟨rfl,rfl,rfl,by simp,λ k hk _=>Below.heap_alloc _ _ _ hk⟩
theorem zN.drewN (h:zN B a w)(n:Nat):zN B a (w.drewN n):=⟨h.os,h.tape,h.output,h.size,h.block⟩
theorem zN.drew (h:zN B a w):zN B a w.drew:=⟨h.os,h.tape,h.output,h.size,h.block⟩
theorem zN.setCell {B:List Nat}{a w:W8}(h:zN B a w){p:Addr}(hp:p.block∈B\/a.heap.size<=p.block)(u:Value):zN B a (w.setCell p u):=
 ⟨h.os,h.tape,h.output,by have:=h.size;simpa[World.setCell] using this,λ k hk hn=>(Below.heap_setCell _ _ _ _ (by rintro rfl;rcases hp with hp | hp;exact hn hp;omega)).trans (h.block k hk hn)⟩
theorem zN.mono {C:List Nat}(h:zN B w w')(hs:∀ k,k∈B->k∈C\/w.heap.size<=k):zN C w w':=
 ⟨h.os,h.tape,h.output,h.size,λ k hk hn=>h.block k hk (λ hb=>by rcases hs k hb with h1 | h1;exact hn h1;omega)⟩
variable {p:Addr}
theorem zN.cell (h:zN B w w')(hp:p.block<w.heap.size)(hn:p.block∉B):w'.cell? p=w.cell? p:=World.cell?_of_block (w:=w) (h.block p.block hp hn)
theorem zN.frozen (h:zN B w w')(hp:p.block<w.heap.size)(hn:p.block∉B):w'.frozen? p=w.frozen? p:=World.frozen?_of_block (w:=w) (h.block p.block hp hn)
structure ib (w:W8)(b:Nat)(s:B8)(pos:Nat)(bad:Int):Prop where
 lt:b<w.heap.size
 c0:w.cell? ⟨b,0,none⟩=some (.string s)
 c1:w.cell? ⟨b,1,none⟩=some (.int .u8 (tok s pos).kind)
 c2:w.cell? ⟨b,2,none⟩=some (.string (tok s pos).text)
 c3:w.cell? ⟨b,3,none⟩=some (.int .i64 (tok s pos).at_)
 c4:w.cell? ⟨b,4,none⟩=some (.int .i64 (tok s pos).to)
 c5:w.cell? ⟨b,5,none⟩=some (.int .i64 bad)
 fz:∀ o,w.frozen? ⟨b,o,none⟩=false
variable {bad:Int} {pos b:Nat} {s:B8}
theorem ib.kept (h:ib w b s pos bad)(k:zN B w w')(hn:b∉B):ib w' b s pos bad:=
 ⟨Nat.lt_of_lt_of_le h.lt k.size,(k.cell h.lt hn).trans h.c0,(k.cell h.lt hn).trans h.c1,(k.cell h.lt hn).trans h.c2,(k.cell h.lt hn).trans h.c3,(k.cell h.lt hn).trans h.c4,(k.cell h.lt hn).trans h.c5,λ o=>(k.frozen h.lt hn).trans (h.fz o)⟩
def zab (s:B8)(pos:Nat)(bad:Int):Int:=if bad<0 then (tok s pos).at_ else bad
theorem zai (s:B8)(pos:Nat)(bad:Int)(b:Nat)(w:W8)(h:ib w b s pos bad):
  Calls Tryz.prog 124 #[.pointer (some ⟨b,0,none⟩)] w λ e w'=>e=.returned (.tuple #[])/\zN [b] w w'/\ib w' b s pos (zab s pos bad):=by
 have h':=h;obtain⟨aG,c0,c1,c2,c3,c4,c5,fz⟩:=h
 by_cases hb:bad<0
 ·go_enter Tryz.func124,Tryz.ntmps124
  go_wp2
  go_end0;refine⟨rfl,(zN.refl _ _).setCell (by simp) _,⟨by simpa[World.setCell] using aG,?_,?_,?_,?_,?_,?_,?_⟩⟩
  ·go_simp
  ·go_simp
  ·go_simp
  ·go_simp
  ·go_simp
  ·rw[zab,if_pos hb];go_simp
  ·go_simp
 ·go_enter Tryz.func124,Tryz.ntmps124
  go_wp2
  go_end0;exact⟨rfl,zN.refl _ _,by rw[zab,if_neg (by omega)];exact h'⟩
def im (s:B8)(pos:Nat)(bad:Int)(wd:B8):Bool:=decide (bad<0)&&((tok s pos).kind==115&&(tok s pos).text.toList==wd.toList)
theorem ztm (s wd:B8)(pos:Nat)(bad:Int)(b:Nat)(w:W8)(h:ib w b s pos bad):
  Calls Tryz.prog 226 #[.pointer (some ⟨b,0,none⟩),.string wd] w λ e w'=>e=.returned (.bool (im s pos bad wd))/\w'=w:=by
 obtain⟨aG,c0,c1,c2,c3,c4,c5,fz⟩:=h
 by_cases hb:bad<0
 ·by_cases hk:((tok s pos).kind==115)=true
  ·go_enter Tryz.func226,Tryz.ntmps226
   go_wp2
   go_ret;exact⟨by simp[im,hb,hk],rfl⟩
  ·have ph:((tok s pos).kind==115)=false:=(by simpa using hk);clear hk;go_enter Tryz.func226,Tryz.ntmps226
   go_wp2
   go_ret;exact⟨by simp[im,ph],rfl⟩
 ·go_enter Tryz.func226,Tryz.ntmps226
  go_wp2
  go_ret;exact⟨by rw[im,decide_eq_false (by omega)];rfl,rfl⟩
def zT (s:B8)(pos:Nat)(bad:Int):Int:=if (tok s pos).kind=33\/(tok s pos).kind=46 then zab s pos bad else bad
def zW (s:B8)(pos:Nat)(bad:Int):Nat:=if zT s pos bad<0 then (tok s pos).to else pos
theorem jT (s:B8)(pos:Nat)(bad:Int):0<=zab s pos bad:=by unfold zab;split <;> omega
variable {w1:W8}
theorem zN.rules {W:W8}(hk:zN [b] W w1):(∀ n o,b<n->n<W.heap.size->w1.cell? ⟨n,o,none⟩=W.cell? ⟨n,o,none⟩)/\(∀ n o,b<n->n<W.heap.size->w1.frozen? ⟨n,o,none⟩=W.frozen? ⟨n,o,none⟩):=
 ⟨λ n o h1 h2=>hk.cell (p:=⟨n,o,none⟩) h2 (by simp;omega),λ n o h1 h2=>hk.frozen (p:=⟨n,o,none⟩) h2 (by simp;omega)⟩
theorem z6c {n:Nat}{u0 u1 u2:Value}(h0:w1.cell? ⟨n,0,none⟩=some u0)(h1:w1.cell? ⟨n,1,none⟩=some u1)(h2:w1.cell? ⟨n,2,none⟩=some u2)(v0 v1 v2:Value):
  (((w1.setCell ⟨n,0,none⟩ v0).setCell ⟨n,1,none⟩ v1).setCell ⟨n,2,none⟩ v2).cell? ⟨n,0,none⟩=some v0 /\
  (((w1.setCell ⟨n,0,none⟩ v0).setCell ⟨n,1,none⟩ v1).setCell ⟨n,2,none⟩ v2).cell? ⟨n,1,none⟩=some v1 /\
  (((w1.setCell ⟨n,0,none⟩ v0).setCell ⟨n,1,none⟩ v1).setCell ⟨n,2,none⟩ v2).cell? ⟨n,2,none⟩=some v2:=by
 refine⟨?_,?_,?_⟩ <;> go_simp
theorem zc3 (w:W8)(a b c:Value)(t:TypeId)(o:Obj)(j:Nat):((w.alloc (.cells #[a,b,c] t)).alloc o).cell? ⟨w.heap.size,j,none⟩=#[a,b,c][j]?:=by
 rw[World.cell?_alloc_past _ _ _ (by simp),World.cell?_alloc_at _ _ _ _ rfl]
theorem ib.cells (h:ib w b s pos bad):b<w.heap.size/\w.cell? ⟨b,0,none⟩=some (.string s)/\w.cell? ⟨b,1,none⟩=some (.int .u8 (tok s pos).kind)/\w.cell? ⟨b,2,none⟩=some (.string (tok s pos).text)/\w.cell? ⟨b,3,none⟩=some (.int .i64 (tok s pos).at_)/\w.cell? ⟨b,4,none⟩=some (.int .i64 (tok s pos).to)/\w.cell? ⟨b,5,none⟩=some (.int .i64 bad)/\∀ o,w.frozen? ⟨b,o,none⟩=false:=
 ⟨h.lt,h.c0,h.c1,h.c2,h.c3,h.c4,h.c5,h.fz⟩
theorem z5d (s:B8)(pos:Nat)(bad:Int)(b:Nat)(w:W8)(h:ib w b s pos bad)(hk:(tok s pos).kind=33\/(tok s pos).kind=46):
  Calls Tryz.prog 225 #[.pointer (some ⟨b,0,none⟩)] w λ e w'=>e=.returned (vC (tok s pos))/\zN [b] w w'/\ib w' b s (zW s pos bad) (zT s pos bad):=by
 have hn:=jT s pos bad;have e1:zT s pos bad=zab s pos bad:=by rw[zT,if_pos hk]
 have e2:zW s pos bad=pos:=by rw[zW,e1,if_neg (by omega)]
 rw[e1,e2];clear e1 e2;have h':=h;obtain⟨aG,c0,c1,c2,c3,c4,c5,fz⟩:=h;have ph:(((tok s pos).kind==33)=true)\/(((tok s pos).kind==33)=false/\((tok s pos).kind==46)=true):=by
  rcases hk with hk | hk <;> simp[hk]
 clear hk;rcases ph with hk | ⟨hk,cy⟩
 all_goals
  go_enter Tryz.func225,Tryz.ntmps225;go_wp2_with fail;refine (zai s pos bad b _ (h'.kept (((zN.refl [] _).alloc _).alloc _) (by simp))).mono ?_;rintro e w1 ⟨rfl,bg,cF⟩;have QY:=cF;obtain⟨r1,r2⟩:=bg.rules;obtain⟨vg,d0,d1,d2,d3,d4,d5,fz1⟩:=cF;have hz:w.heap.size+1<w1.heap.size:=by have:=bg.size;simp at this;omega
  clear c0 c1 c2 c3 c4 c5 h';go_wp2_with fail;obtain⟨q0,q1,q2⟩:=z6c (w1:=w1) (n:=w.heap.size) ((r1 _ _ aG (by simp;omega)).trans (zc3 w _ _ _ _ _ 0)) ((r1 _ _ aG (by simp;omega)).trans (zc3 w _ _ _ _ _ 1)) ((r1 _ _ aG (by simp;omega)).trans (zc3 w _ _ _ _ _ 2)) (.int .u8 (tok s pos).kind) (.string (tok s pos).text) (.int .i64 (tok s pos).at_);refine bodyPost_ret (v:=vC (tok s pos)) (by simp[results,Tryz.results225,go_sem,vC,q0,q1,q2]) rfl ⟨rfl,?_,?_⟩
  ·exact ((((((zN.refl _ _).alloc _).alloc _).trans bg).setCell (.inr L9) _).setCell (.inr L9) _).setCell (.inr L9) _
  ·exact QY.kept ((((zN.refl [w.heap.size] w1).setCell (by simp) _).setCell (by simp) _).setCell (by simp) _) (by simp;omega)
theorem z1v (s:B8)(pos:Nat)(bad:Int)(b:Nat)(w:W8)(h:ib w b s pos bad)(hk:¬ ((tok s pos).kind=33\/(tok s pos).kind=46))(hb:0<=bad):
  Calls Tryz.prog 225 #[.pointer (some ⟨b,0,none⟩)] w λ e w'=>e=.returned (vC (tok s pos))/\zN [b] w w'/\ib w' b s (zW s pos bad) (zT s pos bad):=by
 have e1:zT s pos bad=bad:=by rw[zT,if_neg hk]
 have e2:zW s pos bad=pos:=by rw[zW,e1,if_neg (by omega)]
 rw[e1,e2];clear e1 e2;have h':=h;obtain⟨aG,c0,c1,c2,c3,c4,c5,fz⟩:=h;have bg:((tok s pos).kind==33)=false:=by simp;omega
 have cy:((tok s pos).kind==46)=false:=by simp;omega
 clear hk;go_enter Tryz.func225,Tryz.ntmps225;go_wp2_with fail;refine bodyPost_ret (v:=vC (tok s pos)) (by simp[results,Tryz.results225,go_sem,vC]) rfl ⟨rfl,?_,?_⟩
 ·exact ((zN.refl _ _).alloc _).alloc _
 ·exact h'.kept (((zN.refl [] _).alloc _).alloc _) (by simp)
theorem zm6 (s:B8)(i:Nat)(hi:i<=s.size)(hs:s.size<=maxLen)(w:W8):
  Calls Tryz.prog 123 #[.string s,.int .i64 i] w λ e w'=>e=.returned (.tuple #[.agg #[.int .u8 (tok s i).kind,.string (tok s i).text,.int .i64 (tok s i).at_],.int .i64 (tok s i).to])/\Below w.heap.size w w':=z64 s i hi hs w
theorem zq1 (s:B8)(i:Nat)(hi:i<=s.size):(tok s i).to<=s.size:=by
 have h0:=zb8 zO s i hi;have h1:=zb8 xP s (skip zO s i) h0;have h2:=zb8 yJ s (skip zO s i) h0;unfold tok zgh;generalize skip zO s i=k at *
 split
 ·simpa using h0
 ·rename_i hk
  split
  ·split
   ·exact h1
   ·split <;> exact h1
  ·split
   ·split <;> exact h2
   ·split
    ·simp;omega
    ·split
     ·rename_i h3;simp only;unfold xG at h3
      split at h3
      ·split at h3
       ·split at h3
        ·omega
        ·simp at h3
       ·split at h3 <;> simp at h3
      ·simp at h3
     ·simp;omega
end
section
open Go.RowKit
theorem zkd {W v:W8}(h:Below W.heap.size W v):
  (∀ n o,n<W.heap.size->v.cell? ⟨n,o,none⟩=W.cell? ⟨n,o,none⟩)/\(∀ n o,n<W.heap.size->v.frozen? ⟨n,o,none⟩=W.frozen? ⟨n,o,none⟩):=by
 constructor <;> intro n o hn
 ·exact World.cell?_of_block (h.block n hn)
 ·exact World.frozen?_of_block (h.block n hn)
theorem z0k {w1:W8}{b:Nat}{s:B8}{pos pos':Nat}{bad:Int}(h:ib w1 b s pos bad):
  ib ((((w1.setCell ⟨b,1,none⟩ (.int .u8 (tok s pos').kind)).setCell ⟨b,2,none⟩ (.string (tok s pos').text)).setCell ⟨b,3,none⟩ (.int .i64 (tok s pos').at_)).setCell ⟨b,4,none⟩ (.int .i64 (tok s pos').to)) b s pos' bad:=by
 obtain⟨aG,c0,c1,c2,c3,c4,c5,fz⟩:=h;refine⟨by simpa using aG,?_,?_,?_,?_,?_,?_,?_⟩
 all_goals go_simp
theorem zj5 (w1:W8)(b:Nat)(v1 v2 v3 v4:Value):zN [b] w1 ((((w1.setCell ⟨b,1,none⟩ v1).setCell ⟨b,2,none⟩ v2).setCell ⟨b,3,none⟩ v3).setCell ⟨b,4,none⟩ v4):=
 ((((zN.refl [b] w1).setCell (by simp) _).setCell (by simp) _).setCell (by simp) _).setCell (by simp) _
theorem z1w (s:B8)(pos:Nat)(bad:Int)(b:Nat)(w:W8)(h:ib w b s pos bad)(aI:pos<=s.size)(hs:s.size<=maxLen)(hk:¬ ((tok s pos).kind=33\/(tok s pos).kind=46))(hb:bad<0):
  Calls Tryz.prog 225 #[.pointer (some ⟨b,0,none⟩)] w λ e w'=>e=.returned (vC (tok s pos))/\zN [b] w w'/\ib w' b s (zW s pos bad) (zT s pos bad):=by
 have e1:zT s pos bad=bad:=by rw[zT,if_neg hk]
 have e2:zW s pos bad=(tok s pos).to:=by rw[zW,e1,if_pos (by omega)]
 rw[e1,e2];clear e1 e2;have FH:=zq1 s pos aI;have h':=h;obtain⟨aG,c0,c1,c2,c3,c4,c5,fz⟩:=h;have bg:((tok s pos).kind==33)=false:=by simp;omega
 have cy:((tok s pos).kind==46)=false:=by simp;omega
 clear hk;go_enter Tryz.func225,Tryz.ntmps225;go_wp2_with fail;have iX:∀ w1 nq,Below (((w.alloc (Obj.cells #[.int IntKind.u8 0,.string { data:=#[] },.int IntKind.i64 0] 233)).alloc (Obj.cells #[.int IntKind.u8 (tok s pos).kind,.string (tok s pos).text,.int IntKind.i64 ↑(tok s pos).at_] 233)).drewN nq).heap.size (((w.alloc (Obj.cells #[.int IntKind.u8 0,.string { data:=#[] },.int IntKind.i64 0] 233)).alloc (Obj.cells #[.int IntKind.u8 (tok s pos).kind,.string (tok s pos).text,.int IntKind.i64 ↑(tok s pos).at_] 233)).drewN nq) w1->ib w1 b s pos bad:=
  λ w1 nq hb=>h'.kept (((((zN.refl [] _).alloc _).alloc _).drewN _).ai hb) (by simp)
 have HP:=zC iX;clear iX
 go_region_with (go_at_call 123;refine (zm6 s (tok s pos).to FH hs _).mono ?_;rintro e w1 ⟨rfl,aM⟩;obtain⟨QE,x0,x1,x2,x3,x4,x5,WR⟩:=(zA HP w1 1 aM).cells)
 all_goals
  obtain⟨r1,r2⟩:=zkd aM;have hz:w.heap.size+1<w1.heap.size:=by have:=aM.size;simp at this;omega
  have Uu:=zA HP w1 1 aM;have VZ:=zC (z0k (pos':=(tok s pos).to) Uu);have HK:=zC (zj5 w1 b (.int .u8 (tok s (tok s pos).to).kind) (.string (tok s (tok s pos).to).text) (.int .i64 (tok s (tok s pos).to).at_) (.int .i64 (tok s (tok s pos).to).to));clear HP Uu;go_wp2_with fail;obtain⟨k1,_⟩:=(zA HK).rules;obtain⟨q0,q1,q2⟩:=z6c (w1:=(((w1.setCell ⟨b,1,none⟩ (.int .u8 (tok s (tok s pos).to).kind)).setCell ⟨b,2,none⟩ (.string (tok s (tok s pos).to).text)).setCell ⟨b,3,none⟩ (.int .i64 (tok s (tok s pos).to).at_)).setCell ⟨b,4,none⟩ (.int .i64 (tok s (tok s pos).to).to)) (n:=w.heap.size) ((k1 _ _ aG (by omega)).trans ((r1 _ _ (by simp;omega)).trans (zc3 w _ _ _ _ _ 0))) ((k1 _ _ aG (by omega)).trans ((r1 _ _ (by simp;omega)).trans (zc3 w _ _ _ _ _ 1))) ((k1 _ _ aG (by omega)).trans ((r1 _ _ (by simp;omega)).trans (zc3 w _ _ _ _ _ 2))) (.int .u8 (tok s pos).kind) (.string (tok s pos).text) (.int .i64 (tok s pos).at_);refine bodyPost_ret (v:=vC (tok s pos)) (by simp[results,Tryz.results225,go_sem,vC,q0,q1,q2]) rfl ⟨rfl,?_,?_⟩
  ·exact ((((((((zN.refl [b] w).alloc _).alloc _).drewN 1).ai aM).trans (zA HK)).setCell (.inr L9) _).setCell (.inr L9) _).setCell (.inr L9) _
  ·exact (zA VZ).kept ((((zN.refl [w.heap.size] _).setCell (by simp) _).setCell (by simp) _).setCell (by simp) _) (by simp;omega)
theorem jL (s:B8)(pos:Nat)(bad:Int)(b:Nat)(w:W8)(h:ib w b s pos bad)(aI:pos<=s.size)(hs:s.size<=maxLen):
  Calls Tryz.prog 225 #[.pointer (some ⟨b,0,none⟩)] w λ e w'=>e=.returned (vC (tok s pos))/\zN [b] w w'/\ib w' b s (zW s pos bad) (zT s pos bad):=by
 by_cases hk:(tok s pos).kind=33\/(tok s pos).kind=46
 ·exact z5d s pos bad b w h hk
 ·by_cases hb:0<=bad
  ·exact z1v s pos bad b w h hk hb
  ·exact z1w s pos bad b w h aI hs hk (by omega)
theorem zS (s:B8)(pos:Nat)(bad:Int)(aI:pos<=s.size):zW s pos bad<=s.size:=by
 unfold zW;split
 ·exact zq1 s pos aI
 ·exact aI
def vA (s:B8)(pos:Nat)(bad:Int)(wd:B8):Nat:=if im s pos bad wd then zW s pos bad else pos
def vM (s:B8)(pos:Nat)(bad:Int)(wd:B8):Int:=if im s pos bad wd then zT s pos bad else bad
theorem qW (s wd:B8)(pos:Nat)(bad:Int)(b:Nat)(w:W8)(h:ib w b s pos bad)(aI:pos<=s.size)(hs:s.size<=maxLen):
  Calls Tryz.prog 185 #[.pointer (some ⟨b,0,none⟩),.string wd] w λ e w'=>e=.returned (.bool (im s pos bad wd))/\zN [b] w w'/\ib w' b s (vA s pos bad wd) (vM s pos bad wd):=by
 by_cases hi:im s pos bad wd=true
 ·rw[vA,vM,if_pos hi,if_pos hi];go_enter Tryz.func185,Tryz.ntmps185;go_wp2_with fail;refine (ztm s wd pos bad b _ h).mono ?_;rintro e w1 ⟨rfl,rfl⟩;go_wp2_with fail;refine (jL s pos bad b _ h aI hs).mono ?_;rintro e w1 ⟨rfl,bg,cF⟩;go_wp2_with fail;go_ret;exact⟨by rw[hi];rfl,bg,cF⟩
 ·have AG:im s pos bad wd=false:=by simpa using hi
  rw[vA,vM,if_neg hi,if_neg hi];clear hi;go_enter Tryz.func185,Tryz.ntmps185;go_wp2_with fail;refine (ztm s wd pos bad b _ h).mono ?_;rintro e w1 ⟨rfl,rfl⟩;go_wp2_with fail;go_ret;exact⟨by rw[AG];rfl,zN.refl _ _,h⟩
def xQ (s:B8)(pos:Nat)(bad:Int)(wd:B8):Int:=if im s pos bad wd then bad else zab s pos bad
theorem zaq (s wd:B8)(pos:Nat)(bad:Int)(b:Nat)(w:W8)(h:ib w b s pos bad)(aI:pos<=s.size)(hs:s.size<=maxLen):
  Calls Tryz.prog 187 #[.pointer (some ⟨b,0,none⟩),.string wd] w λ e w'=>e=.returned (.tuple #[])/\zN [b] w w'/\ib w' b s (zW s pos (xQ s pos bad wd)) (zT s pos (xQ s pos bad wd)):=by
 by_cases hi:im s pos bad wd=true
 ·rw[xQ,if_pos hi];go_enter Tryz.func187,Tryz.ntmps187;go_wp2_with fail;refine (ztm s wd pos bad b _ h).mono ?_;rintro e w1 ⟨rfl,rfl⟩;go_wp2_with fail;refine (jL s pos bad b _ h aI hs).mono ?_;rintro e w1 ⟨rfl,bg,cF⟩;go_wp2_with fail;go_end0;exact⟨rfl,bg,cF⟩
 ·have AG:im s pos bad wd=false:=by simpa using hi
  rw[xQ,if_neg hi];clear hi;go_enter Tryz.func187,Tryz.ntmps187;go_wp2_with fail;refine (ztm s wd pos bad b _ h).mono ?_;rintro e w1 ⟨rfl,rfl⟩;go_wp2_with fail;refine (zai s pos bad b _ h).mono ?_;rintro e w1 ⟨rfl,bg,cF⟩;go_wp2_with fail;refine (jL s pos _ b _ cF aI hs).mono ?_;rintro e w2 ⟨rfl,cy,iX⟩;go_wp2_with fail;go_end0;exact⟨rfl,bg.trans cy,iX⟩
end
end Go.Proofs.YtldkpahaocjdpaaGreat
