/-
  The reference's cut, where a row of small letters or the end comes next: what it answers is the token of the plain text (Spec), and no old memory has turned.
-/
import Derived.Test.YtldkpahaocjdpaaGreatE03
set_option maxHeartbeats 16000000
set_option maxRecDepth 1000000
namespace Go.Proofs.YtldkpahaocjdpaaGreat
section
open Go.RowKit
theorem yaw (s:B8)(i:Nat)(hi:i<=s.size)(hs:s.size<=maxLen)(w:W8)(K:skip zO s i<s.size->skip zO s i<skip xL s (skip zO s i)):
  Calls Tryz.prog 123 #[.string s,.int .i64 i] w λ e w'=>e=.returned (.tuple #[vH (tok s i),.int .i64 (tok s i).to])/\Below w.heap.size w w':=by
 unfold maxLen at hs;go_enter Tryz.func123,Tryz.ntmps123
 go_wp2
 go_loop [1] (λ t=>∃ k:Nat,i<=k/\k<=s.size/\t=.int .i64 k/\skip zO s k=skip zO s i) (λ t=>s.size-(intOf t).toNat)
 exact⟨i,Nat.le_refl _,hi,rfl,rfl⟩
 case round=>
  obtain⟨k,KL,hk,rfl,mi⟩:=hrel;have HS:Hid (skip zO s k=skip zO s i):=mi;clear mi
  by_cases aH:k<s.size
  ·by_cases hb:zO s[k].toNat=true
   ·have HB:Hid (skip zO s (k+1)=skip zO s i):=(xY zO s k aH hb).symm.trans HS.out;have hc:(s[k].toNat:Int)=32\/(s[k].toNat:Int)=10:=(by simpa[zO] using hb);clear hb HS;rcases hc with hc | hc
    all_goals
     go_wp2
     go_round
     case rel=>exact⟨k+1,by omega,by omega,by go_num,HB.out⟩
     case measure=>simp[intOf];omega
   ·have gj:zO s[k].toNat=false:=(by simpa using hb);have HB:Hid (skip zO s i=k):=HS.out.symm.trans (xZ zO s k aH gj);have va:((s[k].toNat:Int)==32)=false:=(by simp[zO] at gj;simp[gj.1]);have nS:((s[k].toNat:Int)==10)=false:=(by simp[zO] at gj;simp[gj.2]);clear hb gj HS;have K':k<skip xL s k:=(by have:=K (by rw[HB.out];exact aH);rwa [HB.out] at this);clear K
    go_wp2
    go_loop [6] (λ t=>∃ m:Nat,k<=m/\m<=s.size/\t=.int .i64 m/\skip xL s m=skip xL s k) (λ t=>s.size-(intOf t).toNat)
    exact⟨k,Nat.le_refl _,hk,rfl,rfl⟩
    case round=>
     obtain⟨m,nF,hm,rfl,bM⟩:=hrel;have HM:Hid (skip xL s m=skip xL s k):=bM;clear bM
     by_cases hgo:∃ h:m<s.size,xL s[m].toNat=true
     ·obtain⟨bh,bc⟩:=hgo;have ot:Hid (skip xL s (m+1)=skip xL s k):=(xY xL s m bh bc).symm.trans HM.out;go_wp2_with (go_at_call 182;refine (za3 _ _).mono ?_;rintro e w' ⟨rfl,rfl⟩)
      go_round
      case rel=>exact⟨m+1,by omega,by omega,by go_num,ot.out⟩
      case measure=>simp[intOf];omega
     ·have lU:Hid (skip xL s k=m):=by
       refine HM.out.symm.trans ?_
       by_cases bh:m<s.size
       ·exact xZ _ _ _ bh (by cases h:xL s[m].toNat;rfl;exact absurd ⟨bh,h⟩ hgo)
       ·exact jJ _ _ _ bh
      have mR:k<m:=(by rw[<-lU.out];exact K');clear K'
      by_cases bh:m<s.size
      ·have bc:xL s[m].toNat=false:=(by cases h:xL s[m].toNat;rfl;exact absurd ⟨bh,h⟩ hgo);clear hgo;go_wp2_with (go_at_call 182;refine (za3 _ _).mono ?_;rintro e w' ⟨rfl,rfl⟩)
       all_goals
        first
         | have HT:=z5j HB.out aH lU.out mR ‹_›
         | have HT:=zxh HB.out aH lU.out mR ‹_› ‹_›
         | have HT:=zxg HB.out aH lU.out mR ‹_› ‹_›
        exact bodyPost_ret (v:=.tuple #[vH (tok s i),.int .i64 (tok s i).to]) (by rw[HT];simp[results,Tryz.results123,go_sem,vH]) rfl ⟨rfl,by first | exact B9.alloc L9 _ | exact below_drewN (B9.alloc L9 _) _⟩
      ·clear hgo;go_wp2_with (go_at_call 182;refine (za3 _ _).mono ?_;rintro e w' ⟨rfl,rfl⟩)
       all_goals
        first
         | have HT:=z5j HB.out aH lU.out mR ‹_›
         | have HT:=zxh HB.out aH lU.out mR ‹_› ‹_›
         | have HT:=zxg HB.out aH lU.out mR ‹_› ‹_›
        exact bodyPost_ret (v:=.tuple #[vH (tok s i),.int .i64 (tok s i).to]) (by rw[HT];simp[results,Tryz.results123,go_sem,vH]) rfl ⟨rfl,by first | exact B9.alloc L9 _ | exact below_drewN (B9.alloc L9 _) _⟩
  ·have HB:Hid (skip zO s i=k):=HS.out.symm.trans (jJ zO s k aH);clear HS
   go_wp2
   have HT:=yci HB.out (by omega);exact bodyPost_ret (v:=.tuple #[vH (tok s i),.int .i64 (tok s i).to]) (by rw[HT];simp[results,Tryz.results123,go_sem,vH]) rfl ⟨rfl,by first | exact B9.alloc L9 _ | exact below_drewN (B9.alloc L9 _) _⟩
end
section
open Go.RowKit
theorem z6w (s:B8)(i:Nat)(hi:i<=s.size)(hs:s.size<=maxLen)(w:W8)(K0:skip zO s i<s.size)(K1:skip xL s (skip zO s i)=skip zO s i)(K2:skip zO s i<skip yF s (skip zO s i)):
  Calls Tryz.prog 123 #[.string s,.int .i64 i] w λ e w'=>e=.returned (.tuple #[vH (tok s i),.int .i64 (tok s i).to])/\Below w.heap.size w w':=by
 unfold maxLen at hs;go_enter Tryz.func123,Tryz.ntmps123
 go_wp2
 go_loop [1] (λ t=>∃ k:Nat,i<=k/\k<=s.size/\t=.int .i64 k/\skip zO s k=skip zO s i) (λ t=>s.size-(intOf t).toNat)
 exact⟨i,Nat.le_refl _,hi,rfl,rfl⟩
 case round=>
  obtain⟨k,KL,hk,rfl,mi⟩:=hrel;have HS:Hid (skip zO s k=skip zO s i):=mi;clear mi
  by_cases aH:k<s.size
  ·by_cases hb:zO s[k].toNat=true
   ·have HB:Hid (skip zO s (k+1)=skip zO s i):=(xY zO s k aH hb).symm.trans HS.out;have hc:(s[k].toNat:Int)=32\/(s[k].toNat:Int)=10:=(by simpa[zO] using hb);clear hb HS;rcases hc with hc | hc
    all_goals
     go_wp2
     go_round
     case rel=>exact⟨k+1,by omega,by omega,by go_num,HB.out⟩
     case measure=>simp[intOf];omega
   ·have gj:zO s[k].toNat=false:=(by simpa using hb);have HB:Hid (skip zO s i=k):=HS.out.symm.trans (xZ zO s k aH gj);have va:((s[k].toNat:Int)==32)=false:=(by simp[zO] at gj;simp[gj.1]);have nS:((s[k].toNat:Int)==10)=false:=(by simp[zO] at gj;simp[gj.2]);clear hb gj HS;have D1:skip xL s k=k:=(by have:=K1;rwa [HB.out] at this);have K':=zC D1;clear K1 D1;have yr:k<skip yF s k:=(by rwa [HB.out] at K2);clear K2 K0
    go_wp2
    go_loop [6] (λ t=>∃ m:Nat,k<=m/\m<=s.size/\t=.int .i64 m/\skip xL s m=skip xL s k) (λ t=>s.size-(intOf t).toNat)
    exact⟨k,Nat.le_refl _,hk,rfl,rfl⟩
    case round=>
     obtain⟨m,nF,hm,rfl,bM⟩:=hrel;have HM:Hid (skip xL s m=skip xL s k):=bM;clear bM
     by_cases hgo:∃ h:m<s.size,xL s[m].toNat=true
     ·obtain⟨bh,bc⟩:=hgo;have ot:Hid (skip xL s (m+1)=skip xL s k):=(xY xL s m bh bc).symm.trans HM.out;go_wp2_with (go_at_call 182;refine (za3 _ _).mono ?_;rintro e w' ⟨rfl,rfl⟩)
      go_round
      case rel=>exact⟨m+1,by omega,by omega,by go_num,ot.out⟩
      case measure=>simp[intOf];omega
     ·have lU:Hid (skip xL s k=m):=by
       refine HM.out.symm.trans ?_
       by_cases bh:m<s.size
       ·exact xZ _ _ _ bh (by cases h:xL s[m].toNat;rfl;exact absurd ⟨bh,h⟩ hgo)
       ·exact jJ _ _ _ bh
      have oF:k=m:=(by rw[<-lU.out];exact (zA K').symm);subst oF;have bc:xL s[k].toNat=false:=(by cases h:xL s[k].toNat;rfl;exact absurd ⟨aH,h⟩ hgo);clear hgo HM nF hm K';go_wp2_with (go_at_call 182;refine (za3 _ _).mono ?_;rintro e w' ⟨rfl,rfl⟩)
      go_loop [6] (λ t=>∃ m:Nat,k<=m/\m<=s.size/\t=.int .i64 m/\skip yF s m=skip yF s k) (λ t=>s.size-(intOf t).toNat)
      exact⟨k,Nat.le_refl _,hk,rfl,rfl⟩
      case round=>
       obtain⟨m,nF,hm,rfl,bM⟩:=hrel;have HN:Hid (skip yF s m=skip yF s k):=bM;clear bM
       by_cases hgo:∃ h:m<s.size,yF s[m].toNat=true
       ·obtain⟨bh,Ej⟩:=hgo;have ot:Hid (skip yF s (m+1)=skip yF s k):=(xY yF s m bh Ej).symm.trans HN.out;go_wp2_with (go_at_call 183;refine (qU _ _).mono ?_;rintro e w' ⟨rfl,rfl⟩)
        go_round
        case rel=>exact⟨m+1,by omega,by omega,by go_num,ot.out⟩
        case measure=>simp[intOf];omega
       ·have pS:Hid (skip yF s k=m):=by
         refine HN.out.symm.trans ?_
         by_cases bh:m<s.size
         ·exact xZ _ _ _ bh (by cases h:yF s[m].toNat;rfl;exact absurd ⟨bh,h⟩ hgo)
         ·exact jJ _ _ _ bh
        have mR:k<m:=(by rw[<-pS.out];exact yr);clear yr
        by_cases bh:m<s.size
        ·have Ej:yF s[m].toNat=false:=(by cases h:yF s[m].toNat;rfl;exact absurd ⟨bh,h⟩ hgo);clear hgo;go_wp2_with (go_at_call 183;refine (qU _ _).mono ?_;rintro e w' ⟨rfl,rfl⟩)
         all_goals
          first
           | have HT:=z5k HB.out aH lU.out pS.out mR ‹_›
           | have HT:=zm4 HB.out aH lU.out pS.out mR ‹_›
          exact bodyPost_ret (v:=.tuple #[vH (tok s i),.int .i64 (tok s i).to]) (by rw[HT];simp[results,Tryz.results123,go_sem,vH]) rfl ⟨rfl,by first | exact B9.alloc L9 _ | exact below_drewN (B9.alloc L9 _) _⟩
        ·clear hgo;go_wp2_with (go_at_call 183;refine (qU _ _).mono ?_;rintro e w' ⟨rfl,rfl⟩)
         all_goals
          first
           | have HT:=z5k HB.out aH lU.out pS.out mR ‹_›
           | have HT:=zm4 HB.out aH lU.out pS.out mR ‹_›
          exact bodyPost_ret (v:=.tuple #[vH (tok s i),.int .i64 (tok s i).to]) (by rw[HT];simp[results,Tryz.results123,go_sem,vH]) rfl ⟨rfl,by first | exact B9.alloc L9 _ | exact below_drewN (B9.alloc L9 _) _⟩
  ·exact absurd (by have h:=HS.out.symm.trans (jJ zO s k aH);rw[h] at K0;exact K0) aH
end
section
open Go.RowKit
theorem z1w (s:B8)(i:Nat)(hi:i<=s.size)(hs:s.size<=maxLen)(w:W8)(K0:skip zO s i<s.size)(K1:skip xL s (skip zO s i)=skip zO s i)(K2:skip yF s (skip zO s i)=skip zO s i)(K3:(zq6 s (skip zO s i):Int)=58):
  Calls Tryz.prog 123 #[.string s,.int .i64 i] w λ e w'=>e=.returned (.tuple #[vH (tok s i),.int .i64 (tok s i).to])/\Below w.heap.size w w':=by
 unfold maxLen at hs;go_enter Tryz.func123,Tryz.ntmps123
 go_wp2
 go_loop [1] (λ t=>∃ k:Nat,i<=k/\k<=s.size/\t=.int .i64 k/\skip zO s k=skip zO s i) (λ t=>s.size-(intOf t).toNat)
 exact⟨i,Nat.le_refl _,hi,rfl,rfl⟩
 case round=>
  obtain⟨k,KL,hk,rfl,mi⟩:=hrel;have HS:Hid (skip zO s k=skip zO s i):=mi;clear mi
  by_cases aH:k<s.size
  ·by_cases hb:zO s[k].toNat=true
   ·have HB:Hid (skip zO s (k+1)=skip zO s i):=(xY zO s k aH hb).symm.trans HS.out;have hc:(s[k].toNat:Int)=32\/(s[k].toNat:Int)=10:=(by simpa[zO] using hb);clear hb HS;rcases hc with hc | hc
    all_goals
     go_wp2
     go_round
     case rel=>exact⟨k+1,by omega,by omega,by go_num,HB.out⟩
     case measure=>simp[intOf];omega
   ·have gj:zO s[k].toNat=false:=(by simpa using hb);have HB:Hid (skip zO s i=k):=HS.out.symm.trans (xZ zO s k aH gj);have va:((s[k].toNat:Int)==32)=false:=(by simp[zO] at gj;simp[gj.1]);have nS:((s[k].toNat:Int)==10)=false:=(by simp[zO] at gj;simp[gj.2]);clear hb gj HS;have D1:skip xL s k=k:=(by have:=K1;rwa [HB.out] at this);have K':=zC D1;clear K1 D1;have yr:=zC (show skip yF s k=k by rwa [HB.out] at K2);clear K2 K0;have JI:=zC (show (s[k].toNat:Int)=58 by rw[HB.out,zq7 aH] at K3;exact K3);clear K3
    go_wp2
    go_loop [6] (λ t=>∃ m:Nat,k<=m/\m<=s.size/\t=.int .i64 m/\skip xL s m=skip xL s k) (λ t=>s.size-(intOf t).toNat)
    exact⟨k,Nat.le_refl _,hk,rfl,rfl⟩
    case round=>
     obtain⟨m,nF,hm,rfl,bM⟩:=hrel;have HM:Hid (skip xL s m=skip xL s k):=bM;clear bM
     by_cases hgo:∃ h:m<s.size,xL s[m].toNat=true
     ·obtain⟨bh,bc⟩:=hgo;have ot:Hid (skip xL s (m+1)=skip xL s k):=(xY xL s m bh bc).symm.trans HM.out;go_wp2_with (go_at_call 182;refine (za3 _ _).mono ?_;rintro e w' ⟨rfl,rfl⟩)
      go_round
      case rel=>exact⟨m+1,by omega,by omega,by go_num,ot.out⟩
      case measure=>simp[intOf];omega
     ·have lU:Hid (skip xL s k=m):=by
       refine HM.out.symm.trans ?_
       by_cases bh:m<s.size
       ·exact xZ _ _ _ bh (by cases h:xL s[m].toNat;rfl;exact absurd ⟨bh,h⟩ hgo)
       ·exact jJ _ _ _ bh
      have oF:k=m:=(by rw[<-lU.out];exact (zA K').symm);subst oF;have bc:xL s[k].toNat=false:=(by cases h:xL s[k].toNat;rfl;exact absurd ⟨aH,h⟩ hgo);clear hgo HM nF hm K';go_wp2_with (go_at_call 182;refine (za3 _ _).mono ?_;rintro e w' ⟨rfl,rfl⟩)
      go_loop [6] (λ t=>∃ m:Nat,k<=m/\m<=s.size/\t=.int .i64 m/\skip yF s m=skip yF s k) (λ t=>s.size-(intOf t).toNat)
      exact⟨k,Nat.le_refl _,hk,rfl,rfl⟩
      case round=>
       obtain⟨m,nF,hm,rfl,bM⟩:=hrel;have HN:Hid (skip yF s m=skip yF s k):=bM;clear bM
       by_cases hgo:∃ h:m<s.size,yF s[m].toNat=true
       ·obtain⟨bh,Ej⟩:=hgo;have ot:Hid (skip yF s (m+1)=skip yF s k):=(xY yF s m bh Ej).symm.trans HN.out;go_wp2_with (go_at_call 183;refine (qU _ _).mono ?_;rintro e w' ⟨rfl,rfl⟩)
        go_round
        case rel=>exact⟨m+1,by omega,by omega,by go_num,ot.out⟩
        case measure=>simp[intOf];omega
       ·have pS:Hid (skip yF s k=m):=by
         refine HN.out.symm.trans ?_
         by_cases bh:m<s.size
         ·exact xZ _ _ _ bh (by cases h:yF s[m].toNat;rfl;exact absurd ⟨bh,h⟩ hgo)
         ·exact jJ _ _ _ bh
        have oF:k=m:=(by rw[<-pS.out];exact (zA yr).symm);subst oF;have Ej:yF s[k].toNat=false:=(by cases h:yF s[k].toNat;rfl;exact absurd ⟨aH,h⟩ hgo);clear hgo HN nF hm yr;have ee:=zA JI;clear JI;have lR:=zC ee;have PL:((s[k].toNat:Int)==58)=true:=(by rw[ee];rfl);clear ee
        by_cases aW:k+1<s.size
        ·by_cases dU:(s[k+1].toNat:Int)=45
         ·have HL:=zC (zsy aH (zA lR) aW dU);go_wp2_with (go_at_call 183;refine (qU _ _).mono ?_;rintro e w' ⟨rfl,rfl⟩);have HT:=z82 HB.out aH lU.out pS.out (zA HL);exact bodyPost_ret (v:=.tuple #[vH (tok s i),.int .i64 (tok s i).to]) (by rw[HT];simp[results,Tryz.results123,go_sem,vH]) rfl ⟨rfl,by first | exact B9.alloc L9 _ | exact below_drewN (B9.alloc L9 _) _ | exact (((below_drewN (B9.alloc L9 _) _).setCell L9 _).setCell L9 _).setCell L9 _⟩
         ·have Ov:=zC (zij aH (zA lR) (λ _=>dU));have e45:((s[k+1].toNat:Int)==45)=false:=(by simp[dU]);clear dU;go_wp2_with (go_at_call 183;refine (qU _ _).mono ?_;rintro e w' ⟨rfl,rfl⟩)
          go_loopw [6] (λ t wr=>∃ j n:Nat,(j=0/\t=.int .i64 0\/j=1/\t=.int .i64 1\/j=2/\t=.int .i64 2\/j=3/\t=.int .i64 3\/j=4/\t=.int .i64 4)/\(∀ c,c∈([40,41,44,46]:List Int).take j->(s[k].toNat:Int)≠c)/\wr=(w.alloc (Obj.cells #[.int IntKind.u8 0,.string { data:=#[] },.int IntKind.i64 0] 233)).drewN n) (λ t _=>4-(intOf t).toNat)
          exact⟨0,0,by simp,by simp,rfl⟩
          case round=>
           obtain⟨j,n,hj,hd,rfl⟩:=hrel;have HD:=zC hd;clear hd;rcases hj with⟨rfl,rfl⟩ | ⟨rfl,rfl⟩ | ⟨rfl,rfl⟩ | ⟨rfl,rfl⟩ | ⟨rfl,rfl⟩
           ·have e1:(((({ data:=#[40,41,44,46] }:B8)[0]'(by decide)).toNat:Int)==(s[k].toNat:Int))=false:=(by rw[zA lR];rfl);have HQ:Hid (¬ (s[k].toNat:Int)=40):=(by show ¬ _;rw[zA lR];decide);go_wp2_with fail;go_quiet (fail)
            go_wp2
            go_roundw
            case rel=>exact⟨1,_,by simp,more HD.out (zA HQ) rfl rfl,rfl⟩
            case measure=>simp[intOf]
           ·have e1:(((({ data:=#[40,41,44,46] }:B8)[1]'(by decide)).toNat:Int)==(s[k].toNat:Int))=false:=(by rw[zA lR];rfl);have HQ:Hid (¬ (s[k].toNat:Int)=41):=(by show ¬ _;rw[zA lR];decide);go_wp2_with fail;go_quiet (fail)
            go_wp2
            go_roundw
            case rel=>exact⟨2,_,by simp,more HD.out (zA HQ) rfl rfl,rfl⟩
            case measure=>simp[intOf]
           ·have e1:(((({ data:=#[40,41,44,46] }:B8)[2]'(by decide)).toNat:Int)==(s[k].toNat:Int))=false:=(by rw[zA lR];rfl);have HQ:Hid (¬ (s[k].toNat:Int)=44):=(by show ¬ _;rw[zA lR];decide);go_wp2_with fail;go_quiet (fail)
            go_wp2
            go_roundw
            case rel=>exact⟨3,_,by simp,more HD.out (zA HQ) rfl rfl,rfl⟩
            case measure=>simp[intOf]
           ·have e1:(((({ data:=#[40,41,44,46] }:B8)[3]'(by decide)).toNat:Int)==(s[k].toNat:Int))=false:=(by rw[zA lR];rfl);have HQ:Hid (¬ (s[k].toNat:Int)=46):=(by show ¬ _;rw[zA lR];decide);go_wp2_with fail;go_quiet (fail)
            go_wp2
            go_roundw
            case rel=>exact⟨4,_,by simp,more HD.out (zA HQ) rfl rfl,rfl⟩
            case measure=>simp[intOf]
           ·have HL:Hid (xA s k=0):=Ov
            go_wp2
            have HT:=zqa HB.out aH lU.out pS.out HL.out;exact bodyPost_ret (v:=.tuple #[vH (tok s i),.int .i64 (tok s i).to]) (by rw[HT];simp[results,Tryz.results123,go_sem,vH]) rfl ⟨rfl,by first | exact B9.alloc L9 _ | exact below_drewN (B9.alloc L9 _) _ | exact (((below_drewN (B9.alloc L9 _) _).setCell L9 _).setCell L9 _).setCell L9 _⟩
        ·have Ov:=zC (zij aH (zA lR) (λ h=>absurd h aW));go_wp2_with (go_at_call 183;refine (qU _ _).mono ?_;rintro e w' ⟨rfl,rfl⟩)
         go_loopw [6] (λ t wr=>∃ j n:Nat,(j=0/\t=.int .i64 0\/j=1/\t=.int .i64 1\/j=2/\t=.int .i64 2\/j=3/\t=.int .i64 3\/j=4/\t=.int .i64 4)/\(∀ c,c∈([40,41,44,46]:List Int).take j->(s[k].toNat:Int)≠c)/\wr=(w.alloc (Obj.cells #[.int IntKind.u8 0,.string { data:=#[] },.int IntKind.i64 0] 233)).drewN n) (λ t _=>4-(intOf t).toNat)
         exact⟨0,0,by simp,by simp,rfl⟩
         case round=>
          obtain⟨j,n,hj,hd,rfl⟩:=hrel;have HD:=zC hd;clear hd;rcases hj with⟨rfl,rfl⟩ | ⟨rfl,rfl⟩ | ⟨rfl,rfl⟩ | ⟨rfl,rfl⟩ | ⟨rfl,rfl⟩
          ·have e1:(((({ data:=#[40,41,44,46] }:B8)[0]'(by decide)).toNat:Int)==(s[k].toNat:Int))=false:=(by rw[zA lR];rfl);have HQ:Hid (¬ (s[k].toNat:Int)=40):=(by show ¬ _;rw[zA lR];decide);go_wp2_with fail;go_quiet (fail)
           go_wp2
           go_roundw
           case rel=>exact⟨1,_,by simp,more HD.out (zA HQ) rfl rfl,rfl⟩
           case measure=>simp[intOf]
          ·have e1:(((({ data:=#[40,41,44,46] }:B8)[1]'(by decide)).toNat:Int)==(s[k].toNat:Int))=false:=(by rw[zA lR];rfl);have HQ:Hid (¬ (s[k].toNat:Int)=41):=(by show ¬ _;rw[zA lR];decide);go_wp2_with fail;go_quiet (fail)
           go_wp2
           go_roundw
           case rel=>exact⟨2,_,by simp,more HD.out (zA HQ) rfl rfl,rfl⟩
           case measure=>simp[intOf]
          ·have e1:(((({ data:=#[40,41,44,46] }:B8)[2]'(by decide)).toNat:Int)==(s[k].toNat:Int))=false:=(by rw[zA lR];rfl);have HQ:Hid (¬ (s[k].toNat:Int)=44):=(by show ¬ _;rw[zA lR];decide);go_wp2_with fail;go_quiet (fail)
           go_wp2
           go_roundw
           case rel=>exact⟨3,_,by simp,more HD.out (zA HQ) rfl rfl,rfl⟩
           case measure=>simp[intOf]
          ·have e1:(((({ data:=#[40,41,44,46] }:B8)[3]'(by decide)).toNat:Int)==(s[k].toNat:Int))=false:=(by rw[zA lR];rfl);have HQ:Hid (¬ (s[k].toNat:Int)=46):=(by show ¬ _;rw[zA lR];decide);go_wp2_with fail;go_quiet (fail)
           go_wp2
           go_roundw
           case rel=>exact⟨4,_,by simp,more HD.out (zA HQ) rfl rfl,rfl⟩
           case measure=>simp[intOf]
          ·have HL:Hid (xA s k=0):=Ov
           go_wp2
           have HT:=zqa HB.out aH lU.out pS.out HL.out;exact bodyPost_ret (v:=.tuple #[vH (tok s i),.int .i64 (tok s i).to]) (by rw[HT];simp[results,Tryz.results123,go_sem,vH]) rfl ⟨rfl,by first | exact B9.alloc L9 _ | exact below_drewN (B9.alloc L9 _) _ | exact (((below_drewN (B9.alloc L9 _) _).setCell L9 _).setCell L9 _).setCell L9 _⟩
  ·exact absurd (by have h:=HS.out.symm.trans (jJ zO s k aH);rw[h] at K0;exact K0) aH
end
section
open Go.RowKit
theorem z1x (s:B8)(i:Nat)(hi:i<=s.size)(hs:s.size<=maxLen)(w:W8)(K0:skip zO s i<s.size)(K1:skip xL s (skip zO s i)=skip zO s i)(K2:skip yF s (skip zO s i)=skip zO s i)(K3:¬ (zq6 s (skip zO s i):Int)=58):
  Calls Tryz.prog 123 #[.string s,.int .i64 i] w λ e w'=>e=.returned (.tuple #[vH (tok s i),.int .i64 (tok s i).to])/\Below w.heap.size w w':=by
 unfold maxLen at hs;go_enter Tryz.func123,Tryz.ntmps123
 go_wp2
 go_loop [1] (λ t=>∃ k:Nat,i<=k/\k<=s.size/\t=.int .i64 k/\skip zO s k=skip zO s i) (λ t=>s.size-(intOf t).toNat)
 exact⟨i,Nat.le_refl _,hi,rfl,rfl⟩
 case round=>
  obtain⟨k,KL,hk,rfl,mi⟩:=hrel;have HS:Hid (skip zO s k=skip zO s i):=mi;clear mi
  by_cases aH:k<s.size
  ·by_cases hb:zO s[k].toNat=true
   ·have HB:Hid (skip zO s (k+1)=skip zO s i):=(xY zO s k aH hb).symm.trans HS.out;have hc:(s[k].toNat:Int)=32\/(s[k].toNat:Int)=10:=(by simpa[zO] using hb);clear hb HS;rcases hc with hc | hc
    all_goals
     go_wp2
     go_round
     case rel=>exact⟨k+1,by omega,by omega,by go_num,HB.out⟩
     case measure=>simp[intOf];omega
   ·have gj:zO s[k].toNat=false:=(by simpa using hb);have HB:Hid (skip zO s i=k):=HS.out.symm.trans (xZ zO s k aH gj);have va:((s[k].toNat:Int)==32)=false:=(by simp[zO] at gj;simp[gj.1]);have nS:((s[k].toNat:Int)==10)=false:=(by simp[zO] at gj;simp[gj.2]);clear hb gj HS;have D1:skip xL s k=k:=(by have:=K1;rwa [HB.out] at this);have K':=zC D1;clear K1 D1;have yr:=zC (show skip yF s k=k by rwa [HB.out] at K2);clear K2 K0;have JI:=zC (show ¬ (s[k].toNat:Int)=58 by rw[HB.out,zq7 aH] at K3;exact K3);clear K3
    go_wp2
    go_loop [6] (λ t=>∃ m:Nat,k<=m/\m<=s.size/\t=.int .i64 m/\skip xL s m=skip xL s k) (λ t=>s.size-(intOf t).toNat)
    exact⟨k,Nat.le_refl _,hk,rfl,rfl⟩
    case round=>
     obtain⟨m,nF,hm,rfl,bM⟩:=hrel;have HM:Hid (skip xL s m=skip xL s k):=bM;clear bM
     by_cases hgo:∃ h:m<s.size,xL s[m].toNat=true
     ·obtain⟨bh,bc⟩:=hgo;have ot:Hid (skip xL s (m+1)=skip xL s k):=(xY xL s m bh bc).symm.trans HM.out;go_wp2_with (go_at_call 182;refine (za3 _ _).mono ?_;rintro e w' ⟨rfl,rfl⟩)
      go_round
      case rel=>exact⟨m+1,by omega,by omega,by go_num,ot.out⟩
      case measure=>simp[intOf];omega
     ·have lU:Hid (skip xL s k=m):=by
       refine HM.out.symm.trans ?_
       by_cases bh:m<s.size
       ·exact xZ _ _ _ bh (by cases h:xL s[m].toNat;rfl;exact absurd ⟨bh,h⟩ hgo)
       ·exact jJ _ _ _ bh
      have oF:k=m:=(by rw[<-lU.out];exact (zA K').symm);subst oF;have bc:xL s[k].toNat=false:=(by cases h:xL s[k].toNat;rfl;exact absurd ⟨aH,h⟩ hgo);clear hgo HM nF hm K';go_wp2_with (go_at_call 182;refine (za3 _ _).mono ?_;rintro e w' ⟨rfl,rfl⟩)
      go_loop [6] (λ t=>∃ m:Nat,k<=m/\m<=s.size/\t=.int .i64 m/\skip yF s m=skip yF s k) (λ t=>s.size-(intOf t).toNat)
      exact⟨k,Nat.le_refl _,hk,rfl,rfl⟩
      case round=>
       obtain⟨m,nF,hm,rfl,bM⟩:=hrel;have HN:Hid (skip yF s m=skip yF s k):=bM;clear bM
       by_cases hgo:∃ h:m<s.size,yF s[m].toNat=true
       ·obtain⟨bh,Ej⟩:=hgo;have ot:Hid (skip yF s (m+1)=skip yF s k):=(xY yF s m bh Ej).symm.trans HN.out;go_wp2_with (go_at_call 183;refine (qU _ _).mono ?_;rintro e w' ⟨rfl,rfl⟩)
        go_round
        case rel=>exact⟨m+1,by omega,by omega,by go_num,ot.out⟩
        case measure=>simp[intOf];omega
       ·have pS:Hid (skip yF s k=m):=by
         refine HN.out.symm.trans ?_
         by_cases bh:m<s.size
         ·exact xZ _ _ _ bh (by cases h:yF s[m].toNat;rfl;exact absurd ⟨bh,h⟩ hgo)
         ·exact jJ _ _ _ bh
        have oF:k=m:=(by rw[<-pS.out];exact (zA yr).symm);subst oF;have Ej:yF s[k].toNat=false:=(by cases h:yF s[k].toNat;rfl;exact absurd ⟨aH,h⟩ hgo);clear hgo HN nF hm yr;have ee:=zA JI;clear JI;have PL:((s[k].toNat:Int)==58)=false:=(by simp[ee]);have lR:=zC ee;clear ee;go_wp2_with (go_at_call 183;refine (qU _ _).mono ?_;rintro e w' ⟨rfl,rfl⟩)
        go_loopw [6] (λ t wr=>∃ j n:Nat,(j=0/\t=.int .i64 0\/j=1/\t=.int .i64 1\/j=2/\t=.int .i64 2\/j=3/\t=.int .i64 3\/j=4/\t=.int .i64 4)/\(∀ c,c∈([40,41,44,46]:List Int).take j->(s[k].toNat:Int)≠c)/\wr=(w.alloc (Obj.cells #[.int IntKind.u8 0,.string { data:=#[] },.int IntKind.i64 0] 233)).drewN n) (λ t _=>4-(intOf t).toNat)
        exact⟨0,0,by simp,by simp,rfl⟩
        case round=>
         obtain⟨j,n,hj,hd,rfl⟩:=hrel;have HD:=zC hd;clear hd;rcases hj with⟨rfl,rfl⟩ | ⟨rfl,rfl⟩ | ⟨rfl,rfl⟩ | ⟨rfl,rfl⟩ | ⟨rfl,rfl⟩
         ·by_cases hq:(s[k].toNat:Int)=40
          ·have e1:(((({ data:=#[40,41,44,46] }:B8)[0]'(by decide)).toNat:Int)==(s[k].toNat:Int))=true:=(by rw[hq];rfl);have HL:Hid (xA s k=1):=zex aH (zA lR) (by omega);clear hq;go_wp2_with fail;go_quiet (fail)
           go_wp2
           have HT:=zko HB.out aH lU.out pS.out HL.out;exact bodyPost_ret (v:=.tuple #[vH (tok s i),.int .i64 (tok s i).to]) (by rw[HT];simp[results,Tryz.results123,go_sem,vH]) rfl ⟨rfl,by first | exact B9.alloc L9 _ | exact below_drewN (B9.alloc L9 _) _ | exact (((below_drewN (B9.alloc L9 _) _).setCell L9 _).setCell L9 _).setCell L9 _⟩
          ·have e1:(((({ data:=#[40,41,44,46] }:B8)[0]'(by decide)).toNat:Int)==(s[k].toNat:Int))=false:=(by rw[beq_eq_false_iff_ne];show (40:Int)≠_;omega);have HQ:=zC hq;clear hq;go_wp2_with fail;go_quiet (fail)
           go_wp2
           go_roundw
           case rel=>exact⟨1,_,by simp,more HD.out (zA HQ) rfl rfl,rfl⟩
           case measure=>simp[intOf]
         ·by_cases hq:(s[k].toNat:Int)=41
          ·have e1:(((({ data:=#[40,41,44,46] }:B8)[1]'(by decide)).toNat:Int)==(s[k].toNat:Int))=true:=(by rw[hq];rfl);have HL:Hid (xA s k=1):=zex aH (zA lR) (by omega);clear hq;go_wp2_with fail;go_quiet (fail)
           go_wp2
           have HT:=zko HB.out aH lU.out pS.out HL.out;exact bodyPost_ret (v:=.tuple #[vH (tok s i),.int .i64 (tok s i).to]) (by rw[HT];simp[results,Tryz.results123,go_sem,vH]) rfl ⟨rfl,by first | exact B9.alloc L9 _ | exact below_drewN (B9.alloc L9 _) _ | exact (((below_drewN (B9.alloc L9 _) _).setCell L9 _).setCell L9 _).setCell L9 _⟩
          ·have e1:(((({ data:=#[40,41,44,46] }:B8)[1]'(by decide)).toNat:Int)==(s[k].toNat:Int))=false:=(by rw[beq_eq_false_iff_ne];show (41:Int)≠_;omega);have HQ:=zC hq;clear hq;go_wp2_with fail;go_quiet (fail)
           go_wp2
           go_roundw
           case rel=>exact⟨2,_,by simp,more HD.out (zA HQ) rfl rfl,rfl⟩
           case measure=>simp[intOf]
         ·by_cases hq:(s[k].toNat:Int)=44
          ·have e1:(((({ data:=#[40,41,44,46] }:B8)[2]'(by decide)).toNat:Int)==(s[k].toNat:Int))=true:=(by rw[hq];rfl);have HL:Hid (xA s k=1):=zex aH (zA lR) (by omega);clear hq;go_wp2_with fail;go_quiet (fail)
           go_wp2
           have HT:=zko HB.out aH lU.out pS.out HL.out;exact bodyPost_ret (v:=.tuple #[vH (tok s i),.int .i64 (tok s i).to]) (by rw[HT];simp[results,Tryz.results123,go_sem,vH]) rfl ⟨rfl,by first | exact B9.alloc L9 _ | exact below_drewN (B9.alloc L9 _) _ | exact (((below_drewN (B9.alloc L9 _) _).setCell L9 _).setCell L9 _).setCell L9 _⟩
          ·have e1:(((({ data:=#[40,41,44,46] }:B8)[2]'(by decide)).toNat:Int)==(s[k].toNat:Int))=false:=(by rw[beq_eq_false_iff_ne];show (44:Int)≠_;omega);have HQ:=zC hq;clear hq;go_wp2_with fail;go_quiet (fail)
           go_wp2
           go_roundw
           case rel=>exact⟨3,_,by simp,more HD.out (zA HQ) rfl rfl,rfl⟩
           case measure=>simp[intOf]
         ·by_cases hq:(s[k].toNat:Int)=46
          ·have e1:(((({ data:=#[40,41,44,46] }:B8)[3]'(by decide)).toNat:Int)==(s[k].toNat:Int))=true:=(by rw[hq];rfl);have HL:Hid (xA s k=1):=zex aH (zA lR) (by omega);clear hq;go_wp2_with fail;go_quiet (fail)
           go_wp2
           have HT:=zko HB.out aH lU.out pS.out HL.out;exact bodyPost_ret (v:=.tuple #[vH (tok s i),.int .i64 (tok s i).to]) (by rw[HT];simp[results,Tryz.results123,go_sem,vH]) rfl ⟨rfl,by first | exact B9.alloc L9 _ | exact below_drewN (B9.alloc L9 _) _ | exact (((below_drewN (B9.alloc L9 _) _).setCell L9 _).setCell L9 _).setCell L9 _⟩
          ·have e1:(((({ data:=#[40,41,44,46] }:B8)[3]'(by decide)).toNat:Int)==(s[k].toNat:Int))=false:=(by rw[beq_eq_false_iff_ne];show (46:Int)≠_;omega);have HQ:=zC hq;clear hq;go_wp2_with fail;go_quiet (fail)
           go_wp2
           go_roundw
           case rel=>exact⟨4,_,by simp,more HD.out (zA HQ) rfl rfl,rfl⟩
           case measure=>simp[intOf]
         ·have HL:Hid (xA s k=0):=zzp aH (zA lR) (by have:=HD.out;simp at this;omega)
          go_wp2
          have HT:=zqa HB.out aH lU.out pS.out HL.out;exact bodyPost_ret (v:=.tuple #[vH (tok s i),.int .i64 (tok s i).to]) (by rw[HT];simp[results,Tryz.results123,go_sem,vH]) rfl ⟨rfl,by first | exact B9.alloc L9 _ | exact below_drewN (B9.alloc L9 _) _ | exact (((below_drewN (B9.alloc L9 _) _).setCell L9 _).setCell L9 _).setCell L9 _⟩
  ·exact absurd (by have h:=HS.out.symm.trans (jJ zO s k aH);rw[h] at K0;exact K0) aH
end
section
open Go.RowKit
theorem yav (s:B8)(i:Nat)(hi:i<=s.size)(hs:s.size<=maxLen)(w:W8):
  Calls Tryz.prog 123 #[.string s,.int .i64 i] w λ e w'=>e=.returned (.tuple #[vH (tok s i),.int .i64 (tok s i).to])/\Below w.heap.size w w':=by
 by_cases K:skip zO s i<s.size->skip zO s i<skip xL s (skip zO s i)
 ·exact yaw s i hi hs w K
 ·have K0:skip zO s i<s.size:=by omega
  have g1:=zp5 xL s (skip zO s i);have g2:=zp5 yF s (skip zO s i);have K1:skip xL s (skip zO s i)=skip zO s i:=by omega
  by_cases K2:skip zO s i<skip yF s (skip zO s i)
  ·exact z6w s i hi hs w K0 K1 K2
  ·have yr:skip yF s (skip zO s i)=skip zO s i:=by omega
   by_cases K3:(zq6 s (skip zO s i):Int)=58
   ·exact z1w s i hi hs w K0 K1 yr K3
   ·exact z1x s i hi hs w K0 K1 yr K3
end
end Go.Proofs.YtldkpahaocjdpaaGreat
