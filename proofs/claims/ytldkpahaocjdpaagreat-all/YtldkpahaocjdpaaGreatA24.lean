/-
  Proved here: whatever script of steps is handed in, affidavitlaw.All answers true, and the script reads afterwards as it read before. Condition: what is handed in is of bulk at most 1048576 (the second form).
-/
import Derived.Test.YtldkpahaocjdpaaGreatA02
import Derived.Test.YtldkpahaocjdpaaGreatA23
set_option maxHeartbeats 16000000
set_option maxRecDepth 1000000
namespace Go.Proofs.YtldkpahaocjdpaaGreat
open Go.Value renaming slice->U,int->I
open Go.IntKind renaming i64->J
open Go.Obj renaming cells->Vc
open _root_.Option renaming none->G,some->P
open _root_.Bool renaming true->Bt,false->Bf
open Go.Addr renaming mk->C
open Go.World renaming heap->X,alloc->Al,cell?->Ce
open _root_.Array renaming size->F
open Go.Proofs.Tryz
set_option linter.defProp false
open Go.ChangeShapes Go.WideShapes Go.ChangeAt Go.RowKit Go.Deep
def amI(w0:W8)(o:qq)(h:sx o)(A:o.kd=7)(l:o.s.size+o.t.size+o.u.size<=1048576)(B:uu w0 o.aC o.nt o.ct):vq w0 o:=by
 intro w b e i x v k m q n d z K L M N;obtain⟨_,a,g,s,t,u,c,r,j⟩:=o
 cases A
 exact QM w b e i x v k m q n 7 a g s t u c r j z O h.a (.inr (.inr rfl)) λE p D f o y=>adQ E w0 (d.trans (f.mono d.size)) b e i x v k m q n o p.x p.y p.s D y a g s t u c r j (by simp only at l;omega) (by simp only at l;omega) B
def amz(w0:W8)(o:qq)(h:sx o)(l:o.kd=6)(e:o.s.size+o.t.size+o.u.size<=1048576):vq w0 o:=by
 intro w b d g v r j m p n _ k x y z A;obtain⟨_,a,f,s,t,u,c,q,i⟩:=o
 cases l
 exact amO w b d g v r j m p n a f s t u c q i k h.s (by simp only at e;omega) (by simp only at e;omega)
def amF(w0:W8)(o:qq)(h:sx o)(x:o.kd=4)(y:o.s.size<=2000000):vq w0 o:=by
 intro w b d f q n i j l k _ v B D E K;obtain⟨_,a,e,s,t,u,c,m,g⟩:=o
 cases x
 exact QM w b d f q n i j l k 4 a e s t u c m g v O h.a (.inl rfl) λA p z _ o r=>adO A b d f q n i j l k o p.x p.y p.s z r O a e s t u c m g y
def amB(w0:W8)(o:qq)(h:sx o)(x:o.kd=5)(y:o.s.size<=2000000):vq w0 o:=by
 intro w b d f q n i j l k _ v B D E K;obtain⟨_,a,e,s,t,u,c,m,g⟩:=o
 cases x
 exact QM w b d f q n i j l k 5 a e s t u c m g v O h.a (.inr (.inl rfl)) λA p z _ o r=>adM A b d f q n i j l k o p.x p.y p.s z r O a e s t u c m g y
def ajq:sx ⟨3,0,0,⟨#[]⟩,⟨#[]⟩,⟨#[]⟩,G,0,0⟩:=⟨oS,oS,by simp[ByteArray.size],by simp[ByteArray.size],by simp[ByteArray.size]⟩
def aap(w0:W8)(o:qq)(h:sx o)(b:o.s.size+o.t.size+o.u.size<=1048576)(c:uu w0 o.aC o.nt o.ct)(a:o.kd∈([1,2,3,4,5,6,7]:List Int)):vq w0 o:=by
 simp only[bS,BA,DW]at a;rcases a with a|a|a|a|a|a|a
 .exact amC w0 o h a
 .exact amE w0 o h a
 .exact amH w0 o h a
 .exact amF w0 o h a O
 .exact amB w0 o h a O
 .exact amz w0 o h a b
 exact amI w0 o h a b c
def ad9(w:W8)(f:O8)(b c:Nat)(a:Nat->qq)(h:BS w f b a)(e:∀i,i<b->sx (a i)/\(a i).s.size+(a i).t.size+(a i).u.size<=1048576/\uu w (a i).aC (a i).nt (a i).ct)(l:b<=1048576):Calls prog 8 #[U f b c] w (qv w):=by
 have d:=(aZ (F (X w)) w).alloc L9 (Vc #[I J 1,I J 2,I J 3,I J 4,I J 5,I J 6,I J 7] 3);have k:∀j (g:j<([1,2,3,4,5,6,7]:List Int).length),Ce (Al w (Vc #[I J 1,I J 2,I J 3,I J 4,I J 5,I J 6,I J 7] 3)) (C (F (X w)) j G)=P (I J ([1,2,3,4,5,6,7]:List Int)[j]):=λj g=>by
  rw[World.cell?_alloc_at _ _ _ _ rfl]
  match j,g with
  | 0,_=>rfl
  | 1,_=>rfl
  | 2,_=>rfl
  | 3,_=>rfl
  | 4,_=>rfl
  | 5,_=>rfl
  | 6,_=>rfl
 have g:=H (akg w _ d 3 0 0 ⟨#[]⟩ ⟨#[]⟩ ⟨#[]⟩ G 0 0 f b c a (F (X w)) [1,2,3,4,5,6,7] (h.ai d) l k oS oS (aap w _ ajq (by simp[ByteArray.size]) (.nil _) oS) (λi j m=>aap w (a i) (e i j).1 (e i j).2.1 (e i j).2.2 m) ai6);clear h e k;go_in;go_wp2_with fail;refine(g).mono ?_;rintro e m⟨rfl,h⟩;have k:=H (d.trans (h.mono oS));clear h d g;go_wp2;go_ret;exact⟨rfl,k⟩
def adD(D:Os)(f:D.Started)(c:Type)(d:TypeId×V9->c)(a:Stop.Interp):ReturnsInHanded {} checked D 8 .any ((Rows.OpenSpec.upto Rows.allSpec).pre6 d prog f8 Rows.allUptoRow.domain Bf) (((Rows.OpenSpec.upto Rows.allSpec).at a).post d prog f8 Bf Bt Bf Bf):=by
 refine returnsInHanded_of_cond (C:=checked) (s:=Rows.OpenSpec.upto Rows.allSpec) (k:=Rows.uptoSmall) rfl ajA f oK func8
  (OpenSpec.witness (enc:=d) (C:=checked) (s:=Rows.OpenSpec.upto Rows.allSpec) (k:=Rows.uptoSmall) rfl Bf ⟨#[],#[U G 0 0],[]⟩ 8 oK oK oK
   (x:=([.nil],[],[])) oK rfl oK) ?_
 intro W k g E R q x z _ B _;have i:=x;have j:=z;obtain⟨p,_,l,L,rfl,_,_⟩:=z;have z:=l;rw[params8]at z i;obtain⟨Q,w,rfl,rfl,y⟩:=trodAll_one z;obtain⟨rfl,rfl⟩:=trodVars_none L;clear l x;simp only[kO]at j B;have r:∀x∈p,x.block<F (X W):=λx l=>by simpa using j.lt x l
 obtain⟨u,n,l,rfl⟩:=okWide_slice underlying22 (i 0 22 Q rfl rfl);have x:∀(o:W8),Below (F (X W)) W o->DataW.Trod d prog o 0 (λb=>decide (b<F (X W))) Bt 22 (U u n l) w p:=
  λo M=>Below.trod ahE oK (of_decide_eq_true oK) y M r
 have M:Rows.uptoBulk w<=1048576:=by have h:=of_decide_eq_true B;simp only[Rows.uptoBulkAll]at h;omega
 obtain⟨b,K,s,m⟩:=ajs y M;refine(ad9 W u n l b K s m).mono λe o ⟨N,A⟩=>?_
 subst N;exact⟨_,rfl,⟨_,_,_,[],p,[],j,trodAll_mk1 (shut_bool underlying4 Bt),trodAll_mk1 (x _ A),rfl,A.frame _,λh=>by cases h⟩⟩
theorem all_holds:Rows.AllUptoSaid:=
 OpenClaim.holds_of_cond 8 f8 rfl rfl rfl rfl rfl rfl rfl ⟨rfl,rfl,rfl,rfl,rfl⟩ rfl rfl rfl rfl rfl adC func8 adB
  (of_decide_eq_true oK) (by unfold Func.isWrapper;first|(rw[aD (by decide +kernel)];kernel_rfl)|(rw[aB (by decide +kernel)];exact⟨rfl,rfl⟩))
  (λe c b d _ a=>adD e c b d a)
#print axioms all_holds
end Go.Proofs.YtldkpahaocjdpaaGreat
