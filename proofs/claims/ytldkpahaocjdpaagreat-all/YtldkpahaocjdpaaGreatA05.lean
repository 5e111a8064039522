/-
  The reference's arity: the place of the first atom with another number of terms than where its predicate first stands, -1 if there is none; the predicates are taken down on the way.
-/
import Derived.Test.YtldkpahaocjdpaaGreatA04
set_option maxHeartbeats 16000000
set_option maxRecDepth 1000000
namespace Go.Proofs.YtldkpahaocjdpaaGreat
open Go.Value renaming slice->U,int->I,string->Y,bool->Vb,pointer->Vp,agg->Va
open Go.IntKind renaming i64->J
open Go.Ending renaming returned->Vr
open Go.Obj renaming cells->Vc
open _root_.Option renaming none->G,some->P
open _root_.Bool renaming true->Bt,false->Bf
open Go.Addr renaming mk->C
open _root_.List renaming length->Z
open Go.World renaming heap->X,alloc->Al,setCell->Sc,cell?->Ce,ownsRow->Ow
open _root_.Array renaming size->F
open Go.Proofs.Tryz
set_option linter.defProp false
open Go.RowKit
def YO(w o p g q m s r k a n c v)(f b:Nat)(h:kC w o p g q m s r)(u:Z g<=1000):Calls prog 188 #[Vp (P (C o 0 G)),Va #[Y k,U a n c,Vb v,I J f,I J b]] w λe t=>e=Vr (Vb (jg g k n))/\∃i j,kC t o p (jh g k n) q i j r/\Below o w t:=by
 by_cases d:aL g k<0
 .refine(aiE w o p g q m s r k a n c v f b h u d).mono ?_;rintro e t⟨rfl,i,j,x,l⟩;exact⟨by simp[jg,d],i,j,by simpa[jh,d]using x,l⟩
 refine(aiF w o p g q m s r k a n c v f b h O).mono ?_;rintro e t⟨rfl,l⟩;refine⟨rfl,m,s,?_,l.mono (oF h.lt)⟩;rw[jh,aB d];exact h.kept ((ak.refl [] w).bC l) oS
def gZ:List aR->P9->Int×P9
 | [],ps=>(-1,ps)
 |A::r,ps=>if jg ps A.ax (Z A.aq) then gZ r (jh ps A.ax (Z A.aq)) else(A.aC,jh ps A.ax (Z A.aq))
variable {d:Int×P9}{e:P9}{g:List aR}{i:aR}
def YL(h:d=gZ (i::g) e)(c:jg e i.ax (Z i.aq)=Bt):d=gZ g (jh e i.ax (Z i.aq)):=by rw[h,gZ,aD c]
def YJ(h:d=gZ (i::g) e)(c:jg e i.ax (Z i.aq)=Bf):d=(↑i.aC,jh e i.ax (Z i.aq)):=by rw[h,gZ,aB (by rw[c];decide)]
def bg.gS(R:bg):List aR:=R.ay::R.body
def gT(rs:List RR):List aR:=rs.flatMap λr=>r.R.gS
variable {h:List RR}{a:Nat}
def adX(k:a<Z h):gT (h.drop a)=h[a].R.ay::(h[a].R.body++gT (h.drop (a+1))):=by rw[dM k,gT,lY];rfl
variable {b:V9}{c:W8}
def pT(m:Ow c a 246 6 b (Z h) (tR h))(k)(d:k<Z h):∃g w,b=U (P (C g 0 G)) (Z h) w/\a<=g/\g<F (X c)/\(Z h)<=w/\w<=maxLen /\Ce c (C g (k*6) G)=P (Y h[k].R.ay.ax)/\Ce c (C g (k*6+1) G)=P h[k].hv/\Ce c (C g (k*6+2) G)=P (Vb h[k].R.ay.no)/\Ce c (C g (k*6+3) G)=P (I J h[k].R.ay.aC)/\Ce c (C g (k*6+4) G)=P (I J h[k].R.ay.aO)/\Ce c (C g (k*6+5) G)=P h[k].bv:=by
 have p:∀(l:List RR)(k j:Nat)(d:k<Z l),j<6->(tR l)[k*6+j]?=(l[k].cells)[j]?:=by
  intro l
  induction l with
  |nil=>intro k j d;simp at d
  |cons x r o=>
   intro k j d f;have e:tR (x::r)=x.cells++tR r:=(by simp[tR]);have i:Z x.cells=6:=rfl
   cases k with
   |zero=>rw[e,wL O];simp
   |succ k=>rw[e,ug O];have n:(k+1)*6+j-Z x.cells=k*6+j:=O;rw[n,o k j (oU d) f];simp
 rcases m.2 with⟨_,_⟩|⟨g,w,_,rfl,n,o,x,r,_,_⟩
 .omega
 have i:=(aM.1 o).1;have e:∀j,j<6->Ce c (C g (k*6+j) G)=(h[k].cells)[j]?:=λj f=>by
  rw[m.cellAt (k*6+j) O,p h k j d f]
 exact⟨g,w,rfl,n,i,x,r,e 0 O,e 1 O,e 2 O,e 3 O,e 4 O,e 5 O⟩
variable {f:List (aR×V9)}
def qx(h:Ow c a 243 5 b (Z f) (uK f))(k)(d:k<Z f):∃g w,b=U (P (C g 0 G)) (Z f) w/\a<=g/\g<F (X c)/\(Z f)<=w/\w<=maxLen /\Ce c (C g (k*5) G)=P (Y f[k].1.ax)/\Ce c (C g (k*5+1) G)=P f[k].2/\Ce c (C g (k*5+2) G)=P (Vb f[k].1.no)/\Ce c (C g (k*5+3) G)=P (I J f[k].1.aC)/\Ce c (C g (k*5+4) G)=P (I J f[k].1.aO):=by
 have p:∀(l:List (aR×V9))(k j:Nat)(d:k<Z l),j<5->(uK l)[k*5+j]?=(l[k].1.cells l[k].2)[j]?:=by
  intro l
  induction l with
  |nil=>intro k j d;simp at d
  |cons x r o=>
   intro k j d i;have e:uK (x::r)=x.1.cells x.2++uK r:=(by simp[uK]);have m:(x.1.cells x.2).length=5:=rfl
   cases k with
   |zero=>rw[e,wL O];simp
   |succ k=>rw[e,ug O];have n:(k+1)*5+j-(x.1.cells x.2).length=k*5+j:=O;rw[n,o k j (oU d) i];simp
 rcases h.2 with⟨_,_⟩|⟨g,w,_,rfl,n,o,x,r,_,_⟩
 .omega
 have m:=(aM.1 o).1;have e:∀j,j<5->Ce c (C g (k*5+j) G)=(f[k].1.cells f[k].2)[j]?:=λj i=>by
  rw[h.cellAt (k*5+j) O,p f k j d i]
 exact⟨g,w,rfl,n,m,x,r,e 0 O,e 1 O,e 2 O,e 3 O,e 4 O⟩
def O6(a b n):(jh a b n).length<=Z a+1:=by unfold jh;split<;>simp
def Er(h:a<Z f):(f.map (·.1)).drop a=f[a].1::(f.map (·.1)).drop (a+1):=by rw[dM (oU h)];simp
def ej{e v n w}(h:Ow c a e v b n w):n<=maxLen:=by rcases h.2 with⟨_,_⟩|⟨_,_,_,_,_,_,_,_,_⟩<;>omega
def adI(w o a rv pv tv sv)(h:kC w o a [] rv pv tv sv)(r:(gT a).length<=1000):Calls prog 126 #[Vp (P (C o 0 G))] w λe z=>e=Vr (I J (gZ (gT a) []).1)/\∃s t,kC z o a (gZ (gT a) []).2 rv s t sv/\Below o w z:=by
 obtain⟨ar,z,rfl⟩:=aF h.bB;have rQ:Z a<=maxLen:=by rcases h.bB.2 with⟨_,_⟩|⟨g,cap,_,_,_,_,f,B,_⟩<;>omega
 unfold maxLen at rQ;go_in
 go_wp2
 go_loopg [3] (Z a) (λD i wr=>∃(k:Nat)(y:P9)(s t:V9),k<=Z a/\D=Z a-k/\i=I J k/\kC wr o a y (U ar (Z a) z) s t sv/\Below o w wr/\(Z y)+(gT (a.drop k)).length<=1000/\gZ (gT a) []=gZ (gT (a.drop k)) y)
 exact⟨0,[],pv,tv,aI _,rfl,rfl,h,aZ _ _,by simpa using r,rfl⟩
 case round=>
  obtain⟨k,y,s,t,_,_,rfl,R,hb,q,m⟩:=hrel;have u:=H m;clear m;have E:=R;obtain⟨_,c0,c1,c2,c3,fz,hr,N,hp,ht⟩:=R
  by_cases m:k<Z a
  .obtain⟨g,cap,hv,_,_,_,_,q0,q1,q2,q3,q4,q5⟩:=pT hr k m;injection hv with f B R
   subst f R;obtain⟨_,_,f⟩:=aF (N a[k] (aN m)).hd;rw[f]at q1;have R:=adX m;rw[R,ff]at q;have b:=H (u.trans (gQ (λl=>gZ l y) R));have n:=aN m;obtain⟨_,_,p⟩:=aF (N a[k] n).bo;have A:=(N a[k] n).eq;have V:=ej (N a[k] n).bo;unfold maxLen at V;clear hr N hp ht B h r u;go_wp2_with fail;refine(YO wr o a y _ _ _ _ _ _ _ _ _ _ _ E O).mono ?_;rintro e w1⟨rfl,ZQ,tv1,h,B⟩;have r:=h;obtain⟨_,d0,d1,d2,d3,Q,c,d,j,L⟩:=h;obtain⟨_,_,hv1,_,_,_,_,r0,r1,r2,r3,r4,r5⟩:=pT c k m;injection hv1 with h v x
   injection h with h
   injection h with h
   subst h x;rw[p]at r5;clear c d j L v c0 c1 c2 c3 fz q0 q1 q2 q3 q4 q5 E f
   cases f:jg y a[k].R.ay.ax a[k].R.ay.aq.length with
   |false=>have c:=H (YJ b f);clear b f;go_wp2;go_ret;exact⟨by rw[ag c];rfl,ZQ,tv1,by rw[ag c];exact r,hb.trans B⟩
   |true=>
    have c:=H (YL b f);have Oa:=O6 y a[k].R.ay.ax a[k].R.ay.aq.length;rw[br]at q;clear b f;go_wp2
    go_loopg [4,5] a[k].bs.length (λD S i K=>∃(j:Nat)(d:P9)(L M:V9),j<=a[k].bs.length/\D=a[k].bs.length-j/\i=I J j/\kC K o a d (U (P (C g 0 G)) (Z a) z) L M sv/\Below o w K/\(Z d)+((a[k].bs.map (·.1)).drop j++gT (a.drop (k+1))).length<=1000/\gZ (gT a) []=gZ ((a[k].bs.map (·.1)).drop j++gT (a.drop (k+1))) d)
    exact⟨0,_,ZQ,tv1,aI _,rfl,rfl,r,hb.trans B,by rw[vb,<-A,br];omega,by rw[vb,<-A];exact c⟩
    case round=>
     clear c r d0 d1 d2 d3 Q r0 r1 r2 r3 r4 r5 B Oa q;obtain⟨j,d,L,M,_,_,rfl,B,D,i,q⟩:=hrel;have u:=H q;clear q;have q:=B;obtain⟨_,c0,c1,c2,c3,fz,K,r,Ak,Xl⟩:=B;obtain⟨_,_,E0,_,_,_,_,q0,q1,q2,q3,q4,q5⟩:=pT K k m;injection E0 with h v x
     injection h with h
     injection h with h
     subst h x;rw[p]at q5
     by_cases x:j<a[k].bs.length
     .obtain⟨_,_,zb,_,_,_,_,p0,p1,p2,p3,p4⟩:=qx (r a[k] n).bo j x;rw[p]at zb;injection zb with h B S
      subst h S;obtain⟨_,_,W⟩:=aF ((r a[k] n).bl _ (aN x));rw[W]at p1;have T:=Er x;rw[T,jA,ff]at i;have b:=H (u.trans (gQ (λl=>gZ (l++gT (a.drop (k+1))) d) T));clear K r Ak Xl v B u;go_wp2_with fail;refine(YO wr o a d _ _ _ _ _ _ _ _ _ _ _ q O).mono ?_;rintro e w3⟨rfl,ZR,Kh,h,S⟩;have B:=h;obtain⟨_,d0,d1,d2,d3,Q,W4,Wl,xu,I1⟩:=h;obtain⟨_,_,hv3,_,_,_,_,r0,r1,r2,r3,r4,r5⟩:=pT W4 k m;injection hv3 with h h32 h33
      injection h with h
      injection h with h
      subst h h33;rw[p]at r5;obtain⟨_,_,Xq,_,_,_,_,_,_,_,_,_⟩:=qx (Wl a[k] n).bo j x;rw[p]at Xq;injection Xq with h ago agp
      injection h with h
      injection h with h
      subst h agp;clear W4 Wl xu I1 h32 ago c0 c1 c2 c3 fz q0 q1 q2 q3 q4 q5 p0 p1 p2 p3 p4 q W
      cases f:jg d a[k].bs[j].1.ax a[k].bs[j].1.aq.length with
      |false=>have c:=H (YJ b f);clear b f;go_wp2;go_ret;exact⟨by rw[ag c];rfl,ZR,Kh,by rw[ag c];exact B,D.trans S⟩
      |true=>have c:=H (YL b f);have Oa:=O6 d a[k].bs[j].1.ax a[k].bs[j].1.aq.length;clear b f;go_wp2;go_roundg(a[k].bs.length-(j+1));exact⟨j+1,_,ZR,Kh,by omega,rfl,by go_num,B,D.trans S,by omega,c⟩;omega
     have f:(a[k].bs.map (·.1)).drop j=[]:=gE oT;rw[f,ql]at i;have b:=H (u.trans (gQ (λl=>gZ (l++gT (a.drop (k+1))) d) f));clear K r Ak Xl v u;go_wp2;go_roundg(Z a-(k+1));exact⟨k+1,d,L,M,by omega,rfl,by go_num,q,D,i,b⟩;omega
  have f:gT (a.drop k)=[]:=by rw[gE O];rfl
  have c:gZ (gT a) []=(-1,y):=by rw[ag u,f];rfl
  have b:=H c;clear c u hr N hp ht;go_wp2;go_ret;exact⟨by rw[ag b];rfl,s,t,by rw[ag b];exact E,hb⟩
def vO(nm:B8)(t:ie):Bool:=t.jv&&t.text.toList==nm.toList
def C5(nm:B8)(A:aR):Bool:=!A.no&&A.aq.any (vO nm)
def lg(nm:B8)(l:List aR):Bool:=l.any (C5 nm)
def aeu:∀l k j(a:k<Z l),j<3->(cellsOf l)[k*3+j]?=(l[k].cells)[j]?:=by
 intro l
 induction l with
 |nil=>intro k j a;simp at a
 |cons x r d=>
  intro k j a c;have e:cellsOf (x::r)=x.cells++cellsOf r:=by simp[cellsOf]
  have f:Z x.cells=3:=rfl
  cases k with
  |zero=>rw[e,wL O];simp
  |succ k=>rw[e,ug O];have b:(k+1)*3+j-Z x.cells=k*3+j:=O;rw[b,d k j (oU a) c];simp
variable {c:V9}{d:W8}
def zn{l}(h:Ow d a 317 3 c (Z l) (cellsOf l))(k)(o:k<Z l):∃g b,c=U (P (C g 0 G)) (Z l) b/\a<=g/\g<F (X d)/\(Z l)<=b/\b<=maxLen /\Ce d (C g (k*3) G)=P (Y l[k].text)/\Ce d (C g (k*3+1) G)=P (Vb l[k].jv)/\Ce d (C g (k*3+2) G)=P (I J l[k].aC):=by
 rcases h.2 with⟨_,_⟩|⟨g,b,_,rfl,i,m,e,w,_,_⟩
 .omega
 have p:=(aM.1 m).1;have f:∀j,j<3->Ce d (C g (k*3+j) G)=(l[k].cells)[j]?:=λj n=>by
  rw[h.cellAt (k*3+j) O,aeu l k j o n]
 exact⟨g,b,rfl,i,p,e,w,f 0 O,f 1 O,f 2 O⟩
structure zV(w:W8)(base:Nat)(R:bg)(hv:V9)(bs:List (aR×V9))(bv:V9)(wr:W8):Prop where
 cH:lN wr base R hv bs bv
 box:Ce wr (C (F (X w)) 5 G)=P bv
 sz:F (X w)<F (X wr)
 ai:Below (F (X w)) w wr
variable {b:List (aR×V9)}
def zV.alloc{R w wr}(h:zV d a R w b c wr)(o):zV d a R w b c (Al wr o):=
 ⟨h.cH.kept ((ak.refl [] _).alloc _) oS,by rw[World.cell?_alloc_past _ _ _ h.sz];exact h.box,by have:=h.sz;simp;omega,h.ai.alloc (oF h.sz) _⟩
def alV{i}(h:a<Z b):lg i ((b.map (·.1)).drop a)=(C5 i b[a].1||lg i ((b.map (·.1)).drop (a+1))):=by rw[Er h];simp[lg]
def Hy{α:Type}{f:α->Bool}{l}(h:a<Z l):(l.drop a).any f=(f l[a]||(l.drop (a+1)).any f):=by rw[dM h,Bv]
def alU(w f R d a M b)(h:lN w f R d a M):Calls prog 227 #[oJ R.ay d M,Y b] w λe j=>e=Vr (Vb (lg b R.body))/\Below (F (X w)) w j:=by
 obtain⟨D,j,rfl⟩:=aF h.bo;obtain⟨z,l,rfl⟩:=aF h.hd;have t:=ej h.bo;unfold maxLen at t;rw[h.eq];unfold oJ;have c:zV w f R (U z (Z R.ay.aq) l) a (U D (Z a) j) (Al w (Vc #[Y R.ay.ax,U z (Z R.ay.aq) l,Vb R.ay.no,I J R.ay.aC,I J R.ay.aO,U D (Z a) j] 246)):=
  ⟨h.kept ((ak.refl [] _).alloc _) oS,by rw[World.cell?_alloc_at _ _ _ _ rfl];rfl,oS,B9.alloc L9 _⟩
 clear h;go_in;go_wp2
 go_loopg [5] (Z a) (λq i wr=>∃k:Nat,k<=Z a/\q=Z a-k/\i=I J k/\zV w f R (U z (Z R.ay.aq) l) a (U D (Z a) j) wr/\lg b (a.map (·.1))=lg b ((a.map (·.1)).drop k))
 exact⟨0,aI _,rfl,rfl,c,rfl⟩
 case round=>
  clear c;obtain⟨i,_,_,rfl,h,c⟩:=hrel;have m:=H c;clear c;have u:=h.box;have x:=h.sz
  by_cases n:i<Z a
  .have e:=H (m.trans (alV n));clear m;obtain⟨g,_,r,_,v,_,_,N,A,B,Q,S⟩:=qx h.cH.bo i n;injection r with o T y
   subst o y;obtain⟨_,_,p⟩:=aF (h.cH.bl _ (aN n));have E:=ej (h.cH.bl _ (aN n));unfold maxLen at E;rw[p]at A;go_wp2
   go_loopg [6] a[i].1.aq.length (λq L wr=>∃k:Nat,k<=a[i].1.aq.length/\q=a[i].1.aq.length-k/\L=I J k/\zV w f R (U z (Z R.ay.aq) l) a (U (P (C g 0 G)) (Z a) j) wr/\lg b (a.map (·.1))=(!a[i].1.no&&(a[i].1.aq.drop k).any (vO b)||lg b ((a.map (·.1)).drop (i+1))))
   exact⟨0,aI _,rfl,rfl,h,e⟩
   case round=>
    clear e h u N A B Q S v x;obtain⟨k,_,_,rfl,h,c⟩:=hrel;have m:=H c;clear c;have u:=h.box;have x:=h.sz;obtain⟨_,_,r,_,v,_,_,N,A,B,Q,S⟩:=qx h.cH.bo i n;injection r with o T y
    injection o with o
    injection o with o
    subst o y;rw[p]at A
    by_cases q:k<a[i].1.aq.length
    .obtain⟨_,_,y,_,_,_,_,_,L,_⟩:=zn (h.cH.bl _ (aN n)) k q;rw[p]at y;injection y with o V s
     subst o s
     cases o:a[i].1.no with
     |true=>rw[o]at B;have e:=H (show lg b (a.map (·.1))=lg b ((a.map (·.1)).drop (i+1)) by rw[ag m,o];rfl);clear m;go_wp2;go_roundg(Z a-(i+1));exact⟨i+1,O,rfl,oN,h,e⟩;omega
     |false=>
      rw[o]at B;have s:=H (h.alloc (Vc #[Y a[i].1.aq[k].text,Vb a[i].1.aq[k].jv,I J a[i].1.aq[k].aC] 317))
      cases d:vO b a[i].1.aq[k] with
      |true=>have e:=H (show lg b (a.map (·.1))=Bt by rw[ag m,o,Hy q,d];rfl);have c:a[i].1.aq[k].jv=true:=(by unfold vO at d;simp at d;exact d.1);have K:(a[i].1.aq[k].text.toList==b.toList)=true:=(by unfold vO at d;rw[c]at d;simpa using d);clear m d;rw[c]at L;go_wp2;go_ret;exact⟨by rw[ag e];rfl,by have:=s.ai;rw[c]at this;exact this⟩
      |false=>
       have e:=H (show lg b (a.map (·.1))=(!a[i].1.no&&(a[i].1.aq.drop (k+1)).any (vO b)||lg b ((a.map (·.1)).drop (i+1))) by rw[ag m,Hy q,d,LB]);clear m
       cases c:a[i].1.aq[k].jv with
       |false=>clear d;rw[c]at L s;go_wp2;go_roundg(a[i].1.aq.length-(k+1));exact⟨k+1,O,rfl,oN,s,e⟩;omega
       |true=>have K:(a[i].1.aq[k].text.toList==b.toList)=false:=(by unfold vO at d;rw[c]at d;simpa using d);clear d;rw[c]at L s;go_wp2;go_roundg(a[i].1.aq.length-(k+1));exact⟨k+1,O,rfl,oN,s,e⟩;omega
    have e:=H (show lg b (a.map (·.1))=lg b ((a.map (·.1)).drop (i+1)) by rw[ag m,gE O];simp);clear m;go_wp2;go_roundg(Z a-(i+1));exact⟨i+1,O,rfl,oN,h,e⟩;omega
  have e:=H (show lg b (a.map (·.1))=Bf by rw[ag m,gE oT];rfl);clear m;go_wp2;go_ret;exact⟨by rw[ag e];rfl,h.ai⟩
def gX(body:List aR):List ie->Int
 | []=>-1
 |t::r=>if t.jv&&!lg t.text body then t.aC else gX body r
structure BN(w:W8)(base:Nat)(R:bg)(hv:V9)(bs:List (aR×V9))(bv:V9)(A:aR)(tv:V9)(wr:W8):Prop where
 cH:lN wr base R hv bs bv
 aq:Ow wr base 317 3 tv (Z A.aq) (cellsOf A.aq)
 rc:vm wr (F (X w)) R.ay hv bv
 box:Ce wr (C (F (X w)+1) 1 G)=P tv
 sz:F (X w)+1<F (X wr)
 ai:Below (F (X w)) w wr
variable {b c:W8}
def BN.call{R e wr d A f g}(h:BN b a R e wr d A f c)(k:Below (F (X c)) c g):BN b a R e wr d A f g:=
 have w:=(ak.refl [] c).bC k;have i:=h.sz
 ⟨h.cH.kept w oS,ni h.aq w oS,h.rc.kept w O oS,(w.cell (p:=(C (F (X b)+1) 1 G)) h.sz oS).trans h.box,iz h.sz k.size,h.ai.trans (k.mono O)⟩
def aib{k l}(h:a<Z l):gX k (l.drop a)=if l[a].jv&&!lg l[a].text k then(l[a].aC:Int) else gX k (l.drop (a+1)):=by rw[dM h];rfl
def Below.UD(h:Below (F (X b.drew)) b.drew c):Below (F (X b)) b c:=⟨h.os,h.tape,h.output,h.size,h.block⟩
def Yx(w a R D g B)(A:aR)(L)(h:lN w a R D g B)(i:Ow w a 317 3 L (Z A.aq) (cellsOf A.aq)):Calls prog 189 #[oJ R.ay D B,A.val L] w λe b=>e=Vr (I J (gX R.body A.aq))/\Below (F (X w)) w b:=by
 obtain⟨v,b,rfl⟩:=aF h.bo;obtain⟨x,c,rfl⟩:=aF h.hd;obtain⟨l,d,rfl⟩:=aF i;have z:=ej i;unfold maxLen at z;unfold oJ aR.val;have u:BN w a R (U x (Z R.ay.aq) c) g (U v (Z g) b) A (U l (Z A.aq) d) (Al (Al w (Vc #[Y R.ay.ax,U x (Z R.ay.aq) c,Vb R.ay.no,I J R.ay.aC,I J R.ay.aO,U v (Z g) b] 246)) (Vc #[Y A.ax,U l (Z A.aq) d,Vb A.no,I J A.aC,I J A.aO] 243)):=by
  refine⟨h.kept (((ak.refl [] _).alloc _).alloc _) oS,(i.alloc _).alloc _,⟨?_,?_,?_,?_,?_,?_,?_⟩,by rw[World.cell?_alloc_at _ _ _ _ oS];rfl,oS,oA.alloc oS _⟩
  all_goals first|(rw[World.cell?_alloc_past _ _ _ oS,World.cell?_alloc_at _ _ _ _ rfl];rfl)|(intro o;rw[World.frozen?_alloc_past _ _ _ oS,World.frozen?_alloc_at _ _ _ _ rfl])
 clear h i;go_in;go_wp2
 go_loopg [5] (Z A.aq) (λh i wr=>∃k:Nat,k<=Z A.aq/\h=Z A.aq-k/\i=I J k/\BN w a R (U x (Z R.ay.aq) c) g (U v (Z g) b) A (U l (Z A.aq) d) wr/\gX R.body A.aq=gX R.body (A.aq.drop k))
 exact⟨0,aI _,rfl,rfl,u,rfl⟩
 case round=>
  clear u;obtain⟨k,_,_,rfl,i,h⟩:=hrel;have u:=H h;clear h;have q:=i.box;have t:=i.sz;obtain⟨r,Q,S,T,V,W,xf⟩:=i.rc
  by_cases n:k<Z A.aq
  .obtain⟨M,m,p,_,j,_,_,E,y,K⟩:=zn i.aq k n;injection p with f N o
   subst f o;have h:=H (u.trans (aib n));clear u;go_upto_region 4 with fail
   go_cut [6] (λs wc=>s=Vb (lg A.aq[k].text R.body)/\BN w a R (U x (Z R.ay.aq) c) g (U v (Z g) b) A (U (P (C M 0 G)) (Z A.aq) d) wc)
   case first=>
    go_region_with(go_at_call 227;refine(alU _ a R _ g _ _ (i.cH.kept ((ak.refl [] _).drew) oS)).mono ?_;rintro e w1⟨rfl,s⟩)
    all_goals
     go_wp2;go_meet
     case rel=>exact⟨rfl,i.call (Below.UD s)⟩
   case rest=>
    obtain⟨rfl,s⟩:=hcut;clear i q t r Q S T V W xf E y K j;have q:=s.box;have t:=s.sz;obtain⟨_,m,p,_,j,_,_,E,y,K⟩:=zn s.aq k n;injection p with f N o
    injection f with f
    injection f with f
    subst f o
    cases f:A.aq[k].jv with
    |false=>have o:=H (show gX R.body A.aq=gX R.body (A.aq.drop (k+1)) by rw[ag h,f];rfl);clear h;rw[f]at y;go_wp2;go_roundg(Z A.aq-(k+1));exact⟨k+1,O,rfl,oN,s,o⟩;omega
    |true=>
     rw[f]at y
     cases r:lg A.aq[k].text R.body with
     |true=>have o:=H (show gX R.body A.aq=gX R.body (A.aq.drop (k+1)) by rw[ag h,f,r];rfl);clear h;go_wp2;go_roundg(Z A.aq-(k+1));exact⟨k+1,O,rfl,oN,s,o⟩;omega
     |false=>have o:=H (show gX R.body A.aq=(A.aq[k].aC:Int) by rw[ag h,f,r];rfl);clear h;go_wp2;go_ret;exact⟨by rw[ag o];rfl,s.ai⟩
  have h:=H (show gX R.body A.aq=-1 by rw[ag u,gE O];rfl);clear u;go_wp2;go_ret;exact⟨by rw[ag h];rfl,i.ai⟩
def mP(body:List aR):List aR->Int
 | []=>-1
 |A::r=>if 0<=(if A.no then gX body A.aq else -1) then gX body A.aq else mP body r
def uL(R:bg):Int:=if 0<=gX R.body R.ay.aq then gX R.body R.ay.aq else mP R.body R.body
def iF:List bg->Int
 | []=>-1
 |R::r=>if 0<=uL R then uL R else iF r
variable {c:List RR}
def anU(h:a<Z c):iF ((c.map (·.R)).drop a)=if 0<=uL c[a].R then uL c[a].R else iF ((c.map (·.R)).drop (a+1)):=by rw[dM (oU h)];simp[iF]
variable {b:List (aR×V9)}
def ai7{body}(h:a<Z b):mP body ((b.map (·.1)).drop a)=if 0<=(if b[a].1.no then gX body b[a].1.aq else -1) then gX body b[a].1.aq else mP body ((b.map (·.1)).drop (a+1)):=by rw[Er h];rfl
def ai9(w b R g j f l a k)(d c:Nat)(i)(h:lN w b R g j f)(m:Ow w b 317 3 i (Z a) (cellsOf a)):Calls prog 189 #[Va #[Y R.ay.ax,g,Vb R.ay.no,I J R.ay.aC,I J R.ay.aO,f],Va #[Y l,i,Vb k,I J d,I J c]] w λe n=>e=Vr (I J (gX R.body a))/\Below (F (X w)) w n:=
 Yx w b R g j f ⟨l,a,k,d,c⟩ i h m
structure yB(w:W8)(o m:Nat)(rs:List RR)(ps qs:P9)(rv pv tv sv:V9)(R:bg)(hv:V9)(bs:List (aR×V9))(bv:V9)(wx:W8):Prop where
 mem:kc wx o rs ps qs rv pv tv sv
 cH:lN wx (o+1) R hv bs bv
 rc:vm wx m R.ay hv bv
 sz:m<F (X wx)
 ai:Below (F (X w)) w wx
variable {d:P9}{f:bg}{g h i j k l:V9}{m n:W8}
def yB.call{w q}(o:yB m a w c d e l g h i f j b k n)(R:Below (F (X n)) n q):yB m a w c d e l g h i f j b k q:=
 have p:=(ak.refl [] n).bC R
 ⟨o.mem.kept p oS,o.cH.kept p oS,o.rc.kept p o.sz oS,iz o.sz R.size,o.ai.trans (R.mono o.ai.size)⟩
def yB.start(w:kc n a c d e j g l k)(R:lN n (a+1) f h b i)(o:Below (F (X m)) m n):yB m a (F (X n)) c d e j g l k f h b i (Al n (Vc #[Y f.ay.ax,h,Vb f.ay.no,I J f.ay.aC,I J f.ay.aO,i] 246)):=by
 refine⟨w.kept ((ak.refl [] _).alloc _) oS,R.kept ((ak.refl [] _).alloc _) oS,⟨?_,?_,?_,?_,?_,?_,?_⟩,oS,o.alloc o.size _⟩
 all_goals first|(rw[World.cell?_alloc_at _ _ _ _ rfl];rfl)|(intro a;rw[World.frozen?_alloc_at _ _ _ _ rfl])
def anT(w o a B E rv D L K)(h:kc w o a B E rv D L K):Calls prog 127 #[Vp (P (C o 0 G))] w λe f=>e=Vr (I J (iF (a.map (·.R))))/\Below (F (X w)) w f:=by
 obtain⟨ar,f,rfl⟩:=aF h.bB;have N:=ej h.bB;unfold maxLen at N;go_in;go_wp2
 go_loopg [3,5] (Z a) (λz i l5 wr=>∃k:Nat,k<=Z a/\z=Z a-k/\i=I J k/\kc wr o a B E (U ar (Z a) f) D L K/\Below (F (X w)) w wr/\iF (a.map (·.R))=iF ((a.map (·.R)).drop k))
 exact⟨0,aI _,rfl,rfl,h,aZ _ _,rfl⟩
 case round=>
  obtain⟨k,_,_,rfl,t,hb,s⟩:=hrel;have d:=H s;clear s;have j:=t;obtain⟨n,x,S,T,u,fz,Q,M,hp,ht⟩:=t
  by_cases t:k<Z a
  .obtain⟨g,_,hv,_,r,_,_,q0,V,q2,q3,q4,W⟩:=pT Q k t;injection hv with R l m
   subst R m;have R:=aN t;have m:=M a[k] R;obtain⟨ah,q,A⟩:=aF m.hd;obtain⟨ab,p,y⟩:=aF m.bo;have v:=ej m.bo;unfold maxLen at v;rw[A]at V;rw[y]at W;rw[A,y]at m;have b:=H (d.trans (anU t));clear Q M hp ht l h d;go_wp2_with fail;have h:=yB.start j m hb;refine(Yx _ (o+1) a[k].R _ a[k].bs _ a[k].R.ay _ h.cH h.cH.hd).mono ?_;rintro e w1⟨rfl,l⟩;have c:=h.call l;clear h l x S T u fz q0 V q2 q3 q4 W j m n r;generalize(F (X wr))=m at*
   cases r:decide (0<=gX a[k].R.body a[k].R.ay.aq) with
   |true=>have l:=of_decide_eq_true r;have j:uL a[k].R=gX a[k].R.body a[k].R.ay.aq:=(by unfold uL;rw[aD l]);have h:=H (show iF (a.map (·.R))=gX a[k].R.body a[k].R.ay.aq by rw[ag b,j,aD l]);clear b r j;go_wp2;go_ret;exact⟨by rw[ag h];rfl,c.ai⟩
   |false=>
    have l:=of_decide_eq_false r;have j:uL a[k].R=mP a[k].R.body ((a[k].bs.map (·.1)).drop 0):=(by unfold uL;rw[aB l,vb,<-c.cH.eq]);have h:=H (show iF (a.map (·.R))=if 0<=mP a[k].R.body ((a[k].bs.map (·.1)).drop 0) then mP a[k].R.body ((a[k].bs.map (·.1)).drop 0) else iF ((a.map (·.R)).drop (k+1)) by rw[ag b,j]);obtain⟨V,W,x2,x3,x4,x5,xf⟩:=c.rc;have n:=c.sz;have x:gX a[k].R.body a[k].R.ay.aq<0:=O;clear b r j l;go_wp2
    go_loopg [5,6] a[k].bs.length (λz l5 i l=>∃j:Nat,j<=a[k].bs.length/\z=a[k].bs.length-j/\i=I J j/\yB w o m a B E (U (P (C g 0 G)) (Z a) f) D L K a[k].R (U ah a[k].R.ay.aq.length q) a[k].bs (U ab a[k].bs.length p) l/\iF (a.map (·.R))=if 0<=mP a[k].R.body ((a[k].bs.map (·.1)).drop j) then mP a[k].R.body ((a[k].bs.map (·.1)).drop j) else iF ((a.map (·.R)).drop (k+1)))
    exact⟨0,aI _,rfl,rfl,c,h⟩
    case round=>
     clear h c V W x2 x3 x4 x5 xf n x;obtain⟨j,_,_,rfl,c,s⟩:=hrel;have d:=H s;clear s;obtain⟨V,W,x2,x3,x4,x5,xf⟩:=c.rc;have n:=c.sz
     by_cases r:j<a[k].bs.length
     .have s:=ai7 (body:=a[k].R.body) r;obtain⟨gb,_,S,_,z,_,_,p0,p1,T,p3,p4⟩:=qx c.cH.bo j r;injection S with l aoy i
      subst l i;have l:=c.cH.bl _ (aN r);obtain⟨_,_,x⟩:=aF l;rw[x]at p1 l
      cases i:a[k].bs[j].1.no with
      |false=>
       rw[i]at T
       have b:=H (show iF (a.map (·.R))=if 0<=mP a[k].R.body ((a[k].bs.map (·.1)).drop (j+1)) then mP a[k].R.body ((a[k].bs.map (·.1)).drop (j+1)) else iF ((a.map (·.R)).drop (k+1)) by
        rw[ag d,s,i];simp)
       clear d s;go_wp2;go_roundg(a[k].bs.length-(j+1));exact⟨j+1,O,rfl,oN,c,b⟩;omega
      |true=>
       rw[i]at T
       have b:=H (show iF (a.map (·.R))=if 0<=gX a[k].R.body a[k].bs[j].1.aq then gX a[k].R.body a[k].bs[j].1.aq else(if 0<=mP a[k].R.body ((a[k].bs.map (·.1)).drop (j+1)) then mP a[k].R.body ((a[k].bs.map (·.1)).drop (j+1)) else iF ((a.map (·.R)).drop (k+1))) by
        rw[ag d,s,i];simp only[lM]
        by_cases u:0<=gX a[k].R.body a[k].bs[j].1.aq
        .simp only[u,lM]
        simp only[u,pG])
       clear d s;go_upto_region 13 with fail
       go_cut [5] (λs wc=>s=I J (gX a[k].R.body a[k].bs[j].1.aq)/\yB w o m a B E (U (P (C g 0 G)) (Z a) f) D L K a[k].R (U ah a[k].R.ay.aq.length q) a[k].bs (U (P (C gb 0 G)) a[k].bs.length p) wc)
       case first=>
        go_region_with(go_at_call 189;refine(ai9 _ (o+1) a[k].R _ a[k].bs _ _ a[k].bs[j].1.aq _ _ _ _ (c.cH.kept ((ak.refl [] _).drew) oS) l).mono ?_;rintro e w3⟨rfl,s⟩)
        all_goals
         go_wp2;go_meet
         case rel=>exact⟨rfl,c.call (Below.UD s)⟩
       case rest=>
        obtain⟨rfl,s⟩:=hcut;clear c V W x2 x3 x4 x5 xf p0 p1 T p3 p4 l x z n;have n:=s.sz
        by_cases u:0<=gX a[k].R.body a[k].bs[j].1.aq
        .have h:=H (show iF (a.map (·.R))=gX a[k].R.body a[k].bs[j].1.aq by rw[ag b,aD u]);clear b;go_wp2;go_ret;exact⟨by rw[ag h];rfl,s.ai⟩
        have h:=H (show iF (a.map (·.R))=if 0<=mP a[k].R.body ((a[k].bs.map (·.1)).drop (j+1)) then mP a[k].R.body ((a[k].bs.map (·.1)).drop (j+1)) else iF ((a.map (·.R)).drop (k+1)) by rw[ag b,aB u]);have z:gX a[k].R.body a[k].bs[j].1.aq<0:=O;clear b u;go_wp2;go_roundg(a[k].bs.length-(j+1));exact⟨j+1,O,rfl,oN,s,h⟩;omega
     have i:(a[k].bs.map (·.1)).drop j=[]:=gE oT;have b:=H (show iF (a.map (·.R))=iF ((a.map (·.R)).drop (k+1)) by rw[ag d,i];simp[mP]);clear d;go_wp2;go_roundg(Z a-(k+1));exact⟨k+1,O,rfl,oN,c.mem,c.ai,b⟩;omega
  have b:=H (show iF (a.map (·.R))=-1 by rw[ag d,gE oT];rfl);clear d Q M hp ht;go_wp2;go_ret;exact⟨by rw[ag b];rfl,hb⟩
variable {b d:Nat}{f:V9}{c:W8}
def z6{v}(h:Ce c (C b a G)=P f):Ce (Sc c (C b a G) v) (C b a G)=P v:=by go_simp
def tH{w}(h:¬(b=a/\d=w)):Ce (Sc c (C b d G) f) (C a w G)=Ce c (C a w G):=by
 by_cases e:b=a
 .subst e;have o:d≠w:=λe=>h ⟨rfl,e⟩
  unfold World.cell? World.setCell;simp only[zK,lM]
  cases c.heap[b]? with
  |none=>rfl
  |some x=>cases x<;>simp[o]
 exact j8 (w:=c) (cx c (C b d G) f a oT)
def sg(M:Nat->Nat->Bool)(i j:Nat):Nat->Nat->Bool:=λa b=>(decide (a=i)&&decide (b=j))||M a b
structure mI(w:W8)(gm n m:Nat)(M:Nat->Nat->Bool):Prop where
 sz:gm+1+m<=F (X w)
 AR:∀i,i<m->Ce w (C gm i G)=P (U (P (C (gm+1+i) 0 G)) n n)
 pV:∀i,i<n->∃u,Ce w (C gm i G)=P u
 cell:∀i j,i<m->j<n->Ce w (C (gm+1+i) j G)=P (Vb (M i j))
 J6:∀j,w.frozen? (C gm j G)=Bf
 fz:∀i j,i<m->w.frozen? (C (gm+1+i) j G)=Bf
variable {e:Nat->Nat->Bool}
def mI.kept{B w}(h:mI w a b d e)(k:ak B w c)(m:∀x∈B,x<a):mI c a b d e:=by
 have n:∀x,a<=x->x∉B:=λx g i=>by have:=m x i;omega
 have g:=h.sz
 exact⟨bf h.sz k.size,λi x=>(k.cell (p:=(C a i G)) oT (n _ oS)).trans (h.AR i x),λi x=>by obtain⟨u,f⟩:=h.pV i x;exact⟨u,(k.cell (p:=(C a i G)) oT (n _ oS)).trans f⟩,
  λi j x M=>(k.cell (p:=(C (a+1+i) j G)) oT (n _ oT)).trans (h.cell i j x M),λj=>(k.frozen (p:=(C a j G)) oT (n _ oS)).trans (h.J6 j),λi j x=>(k.frozen (p:=(C (a+1+i) j G)) oT (n _ oT)).trans (h.fz i j x)⟩
def mI.set{w d n m M}(h:mI w d n m M)(i j)(k:i<m)(l:j<n):mI (Sc w (C (d+1+i) j G) (Vb Bt)) d n m (sg M i j):=by
 have e:=h.cell i j k l;refine⟨by simpa using h.sz,λa c=>?_,λa c=>?_,λa b c g=>?_,λb=>by simpa using h.J6 b,λa b c=>by simpa using h.fz a b c⟩
 .rw[j8 (w:=w) (cx w (C (d+1+i) j G) _ d oT)];exact h.AR a c
 .obtain⟨u,f⟩:=h.pV a c;exact⟨u,by rw[j8 (w:=w) (cx w (C (d+1+i) j G) _ d oT)];exact f⟩
 by_cases u:a=i
 .by_cases f:b=j
  .subst u f;rw[z6 e];simp[sg]
  rw[tH O,h.cell a b c g];simp[sg,f]
 rw[tH O,h.cell a b c g];simp[sg,u]
def ahb:(prog.info? 4).map (λi=>(i.zero,i.size,i.bytes))=P (P (Vb Bf),1,1):=oK
def ahc:(prog.info? 143).map (λi=>(i.zero,i.size,i.bytes))=P (P (U G 0 0),1,24):=oK
def ail(n:Nat)(f:n<=1000)(u):(Instr.makeSlice 314 (I J n) (I J n)).run prog u=.ok (U (some (C (F (X u)) 0 G)) n n) (u.alloc (Vc (madeCells #[U G 0 0] n) 143)):=by obtain⟨e,d,a,b,c⟩:=info_parts ahc;have h:=DX (P:=prog) u 314 143 e (U G 0 0) underlying314 d a J J (n:Int) (n:Int) O (DJ _) (by rw[c];omega) O;simpa[b,Value.cells]using h
def OW(n:Nat)(f:n<=1000)(u):(Instr.makeSlice 143 (I J n) (I J n)).run prog u=.ok (U (some (C (F (X u)) 0 G)) n n) (u.alloc (Vc (madeCells #[Vb Bf] n) 4)):=by obtain⟨e,d,a,b,c⟩:=info_parts ahb;have h:=DX (P:=prog) u 143 4 e (Vb Bf) underlying143 d a J J (n:Int) (n:Int) O (DJ _) (by rw[c];omega) O;simpa[b,Value.cells]using h
def Jb(z n i)(h:i<n):(madeCells #[z] n)[i]?=P z:=by have:=toList_madeCells_one z n;rw[<-DF,this,List.getElem?_replicate,aD h]
def mI.start(w n):mI (Al w (Vc (madeCells #[U G 0 0] n) 143)) (F (X w)) n 0 (λ_ _=>Bf):=by
 refine⟨oS,O,λi a=>⟨U G 0 0,?_⟩,O,λj=>?_,O⟩
 .rw[World.cell?_alloc_at _ _ _ _ rfl,Jb _ _ _ a]
 rw[World.frozen?_alloc_at _ _ _ _ rfl]
def mI.row(h:mI c a b d (λ_ _=>Bf))(m:F (X c)=a+1+d)(l:d<b):mI (Sc (Al c (Vc (madeCells #[Vb Bf] b) 4)) (C a d G) (U (P (C (F (X c)) 0 G)) b b)) a b (d+1) (λ_ _=>Bf):=by
 have k:=((ak.refl [] c).alloc (Vc (madeCells #[Vb Bf] b) 4));have n:=h.kept k oS;obtain⟨_,g⟩:=n.pV d l;refine⟨oT,λi w=>?_,λi w=>?_,λi j w f=>?_,λj=>by simpa using n.J6 j,λi j w=>?_⟩
 .by_cases e:i=d
  .subst e;rw[z6 g,m]
  rw[tH O];exact n.AR i O
 .by_cases e:i=d
  .subst e;exact⟨_,z6 g⟩
  obtain⟨v,o⟩:=n.pV i w;exact⟨v,by rw[tH O];exact o⟩
 .rw[j8 (cx _ (C a d G) _ (a+1+i) oT)]
  by_cases e:i=d
  .subst e;rw[<-m,World.cell?_alloc_at _ _ _ _ rfl,Jb _ _ _ f]
  exact n.cell i j O f
 rw[World.frozen?_setCell]
 by_cases e:i=d
 .subst e;rw[<-m,World.frozen?_alloc_at _ _ _ _ rfl]
 exact n.fz i j O
def bH(ps:P9)(nm:B8):Nat:=(aL ps nm).toNat
def vx(ps:P9)(h:Nat):List aR->(Nat->Nat->Bool)->(Nat->Nat->Bool)
 | [],M=>M
 |A::r,M=>vx ps h r (sg M h (bH ps A.ax))
def rH(ps:P9):List bg->(Nat->Nat->Bool)->(Nat->Nat->Bool)
 | [],M=>M
 |R::r,M=>rH ps r (vx ps (bH ps R.ay.ax) R.body M)
def vB(n m i:Nat)(M:Nat->Nat->Bool)(k:Nat):Nat->Nat->Bool:=
 if k<n then vB n m i (if M i m&&M m k then sg M i k else M) (k+1) else M
termination_by n-k
def ph(n m:Nat)(M:Nat->Nat->Bool)(i:Nat):Nat->Nat->Bool:=
 if i<n then ph n m (vB n m i M 0) (i+1) else M
termination_by n-i
def kU(n:Nat)(M:Nat->Nat->Bool)(m:Nat):Nat->Nat->Bool:=
 if m<n then kU n (ph n m M 0) (m+1) else M
termination_by n-m
variable {e g:Nat}{c:Nat->Nat->Bool}
def Vl(h:g<a):vB a b e c g=vB a b e (if c e b&&c b g then sg c e g else c) (g+1):=by rw[vB,aD h]
def Vk(h:¬g<a):vB a b e c g=c:=by rw[vB,aB h]
def Vj(h:e<a):ph a b c e=ph a b (vB a b e c 0) (e+1):=by rw[ph,aD h]
def Vh(h:¬e<a):ph a b c e=c:=by rw[ph,aB h]
def Nl(h:b<a):kU a c b=kU a (ph a b c 0) (b+1):=by rw[kU,aD h]
def Nk(h:¬b<a):kU a c b=c:=by rw[kU,aB h]
def jf(ps:P9)(rs:List bg):Nat->Nat->Bool:=kU (Z ps) (rH ps rs (λ_ _=>Bf)) 0
def OU(ps:P9)(l:List aR):Prop:=∀A∈l,0<=aL ps A.ax
variable {d:P9}{f:List RR}
def aff(h:a<Z f):rH d ((f.map (·.R)).drop a) c=rH d ((f.map (·.R)).drop (a+1)) (vx d (bH d f[a].R.ay.ax) f[a].R.body c):=by rw[dM (oU h),rH];simp
def af9{h:List (aR×V9)}(j:b<Z h):vx d a ((h.map (·.1)).drop b) c=vx d a ((h.map (·.1)).drop (b+1)) (sg c a (bH d h[b].1.ax)):=by rw[Er j,vx]
def Mx(h:OU d (gT f))(c:a<Z f):0<=aL d f[a].R.ay.ax:=
 h _ (gh.2 ⟨f[a],aN c,bz⟩)
def Mw(h:OU d (gT f))(e:a<Z f)(c:f[a].R.body=f[a].bs.map (·.1))(k:b<f[a].bs.length):0<=aL d f[a].bs[b].1.ax:=
 h _ (gh.2 ⟨f[a],aN e,bG _ (by rw[c];exact aU.2 ⟨_,aN k,rfl⟩)⟩)
def agd(w o f b rv pv tv sv)(h:kC w o f b rv pv tv sv)(hn:Z b<=1000)(m:OU b (gT f)):Calls prog 190 #[Vp (P (C o 0 G))] w λe g=>e=Vr (U (P (C (F (X w)) 0 G)) (Z b) (Z b))/\mI g (F (X w)) (Z b) (Z b) (jf b (f.map (·.R)))/\Below (F (X w)) w g:=by
 obtain⟨_,_,rfl⟩:=aF h.bB;obtain⟨_,_,rfl⟩:=aF h.oE;have S:=ej h.bB;unfold maxLen at S;have d:=ail (Z b) hn;have R:=OW (Z b) hn;have x:=h.c0;have l:=h.c1;have mM:=h.lt;have i:∀z wr,Below (F (X w)) w wr->Calls prog 135 #[Vp (P (C o 0 G)),Y z] wr λe g=>e=Vr (I J (aL b z))/\g=wr:=λz wr g=>sP wr o f b _ _ _ _ z (h.kept ((ak.refl [] w).bC g) oS)
 have z:=H i;have HH:=H h;have W:=H m;clear h i m;go_in;go_wp2
 go_loopw [5] (λi wr=>∃m:Nat,m<=Z b/\i=I J m/\mI wr (F (X w)) (Z b) m (λ_ _=>Bf)/\(F (X wr))=F (X w)+1+m/\Below (F (X w)) w wr) (λi _=>Z b-(intOf i).toNat)
 exact⟨0,aI _,rfl,mI.start w (Z b),oS,B9.alloc L9 _⟩
 case round=>
  obtain⟨m,r,rfl,a,s,g⟩:=hrel
  by_cases n:m<Z b
  .obtain⟨_,_⟩:=a.pV m n;have h:=a.J6 m;have M:F (X w)<F (X wr):=O;have k:=a.row s n;rw[World.setCell_alloc_past _ _ _ _ M]at k;have y:=H k;have q:=H s;clear k;clear a s x l;go_wp2
   go_roundw
   case rel=>exact⟨m+1,O,oN,y,by have:=ag q;simp;omega,(g.setCell L9 _).alloc oT _⟩
   case measure=>simp[intOf];omega
  have M:m=Z b:=O
  subst M;clear d R s n r x l;go_wp2
  go_loopg [6,7,8] (Z f) (λs i l R wr=>∃(k:Nat)(M:Nat->Nat->Bool),k<=Z f/\s=Z f-k/\i=I J k/\mI wr (F (X w)) (Z b) (Z b) M/\Below (F (X w)) w wr/\jf b (f.map (·.R))=kU (Z b) (rH b ((f.map (·.R)).drop k) M) 0)
  exact⟨0,_,aI _,rfl,rfl,a,g,rfl⟩
  case round=>
   clear a g;obtain⟨k,M,hk,R,rfl,a,g,d⟩:=hrel;have l:=H d;clear d;have r:=HH.kept ((ak.refl [] w).bC g) oS;have x:=r.c0
   by_cases q:k<Z f
   .obtain⟨_,_,hv,_,K,_,_,q0,q1,q2,q3,q4,Q⟩:=pT r.bB k q;injection hv with u N L
    subst u L;have p:=r.aK _ (aN q);obtain⟨_,_,v⟩:=aF p.bo;have E:=ej p.bo;unfold maxLen at E;rw[v]at Q;have t:=p.eq;have c:=H (l.trans (gQ (λh=>kU (Z b) h 0) (aff q)));have V:=Mx W q;have Fb:aL b f[k].R.ay.ax<Z b:=(oF (mS V));clear l N;go_wp2_with fail;refine(z _ wr g).mono ?_;rintro e w1⟨rfl,rfl⟩;go_wp2
    go_loopg [8] f[k].bs.length (λs i wr=>∃(j:Nat)(M:Nat->Nat->Bool),j<=f[k].bs.length/\s=f[k].bs.length-j/\i=I J j/\mI wr (F (X w)) (Z b) (Z b) M/\Below (F (X w)) w wr/\jf b (f.map (·.R))=kU (Z b) (rH b ((f.map (·.R)).drop (k+1)) (vx b (bH b f[k].R.ay.ax) ((f[k].bs.map (·.1)).drop j) M)) 0)
    exact⟨0,M,aI _,rfl,rfl,a,g,by rw[vb,<-t];exact c⟩
    case round=>
     clear a g c r x q0 q1 q2 q3 q4 Q p K;obtain⟨j,M,_,_,rfl,a,g,d⟩:=hrel;have l:=H d;clear d;have r:=HH.kept ((ak.refl [] w).bC g) oS;have x:=r.c0;obtain⟨_,_,T,_,K,_,_,q0,q1,q2,q3,q4,Q⟩:=pT r.bB k q;injection T with u N L
     injection u with u
     injection u with u
     subst u L;have p:=r.aK _ (aN q);rw[v]at Q
     by_cases u:j<f[k].bs.length
     .obtain⟨_,_,L,_,_,_,_,_,_,_,_,_⟩:=qx p.bo j u;rw[v]at L;injection L with A B D
      subst A D;have c:=H (l.trans (gQ (λh=>kU (Z b) (rH b ((f.map (·.R)).drop (k+1)) h) 0) (af9 u)));have D:=Mw W q t u;have CA:aL b f[k].bs[j].1.ax<Z b:=(oF (mS D));have t1:=a.AR (aL b f[k].R.ay.ax).toNat O;have A:=a.cell (aL b f[k].R.ay.ax).toNat (aL b f[k].bs[j].1.ax).toNat O O;have t3:=a.fz (aL b f[k].R.ay.ax).toNat (aL b f[k].bs[j].1.ax).toNat O;have y:=H (a.set (bH b f[k].R.ay.ax) (bH b f[k].bs[j].1.ax) (by unfold bH;omega) (by unfold bH;omega));have HMS:=H a.sz;clear l N r a p B;go_wp2
      go_region_with(go_at_call 135;refine(z _ _ g.drew).mono ?_;rintro e w1⟨rfl,rfl⟩)
      all_goals
       go_wp2;go_roundg(f[k].bs.length-(j+1));exact⟨j+1,_,O,rfl,oN,y.kept ((ak.refl [] _).drew) oS,(g.setCell oT _).drew,c⟩;omega
     have L:(f[k].bs.map (·.1)).drop j=[]:=gE oT;have c:=H (show jf b (f.map (·.R))=kU (Z b) (rH b ((f.map (·.R)).drop (k+1)) M) 0 by rw[ag l,L];rfl);clear l N r;go_wp2;go_roundg(Z f-(k+1));exact⟨k+1,M,O,rfl,oN,a,g,c⟩;omega
   have u:(f.map (·.R)).drop k=[]:=gE oT;have c:=H (show jf b (f.map (·.R))=kU (Z b) M 0 by rw[ag l,u];rfl);clear l r;go_wp2_with fail;clear x
   go_loopg [9,10,11] (Z b) (λs j x t wr=>∃(m:Nat)(M:Nat->Nat->Bool),m<=Z b/\s=Z b-m/\j=I J m/\mI wr (F (X w)) (Z b) (Z b) M/\Below (F (X w)) w wr/\jf b (f.map (·.R))=kU (Z b) M m)
   exact⟨0,M,aI _,rfl,rfl,a,g,c⟩
   case round=>
    clear a g c;obtain⟨m,M,r,_,rfl,a,g,d⟩:=hrel;have l:=H d;clear d
    by_cases n:m<Z b
    .have c:=H (l.trans (Nl n));clear l;go_wp2
     go_loopg [10,11] (Z b) (λs x t wr=>∃(i:Nat)(M:Nat->Nat->Bool),i<=Z b/\s=Z b-i/\x=I J i/\mI wr (F (X w)) (Z b) (Z b) M/\Below (F (X w)) w wr/\jf b (f.map (·.R))=kU (Z b) (ph (Z b) m M i) (m+1))
     exact⟨0,M,aI _,rfl,rfl,a,g,c⟩
     case round=>
      clear a g c;obtain⟨i,M,_,_,rfl,a,g,d⟩:=hrel;have l:=H d;clear d
      by_cases j:i<Z b
      .have c:=H (l.trans (gQ (λh=>kU (Z b) h (m+1)) (Vj j)));clear l;go_wp2
       go_loopg [11] (Z b) (λs t wr=>∃(k:Nat)(M:Nat->Nat->Bool),k<=Z b/\s=Z b-k/\t=I J k/\mI wr (F (X w)) (Z b) (Z b) M/\Below (F (X w)) w wr/\jf b (f.map (·.R))=kU (Z b) (ph (Z b) m (vB (Z b) m i M k) (i+1)) (m+1))
       exact⟨0,M,aI _,rfl,rfl,a,g,c⟩
       case round=>
        clear a g c;obtain⟨k,M,hk,R,rfl,a,g,d⟩:=hrel;have l:=H d;clear d
        by_cases p:k<Z b
        .have d:=l.trans (gQ (λh=>kU (Z b) (ph (Z b) m h (i+1)) (m+1)) (Vl p));have t1:=a.AR i j;have A:=a.cell i m j n;have t3:=a.AR m n;have x:=a.cell m k n p;have v:=a.cell i k j p;have E:=a.fz i k j
         cases t:M i m with
         |false=>rw[t]at A;rw[t,Bool.false_and,aB oD]at d;have c:=H d;clear l d v;go_wp2;go_roundg(Z b-(k+1));exact⟨k+1,M,O,rfl,oN,a,g,c⟩;omega
         |true=>
          rw[t]at A
          cases s:M m k with
          |false=>rw[s]at x;rw[t,s,Bool.and_false,aB oD]at d;have c:=H d;clear l d v;go_wp2;go_roundg(Z b-(k+1));exact⟨k+1,M,O,rfl,oN,a,g,c⟩;omega
          |true=>rw[s]at x;rw[t,s,Bool.and_true,aD rfl]at d;have c:=H d;have y:=H (a.set i k j p);clear l d;go_wp2;go_roundg(Z b-(k+1));exact⟨k+1,_,O,rfl,oN,y,g.setCell oT _,c⟩;omega
        have c:=H (l.trans (gQ (λh=>kU (Z b) (ph (Z b) m h (i+1)) (m+1)) (Vk p)));clear l;go_wp2;go_roundg(Z b-(i+1));exact⟨i+1,M,O,rfl,oN,a,g,c⟩;omega
      have c:=H (l.trans (gQ (λh=>kU (Z b) h (m+1)) (Vh j)));clear l;go_wp2;go_roundg(Z b-(m+1));exact⟨m+1,M,O,rfl,oN,a,g,c⟩;omega
    have c:=H (l.trans (Nk n));clear l;go_wp2;go_ret;exact⟨rfl,by rw[ag c];exact a,g⟩
def nH(ps:P9)(a:Nat->Nat->Bool)(hd:B8)(A:aR):Bool:=A.no&&(aL ps A.ax==aL ps hd||a (bH ps A.ax) (bH ps hd))
def nI(ps:P9)(a:Nat->Nat->Bool)(hd:B8):List aR->Int
 | []=>-1
 |A::r=>if nH ps a hd A then A.aO else nI ps a hd r
def ju(ps:P9)(a:Nat->Nat->Bool):List bg->Int
 | []=>-1
 |R::r=>if 0<=nI ps a R.ay.ax R.body then nI ps a R.ay.ax R.body else ju ps a r
variable {a:P9}
def aeY{k:List RR}(h:b<Z k):ju a c ((k.map (·.R)).drop b)=if 0<=nI a c k[b].R.ay.ax k[b].R.body then nI a c k[b].R.ay.ax k[b].R.body else ju a c ((k.map (·.R)).drop (b+1)):=by rw[dM (oU h)];simp[ju]
def aeS{d}{j:List (aR×V9)}(h:b<Z j):nI a c d ((j.map (·.1)).drop b)=if nH a c d j[b].1 then(j[b].1.aO:Int) else nI a c d ((j.map (·.1)).drop (b+1)):=by rw[Er h];rfl
def aeU(w o a b rv pv tv sv)(h:kC w o a b rv pv tv sv)(hn:Z b<=1000)(i:OU b (gT a)):Calls prog 128 #[Vp (P (C o 0 G))] w λe f=>e=Vr (I J (ju b (jf b (a.map (·.R))) (a.map (·.R))))/\Below (F (X w)) w f:=by
 have g:=agd w o a b rv pv tv sv h hn i;obtain⟨_,_,rfl⟩:=aF h.bB;have Q:=ej h.bB;unfold maxLen at Q;have mM:=h.lt;have d:∀p wr,Below (F (X w)) w wr->Calls prog 135 #[Vp (P (C o 0 G)),Y p] wr λe f=>e=Vr (I J (aL b p))/\f=wr:=λp wr f=>sP wr o a b _ _ _ _ p (h.kept ((ak.refl [] w).bC f) oS)
 have p:=H d;have W:=H h;have V:=H i;have A:=H g;clear h d i g;generalize jf b (a.map (·.R))=h at*;go_in;go_wp2_with fail;refine(A).mono ?_;rintro e B⟨rfl,d,g⟩;clear A;go_wp2
 go_loopg [4,5,6,7,8] (Z a) (λA i r q R u wr=>∃k:Nat,k<=Z a/\A=Z a-k/\i=I J k/\mI wr (F (X w)) (Z b) (Z b) h/\Below (F (X w)) w wr/\ju b h (a.map (·.R))=ju b h ((a.map (·.R)).drop k))
 exact⟨0,aI _,rfl,rfl,d,g,rfl⟩
 case round=>
  clear d g;obtain⟨k,_,_,rfl,d,f,g⟩:=hrel;have r:=H g;clear g;have q:=W.kept ((ak.refl [] w).bC f) oS;have c0:=q.c0
  by_cases m:k<Z a
  .obtain⟨_,_,hv,_,z,_,_,q0,q1,q2,q3,q4,L⟩:=pT q.bB k m;injection hv with s E n
   subst s n;have l:=q.aK _ (aN m);obtain⟨_,_,v⟩:=aF l.bo;have y:=ej l.bo;unfold maxLen at y;rw[v]at L;have t:=l.eq;have c:=H (r.trans (aeY m));have S:=Mx V m;have Fb:aL b a[k].R.ay.ax<Z b:=(oF (mS S));clear r E;go_wp2_with fail;refine(p _ wr f).mono ?_;rintro e B⟨rfl,rfl⟩;go_wp2
   go_loopg [6,7,8] a[k].bs.length (λA i R u wr=>∃j:Nat,j<=a[k].bs.length/\A=a[k].bs.length-j/\i=I J j/\mI wr (F (X w)) (Z b) (Z b) h/\Below (F (X w)) w wr/\ju b h (a.map (·.R))=if 0<=nI b h a[k].R.ay.ax ((a[k].bs.map (·.1)).drop j) then nI b h a[k].R.ay.ax ((a[k].bs.map (·.1)).drop j) else ju b h ((a.map (·.R)).drop (k+1)))
   exact⟨0,aI _,rfl,rfl,d,f,by rw[vb,<-t];exact c⟩
   case round=>
    clear d f c q c0 q0 q1 q2 q3 q4 L l z;obtain⟨j,_,_,rfl,d,f,g⟩:=hrel;have r:=H g;clear g;have q:=W.kept ((ak.refl [] w).bC f) oS;have c0:=q.c0;obtain⟨_,_,R,_,z,_,_,q0,q1,q2,q3,q4,L⟩:=pT q.bB k m;injection R with s E n
    injection s with s
    injection s with s
    subst s n;have l:=q.aK _ (aN m);rw[v]at L
    by_cases s:j<a[k].bs.length
    .obtain⟨_,_,A,_,_,_,_,_,p1,p2,_,_⟩:=qx l.bo j s;rw[v]at A;injection A with u n g
     subst u g;obtain⟨M,u,N⟩:=aF (l.bl _ (aN s));rw[N]at p1;have g:=r.trans (by rw[aeS s]);have T:=Mw V m t s;have CA:aL b a[k].bs[j].1.ax<Z b:=(oF (mS T));have hsz:=d.sz;have Ck:F (X w)<F (X wr):=O;have aoL:F (X w)+1+(aL b a[k].bs[j].1.ax).toNat<F (X wr):=O;have t1:=d.AR (aL b a[k].bs[j].1.ax).toNat O;have t2:=d.cell (aL b a[k].bs[j].1.ax).toNat (aL b a[k].R.ay.ax).toNat O O;have D:=H (d.kept ((ak.refl [] _).alloc (Vc #[Y a[k].bs[j].1.ax,U M a[k].bs[j].1.aq.length u,Vb a[k].bs[j].1.no,I J a[k].bs[j].1.aC,I J a[k].bs[j].1.aO] 243)) oS);clear r E q d l n;have l:nH b h a[k].R.ay.ax a[k].bs[j].1=(a[k].bs[j].1.no&&(aL b a[k].bs[j].1.ax==aL b a[k].R.ay.ax||h (aL b a[k].bs[j].1.ax).toNat (aL b a[k].R.ay.ax).toNat)):=rfl
     cases n:a[k].bs[j].1.no with
     |false=>rw[n]at p2 D;have i:nH b h a[k].R.ay.ax a[k].bs[j].1=false:=(by rw[l,n];rfl);clear l;have c:=H (show ju b h (a.map (·.R))=if 0<=nI b h a[k].R.ay.ax ((a[k].bs.map (·.1)).drop (j+1)) then nI b h a[k].R.ay.ax ((a[k].bs.map (·.1)).drop (j+1)) else ju b h ((a.map (·.R)).drop (k+1)) by rw[g,i];simp);clear g i;go_wp2_with fail;refine(p _ _ (f.alloc O _)).mono ?_;rintro e B⟨rfl,rfl⟩;go_wp2;go_roundg(a[k].bs.length-(j+1));exact⟨j+1,O,rfl,oN,D,f.alloc O _,c⟩;omega
     |true=>
      rw[n]at p2 D
      cases x:(aL b a[k].bs[j].1.ax==aL b a[k].R.ay.ax) with
      |true=>have i:nH b h a[k].R.ay.ax a[k].bs[j].1=true:=(by rw[l,n,x];rfl);clear l;have c:=H (show ju b h (a.map (·.R))=(a[k].bs[j].1.aO:Int) by rw[g,i];simp);clear g i;go_wp2_with fail;refine(p _ _ (f.alloc O _)).mono ?_;rintro e B⟨rfl,rfl⟩;go_wp2;go_ret;exact⟨by rw[ag c];rfl,f.alloc O _⟩
      |false=>
       cases K:h (aL b a[k].bs[j].1.ax).toNat (aL b a[k].R.ay.ax).toNat with
       |true=>have i:nH b h a[k].R.ay.ax a[k].bs[j].1=true:=(by rw[l,n,x,K];rfl);clear l;rw[K]at t2;have c:=H (show ju b h (a.map (·.R))=(a[k].bs[j].1.aO:Int) by rw[g,i];simp);clear g i;go_wp2_with fail;refine(p _ _ (f.alloc O _)).mono ?_;rintro e B⟨rfl,rfl⟩;go_wp2;go_ret;exact⟨by rw[ag c];rfl,f.alloc O _⟩
       |false=>have i:nH b h a[k].R.ay.ax a[k].bs[j].1=false:=(by rw[l,n,x,K];rfl);clear l;rw[K]at t2;have c:=H (show ju b h (a.map (·.R))=if 0<=nI b h a[k].R.ay.ax ((a[k].bs.map (·.1)).drop (j+1)) then nI b h a[k].R.ay.ax ((a[k].bs.map (·.1)).drop (j+1)) else ju b h ((a.map (·.R)).drop (k+1)) by rw[g,i];simp);clear g i;go_wp2_with fail;refine(p _ _ (f.alloc O _)).mono ?_;rintro e B⟨rfl,rfl⟩;go_wp2;go_roundg(a[k].bs.length-(j+1));exact⟨j+1,O,rfl,oN,D,f.alloc O _,c⟩;omega
    have n:(a[k].bs.map (·.1)).drop j=[]:=gE oT;have c:=H (show ju b h (a.map (·.R))=ju b h ((a.map (·.R)).drop (k+1)) by rw[ag r,n];simp[nI]);clear r E q;go_wp2;go_roundg(Z a-(k+1));exact⟨k+1,O,rfl,oN,d,f,c⟩;omega
  have c:=H (show ju b h (a.map (·.R))=-1 by rw[ag r,gE oT];rfl);clear r q;go_wp2;go_ret;exact⟨by rw[ag c];rfl,f⟩
end Go.Proofs.YtldkpahaocjdpaaGreat
