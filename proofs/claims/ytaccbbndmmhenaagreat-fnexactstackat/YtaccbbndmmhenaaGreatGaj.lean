import Derived.Test.YtaccbbndmmhenaaGreatGah
import Derived.Test.YtaccbbndmmhenaaGreatGai
set_option linter.all false
set_option maxHeartbeats 400000000
set_option maxRecDepth 100000
namespace Go.Proofs
open Value renaming int->U,slice->S,bool->G,string->Xs,agg->Ag
open IntKind renaming i64->O
open Ending renaming returned->Z
open Obj renaming cells->Fc
open Go renaming World->J,Calls->Ec,Value->Vu,Addr->Ad
open Go.RowKit renaming Below->Bw
open Tryz renaming prog->Q
open Tryz
open Nat renaming zero_le->Kw,zero_add->Tx
open List renaming getD->Kx,getElem?_eq_getElem->Kj,length->N
open IntKind renaming wrap_i64->Kz
open World renaming ownsRow_lit->Hk,frozen?_alloc_new->Tm,ownsRow_nil->Tq,setCell_alloc_past->Rd
namespace YtaccbbndmmhenaaGreat
open Go.RowKit Go.Sort
variable {w w1:J}{B:Nat}
theorem ilim2 (x:Qd)(w:J)(b:Qd.Is 0 w x)(a:Qd.LB 1048576 x):Ec Q 158 #[Ag #[U O x.min,U O x.max,G x.has]] w λe w'=>e=Z (G (Jn x))/\Bw w.heap.size w w':=ilim_c x w
theorem aaL1:(∀(a:Option Ad) (c:Nat) (xs:List Dat) (w:J) (E:N xs<=1048576/\∀i,i<N xs->Dat.LB 1048576 (xs.getD i Dat.z)) (A:Dat.Ls 0 w a xs) (L:∀i,i<N xs->QV (xs.getD i Dat.z).off),Ec Q 168 #[S a (N xs) c,.func (.func 169) #[] #[]] w λe w'=>e=Z (G (xs.all JL))/\Bw w.heap.size w w')/\(∀(a:Option Ad) (c:Nat) (xs:List Qm) (w:J) (E:N xs<=1048576/\∀i,i<N xs->Qm.LB 1048576 (xs.getD i Qm.z)) (A:Qm.Ls 0 w a xs) (L:∀i,i<N xs->QV (xs.getD i Qm.z).ini),Ec Q 159 #[S a (N xs) c,.func (.func 160) #[] #[]] w λe w'=>e=Z (G (xs.all QY))/\Bw w.heap.size w w')/\(∀(a:Option Ad) (c:Nat) (xs:List Ele) (w:J) (E:N xs<=1048576/\∀i,i<N xs->Ele.LB 1048576 (xs.getD i Ele.z)) (A:Ele.Ls 0 w a xs) (L:∀i,i<N xs->QV (xs.getD i Ele.z).off),Ec Q 164 #[S a (N xs) c,.func (.func 165) #[] #[]] w λe w'=>e=Z (G (xs.all JD))/\Bw w.heap.size w w')/\(∀(a:Option Ad) (c:Nat) (xs:List Qc) (w:J) (E:N xs<=1048576/\∀i,i<N xs->Qc.LB 1048576 (xs.getD i Qc.z)) (A:Qc.Ls 0 w a xs),Ec Q 151 #[S a (N xs) c,.func (.func 152) #[] #[]] w λe w'=>e=Z (G (xs.all ftB))/\Bw w.heap.size w w')/\(∀(a:Option Ad) (c:Nat) (xs:List Qd) (w:J) (E:N xs<=1048576/\∀i,i<N xs->Qd.LB 1048576 (xs.getD i Qd.z)) (A:Qd.Ls 0 w a xs),Ec Q 157 #[S a (N xs) c,.func (.func 158) #[] #[]] w λe w'=>e=Z (G (xs.all Jn))/\Bw w.heap.size w w')/\(∀(a:Option Ad) (c:Nat) (xs:List Exp) (w:J) (E:N xs<=1048576/\∀i,i<N xs->Exp.LB 1048576 (xs.getD i Exp.z)) (A:Exp.Ls 0 w a xs),Ec Q 161 #[S a (N xs) c,.func (.func 162) #[] #[]] w λe w'=>e=Z (G (xs.all Jr))/\Bw w.heap.size w w'):=by
 refine⟨?c0,?c1,?c2,?c3,?c4,?c5⟩;case' c0=>intro a c xs w E A L;have g:=0
 case' c1=>intro a c xs w E A L;have d:=0
 case' c2=>intro a c xs w E A L;have f:=0
 case' c3=>intro a c xs w E A;have n:=0
 case' c4=>intro a c xs w E A;have m:=0
 case' c5=>intro a c xs w E A;have M:=0
 all_goals
  obtain⟨hn,F⟩:=E;have HL:=Hm A;have Hl:=Hm F
  first|(replace g:=g;have HP:=Hm L)|(replace d:=d;have HP:=Hm L)|(replace f:=f;have HP:=Hm L)|(skip)
  first|(replace g:=g;clear A F L)|(replace d:=d;clear A F L)|(replace f:=f;clear A F L)|(clear A F)
  first|(replace g:=g;go_enter func168,ntmps168)|(replace d:=d;go_enter func159,ntmps159)|(replace f:=f;go_enter func164,ntmps164)|(replace n:=n;go_enter func151,ntmps151)|(replace m:=m;go_enter func157,ntmps157)|(go_enter func161,ntmps161)
  go_wp2_with fail
  first|(replace g:=g;go_loopw [9] (λi wr=>∃k:Nat,k<=N xs/\i=U O k/\(∀j,j<k->JL (xs.getD j Dat.z)=true)/\Bw w.heap.size w wr) (λi _=>N xs-(intOf i).toNat))|(replace d:=d;go_loopw [9] (λi wr=>∃k:Nat,k<=N xs/\i=U O k/\(∀j,j<k->QY (xs.getD j Qm.z)=true)/\Bw w.heap.size w wr) (λi _=>N xs-(intOf i).toNat))|(replace f:=f;go_loopw [9] (λi wr=>∃k:Nat,k<=N xs/\i=U O k/\(∀j,j<k->JD (xs.getD j Ele.z)=true)/\Bw w.heap.size w wr) (λi _=>N xs-(intOf i).toNat))|(replace n:=n;go_loopw [9] (λi wr=>∃k:Nat,k<=N xs/\i=U O k/\(∀j,j<k->ftB (xs.getD j Qc.z)=true)/\Bw w.heap.size w wr) (λi _=>N xs-(intOf i).toNat))|(replace m:=m;go_loopw [9] (λi wr=>∃k:Nat,k<=N xs/\i=U O k/\(∀j,j<k->Jn (xs.getD j Qd.z)=true)/\Bw w.heap.size w wr) (λi _=>N xs-(intOf i).toNat))|(go_loopw [9] (λi wr=>∃k:Nat,k<=N xs/\i=U O k/\(∀j,j<k->Jr (xs.getD j Exp.z)=true)/\Bw w.heap.size w wr) (λi _=>N xs-(intOf i).toNat))
  case atStart=>exact⟨0,Kw _,rfl,λj h=>by omega,bFz⟩
  case round =>
   obtain⟨k,hk,rfl,l,Y⟩:=hrel
   by_cases r:k<N xs
   . have ak:(k:Int)<(N xs:Int):=by omega
     rcases HL.o.up (up_below Y)with t|⟨b,o,ea,_,hc⟩
     . subst t;simp at r
     have v:=hc k r;have s:=Hl.o k r
     first|(replace g:=g;have u:=HP.o k r)|(replace d:=d;have u:=HP.o k r)|(replace f:=f;have u:=HP.o k r)|(skip)
     subst ea
     first|(replace g:=g;obtain⟨x,t⟩:∃x,x=xs.getD k Dat.z:=⟨_,rfl⟩)|(replace d:=d;obtain⟨x,t⟩:∃x,x=xs.getD k Qm.z:=⟨_,rfl⟩)|(replace f:=f;obtain⟨x,t⟩:∃x,x=xs.getD k Ele.z:=⟨_,rfl⟩)|(replace n:=n;obtain⟨x,t⟩:∃x,x=xs.getD k Qc.z:=⟨_,rfl⟩)|(replace m:=m;obtain⟨x,t⟩:∃x,x=xs.getD k Qd.z:=⟨_,rfl⟩)|(obtain⟨x,t⟩:∃x,x=xs.getD k Exp.z:=⟨_,rfl⟩)
     first|(replace g:=g;rw[<- t]at v s u)|(replace d:=d;rw[<- t]at v s u)|(replace f:=f;rw[<- t]at v s u)|(rw[<- t]at v s)
     first|(replace d:=d;obtain⟨R,c1,⟨q0,q1,q2⟩,H⟩:=v)|(replace m:=m;obtain⟨⟨q0,q1,q2⟩,H⟩:=v)|(replace M:=M;obtain⟨⟨q0,q1,q2⟩,H⟩:=v)|(obtain⟨R,c1,X,c2,⟨q0,q1⟩,H⟩:=v)
     first|(replace g:=g;have B:Bw wr.heap.size wr (wr.alloc (Fc #[S R (N x.off) c1,S X (N x.bs) c2] 199)):=bFz.alloc lRz _)|(replace d:=d;have B:Bw wr.heap.size wr (wr.alloc (Fc #[U O x.ty.ty,G x.ty.mu,S R (N x.ini) c1] 180)):=bFz.alloc lRz _)|(replace f:=f;have B:Bw wr.heap.size wr (wr.alloc (Fc #[S R (N x.off) c1,S X (N x.fs) c2] 195)):=bFz.alloc lRz _)|(replace n:=n;have B:Bw wr.heap.size wr (wr.alloc (Fc #[S R (N x.ps) c1,S X (N x.rs) c2] 76)):=bFz.alloc lRz _)|(replace m:=m;have B:Bw wr.heap.size wr (wr.alloc (Fc #[U O x.min,U O x.max,G x.has] 175)):=bFz.alloc lRz _)|(have B:Bw wr.heap.size wr (wr.alloc (Fc #[Xs x.nm,U O x.kind,U O x.ix] 192)):=bFz.alloc lRz _)
     first|(replace g:=g;have q:=Hm (idat_c x R c1 X c2 _ (H.up (up_below B)) s u))|(replace d:=d;have q:=Hm (iglob_c x R c1 _ (H.up (up_below B)) s u))|(replace f:=f;have q:=Hm (iele_c x R c1 X c2 _ (H.up (up_below B)) s u))|(replace n:=n;have q:=Hm (ift_c x R c1 X c2 _ (H.up (up_below B)) s))|(replace m:=m;have q:=Hm (ilim2 x _ (H.up (up_below B)) s))|(have q:=Hm (iexp_c x _ (H.up (up_below B)) s))
     have HB:=Hm Y;have ab:=Hm B
     first|(replace g:=g;generalize C:JL x=gx at q)|(replace d:=d;generalize C:QY x=gx at q)|(replace f:=f;generalize C:JD x=gx at q)|(replace n:=n;generalize C:ftB x=gx at q)|(replace m:=m;generalize C:Jn x=gx at q)|(generalize C:Jr x=gx at q)
     first|(replace g:=g;have y:Hid (JL (xs.getD k Dat.z)=gx):=by show _=_;rw[<- t];exact C)|(replace d:=d;have y:Hid (QY (xs.getD k Qm.z)=gx):=by show _=_;rw[<- t];exact C)|(replace f:=f;have y:Hid (JD (xs.getD k Ele.z)=gx):=by show _=_;rw[<- t];exact C)|(replace n:=n;have y:Hid (ftB (xs.getD k Qc.z)=gx):=by show _=_;rw[<- t];exact C)|(replace m:=m;have y:Hid (Jn (xs.getD k Qd.z)=gx):=by show _=_;rw[<- t];exact C)|(have y:Hid (Jr (xs.getD k Exp.z)=gx):=by show _=_;rw[<- t];exact C)
     cases gx
     . first|(replace g:=g;have p:=Hm (Jd JL xs Dat.z k r y.o))|(replace d:=d;have p:=Hm (Jd QY xs Qm.z k r y.o))|(replace f:=f;have p:=Hm (Jd JD xs Ele.z k r y.o))|(replace n:=n;have p:=Hm (Jd ftB xs Qc.z k r y.o))|(replace m:=m;have p:=Hm (Jd Jn xs Qd.z k r y.o))|(have p:=Hm (Jd Jr xs Exp.z k r y.o))
       clear l hc Y B H HL Hl t C
       go_wp2_with fail
       refine q.o.mono ?_
       rintro e w2 ⟨rfl,I⟩;have V:Bw w.heap.size w w2:=HB.o.trans ((ab.o.trans (I.mono (by simp))).mono HB.o.size);clear I
       go_wp2
       go_ret
       exact⟨by rw[p.o];rfl,V⟩
     . first
       | (
        replace g:=g
        have D:Hid (∀j,j<k+1->JL (xs.getD j Dat.z)=true):=λj hj=>by
         rcases(by omega:j<k\/j=k)with h|h
         . exact l j h
         . subst h;exact y.o)
       | (
        replace d:=d
        have D:Hid (∀j,j<k+1->QY (xs.getD j Qm.z)=true):=λj hj=>by
         rcases(by omega:j<k\/j=k)with h|h
         . exact l j h
         . subst h;exact y.o)
       | (
        replace f:=f
        have D:Hid (∀j,j<k+1->JD (xs.getD j Ele.z)=true):=λj hj=>by
         rcases(by omega:j<k\/j=k)with h|h
         . exact l j h
         . subst h;exact y.o)
       | (
        replace n:=n
        have D:Hid (∀j,j<k+1->ftB (xs.getD j Qc.z)=true):=λj hj=>by
         rcases(by omega:j<k\/j=k)with h|h
         . exact l j h
         . subst h;exact y.o)
       | (
        replace m:=m
        have D:Hid (∀j,j<k+1->Jn (xs.getD j Qd.z)=true):=λj hj=>by
         rcases(by omega:j<k\/j=k)with h|h
         . exact l j h
         . subst h;exact y.o)
       | (
        replace M:=M
        have D:Hid (∀j,j<k+1->Jr (xs.getD j Exp.z)=true):=λj hj=>by
         rcases(by omega:j<k\/j=k)with h|h
         . exact l j h
         . subst h;exact y.o)
       clear l hc Y B H HL Hl t C
       go_wp2_with fail
       refine q.o.mono ?_
       rintro e w2 ⟨rfl,I⟩;have V:Bw w.heap.size w w2:=HB.o.trans ((ab.o.trans (I.mono (by simp))).mono HB.o.size);clear I
       go_wp2
       go_roundw
       case rel=>exact⟨k+1,by omega,by go_num,D.o,V⟩
       case measure=>simp[intOf];omega
   . have e:k=N xs:=by omega
     subst e
     first|(replace g:=g;have p:=Hm (JB JL xs Dat.z l))|(replace d:=d;have p:=Hm (JB QY xs Qm.z l))|(replace f:=f;have p:=Hm (JB JD xs Ele.z l))|(replace n:=n;have p:=Hm (JB ftB xs Qc.z l))|(replace m:=m;have p:=Hm (JB Jn xs Qd.z l))|(have p:=Hm (JB Jr xs Exp.z l))
     clear l HL Hl
     go_wp2
     go_ret
     exact⟨by rw[p.o];rfl,Y⟩
def aaDat_c:=aaL1.1
def aaGlob_c:=aaL1.2.1
def aaEle_c:=aaL1.2.2.1
def aaFType_c:=aaL1.2.2.2.1
def aaLimits_c:=aaL1.2.2.2.2.1
def aaExp_c:=aaL1.2.2.2.2.2
def szs (x:Mod):List Int:=[0,N x.types,N x.cj,N x.jk,N x.cw,N x.jz,N x.ck,N x.cv,(if x.gz then 1 else 0),N x.fq,N x.fj,N x.fx]
def writ (x:Mod)(n:Int):Bool:=decide (0<=n/\n<12)&&decide (0<(szs x).getD n.toNat 0)
def Mod.Ln (x:Mod):Prop:=N x.types<=1048576/\N x.cj<=1048576/\N x.jk<=1048576/\N x.cw<=1048576/\N x.jz<=1048576/\N x.ck<=1048576/\N x.cv<=1048576/\N x.fq<=1048576/\N x.fj<=1048576/\N x.fx<=1048576/\N x.fw<=1048576
def szN (x:Mod)(n:Int):Int:=if 0<=n/\n<12 then(szs x).getD n.toNat 0 else 0
theorem szN_writ (x:Mod)(n:Int):decide (0<szN x n)=writ x n:=by
 unfold szN writ;by_cases h:0<=n/\n<12
 . simp[h]
 simp[h]
theorem hidx_c (a:Option Ad)(n:Int)(w:J):Ec Q 209 #[S a 12 12,U O n] w λe w'=>e=Z (G (decide (0<=n/\n<12)))/\w=w':=by
 by_cases c:0<=n
 . by_cases b:n<12
   . (have hd:decide (0<=n/\n<12)=true:=by simp[c,b]);rw[hd];clear hd;go_enter func209,ntmps209;go_wp2;go_ret;exact⟨rfl,rfl⟩
   (have hd:decide (0<=n/\n<12)=false:=by simp[b]);rw[hd];clear hd;go_enter func209,ntmps209;go_wp2;go_ret;exact⟨rfl,rfl⟩
 have hd:decide (0<=n/\n<12)=false:=by simp[c]
 rw[hd];clear hd;go_enter func209,ntmps209;go_wp2;go_ret;exact⟨rfl,rfl⟩
theorem isz_x:(∀(x:Mod) (C:Option Ad) (c1:Nat) (B:Option Ad) (c2:Nat) (A:Option Ad) (c3:Nat) (z:Option Ad) (c4:Nat) (y:Option Ad) (c5:Nat) (v:Option Ad) (r:Nat) (u:Option Ad) (q:Nat) (t:Option Ad) (p:Nat) (s:Option Ad) (m:Nat) (g:Option Ad) (d:Nat) (f:Option Ad) (c:Nat) (n:Int) (w:J) (L:x.Ln) (E:x.gz=false),Ec Q 171 #[Ag #[S C (N x.types) c1,S B (N x.cj) c2,S A (N x.jk) c3,S z (N x.cw) c4,S y (N x.jz) c5,S v (N x.ck) r,S u (N x.cv) q,G x.gz,U O x.start,S t (N x.fq) p,S s (N x.fj) m,S g (N x.fx) d,S f (N x.fw) c],U O n] w λe w'=>e=Z (U O (szN x n))/\Bw w.heap.size w w')/\(∀(x:Mod) (C:Option Ad) (c1:Nat) (B:Option Ad) (c2:Nat) (A:Option Ad) (c3:Nat) (z:Option Ad) (c4:Nat) (y:Option Ad) (c5:Nat) (v:Option Ad) (r:Nat) (u:Option Ad) (q:Nat) (t:Option Ad) (p:Nat) (s:Option Ad) (m:Nat) (g:Option Ad) (d:Nat) (f:Option Ad) (c:Nat) (n:Int) (w:J) (L:x.Ln) (E:x.gz=true),Ec Q 171 #[Ag #[S C (N x.types) c1,S B (N x.cj) c2,S A (N x.jk) c3,S z (N x.cw) c4,S y (N x.jz) c5,S v (N x.ck) r,S u (N x.cv) q,G x.gz,U O x.start,S t (N x.fq) p,S s (N x.fj) m,S g (N x.fx) d,S f (N x.fw) c],U O n] w λe w'=>e=Z (U O (szN x n))/\Bw w.heap.size w w'):=by
 refine⟨?c0,?c1⟩;case' c0=>have j:=0
 case' c1=>have Y:=0
 all_goals
  intro x C c1 B c2 A c3 z c4 y c5 v r u q t p s m g d f c n w L E
  obtain⟨l1,l2,l3,l4,l5,l6,l7,l8,l9,ap,ao⟩:=L;have F:=Hm (λa w=>hidx_c a n w);have D:=Hm E;clear E
  go_enter func171,ntmps171
  go_upto_region 1 with fail
  refine Qj (λW=>Bk W w.heap.size [S C (N x.types) c1,S B (N x.cj) c2,S A (N x.jk) c3,S z (N x.cw) c4,S y (N x.jz) c5,S v (N x.ck) r,S u (N x.cv) q,G x.gz,U O x.start,S t (N x.fq) p,S s (N x.fj) m,S g (N x.fx) d,S f (N x.fw) c]/\Bw w.heap.size w W/\W.heap.size=w.heap.size+1) ⟨Bk.new,bFz.alloc lRz _,by simp⟩ ?_
  rintro W ⟨b,k,hs⟩;have q0:=b.2.1 0 _ rfl;have q1:=b.2.1 1 _ rfl;have q2:=b.2.1 2 _ rfl;have q3:=b.2.1 3 _ rfl;have q4:=b.2.1 4 _ rfl;have q5:=b.2.1 5 _ rfl;have q6:=b.2.1 6 _ rfl;have R:=b.2.1 7 _ rfl;have q9:=b.2.1 9 _ rfl;have I:=b.2.1 10 _ rfl;have H:=b.2.1 11 _ rfl;rw[D.o]at R;clear hs
  go_upto_region 5 with fail
  first|(replace j:=j;refine Qj (λV=>Bk V W.heap.size [U O 0,U O (N x.types),U O (N x.cj),U O (N x.jk),U O (N x.cw),U O (N x.jz),U O (N x.ck),U O (N x.cv),U O 0,U O (N x.fq),U O (N x.fj),U O (N x.fx)]/\Bw w.heap.size w V) ⟨Bk.new,k.trans (((Below.refl _ W).alloc lRz _).mono k.size)⟩ ?_)|(refine Qj (λV=>Bk V W.heap.size [U O 0,U O (N x.types),U O (N x.cj),U O (N x.jk),U O (N x.cw),U O (N x.jz),U O (N x.ck),U O (N x.cv),U O 1,U O (N x.fq),U O (N x.fj),U O (N x.fx)]/\Bw w.heap.size w V) ⟨Bk.new,k.trans (((Below.refl _ W).alloc lRz _).mono k.size)⟩ ?_)
  clear b k q0 q1 q2 q3 q4 q5 q6 R q9 I H;rintro V ⟨b,k⟩;have p0:=b.2.1 0 _ rfl;have p1:=b.2.1 1 _ rfl;have p2:=b.2.1 2 _ rfl;have p3:=b.2.1 3 _ rfl;have p4:=b.2.1 4 _ rfl;have p5:=b.2.1 5 _ rfl;have p6:=b.2.1 6 _ rfl;have p7:=b.2.1 7 _ rfl
  first|(replace j:=j;have p8:V.cell? ⟨W.heap.size,8,none⟩=some (U O 0):=b.2.1 8 _ rfl)|(have p8:V.cell? ⟨W.heap.size,8,none⟩=some (U O 1):=b.2.1 8 _ rfl)
  have p9:=b.2.1 9 _ rfl;have ak:=b.2.1 10 _ rfl;have aj:=b.2.1 11 _ rfl;clear b
  by_cases l:0<=n/\n<12
  . have M:n=0\/n=1\/n=2\/n=3\/n=4\/n=5\/n=6\/n=7\/n=8\/n=9\/n=10\/n=11:=by omega
    rw[decide_eq_true l]at F;clear l
    rcases M with rfl|rfl|rfl|rfl|rfl|rfl|rfl|rfl|rfl|rfl|rfl|rfl
    all_goals
     go_wp2_with (go_at_call 209;refine(F.o _ _).mono ?_;rintro e X ⟨rfl,rfl⟩)
     go_ret
     refine⟨?_,k⟩
     have h0:=D.o
     simp[szN,szs,h0]
  . have HF:Hid (szN x n=0):=by show _=_;simp[szN,l]
    rw[decide_eq_false l]at F;clear l
    go_wp2_with (go_at_call 209;refine(F.o _ _).mono ?_;rintro e X ⟨rfl,rfl⟩)
    go_ret
    exact⟨by rw[HF.o];rfl,k⟩
def isz_false:=isz_x.1
def isz_true:=isz_x.2
theorem isz_c (x:Mod)(u:Option Ad)(c1:Nat)(t:Option Ad)(c2:Nat)(s:Option Ad)(c3:Nat)(r:Option Ad)(c4:Nat)(q:Option Ad)(c5:Nat)(p:Option Ad)(k:Nat)(o:Option Ad)(j:Nat)(m:Option Ad)(g:Nat)(l:Option Ad)(f:Nat)(d:Option Ad)(b:Nat)(c:Option Ad)(a:Nat)(n:Int)(w:J)(v:x.Ln):Ec Q 171 #[Ag #[S u (N x.types) c1,S t (N x.cj) c2,S s (N x.jk) c3,S r (N x.cw) c4,S q (N x.jz) c5,S p (N x.ck) k,S o (N x.cv) j,G x.gz,U O x.start,S m (N x.fq) g,S l (N x.fj) f,S d (N x.fx) b,S c (N x.fw) a],U O n] w λe w'=>e=Z (U O (szN x n))/\Bw w.heap.size w w':=by
 cases h:x.gz
 . have:=isz_false x u c1 t c2 s c3 r c4 q c5 p k o j m g l f d b c a n w v h;rw[h]at this;exact this
 have:=isz_true x u c1 t c2 s c3 r c4 q c5 p k o j m g l f d b c a n w v h;rw[h]at this;exact this
theorem isec_c (x:Mod)(D:Option Ad)(c1:Nat)(C:Option Ad)(c2:Nat)(B:Option Ad)(c3:Nat)(A:Option Ad)(c4:Nat)(y:Option Ad)(c5:Nat)(v:Option Ad)(r:Nat)(u:Option Ad)(q:Nat)(t:Option Ad)(p:Nat)(s:Option Ad)(m:Nat)(f:Option Ad)(c:Nat)(d:Option Ad)(b:Nat)(n:Int)(w:J)(hl:x.Ln):Ec Q 208 #[Ag #[S D (N x.types) c1,S C (N x.cj) c2,S B (N x.jk) c3,S A (N x.cw) c4,S y (N x.jz) c5,S v (N x.ck) r,S u (N x.cv) q,G x.gz,U O x.start,S t (N x.fq) p,S s (N x.fj) m,S f (N x.fx) c,S d (N x.fw) b],U O n] w λe w'=>e=Z (G (writ x n))/\Bw w.heap.size w w':=by
 have KZ:=Hm (λ(w:J)=>isz_c x D c1 C c2 B c3 A c4 y c5 v r u q t p s m f c d b n w hl);have HW:=Hm (szN_writ x n);generalize szN x n=z at *;go_enter func208,ntmps208;go_upto_region 1 with fail
 refine Qj (λW=>Bk W w.heap.size [S D (N x.types) c1,S C (N x.cj) c2,S B (N x.jk) c3,S A (N x.cw) c4,S y (N x.jz) c5,S v (N x.ck) r,S u (N x.cv) q,G x.gz,U O x.start,S t (N x.fq) p,S s (N x.fj) m,S f (N x.fx) c,S d (N x.fw) b]/\Bw w.heap.size w W/\W.heap.size=w.heap.size+1) ⟨Bk.new,bFz.alloc lRz _,by simp⟩ ?_;rintro W ⟨a,F,hs⟩;have q0:=a.2.1 0 _ rfl;have q1:=a.2.1 1 _ rfl;have q2:=a.2.1 2 _ rfl;have Y:=a.2.1 3 _ rfl;have X:=a.2.1 4 _ rfl;have V:=a.2.1 5 _ rfl;have R:=a.2.1 6 _ rfl;have M:=a.2.1 7 _ rfl;have L:=a.2.1 8 _ rfl;have I:=a.2.1 9 _ rfl;have l:=a.2.1 10 _ rfl;have k:=a.2.1 11 _ rfl;have j:=a.2.1 12 _ rfl;have H:=Hm F;clear a F hs;go_wp2_with fail
 refine(KZ.o _).mono ?_;rintro e w2 ⟨rfl,g⟩;have E:=Hm (H.o.trans (g.mono H.o.size));clear g q0 q1 q2 Y X V R M L I l k j;go_wp2;go_ret;exact⟨by rw[<- HW.o];rfl,E.o⟩
theorem sall_c (a)(c:Nat)(l:List Int)(w)(hn:N l<=1099511627776)(s:Has w a l):Ec Q 125 #[S a (N l) c] w λe w'=>e=Z (G (l.all Qz))/\w=w':=by
 have p:=Hm s;clear s;go_enter func125,ntmps125;go_wp2_with fail
 go_loop [3] (λi=>∃k:Nat,k<=N l/\i=U O k/\∀j,j<k->Qz (l.getD j 0)=true) (λi=>N l-(intOf i).toNat)
 case atStart=>exact⟨0,Kw _,rfl,λj h=>by omega⟩
 obtain⟨k,C,rfl,b⟩:=hrel;by_cases g:k<N l
 . (have v:(k:Int)<(N l:Int):=by omega);rcases p.o with u|⟨D,B,A,q⟩
   . subst u;simp at g
   have d:=q k g;subst A;have t:=Hm (Ga (l.getD k 0));generalize n:l.getD k 0=y at *;generalize m:Qz y=z at *;cases z
   . have f:=Hm (Jd Qz l 0 k g (by rw[n];exact m));clear b q n m p;(go_wp2_with (refine(t.o _).mono ?_;rintro e w1 ⟨rfl,rfl⟩));go_ret;exact⟨by rw[f.o];rfl,rfl⟩
   have r:Hid (∀j,j<k+1->Qz (l.getD j 0)=true):=λj hj=>by
    rcases(by omega:j<k\/j=k)with h|h
    . exact b j h
    subst h;rw[n];exact m
   clear b q n m p;(go_wp2_with (refine(t.o _).mono ?_;rintro e w1 ⟨rfl,rfl⟩));(go_round);(case rel=>exact⟨k+1,by omega,by go_num,r.o⟩);case measure=>simp[intOf];omega
 have e:k=N l:=by omega
 subst e;have f:=Hm (JB Qz l 0 b);clear b p;go_wp2;go_ret;exact⟨by rw[f.o];rfl,rfl⟩
theorem ssz_c (x:Mod)(C:Option Ad)(c1:Nat)(B:Option Ad)(c2:Nat)(A:Option Ad)(c3:Nat)(z:Option Ad)(c4:Nat)(y:Option Ad)(c5:Nat)(v:Option Ad)(q:Nat)(u:Option Ad)(p:Nat)(t:Option Ad)(n:Nat)(r:Option Ad)(m:Nat)(k:Option Ad)(f:Nat)(j:Option Ad)(d:Nat)(w:J)(I:x.Ln)(s:Int)(c:(if x.gz then 1 else 0:Int)=s):Ec Q 77 #[Ag #[S C (N x.types) c1,S B (N x.cj) c2,S A (N x.jk) c3,S z (N x.cw) c4,S y (N x.jz) c5,S v (N x.ck) q,S u (N x.cv) p,G x.gz,U O x.start,S t (N x.fq) n,S r (N x.fj) m,S k (N x.fx) f,S j (N x.fw) d]] w λe w'=>∃g,e=Z (S (some ⟨g,0,none⟩) 12 12)/\w.heap.size<=g/\Bk w' g [U O 0,U O (N x.types),U O (N x.cj),U O (N x.jk),U O (N x.cw),U O (N x.jz),U O (N x.ck),U O (N x.cv),U O s,U O (N x.fq),U O (N x.fj),U O (N x.fx)]/\Bw w.heap.size w w':=by
 obtain⟨l1,l2,l3,l4,l5,l6,l7,l8,l9,H,F⟩:=I;go_enter func77,ntmps77;go_upto_region 1 with fail
 refine Qj (λW=>Bk W w.heap.size [S C (N x.types) c1,S B (N x.cj) c2,S A (N x.jk) c3,S z (N x.cw) c4,S y (N x.jz) c5,S v (N x.ck) q,S u (N x.cv) p,G x.gz,U O x.start,S t (N x.fq) n,S r (N x.fj) m,S k (N x.fx) f,S j (N x.fw) d]/\Bw w.heap.size w W) ⟨Bk.new,bFz.alloc lRz _⟩ ?_;rintro W ⟨a,b⟩;have q0:=a.2.1 0 _ rfl;have q1:=a.2.1 1 _ rfl;have q2:=a.2.1 2 _ rfl;have Y:=a.2.1 3 _ rfl;have X:=a.2.1 4 _ rfl;have V:=a.2.1 5 _ rfl;have R:=a.2.1 6 _ rfl;have M:=a.2.1 7 _ rfl;have L:=a.2.1 9 _ rfl;have E:=a.2.1 10 _ rfl;have D:=a.2.1 11 _ rfl;have l:=Hm c;clear c;generalize x.gz=hs at *;cases hs
 . (have e:Hid (s=0):=by show s=_;have:=l.o;simpa using this.symm);clear l;go_wp2;go_ret;rw[e.o];exact⟨W.heap.size,rfl,b.size,Bk.new,b.trans (((Below.refl _ W).alloc lRz _).mono b.size)⟩
 have e:Hid (s=1):=by show s=_;have:=l.o;simpa using this.symm
 clear l;go_wp2;go_ret;rw[e.o];exact⟨W.heap.size,rfl,b.size,Bk.new,b.trans (((Below.refl _ W).alloc lRz _).mono b.size)⟩
def LCs:List Qd->List Vu
 |[]=>[]
 |l::ls=>U O l.min::U O l.max::G l.has::LCs ls
theorem LCs_len (xs:List Qd):(LCs xs).length=N xs*3:=by
 induction xs with
 |nil=>rfl
 |cons l ls ih=>simp[LCs,ih];omega
theorem LCs_app (xs a:List Qd):LCs (xs++a)=LCs xs++LCs a:=by
 induction xs with
 |nil=>rfl
 |cons l ls ih=>simp[LCs,ih]
theorem LCs_one (xs:List Qd):∀u∈LCs xs,u.oneCell'=true:=by
 induction xs with
 |nil=>intro u a;simp[LCs]at a
 |cons l ls ih =>
  intro u a
  simp only[LCs,List.mem_cons]at a
  rcases a with rfl|rfl|rfl|a
  . rfl
  . rfl
  . rfl
  . exact ih u a
theorem LCs_at (xs:List Qd)(i:Nat)(h:i<N xs):(LCs xs)[i*3]?=some (U O (xs.getD i Qd.z).min)/\(LCs xs)[i*3+1]?=some (U O (xs.getD i Qd.z).max)/\(LCs xs)[i*3+2]?=some (G (xs.getD i Qd.z).has):=by
 induction xs generalizing i with
 |nil=>simp at h
 |cons l ls ih =>
  cases i with
  |zero=>simp[LCs]
  |succ i =>
   have:=ih i (by simpa using h)
   have e:(i+1)*3=i*3+1+1+1:=by omega
   rw[e]
   simpa[LCs,List.getElem?_cons_succ]using this
theorem Qd.Ls.src {c:Option Ad}{xs:List Qd}(h:Qd.Ls B w c xs):SrcC w c (LCs xs):=by
 rcases h with h|⟨b,o,rfl,_,f⟩
 . subst h;cases c with
   |none=>exact .inl ⟨rfl,rfl⟩
   |some ad=>exact .inr ⟨ad,rfl,λj u hu=>by simp[LCs]at hu⟩
 refine .inr ⟨_,rfl,λj u hu=>?_⟩;have q:j<N xs*3:=by
  rw[<- LCs_len];rcases Nat.lt_or_ge j (LCs xs).length with h|h
  . exact h
  simp[List.getElem?_eq_none h]at hu
 have d:j / 3<N xs:=by omega
 have a:(⟨b,o,none⟩:Ad).add j=⟨b,o+j,none⟩:=by unfold Addr.add;split<;>simp_all
 rw[a];obtain⟨l,k,g⟩:=LCs_at xs (j / 3) d;obtain⟨⟨p,n,m⟩,_⟩:=f (j / 3) d;rcases(by omega:j=j / 3*3\/j=j / 3*3+1\/j=j / 3*3+2)with e|e|e
 . rw[e,l]at hu;rw[e];rw[<- hu];exact p
 . rw[e,k]at hu;rw[e];rw[<- hu];exact n
 rw[e,g]at hu;rw[e];rw[<- hu];exact m
theorem own_lims {e:TypeId}{v:Vu}{xs:List Qd}(h:w.ownsRow B e 3 v (N xs) (LCs xs)):∃a c,v=S a (N xs) c/\Qd.Ls 0 w a xs:=by
 rcases h.2 with ⟨rfl,b⟩|⟨g,cap,j,rfl,_,_,_⟩
 . exact⟨none,0,by rw[b],.inl (List.length_eq_zero_iff.1 b)⟩
 refine⟨_,cap,rfl,.inr ⟨g,0,rfl,Kw _,λi hi=>?_⟩⟩;obtain⟨b,f,d⟩:=LCs_at xs i hi;refine⟨⟨?_,?_,?_⟩,trivial⟩
 . rw[Tx,h.cellAt _ (by omega)];exact b
 . rw[Tx,h.cellAt _ (by omega)];exact f
 rw[Tx,h.cellAt _ (by omega)];exact d
def JF (x:Mod):List Cus->Int->Bool
 |[],_=>true
 |c::cs,n=>(c.aft==0 || writ x c.aft)&&(decide (n<=c.aft)&&(Q3 c.nm&&JF x cs c.aft))
theorem cus_at (x:Mod)(l:List Cus)(k:Nat)(n:Int)(h:k<N l):JF x (l.drop k) n=(((l.getD k Cus.z).aft==0 || writ x (l.getD k Cus.z).aft)&&(decide (n<=(l.getD k Cus.z).aft)&&(Q3 (l.getD k Cus.z).nm&&JF x (l.drop (k+1)) (l.getD k Cus.z).aft))):=by
 rw[List.drop_eq_getElem_cons h];simp[JF,Kx,Kj h]
theorem icus_c (x:Mod)(a1:Option Ad)(c1:Nat)(a2:Option Ad)(c2:Nat)(a3:Option Ad)(c3:Nat)(a4:Option Ad)(c4:Nat)(a5:Option Ad)(c5:Nat)(a6:Option Ad)(c6:Nat)(a7:Option Ad)(c7:Nat)(a8:Option Ad)(c8:Nat)(a9:Option Ad)(c9:Nat)(v:Option Ad)(u:Nat)(y:Option Ad)(t:Nat)(w:J)(hL:Cus.Ls 0 w y x.fw)(hl:x.Ln)(ad:∀i,i<N x.fw->Cus.LB 1048576 (x.fw.getD i Cus.z)):Ec Q 170 #[Ag #[S a1 (N x.types) c1,S a2 (N x.cj) c2,S a3 (N x.jk) c3,S a4 (N x.cw) c4,S a5 (N x.jz) c5,S a6 (N x.ck) c6,S a7 (N x.cv) c7,G x.gz,U O x.start,S a8 (N x.fq) c8,S a9 (N x.fj) c9,S v (N x.fx) u,S y (N x.fw) t]] w λe w'=>e=Z (G (JF x x.fw 0))/\Bw w.heap.size w w':=by
 have bh:N x.fw<=1048576:=hl.2.2.2.2.2.2.2.2.2.2;have HL:=Hm hL;have Hl:=Hm ad;have LN:=Hm hl;clear hL ad hl;go_enter func170,ntmps170;go_upto_region 1 with fail
 refine Qj (λW=>Bk W w.heap.size [S a1 (N x.types) c1,S a2 (N x.cj) c2,S a3 (N x.jk) c3,S a4 (N x.cw) c4,S a5 (N x.jz) c5,S a6 (N x.ck) c6,S a7 (N x.cv) c7,G x.gz,U O x.start,S a8 (N x.fq) c8,S a9 (N x.fj) c9,S v (N x.fx) u,S y (N x.fw) t]/\Bw w.heap.size w W) ⟨Bk.new,bFz.alloc lRz _⟩ ?_;rintro W ⟨a,d⟩;have q0:=a.2.1 0 _ rfl;have Y:=a.2.1 1 _ rfl;have X:=a.2.1 2 _ rfl;have R:=a.2.1 3 _ rfl;have M:=a.2.1 4 _ rfl;have L:=a.2.1 5 _ rfl;have I:=a.2.1 6 _ rfl;have H:=a.2.1 7 _ rfl;have F:=a.2.1 8 _ rfl;have E:=a.2.1 9 _ rfl;have q:=a.2.1 10 _ rfl;have p:=a.2.1 11 _ rfl;have m:=a.2.1 12 _ rfl;go_wp2_with fail
 go_loopw [3,10] (λs i wr=>∃(k:Nat) (n:Int),k<=N x.fw/\i=U O k/\s=U O n/\JF x (x.fw.drop k) n=JF x x.fw 0/\Bk wr w.heap.size [S a1 (N x.types) c1,S a2 (N x.cj) c2,S a3 (N x.jk) c3,S a4 (N x.cw) c4,S a5 (N x.jz) c5,S a6 (N x.ck) c6,S a7 (N x.cv) c7,G x.gz,U O x.start,S a8 (N x.fq) c8,S a9 (N x.fj) c9,S v (N x.fx) u,S y (N x.fw) t]/\Bw w.heap.size w wr) (λ_ i _=>N x.fw-(intOf i).toNat)
 case atStart=>exact⟨0,0,Kw _,rfl,rfl,rfl,a,d⟩
 clear a d q0 Y X R M L I H F E q p m;obtain⟨k,n,hk,rfl,rfl,hm,a,d⟩:=hrel;have q0:=a.2.1 0 _ rfl;have Y:=a.2.1 1 _ rfl;have X:=a.2.1 2 _ rfl;have R:=a.2.1 3 _ rfl;have M:=a.2.1 4 _ rfl;have L:=a.2.1 5 _ rfl;have I:=a.2.1 6 _ rfl;have H:=a.2.1 7 _ rfl;have F:=a.2.1 8 _ rfl;have E:=a.2.1 9 _ rfl;have q:=a.2.1 10 _ rfl;have p:=a.2.1 11 _ rfl;have m:=a.2.1 12 _ rfl;by_cases r:k<N x.fw
 . (have bn:(k:Int)<(N x.fw:Int):=by omega);rcases HL.o.up (up_below d)with hx|⟨b,o,ea,_,hc⟩
   . rw[hx]at r;simp at r
   have ab:=hc k r;have C:=Hl.o k r;subst ea;have g:=Hm (hm.symm.trans (cus_at x x.fw k n r));generalize x.fw.getD k Cus.z=c at ab g C;obtain⟨b1,d1,⟨g0,g1,g2⟩,_⟩:=ab;clear hm hc;(go_upto_region 5 with fail);refine Qj (λV=>Bk V w.heap.size [S a1 (N x.types) c1,S a2 (N x.cj) c2,S a3 (N x.jk) c3,S a4 (N x.cw) c4,S a5 (N x.jz) c5,S a6 (N x.ck) c6,S a7 (N x.cv) c7,G x.gz,U O x.start,S a8 (N x.fq) c8,S a9 (N x.fj) c9,S v (N x.fx) u,S (some ⟨b,o,none⟩) (N x.fw) t]/\Bk V wr.heap.size [U O c.aft,Xs c.nm,S b1 (N c.bs) d1]/\Bw w.heap.size w V) ⟨a.past,Bk.new,d.trans (((Below.refl _ wr).alloc lRz _).mono d.size)⟩ ?_;clear a d g0 g1 g2 q0 Y X R M L I H F E q p m;rintro V ⟨a,j,d⟩;have q0:=a.2.1 0 _ rfl;have Y:=a.2.1 1 _ rfl;have X:=a.2.1 2 _ rfl;have R:=a.2.1 3 _ rfl;have M:=a.2.1 4 _ rfl;have L:=a.2.1 5 _ rfl;have I:=a.2.1 6 _ rfl;have H:=a.2.1 7 _ rfl;have F:=a.2.1 8 _ rfl;have E:=a.2.1 9 _ rfl;have q:=a.2.1 10 _ rfl;have p:=a.2.1 11 _ rfl;have m:=a.2.1 12 _ rfl;have B:=j.2.1 0 _ rfl;have A:=j.2.1 1 _ rfl;by_cases h0:c.aft=0
   . (have g:Hid (JF x x.fw 0=(decide (n<=c.aft)&&(Q3 c.nm&&JF x (x.fw.drop (k+1)) c.aft))):=by rw[Hid,g.o];simp[h0]);clear B A;have B:=j.2.1 0 _ rfl;have A:=j.2.1 1 _ rfl;by_cases hn:c.aft<n
     . (have HF:Hid (JF x x.fw 0=false):=by rw[Hid,g.o];simp[Int.not_le.2 hn]);clear g a j;go_wp2;go_ret;exact⟨by rw[HF.o];rfl,d⟩
     (have g:Hid (JF x x.fw 0=(Q3 c.nm&&JF x (x.fw.drop (k+1)) c.aft)):=by rw[Hid,g.o];simp[Int.not_lt.1 hn]);have D:=Hm (JJ c.nm V C.1);generalize hz:Q3 c.nm=z at D g;cases z
     . (go_wp2_with fail);refine D.o.mono ?_;rintro e W9 ⟨rfl,f⟩;have d:=d.trans (f.mono d.size);clear f a j;go_wp2;go_ret;exact⟨by rw[g.o];rfl,d⟩
     (go_wp2_with fail);refine D.o.mono ?_;rintro e W9 ⟨rfl,f⟩;have a:=a.keep f;have j:=j.keep f;have d:=d.trans (f.mono d.size);clear f B A;have B:=j.2.1 0 _ rfl;have A:=j.2.1 1 _ rfl;go_wp2;(go_roundw);(case rel=>exact⟨k+1,c.aft,by omega,by go_num,by first|rfl|rw[h0],by rw[g.o,Bool.true_and],a,d⟩);case measure=>simp[intOf];omega
   have HS:=Hm (isec_c x a1 c1 a2 c2 a3 c3 a4 c4 a5 c5 a6 c6 a7 c7 a8 c8 a9 c9 v u (some ⟨b,o,none⟩) t c.aft V LN.o);generalize bj:writ x c.aft=z0 at HS g;cases z0
   . (have HF:Hid (JF x x.fw 0=false):=by rw[Hid,g.o];simp[h0]);clear g;(go_wp2_with fail);refine HS.o.mono ?_;rintro e W8 ⟨rfl,l⟩;have d:=d.trans (l.mono d.size);clear l a j;go_wp2;go_ret;exact⟨by rw[HF.o];rfl,d⟩
   (have g:Hid (JF x x.fw 0=(decide (n<=c.aft)&&(Q3 c.nm&&JF x (x.fw.drop (k+1)) c.aft))):=by rw[Hid,g.o];simp);(go_wp2_with fail);refine HS.o.mono ?_;rintro e W8 ⟨rfl,l⟩;have a:=a.keep l;have j:=j.keep l;have d:=d.trans (l.mono d.size);clear l HS B A q0 Y X R M L I H F E q p m;have B:=j.2.1 0 _ rfl;have A:=j.2.1 1 _ rfl;by_cases hn:c.aft<n
   . (have HF:Hid (JF x x.fw 0=false):=by rw[Hid,g.o];simp[Int.not_le.2 hn]);clear g a j;go_wp2;go_ret;exact⟨by rw[HF.o];rfl,d⟩
   (have g:Hid (JF x x.fw 0=(Q3 c.nm&&JF x (x.fw.drop (k+1)) c.aft)):=by rw[Hid,g.o];simp[Int.not_lt.1 hn]);have D:=Hm (JJ c.nm W8 C.1);generalize hz:Q3 c.nm=z at D g;cases z
   . (go_wp2_with fail);refine D.o.mono ?_;rintro e W9 ⟨rfl,f⟩;have d:=d.trans (f.mono d.size);clear f a j;go_wp2;go_ret;exact⟨by rw[g.o];rfl,d⟩
   (go_wp2_with fail);refine D.o.mono ?_;rintro e W9 ⟨rfl,f⟩;have a:=a.keep f;have j:=j.keep f;have d:=d.trans (f.mono d.size);clear f B A;have B:=j.2.1 0 _ rfl;have A:=j.2.1 1 _ rfl;go_wp2;(go_roundw);(case rel=>exact⟨k+1,c.aft,by omega,by go_num,by first|rfl|rw[h0],by rw[g.o,Bool.true_and],a,d⟩);case measure=>simp[intOf];omega
 have e:k=N x.fw:=by omega
 subst e;have g:Hid (JF x x.fw 0=true):=by show _=_;rw[<- hm,List.drop_length];rfl
 clear hm a;go_wp2;go_ret;exact⟨by rw[g.o];rfl,d⟩
open Go.RowKit
theorem strNew (w:J)(L:List ByteArray)(t:TypeId):Bw w.heap.size w (w.alloc (Fc (L.map Value.string).toArray t))/\∀i s,L[i]?=some s->(w.alloc (Fc (L.map Value.string).toArray t)).cell? ⟨w.heap.size,i,none⟩=some (.string s) :=
 ⟨bFz.alloc lRz _,λi s h=>Qe rfl (by simp[h])⟩
def LNames:List ByteArray:=[⟨#[117,110,114,101,97,99,104,97,98,108,101]⟩,⟨#[110,111,112]⟩,⟨#[98,108,111,99,107]⟩,⟨#[108,111,111,112]⟩,⟨#[105,102]⟩,⟨#[101,108,115,101]⟩,⟨#[]⟩,⟨#[]⟩,⟨#[]⟩,⟨#[]⟩,⟨#[]⟩,⟨#[101,110,100]⟩,⟨#[98,114]⟩,⟨#[98,114,95,105,102]⟩,⟨#[98,114,95,116,97,98,108,101]⟩,⟨#[114,101,116,117,114,110]⟩,⟨#[99,97,108,108]⟩,⟨#[99,97,108,108,95,105,110,100,105,114,101,99,116]⟩,⟨#[]⟩,⟨#[]⟩,⟨#[]⟩,⟨#[]⟩,⟨#[]⟩,⟨#[]⟩,⟨#[]⟩,⟨#[]⟩,⟨#[100,114,111,112]⟩,⟨#[115,101,108,101,99,116]⟩,⟨#[]⟩,⟨#[]⟩,⟨#[]⟩,⟨#[]⟩,⟨#[108,111,99,97,108,46,103,101,116]⟩,⟨#[108,111,99,97,108,46,115,101,116]⟩,⟨#[108,111,99,97,108,46,116,101,101]⟩,⟨#[103,108,111,98,97,108,46,103,101,116]⟩,⟨#[103,108,111,98,97,108,46,115,101,116]⟩,⟨#[]⟩,⟨#[]⟩,⟨#[]⟩,⟨#[105,51,50,46,108,111,97,100]⟩,⟨#[105,54,52,46,108,111,97,100]⟩,⟨#[102,51,50,46,108,111,97,100]⟩,⟨#[102,54,52,46,108,111,97,100]⟩,⟨#[105,51,50,46,108,111,97,100,56,95,115]⟩,⟨#[105,51,50,46,108,111,97,100,56,95,117]⟩,⟨#[105,51,50,46,108,111,97,100,49,54,95,115]⟩,⟨#[105,51,50,46,108,111,97,100,49,54,95,117]⟩,⟨#[105,54,52,46,108,111,97,100,56,95,115]⟩,⟨#[105,54,52,46,108,111,97,100,56,95,117]⟩,⟨#[105,54,52,46,108,111,97,100,49,54,95,115]⟩,⟨#[105,54,52,46,108,111,97,100,49,54,95,117]⟩,⟨#[105,54,52,46,108,111,97,100,51,50,95,115]⟩,⟨#[105,54,52,46,108,111,97,100,51,50,95,117]⟩,⟨#[105,51,50,46,115,116,111,114,101]⟩,⟨#[105,54,52,46,115,116,111,114,101]⟩,⟨#[102,51,50,46,115,116,111,114,101]⟩,⟨#[102,54,52,46,115,116,111,114,101]⟩,⟨#[105,51,50,46,115,116,111,114,101,56]⟩,⟨#[105,51,50,46,115,116,111,114,101,49,54]⟩,⟨#[105,54,52,46,115,116,111,114,101,56]⟩,⟨#[105,54,52,46,115,116,111,114,101,49,54]⟩,⟨#[105,54,52,46,115,116,111,114,101,51,50]⟩,⟨#[109,101,109,111,114,121,46,115,105,122,101]⟩,⟨#[109,101,109,111,114,121,46,103,114,111,119]⟩,⟨#[105,51,50,46,99,111,110,115,116]⟩,⟨#[105,54,52,46,99,111,110,115,116]⟩,⟨#[102,51,50,46,99,111,110,115,116]⟩,⟨#[102,54,52,46,99,111,110,115,116]⟩]
theorem lNames_c (w:J):Ec Q 195 #[] w λe w'=>∃g,e=Z (S (some ⟨g,0,none⟩) 69 69)/\Bw w.heap.size w w'/\∀i s,LNames[i]?=some s->w'.cell? ⟨g,i,none⟩=some (.string s):=by
 go_enter func195,ntmps195;go_wp2;go_ret;exact⟨_,rfl,strNew w LNames 9⟩
def X9:List ByteArray:=[⟨#[101,113]⟩,⟨#[110,101]⟩,⟨#[108,116,95,115]⟩,⟨#[108,116,95,117]⟩,⟨#[103,116,95,115]⟩,⟨#[103,116,95,117]⟩,⟨#[108,101,95,115]⟩,⟨#[108,101,95,117]⟩,⟨#[103,101,95,115]⟩,⟨#[103,101,95,117]⟩]
theorem lTests_c (w:J):Ec Q 196 #[] w λe w'=>∃g,e=Z (S (some ⟨g,0,none⟩) 10 10)/\Bw w.heap.size w w'/\∀i s,X9[i]?=some s->w'.cell? ⟨g,i,none⟩=some (.string s):=by
 go_enter func196,ntmps196;go_wp2;go_ret;exact⟨_,rfl,strNew w X9 9⟩
def LInts:List ByteArray:=[⟨#[99,108,122]⟩,⟨#[99,116,122]⟩,⟨#[112,111,112,99,110,116]⟩,⟨#[97,100,100]⟩,⟨#[115,117,98]⟩,⟨#[109,117,108]⟩,⟨#[100,105,118,95,115]⟩,⟨#[100,105,118,95,117]⟩,⟨#[114,101,109,95,115]⟩,⟨#[114,101,109,95,117]⟩,⟨#[97,110,100]⟩,⟨#[111,114]⟩,⟨#[120,111,114]⟩,⟨#[115,104,108]⟩,⟨#[115,104,114,95,115]⟩,⟨#[115,104,114,95,117]⟩,⟨#[114,111,116,108]⟩,⟨#[114,111,116,114]⟩]
theorem lInts_c (w:J):Ec Q 197 #[] w λe w'=>∃g,e=Z (S (some ⟨g,0,none⟩) 18 18)/\Bw w.heap.size w w'/\∀i s,LInts[i]?=some s->w'.cell? ⟨g,i,none⟩=some (.string s):=by
 go_enter func197,ntmps197;go_wp2;go_ret;exact⟨_,rfl,strNew w LInts 9⟩
def XD:List ByteArray:=[⟨#[97,98,115]⟩,⟨#[110,101,103]⟩,⟨#[99,101,105,108]⟩,⟨#[102,108,111,111,114]⟩,⟨#[116,114,117,110,99]⟩,⟨#[110,101,97,114,101,115,116]⟩,⟨#[115,113,114,116]⟩,⟨#[97,100,100]⟩,⟨#[115,117,98]⟩,⟨#[109,117,108]⟩,⟨#[100,105,118]⟩,⟨#[109,105,110]⟩,⟨#[109,97,120]⟩,⟨#[99,111,112,121,115,105,103,110]⟩]
theorem lFloats_c (w:J):Ec Q 198 #[] w λe w'=>∃g,e=Z (S (some ⟨g,0,none⟩) 14 14)/\Bw w.heap.size w w'/\∀i s,XD[i]?=some s->w'.cell? ⟨g,i,none⟩=some (.string s):=by
 go_enter func198,ntmps198;go_wp2;go_ret;exact⟨_,rfl,strNew w XD 9⟩
def LConv:List ByteArray:=[⟨#[105,51,50,46,119,114,97,112,95,105,54,52]⟩,⟨#[105,51,50,46,116,114,117,110,99,95,102,51,50,95,115]⟩,⟨#[105,51,50,46,116,114,117,110,99,95,102,51,50,95,117]⟩,⟨#[105,51,50,46,116,114,117,110,99,95,102,54,52,95,115]⟩,⟨#[105,51,50,46,116,114,117,110,99,95,102,54,52,95,117]⟩,⟨#[105,54,52,46,101,120,116,101,110,100,95,105,51,50,95,115]⟩,⟨#[105,54,52,46,101,120,116,101,110,100,95,105,51,50,95,117]⟩,⟨#[105,54,52,46,116,114,117,110,99,95,102,51,50,95,115]⟩,⟨#[105,54,52,46,116,114,117,110,99,95,102,51,50,95,117]⟩,⟨#[105,54,52,46,116,114,117,110,99,95,102,54,52,95,115]⟩,⟨#[105,54,52,46,116,114,117,110,99,95,102,54,52,95,117]⟩,⟨#[102,51,50,46,99,111,110,118,101,114,116,95,105,51,50,95,115]⟩,⟨#[102,51,50,46,99,111,110,118,101,114,116,95,105,51,50,95,117]⟩,⟨#[102,51,50,46,99,111,110,118,101,114,116,95,105,54,52,95,115]⟩,⟨#[102,51,50,46,99,111,110,118,101,114,116,95,105,54,52,95,117]⟩,⟨#[102,51,50,46,100,101,109,111,116,101,95,102,54,52]⟩,⟨#[102,54,52,46,99,111,110,118,101,114,116,95,105,51,50,95,115]⟩,⟨#[102,54,52,46,99,111,110,118,101,114,116,95,105,51,50,95,117]⟩,⟨#[102,54,52,46,99,111,110,118,101,114,116,95,105,54,52,95,115]⟩,⟨#[102,54,52,46,99,111,110,118,101,114,116,95,105,54,52,95,117]⟩,⟨#[102,54,52,46,112,114,111,109,111,116,101,95,102,51,50]⟩,⟨#[105,51,50,46,114,101,105,110,116,101,114,112,114,101,116,95,102,51,50]⟩,⟨#[105,54,52,46,114,101,105,110,116,101,114,112,114,101,116,95,102,54,52]⟩,⟨#[102,51,50,46,114,101,105,110,116,101,114,112,114,101,116,95,105,51,50]⟩,⟨#[102,54,52,46,114,101,105,110,116,101,114,112,114,101,116,95,105,54,52]⟩]
theorem lConv_c (w:J):Ec Q 199 #[] w λe w'=>∃g,e=Z (S (some ⟨g,0,none⟩) 25 25)/\Bw w.heap.size w w'/\∀i s,LConv[i]?=some s->w'.cell? ⟨g,i,none⟩=some (.string s):=by
 go_enter func199,ntmps199;go_wp2;go_ret;exact⟨_,rfl,strNew w LConv 9⟩
def LT6:List ByteArray:=[⟨#[101,113]⟩,⟨#[110,101]⟩,⟨#[108,116]⟩,⟨#[103,116]⟩,⟨#[108,101]⟩,⟨#[103,101]⟩]
theorem sn_a (p:Int)(i:Nat)(s:ByteArray)(w:J)(q:70<=p)(o:p<=79)(n:p-70=i)(f:X9[i]?=some s)(l:s.size<=100):Ec Q 145 #[U O p] w λe w'=>e=Z (Xs (⟨#[105,51,50,46]⟩++s))/\Bw w.heap.size w w':=by
 have u:¬p<0:=by omega
 have t:¬p<=68:=by omega
 have r:(p==(69:Int))=false:=by simp;omega
 have m:IntKind.i64.wrap (p-70)=i:=by rw[Kz];omega
 have j:(i:Int)<10:=by omega
 have d:¬9223372036854775807<4+s.size:=by omega
 go_enter func145,ntmps145;go_wp2_with fail
 refine(lTests_c _).mono ?_;rintro e w1 ⟨g,rfl,c,b⟩;have a:=up1 c;have k:=b i s f;clear c b;go_wp2;go_ret;exact⟨rfl,a⟩
theorem sn_b (p:Int)(i:Nat)(s:ByteArray)(w:J)(q:81<=p)(o:p<=90)(n:p-81=i)(f:X9[i]?=some s)(l:s.size<=100):Ec Q 145 #[U O p] w λe w'=>e=Z (Xs (⟨#[105,54,52,46]⟩++s))/\Bw w.heap.size w w':=by
 have y:¬p<0:=by omega
 have v:¬p<=68:=by omega
 have u:(p==(69:Int))=false:=by simp;omega
 have t:¬p<=79:=by omega
 have r:(p==(80:Int))=false:=by simp;omega
 have m:IntKind.i64.wrap (p-81)=i:=by rw[Kz];omega
 have j:(i:Int)<10:=by omega
 have d:¬9223372036854775807<4+s.size:=by omega
 go_enter func145,ntmps145;go_wp2_with fail
 refine(lTests_c _).mono ?_;rintro e w1 ⟨g,rfl,c,b⟩;have a:=up1 c;have k:=b i s f;clear c b;go_wp2;go_ret;exact⟨rfl,a⟩
theorem sn_c (p:Int)(i:Nat)(s:ByteArray)(w:J)(l:91<=p)(k:p<=96)(g:p-91=i)(b:LT6[i]?=some s)(d:s.size<=100):Ec Q 145 #[U O p] w λe w'=>e=Z (Xs (⟨#[102,51,50,46]⟩++s))/\Bw w.heap.size w w':=by
 have t:¬p<0:=by omega
 have r:¬p<=68:=by omega
 have q:(p==(69:Int))=false:=by simp;omega
 have o:¬p<=79:=by omega
 have n:(p==(80:Int))=false:=by simp;omega
 have m:¬p<=90:=by omega
 have f:IntKind.i64.wrap (p-91)=i:=by rw[Kz];omega
 have c:(i:Int)<6:=by omega
 have a:¬9223372036854775807<4+s.size:=by omega
 have j:(w.alloc (Fc #[Xs ⟨#[101,113]⟩,Xs ⟨#[110,101]⟩,Xs ⟨#[108,116]⟩,Xs ⟨#[103,116]⟩,Xs ⟨#[108,101]⟩,Xs ⟨#[103,101]⟩] 9)).cell? ⟨w.heap.size,i,none⟩=some (.string s):=(strNew w LT6 9).2 i s b;go_enter func145,ntmps145;go_wp2;go_ret;exact⟨rfl,bFz.alloc lRz _⟩
theorem sn_d (p:Int)(i:Nat)(s:ByteArray)(w:J)(l:97<=p)(k:p<=102)(g:p-97=i)(b:LT6[i]?=some s)(d:s.size<=100):Ec Q 145 #[U O p] w λe w'=>e=Z (Xs (⟨#[102,54,52,46]⟩++s))/\Bw w.heap.size w w':=by
 have u:¬p<0:=by omega
 have t:¬p<=68:=by omega
 have r:(p==(69:Int))=false:=by simp;omega
 have q:¬p<=79:=by omega
 have o:(p==(80:Int))=false:=by simp;omega
 have n:¬p<=90:=by omega
 have m:¬p<=96:=by omega
 have f:IntKind.i64.wrap (p-97)=i:=by rw[Kz];omega
 have c:(i:Int)<6:=by omega
 have a:¬9223372036854775807<4+s.size:=by omega
 have j:(w.alloc (Fc #[Xs ⟨#[101,113]⟩,Xs ⟨#[110,101]⟩,Xs ⟨#[108,116]⟩,Xs ⟨#[103,116]⟩,Xs ⟨#[108,101]⟩,Xs ⟨#[103,101]⟩] 9)).cell? ⟨w.heap.size,i,none⟩=some (.string s):=(strNew w LT6 9).2 i s b;go_enter func145,ntmps145;go_wp2;go_ret;exact⟨rfl,bFz.alloc lRz _⟩
theorem sn_z0 (p:Int)(w:J)(a:p<=-1):Ec Q 145 #[U O p] w λe w'=>e=Z (Xs ⟨#[]⟩)/\Bw w.heap.size w w':=by
 have b:p<0:=by omega
 go_enter func145,ntmps145;go_wp2;go_ret;exact⟨rfl,bFz.alloc lRz _⟩
theorem sn_z1 (p:Int)(w:J)(a:192<=p):Ec Q 145 #[U O p] w λe w'=>e=Z (Xs ⟨#[]⟩)/\Bw w.heap.size w w':=by
 have c:¬p<0:=by omega
 have b:¬p<=191:=by omega
 go_enter func145,ntmps145;go_wp2;go_ret;exact⟨rfl,bFz.alloc lRz _⟩
theorem sn_x (p:Int)(w:J)(b:69<=p)(a:p<=69):Ec Q 145 #[U O p] w λe w'=>e=Z (Xs ⟨#[105,51,50,46,101,113,122]⟩)/\Bw w.heap.size w w':=by
 have f:¬p<0:=by omega
 have d:¬p<=68:=by omega
 have c:(p==(69:Int))=true:=by simp;omega
 go_enter func145,ntmps145;go_wp2;go_ret;exact⟨rfl,bFz.alloc lRz _⟩
theorem sn_y (p:Int)(w:J)(b:80<=p)(a:p<=80):Ec Q 145 #[U O p] w λe w'=>e=Z (Xs ⟨#[105,54,52,46,101,113,122]⟩)/\Bw w.heap.size w w':=by
 have j:¬p<0:=by omega
 have g:¬p<=68:=by omega
 have f:(p==(69:Int))=false:=by simp;omega
 have d:¬p<=79:=by omega
 have c:(p==(80:Int))=true:=by simp;omega
 go_enter func145,ntmps145;go_wp2;go_ret;exact⟨rfl,bFz.alloc lRz _⟩
theorem sn_e (p:Int)(i:Nat)(s:ByteArray)(w:J)(q:103<=p)(o:p<=120)(n:p-103=i)(f:LInts[i]?=some s)(l:s.size<=100):Ec Q 145 #[U O p] w λe w'=>e=Z (Xs (⟨#[105,51,50,46]⟩++s))/\Bw w.heap.size w w':=by
 have B:¬p<0:=by omega
 have A:¬p<=68:=by omega
 have z:(p==(69:Int))=false:=by simp;omega
 have y:¬p<=79:=by omega
 have v:(p==(80:Int))=false:=by simp;omega
 have u:¬p<=90:=by omega
 have t:¬p<=96:=by omega
 have r:¬p<=102:=by omega
 have m:IntKind.i64.wrap (p-103)=i:=by rw[Kz];omega
 have j:(i:Int)<18:=by omega
 have d:¬9223372036854775807<4+s.size:=by omega
 go_enter func145,ntmps145;go_wp2_with fail
 refine(lInts_c _).mono ?_;rintro e w1 ⟨g,rfl,c,b⟩;have a:=up1 c;have k:=b i s f;clear c b;go_wp2;go_ret;exact⟨rfl,a⟩
theorem sn_f (p:Int)(i:Nat)(s:ByteArray)(w:J)(r:121<=p)(q:p<=138)(o:p-121=i)(f:LInts[i]?=some s)(m:s.size<=100):Ec Q 145 #[U O p] w λe w'=>e=Z (Xs (⟨#[105,54,52,46]⟩++s))/\Bw w.heap.size w w':=by
 have C:¬p<0:=by omega
 have B:¬p<=68:=by omega
 have A:(p==(69:Int))=false:=by simp;omega
 have z:¬p<=79:=by omega
 have y:(p==(80:Int))=false:=by simp;omega
 have v:¬p<=90:=by omega
 have u:¬p<=96:=by omega
 have t:¬p<=102:=by omega
 have l:¬p<=120:=by omega
 have n:IntKind.i64.wrap (p-121)=i:=by rw[Kz];omega
 have j:(i:Int)<18:=by omega
 have d:¬9223372036854775807<4+s.size:=by omega
 go_enter func145,ntmps145;go_wp2_with fail
 refine(lInts_c _).mono ?_;rintro e w1 ⟨g,rfl,c,b⟩;have a:=up1 c;have k:=b i s f;clear c b;go_wp2;go_ret;exact⟨rfl,a⟩
theorem sn_g (p:Int)(i:Nat)(s:ByteArray)(w:J)(t:139<=p)(r:p<=152)(q:p-139=i)(f:XD[i]?=some s)(n:s.size<=100):Ec Q 145 #[U O p] w λe w'=>e=Z (Xs (⟨#[102,51,50,46]⟩++s))/\Bw w.heap.size w w':=by
 have D:¬p<0:=by omega
 have C:¬p<=68:=by omega
 have B:(p==(69:Int))=false:=by simp;omega
 have A:¬p<=79:=by omega
 have z:(p==(80:Int))=false:=by simp;omega
 have y:¬p<=90:=by omega
 have v:¬p<=96:=by omega
 have u:¬p<=102:=by omega
 have m:¬p<=120:=by omega
 have l:¬p<=138:=by omega
 have o:IntKind.i64.wrap (p-139)=i:=by rw[Kz];omega
 have j:(i:Int)<14:=by omega
 have d:¬9223372036854775807<4+s.size:=by omega
 go_enter func145,ntmps145;go_wp2_with fail
 refine(lFloats_c _).mono ?_;rintro e w1 ⟨g,rfl,c,b⟩;have a:=up1 c;have k:=b i s f;clear c b;go_wp2;go_ret;exact⟨rfl,a⟩
theorem sn_h (p:Int)(i:Nat)(s:ByteArray)(w:J)(u:153<=p)(t:p<=166)(r:p-153=i)(f:XD[i]?=some s)(o:s.size<=100):Ec Q 145 #[U O p] w λe w'=>e=Z (Xs (⟨#[102,54,52,46]⟩++s))/\Bw w.heap.size w w':=by
 have E:¬p<0:=by omega
 have D:¬p<=68:=by omega
 have C:(p==(69:Int))=false:=by simp;omega
 have B:¬p<=79:=by omega
 have A:(p==(80:Int))=false:=by simp;omega
 have z:¬p<=90:=by omega
 have y:¬p<=96:=by omega
 have v:¬p<=102:=by omega
 have n:¬p<=120:=by omega
 have m:¬p<=138:=by omega
 have l:¬p<=152:=by omega
 have q:IntKind.i64.wrap (p-153)=i:=by rw[Kz];omega
 have j:(i:Int)<14:=by omega
 have d:¬9223372036854775807<4+s.size:=by omega
 go_enter func145,ntmps145;go_wp2_with fail
 refine(lFloats_c _).mono ?_;rintro e w1 ⟨g,rfl,c,b⟩;have a:=up1 c;have k:=b i s f;clear c b;go_wp2;go_ret;exact⟨rfl,a⟩
theorem sn_i (p:Int)(i:Nat)(s:ByteArray)(w:J)(u:167<=p)(t:p<=191)(r:p-167=i)(d:LConv[i]?=some s)(o:s.size<=100):Ec Q 145 #[U O p] w λe w'=>e=Z (Xs s)/\Bw w.heap.size w w':=by
 have E:¬p<0:=by omega
 have D:¬p<=68:=by omega
 have C:(p==(69:Int))=false:=by simp;omega
 have B:¬p<=79:=by omega
 have A:(p==(80:Int))=false:=by simp;omega
 have z:¬p<=90:=by omega
 have y:¬p<=96:=by omega
 have v:¬p<=102:=by omega
 have n:¬p<=120:=by omega
 have m:¬p<=138:=by omega
 have l:¬p<=152:=by omega
 have k:¬p<=166:=by omega
 have q:IntKind.i64.wrap (p-167)=i:=by rw[Kz];omega
 have f:(i:Int)<25:=by omega
 go_enter func145,ntmps145;go_wp2_with fail
 refine(lConv_c _).mono ?_;rintro e w1 ⟨g,rfl,c,b⟩;have a:=up1 c;have j:=b i s d;clear c b;go_wp2;go_ret;exact⟨rfl,a⟩
theorem sn_n (p:Int)(i:Nat)(s:ByteArray)(w:J)(o:0<=p)(n:p<=68)(k:p-0=i)(f:LNames[i]?=some s)(m:s.size<=100):Ec Q 145 #[U O p] w λe w'=>e=Z (Xs s)/\Bw w.heap.size w w':=by
 have a:p=i:=by omega
 clear k;subst a;have q:¬(i:Int)<0:=by omega
 have j:(i:Int)<69:=by omega
 go_enter func145,ntmps145;go_wp2_with fail
 refine(lNames_c _).mono ?_;rintro e w1 ⟨g,rfl,d,c⟩;have b:=up1 d;have l:=c i s f;clear d c;go_wp2;go_ret;exact⟨rfl,b⟩
theorem pick (L:List ByteArray)(i:Nat)(h:i<N L):L[i]?=some (L.getD i ⟨#[]⟩):=by simp[Kx,Kj h]
theorem Q1 (p:Int)(w:J):Ec Q 145 #[U O p] w λe w'=>e=Z (Xs (Qa p).nm)/\Bw w.heap.size w w':=by
 have b:(p<=-1)\/(192<=p)\/(69<=p/\p<=69)\/(80<=p/\p<=80)\/(70<=p/\p<=79)\/(81<=p/\p<=90)\/(91<=p/\p<=96)\/(97<=p/\p<=102)\/(103<=p/\p<=120)\/(121<=p/\p<=138)\/(139<=p/\p<=152)\/(153<=p/\p<=166)\/(167<=p/\p<=191)\/(0<=p/\p<=68):=by omega
 rcases b with h|h|h|h|h|h|h|h|h|h|h|h|h|h
 . (have e:Qa p=Z0:=by simp only[Qa,show ¬(0<=p/\p<192) by omega,if_false]);rw[e];exact sn_z0 p w h
 . (have e:Qa p=Z0:=by simp only[Qa,show ¬(0<=p/\p<192) by omega,if_false]);rw[e];exact sn_z1 p w h
 . (obtain rfl:p=69:=by omega);exact sn_x 69 w (by omega) (by omega)
 . (obtain rfl:p=80:=by omega);exact sn_y 80 w (by omega) (by omega)
 . have e:=of_decide_eq_true (rng 70 10 (λi=>decide ((tbl.getD i Z0).nm=(⟨#[105,51,50,46]⟩++X9.getD (i-70) ⟨#[]⟩:ByteArray)/\(X9.getD (i-70) ⟨#[]⟩).size<=100)) (by decide +kernel) p (by omega) (by omega));(have a:(Qa p).nm=(tbl.getD p.toNat Z0).nm:=by simp only[Qa,show(0<=p/\p<192) by omega,and_self,if_true]);rw[a,e.1];exact sn_a p (p.toNat-70) _ w h.1 h.2 (by omega) (pick X9 _ (by show _<10;omega)) e.2
 . have e:=of_decide_eq_true (rng 81 10 (λi=>decide ((tbl.getD i Z0).nm=(⟨#[105,54,52,46]⟩++X9.getD (i-81) ⟨#[]⟩:ByteArray)/\(X9.getD (i-81) ⟨#[]⟩).size<=100)) (by decide +kernel) p (by omega) (by omega));(have a:(Qa p).nm=(tbl.getD p.toNat Z0).nm:=by simp only[Qa,show(0<=p/\p<192) by omega,and_self,if_true]);rw[a,e.1];exact sn_b p (p.toNat-81) _ w h.1 h.2 (by omega) (pick X9 _ (by show _<10;omega)) e.2
 . have e:=of_decide_eq_true (rng 91 6 (λi=>decide ((tbl.getD i Z0).nm=(⟨#[102,51,50,46]⟩++LT6.getD (i-91) ⟨#[]⟩:ByteArray)/\(LT6.getD (i-91) ⟨#[]⟩).size<=100)) (by decide +kernel) p (by omega) (by omega));(have a:(Qa p).nm=(tbl.getD p.toNat Z0).nm:=by simp only[Qa,show(0<=p/\p<192) by omega,and_self,if_true]);rw[a,e.1];exact sn_c p (p.toNat-91) _ w h.1 h.2 (by omega) (pick LT6 _ (by show _<6;omega)) e.2
 . have e:=of_decide_eq_true (rng 97 6 (λi=>decide ((tbl.getD i Z0).nm=(⟨#[102,54,52,46]⟩++LT6.getD (i-97) ⟨#[]⟩:ByteArray)/\(LT6.getD (i-97) ⟨#[]⟩).size<=100)) (by decide +kernel) p (by omega) (by omega));(have a:(Qa p).nm=(tbl.getD p.toNat Z0).nm:=by simp only[Qa,show(0<=p/\p<192) by omega,and_self,if_true]);rw[a,e.1];exact sn_d p (p.toNat-97) _ w h.1 h.2 (by omega) (pick LT6 _ (by show _<6;omega)) e.2
 . have e:=of_decide_eq_true (rng 103 18 (λi=>decide ((tbl.getD i Z0).nm=(⟨#[105,51,50,46]⟩++LInts.getD (i-103) ⟨#[]⟩:ByteArray)/\(LInts.getD (i-103) ⟨#[]⟩).size<=100)) (by decide +kernel) p (by omega) (by omega));(have a:(Qa p).nm=(tbl.getD p.toNat Z0).nm:=by simp only[Qa,show(0<=p/\p<192) by omega,and_self,if_true]);rw[a,e.1];exact sn_e p (p.toNat-103) _ w h.1 h.2 (by omega) (pick LInts _ (by show _<18;omega)) e.2
 . have e:=of_decide_eq_true (rng 121 18 (λi=>decide ((tbl.getD i Z0).nm=(⟨#[105,54,52,46]⟩++LInts.getD (i-121) ⟨#[]⟩:ByteArray)/\(LInts.getD (i-121) ⟨#[]⟩).size<=100)) (by decide +kernel) p (by omega) (by omega));(have a:(Qa p).nm=(tbl.getD p.toNat Z0).nm:=by simp only[Qa,show(0<=p/\p<192) by omega,and_self,if_true]);rw[a,e.1];exact sn_f p (p.toNat-121) _ w h.1 h.2 (by omega) (pick LInts _ (by show _<18;omega)) e.2
 . have e:=of_decide_eq_true (rng 139 14 (λi=>decide ((tbl.getD i Z0).nm=(⟨#[102,51,50,46]⟩++XD.getD (i-139) ⟨#[]⟩:ByteArray)/\(XD.getD (i-139) ⟨#[]⟩).size<=100)) (by decide +kernel) p (by omega) (by omega));(have a:(Qa p).nm=(tbl.getD p.toNat Z0).nm:=by simp only[Qa,show(0<=p/\p<192) by omega,and_self,if_true]);rw[a,e.1];exact sn_g p (p.toNat-139) _ w h.1 h.2 (by omega) (pick XD _ (by show _<14;omega)) e.2
 . have e:=of_decide_eq_true (rng 153 14 (λi=>decide ((tbl.getD i Z0).nm=(⟨#[102,54,52,46]⟩++XD.getD (i-153) ⟨#[]⟩:ByteArray)/\(XD.getD (i-153) ⟨#[]⟩).size<=100)) (by decide +kernel) p (by omega) (by omega));(have a:(Qa p).nm=(tbl.getD p.toNat Z0).nm:=by simp only[Qa,show(0<=p/\p<192) by omega,and_self,if_true]);rw[a,e.1];exact sn_h p (p.toNat-153) _ w h.1 h.2 (by omega) (pick XD _ (by show _<14;omega)) e.2
 . have e:=of_decide_eq_true (rng 167 25 (λi=>decide ((tbl.getD i Z0).nm=(LConv.getD (i-167) ⟨#[]⟩:ByteArray)/\(LConv.getD (i-167) ⟨#[]⟩).size<=100)) (by decide +kernel) p (by omega) (by omega));(have a:(Qa p).nm=(tbl.getD p.toNat Z0).nm:=by simp only[Qa,show(0<=p/\p<192) by omega,and_self,if_true]);rw[a,e.1];exact sn_i p (p.toNat-167) _ w h.1 h.2 (by omega) (pick LConv _ (by show _<25;omega)) e.2
 have e:=of_decide_eq_true (rng 0 69 (λi=>decide ((tbl.getD i Z0).nm=(LNames.getD (i-0) ⟨#[]⟩:ByteArray)/\(LNames.getD (i-0) ⟨#[]⟩).size<=100)) (by decide +kernel) p (by omega) (by omega));have a:(Qa p).nm=(tbl.getD p.toNat Z0).nm:=by simp only[Qa,show(0<=p/\p<192) by omega,and_self,if_true]
 rw[a,e.1];exact sn_n p (p.toNat-0) _ w h.1 h.2 (by omega) (pick LNames _ (by show _<69;omega)) e.2
def QA (s:ByteArray):Int:=if s.size<3 then 0 else
 if(s.extract 0 3).data.toList=[105,51,50]then 127 else if(s.extract 0 3).data.toList=[105,54,52]then 126 else if(s.extract 0 3).data.toList=[102,51,50]then 125 else if(s.extract 0 3).data.toList=[102,54,52]then 124 else 0
theorem Jg (s:ByteArray)(w:J):Ec Q 144 #[Xs s] w λe w'=>e=Z (U O (QA s))/\w=w':=by
 by_cases h:s.size<3
 . (have a:(s.size:Int)<3:=by omega);go_enter func144,ntmps144;go_wp2;go_ret;exact⟨by simp[QA,h],rfl⟩
 have a:¬(s.size:Int)<3:=by omega
 go_enter func144,ntmps144;go_wp2
 all_goals
  go_ret
  refine⟨?_,rfl⟩
  simp only[ByteArray.toList_eq,beq_iff_eq,beq_eq_false_iff_ne,ne_eq]at *
  simp_all[QA]
theorem sig_c (a:Option Ad)(n c:Nat)(t:Int)(w:J):Ec Q 146 #[S a n c,U O t] w λe w'=>∃ga gc,e=Z (Ag #[S a n c,S ga 1 gc])/\w'.ownsRow w.heap.size 2 1 (S ga 1 gc) 1 (I [t])/\Bw w.heap.size w w':=by
 go_enter func146,ntmps146;go_wp2;exact bodyPost_ret (v:=Ag #[S a n c,S (some ⟨w.heap.size+1,0,none⟩) 1 1]) (by simp[results,results146,go_sem]) rfl ⟨_,_,rfl,by
  have:=Hk (base:=w.heap.size) (e:=2) (size:=1) (w.alloc (Fc #[S a n c,S (some ⟨w.heap.size+1,0,none⟩) 1 1] 76)) #[U O t] 1 (by simp) (by unfold maxLen;omega) rfl
  simpa using this,(bFz.alloc lRz _).alloc (by simp) _⟩
structure RB (w:J)(wr:J):Prop where
 r0:wr.cell? ⟨w.heap.size,0,none⟩=some (S none 0 0)
 r1:wr.cell? ⟨w.heap.size,1,none⟩=some (S none 0 0)
 rf0:wr.frozen? ⟨w.heap.size,0,none⟩=false
 rf1:wr.frozen? ⟨w.heap.size,1,none⟩=false
 lt:w.heap.size<wr.heap.size
 bel:Bw w.heap.size w wr
theorem RB.new (w:J):RB w (w.alloc (Fc #[S none 0 0,S none 0 0] 76)) :=
 ⟨Qe rfl rfl,Qe rfl rfl,Tm _ _ _ _,Tm _ _ _ _,by simp,bFz.alloc lRz _⟩
theorem RB.keep {b:J}(h:RB w b)(a:Bw b.heap.size b w1):RB w w1 :=
 ⟨(a.cell (p:=⟨w.heap.size,0,none⟩) h.lt).trans h.r0,(a.cell (p:=⟨w.heap.size,1,none⟩) h.lt).trans h.r1,(a.frozen (p:=⟨w.heap.size,0,none⟩) h.lt).trans h.rf0,(a.frozen (p:=⟨w.heap.size,1,none⟩) h.lt).trans h.rf1,Nat.lt_of_lt_of_le h.lt a.size,h.bel.trans (a.mono (Nat.le_of_lt h.lt))⟩
theorem RB.past {a:J}(h:RB w a)(o:Obj):RB w (a.alloc o):=h.keep (bFz.alloc lRz _)
theorem base_down {c n:Nat}{v:Vu}{b:List Vu}(h:w.ownsRow B 2 1 v n b)(k:c<=B):w.ownsRow c 2 1 v n b:=by
 refine⟨h.1,?_⟩;rcases h.2 with f|⟨g,cap,a,d,j,r⟩
 . exact .inl f
 exact .inr ⟨g,cap,a,d,by omega,r⟩
theorem RB.both {a:J}(h:RB w w1)(xs b:List Int)(cs:Array Vu)(f:cs=(I xs).toArray)(n:Nat)(hn:n=N xs)(p:N xs<=1000){r:Vu}(hr:a.ownsRow (w1.alloc (Fc cs 2)).heap.size 2 1 r (N b) (I b))(k:Bw (w1.alloc (Fc cs 2)).heap.size (w1.alloc (Fc cs 2)) a):FT a (w.heap.size+1) a.heap.size (S (some ⟨w1.heap.size,0,none⟩) n n) r (N xs) (N b) xs b/\RB w a:=by
 subst f hn;have m:=h.lt;have c:(w1.alloc (Fc (I xs).toArray 2)).heap.size=w1.heap.size+1:=by simp
 have l:=Hk (base:=w.heap.size+1) (e:=2) (size:=1) w1 (I xs).toArray (N xs) (by omega) (by unfold maxLen;omega) (by simp);have g:=own_keep l k (λj d=>by cases d;show w1.heap.size<_;rw[c];omega);refine⟨⟨by simpa using g,base_down hr (by rw[c];omega),?_,own_lt g,own_lt hr,lRz⟩,(h.past _).keep k⟩;intro i j o d;cases o;have:=(hr.lt j d).1;rw[c]at this;show w1.heap.size≠j;omega
theorem RB.one (h:RB w w1)(xs:List Int)(cs:Array Vu)(a:cs=(I xs).toArray)(n:Nat)(hn:n=N xs)(b:N xs<=1000) :
    FT (w1.alloc (Fc cs 2)) (w.heap.size+1) (w1.alloc (Fc cs 2)).heap.size (S (some ⟨w1.heap.size,0,none⟩) n n) (S none 0 0) (N xs) 0 xs []/\RB w (w1.alloc (Fc cs 2)) :=
 h.both xs [] cs a n hn b (Tq _ _ _ _) bFz
theorem RB.none (h:RB w w1):FT w1 (w.heap.size+1) w1.heap.size (S none 0 0) (S none 0 0) 0 0 [] [] :=
 ⟨Tq _ _ _ _,Tq _ _ _ _,λ_ _ hi=>(by cases hi),λ_ hi=>(by cases hi),λ_ hi=>(by cases hi),lRz⟩
theorem st_0 (p t:Int)(s:ByteArray)(w:J)(F:40<=p)(E:p<=53)(hn:∀w,Ec Q 145 #[U O p] w λe w'=>e=Z (Xs s)/\Bw w.heap.size w w')(g:QA s=t):Ec Q 90 #[U O p] w λe w'=>∃a r,e=Z (Ag #[a,r])/\FT w' w.heap.size w'.heap.size a r ([127]:List Int).length ([t]:List Int).length [127] [t]/\Bw w.heap.size w w':=by
 have B:=Hm hn;have l:=Hm (Jg s);rw[g]at l;clear hn g;go_enter func90,ntmps90;go_wp2_with fail
 refine(B.o _).mono ?_;rintro e w1 ⟨rfl,b⟩;have f:=(RB.new w).keep b;clear b;go_wp2_with fail
 refine(l.o _).mono ?_;rintro e m ⟨rfl,rfl⟩;go_wp2_with fail
 refine(sig_c _ _ _ _ _).mono ?_;rintro e D ⟨A,z,rfl,j,b⟩;obtain⟨k,c⟩:=f.both [127] [t] #[U O 127] rfl 1 rfl (by simp) j b;clear j b f;have C:=Hm k;obtain⟨y,u,q,n,lt,d⟩:=c;clear k;go_wp2;exact bodyPost_ret (v:=Ag #[S (some ⟨w1.heap.size,0,none⟩) 1 1,S A 1 z]) (by simp[results,results90,go_sem,y,u]) rfl ⟨_,_,rfl,C.o.sets lt d rfl⟩
theorem st_1 (p t:Int)(s:ByteArray)(w:J)(d:54<=p)(E:p<=62)(hn:∀w,Ec Q 145 #[U O p] w λe w'=>e=Z (Xs s)/\Bw w.heap.size w w')(g:QA s=t):Ec Q 90 #[U O p] w λe w'=>∃a r,e=Z (Ag #[a,r])/\FT w' w.heap.size w'.heap.size a r ([127,t]:List Int).length ([]:List Int).length [127,t] []/\Bw w.heap.size w w':=by
 have F:¬p<40:=by omega
 have C:=Hm hn;have l:=Hm (Jg s);rw[g]at l;clear hn g;go_enter func90,ntmps90;go_wp2_with fail
 refine(C.o _).mono ?_;rintro e w1 ⟨rfl,j⟩;have f:=(RB.new w).keep j;clear j;go_wp2_with fail
 refine(l.o _).mono ?_;rintro e n ⟨rfl,rfl⟩;obtain⟨k,c⟩:=f.one [127,t] #[U O 127,U O t] rfl 2 rfl (by simp);have D:=Hm k;have m:=Hm c;clear k c;obtain⟨A,z,u,q,b,B⟩:=f;go_wp2;exact bodyPost_ret (v:=Ag #[S (some ⟨w1.heap.size,0,none⟩) 2 2,S none 0 0]) (by simp[results,results90,go_sem,A,z,b]) rfl ⟨_,_,rfl,by
  have d:=D.o.sets (x:=S (some ⟨w1.heap.size,0,none⟩) 2 2) (y:=S none 0 0) m.o.lt m.o.bel rfl;rw[Rd (hn:=b),Rd (hn:=by simpa using b)]at d
  exact d⟩
theorem st_y:(∀(p t:Int) (s:ByteArray) (w:J) (y:63<=p) (u:p<=63) (hn:∀w,Ec Q 145 #[U O p] w λe w'=>e=Z (Xs s)/\Bw w.heap.size w w') (l:QA s=t),Ec Q 90 #[U O p] w λe w'=>∃a r,e=Z (Ag #[a,r])/\FT w' w.heap.size w'.heap.size a r ([]:List Int).length ([127]:List Int).length [] [127]/\Bw w.heap.size w w')/\(∀(p t:Int) (s:ByteArray) (w:J) (y:64<=p) (u:p<=64) (hn:∀w,Ec Q 145 #[U O p] w λe w'=>e=Z (Xs s)/\Bw w.heap.size w w') (l:QA s=t),Ec Q 90 #[U O p] w λe w'=>∃a r,e=Z (Ag #[a,r])/\FT w' w.heap.size w'.heap.size a r ([127]:List Int).length ([127]:List Int).length [127] [127]/\Bw w.heap.size w w')/\(∀(p t:Int) (s:ByteArray) (w:J) (y:65<=p) (u:p<=68) (hn:∀w,Ec Q 145 #[U O p] w λe w'=>e=Z (Xs s)/\Bw w.heap.size w w') (l:QA s=t),Ec Q 90 #[U O p] w λe w'=>∃a r,e=Z (Ag #[a,r])/\FT w' w.heap.size w'.heap.size a r ([]:List Int).length ([t]:List Int).length [] [t]/\Bw w.heap.size w w')/\(∀(p t:Int) (s:ByteArray) (w:J) (y:69<=p) (u:p<=69) (hn:∀w,Ec Q 145 #[U O p] w λe w'=>e=Z (Xs s)/\Bw w.heap.size w w') (l:QA s=t),Ec Q 90 #[U O p] w λe w'=>∃a r,e=Z (Ag #[a,r])/\FT w' w.heap.size w'.heap.size a r ([t]:List Int).length ([127]:List Int).length [t] [127]/\Bw w.heap.size w w')/\(∀(p t:Int) (s:ByteArray) (w:J) (y:80<=p) (u:p<=80) (hn:∀w,Ec Q 145 #[U O p] w λe w'=>e=Z (Xs s)/\Bw w.heap.size w w') (l:QA s=t),Ec Q 90 #[U O p] w λe w'=>∃a r,e=Z (Ag #[a,r])/\FT w' w.heap.size w'.heap.size a r ([t]:List Int).length ([127]:List Int).length [t] [127]/\Bw w.heap.size w w'):=by
 refine⟨?c0,?c1,?c2,?c3,?c4⟩;case' c0=>have d:=0
 case' c1=>have g:=0
 case' c2=>have f:=0
 case' c3=>have c:=0
 case' c4=>have b:=0
 all_goals
  intro p t s w y u hn l
  first
  | (
   replace b:=b;have A:¬p<40:=by omega)
  |skip
  first
  | (
   replace c:=c;have A:¬p<40:=by omega)
  | (
   replace b:=b;have I:¬p<54:=by omega)
  |skip
  first
  | (
   replace c:=c;have I:¬p<54:=by omega)
  | (
   replace b:=b;have H:(p==(63:Int))=false:=by simp;omega)
  |skip
  first
  | (
   replace g:=g;have A:¬p<40:=by omega)
  | (
   replace f:=f;have A:¬p<40:=by omega)
  | (
   replace c:=c;have H:(p==(63:Int))=false:=by simp;omega)
  | (
   replace b:=b;have F:(p==(64:Int))=false:=by simp;omega)
  |skip
  first|(replace d:=d;have A:¬p<40:=by omega)|(replace c:=c;have F:(p==(64:Int))=false:=by simp;omega)|(replace b:=b;have f7:¬p<65:=by omega)|(have I:¬p<54:=by omega)
  first|(replace d:=d;have I:¬p<54:=by omega)|(replace c:=c;have f7:¬p<65:=by omega)|(replace b:=b;have Y:(p==(69:Int))=false:=by simp;omega)|(have H:(p==(63:Int))=false:=by simp;omega)
  first|(replace d:=d;have H:(p==(63:Int))=true:=by simp;omega)|(replace g:=g;have F:(p==(64:Int))=true:=by simp;omega)|(replace f:=f;have F:(p==(64:Int))=false:=by simp;omega)|(replace c:=c;have Y:(p==(69:Int))=true:=by simp;omega)|(have ab:(p==(80:Int))=true:=by simp;omega)
  have HN:=Hm hn;have M:=Hm (Jg s);rw[l]at M;clear hn l
  go_enter func90,ntmps90
  go_wp2_with fail
  refine(HN.o _).mono ?_
  rintro e w1 ⟨rfl,k⟩;have n:=(RB.new w).keep k;clear k
  go_wp2_with fail
  refine(M.o _).mono ?_
  rintro e R ⟨rfl,rfl⟩
  go_wp2_with fail
  refine(sig_c _ _ _ _ _).mono ?_
  rintro e w2 ⟨E,D,rfl,q,k⟩
  first|(replace d:=d;obtain⟨z,j⟩:=n.both [] [127] #[] rfl 0 rfl (by simp) q k)|(replace g:=g;obtain⟨z,j⟩:=n.both [127] [127] #[U O 127] rfl 1 rfl (by simp) q k)|(replace f:=f;obtain⟨z,j⟩:=n.both [] [t] #[] rfl 0 rfl (by simp) q k)|(obtain⟨z,j⟩:=n.both [t] [127] #[U O t] rfl 1 rfl (by simp) q k)
  clear q k n;have L:=Hm z;obtain⟨C,B,X,V,lt,m⟩:=j;clear z
  go_wp2
  first|(replace d:=d;exact bodyPost_ret (v:=Ag #[S (some ⟨w1.heap.size,0,none⟩) 0 0,S E 1 D]) (by simp[results,results90,go_sem,C,B]) rfl ⟨_,_,rfl,L.o.sets lt m rfl⟩)|(replace f:=f;exact bodyPost_ret (v:=Ag #[S (some ⟨w1.heap.size,0,none⟩) 0 0,S E 1 D]) (by simp[results,results90,go_sem,C,B]) rfl ⟨_,_,rfl,L.o.sets lt m rfl⟩)|(exact bodyPost_ret (v:=Ag #[S (some ⟨w1.heap.size,0,none⟩) 1 1,S E 1 D]) (by simp[results,results90,go_sem,C,B]) rfl ⟨_,_,rfl,L.o.sets lt m rfl⟩)
def st_2:=st_y.1
def st_3:=st_y.2.1
def st_4:=st_y.2.2.1
def st_5:=st_y.2.2.2.1
def st_6:=st_y.2.2.2.2
theorem st_x:(∀(p t:Int) (s:ByteArray) (w:J) (q:70<=p) (n:p<=79) (hn:∀w,Ec Q 145 #[U O p] w λe w'=>e=Z (Xs s)/\Bw w.heap.size w w') (k:QA s=t),Ec Q 90 #[U O p] w λe w'=>∃a r,e=Z (Ag #[a,r])/\FT w' w.heap.size w'.heap.size a r ([t,t]:List Int).length ([127]:List Int).length [t,t] [127]/\Bw w.heap.size w w')/\(∀(p t:Int) (s:ByteArray) (w:J) (q:81<=p) (n:p<=102) (hn:∀w,Ec Q 145 #[U O p] w λe w'=>e=Z (Xs s)/\Bw w.heap.size w w') (k:QA s=t),Ec Q 90 #[U O p] w λe w'=>∃a r,e=Z (Ag #[a,r])/\FT w' w.heap.size w'.heap.size a r ([t,t]:List Int).length ([127]:List Int).length [t,t] [127]/\Bw w.heap.size w w')/\(∀(p t:Int) (s:ByteArray) (w:J) (q:103<=p) (n:p<=105) (hn:∀w,Ec Q 145 #[U O p] w λe w'=>e=Z (Xs s)/\Bw w.heap.size w w') (k:QA s=t),Ec Q 90 #[U O p] w λe w'=>∃a r,e=Z (Ag #[a,r])/\FT w' w.heap.size w'.heap.size a r ([t]:List Int).length ([t]:List Int).length [t] [t]/\Bw w.heap.size w w')/\(∀(p t:Int) (s:ByteArray) (w:J) (q:121<=p) (n:p<=123) (hn:∀w,Ec Q 145 #[U O p] w λe w'=>e=Z (Xs s)/\Bw w.heap.size w w') (k:QA s=t),Ec Q 90 #[U O p] w λe w'=>∃a r,e=Z (Ag #[a,r])/\FT w' w.heap.size w'.heap.size a r ([t]:List Int).length ([t]:List Int).length [t] [t]/\Bw w.heap.size w w'):=by
 refine⟨?c0,?c1,?c2,?c3⟩;case' c0=>have c:=0
 case' c1=>have d:=0
 case' c2=>have I:=0
 case' c3=>have b:=0
 all_goals
  intro p t s w q n hn k
  first
  | (
   replace b:=b;have f1:¬p<40:=by omega)
  |skip
  first
  | (
   replace b:=b;have f3:¬p<54:=by omega)
  |skip
  first|(replace b:=b;have Y:(p==(63:Int))=false:=by simp;omega)|(have f1:¬p<40:=by omega)
  first|(replace b:=b;have X:(p==(64:Int))=false:=by simp;omega)|(have f3:¬p<54:=by omega)
  first|(replace b:=b;have V:¬p<65:=by omega)|(have Y:(p==(63:Int))=false:=by simp;omega)
  first|(replace b:=b;have R:(p==(69:Int))=false:=by simp;omega)|(have X:(p==(64:Int))=false:=by simp;omega)
  first|(replace b:=b;have D:(p==(80:Int))=false:=by simp;omega)|(have V:¬p<65:=by omega)
  first|(replace b:=b;have C:¬p<70:=by omega)|(have R:(p==(69:Int))=false:=by simp;omega)
  first|(replace b:=b;have ac:¬p<103:=by omega)|(have D:(p==(80:Int))=false:=by simp;omega)
  first|(replace c:=c;have ad:p<=102:=by omega)|(replace b:=b;have ab:¬p<=105:=by omega)|(have C:¬p<70:=by omega)
  have HN:=Hm hn;have F:=Hm (Jg s);rw[k]at F;clear hn k
  go_enter func90,ntmps90
  go_wp2_with fail
  refine(HN.o _).mono ?_
  rintro e w1 ⟨rfl,g⟩;have l:=(RB.new w).keep g;clear g
  go_wp2_with fail
  refine(F.o _).mono ?_
  rintro e H ⟨rfl,rfl⟩
  go_wp2_with fail
  refine(sig_c _ _ _ _ _).mono ?_
  rintro e w2 ⟨B,A,rfl,m,g⟩
  first|(replace c:=c;obtain⟨u,f⟩:=l.both [t,t] [127] #[U O t,U O t] rfl 2 rfl (by simp) m g)|(replace d:=d;obtain⟨u,f⟩:=l.both [t,t] [127] #[U O t,U O t] rfl 2 rfl (by simp) m g)|(obtain⟨u,f⟩:=l.both [t] [t] #[U O t] rfl 1 rfl (by simp) m g)
  clear m g l;have E:=Hm u;obtain⟨z,y,M,L,lt,j⟩:=f;clear u
  go_wp2
  first|(replace c:=c;exact bodyPost_ret (v:=Ag #[S (some ⟨w1.heap.size,0,none⟩) 2 2,S B 1 A]) (by simp[results,results90,go_sem,z,y]) rfl ⟨_,_,rfl,E.o.sets lt j rfl⟩)|(replace d:=d;exact bodyPost_ret (v:=Ag #[S (some ⟨w1.heap.size,0,none⟩) 2 2,S B 1 A]) (by simp[results,results90,go_sem,z,y]) rfl ⟨_,_,rfl,E.o.sets lt j rfl⟩)|(exact bodyPost_ret (v:=Ag #[S (some ⟨w1.heap.size,0,none⟩) 1 1,S B 1 A]) (by simp[results,results90,go_sem,z,y]) rfl ⟨_,_,rfl,E.o.sets lt j rfl⟩)
def st_7:=st_x.1
def st_8:=st_x.2.1
def st_9:=st_x.2.2.1
def st_10:=st_x.2.2.2
theorem st_11 (p t:Int)(s:ByteArray)(w:J)(V:139<=p)(R:p<=145)(hn:∀w,Ec Q 145 #[U O p] w λe w'=>e=Z (Xs s)/\Bw w.heap.size w w')(g:QA s=t):Ec Q 90 #[U O p] w λe w'=>∃a r,e=Z (Ag #[a,r])/\FT w' w.heap.size w'.heap.size a r ([t]:List Int).length ([t]:List Int).length [t] [t]/\Bw w.heap.size w w':=by
 have f1:¬p<40:=by omega
 have f3:¬p<54:=by omega
 have f5:(p==(63:Int))=false:=by simp;omega
 have f6:(p==(64:Int))=false:=by simp;omega
 have Y:¬p<65:=by omega
 have X:(p==(69:Int))=false:=by simp;omega
 have H:(p==(80:Int))=false:=by simp;omega
 have F:¬p<70:=by omega
 have E:¬p<103:=by omega
 have D:¬p<=105:=by omega
 have C:¬p<121:=by omega
 have B:¬p<=123:=by omega
 have I:=Hm hn;have l:=Hm (Jg s);rw[g]at l;clear hn g;go_enter func90,ntmps90;go_wp2_with fail
 refine(I.o _).mono ?_;rintro e w1 ⟨rfl,b⟩;have f:=(RB.new w).keep b;clear b;go_wp2_with fail
 refine(l.o _).mono ?_;rintro e m ⟨rfl,rfl⟩;go_wp2_with fail
 refine(sig_c _ _ _ _ _).mono ?_;rintro e M ⟨A,z,rfl,j,b⟩;obtain⟨k,c⟩:=f.both [t] [t] #[U O t] rfl 1 rfl (by simp) j b;clear j b f;have L:=Hm k;obtain⟨y,u,q,n,lt,d⟩:=c;clear k;go_wp2;exact bodyPost_ret (v:=Ag #[S (some ⟨w1.heap.size,0,none⟩) 1 1,S A 1 z]) (by simp[results,results90,go_sem,y,u]) rfl ⟨_,_,rfl,L.o.sets lt d rfl⟩
theorem st_12 (p t:Int)(s:ByteArray)(w:J)(Y:153<=p)(X:p<=159)(hn:∀w,Ec Q 145 #[U O p] w λe w'=>e=Z (Xs s)/\Bw w.heap.size w w')(g:QA s=t):Ec Q 90 #[U O p] w λe w'=>∃a r,e=Z (Ag #[a,r])/\FT w' w.heap.size w'.heap.size a r ([t]:List Int).length ([t]:List Int).length [t] [t]/\Bw w.heap.size w w':=by
 have f1:¬p<40:=by omega
 have f3:¬p<54:=by omega
 have f5:(p==(63:Int))=false:=by simp;omega
 have f6:(p==(64:Int))=false:=by simp;omega
 have f7:¬p<65:=by omega
 have f9:(p==(69:Int))=false:=by simp;omega
 have L:(p==(80:Int))=false:=by simp;omega
 have I:¬p<70:=by omega
 have H:¬p<103:=by omega
 have F:¬p<=105:=by omega
 have E:¬p<121:=by omega
 have D:¬p<=123:=by omega
 have C:¬p<139:=by omega
 have B:¬p<=145:=by omega
 have M:=Hm hn;have l:=Hm (Jg s);rw[g]at l;clear hn g;go_enter func90,ntmps90;go_wp2_with fail
 refine(M.o _).mono ?_;rintro e w1 ⟨rfl,b⟩;have f:=(RB.new w).keep b;clear b;go_wp2_with fail
 refine(l.o _).mono ?_;rintro e m ⟨rfl,rfl⟩;go_wp2_with fail
 refine(sig_c _ _ _ _ _).mono ?_;rintro e V ⟨A,z,rfl,j,b⟩;obtain⟨k,c⟩:=f.both [t] [t] #[U O t] rfl 1 rfl (by simp) j b;clear j b f;have R:=Hm k;obtain⟨y,u,q,n,lt,d⟩:=c;clear k;go_wp2;exact bodyPost_ret (v:=Ag #[S (some ⟨w1.heap.size,0,none⟩) 1 1,S A 1 z]) (by simp[results,results90,go_sem,y,u]) rfl ⟨_,_,rfl,R.o.sets lt d rfl⟩
theorem st_13 (p t:Int)(s:ByteArray)(w:J)(R:106<=p)(M:p<=120)(hn:∀w,Ec Q 145 #[U O p] w λe w'=>e=Z (Xs s)/\Bw w.heap.size w w')(g:QA s=t):Ec Q 90 #[U O p] w λe w'=>∃a r,e=Z (Ag #[a,r])/\FT w' w.heap.size w'.heap.size a r ([t,t]:List Int).length ([t]:List Int).length [t,t] [t]/\Bw w.heap.size w w':=by
 have f1:¬p<40:=by omega
 have f3:¬p<54:=by omega
 have f5:(p==(63:Int))=false:=by simp;omega
 have Y:(p==(64:Int))=false:=by simp;omega
 have X:¬p<65:=by omega
 have V:(p==(69:Int))=false:=by simp;omega
 have F:(p==(80:Int))=false:=by simp;omega
 have E:¬p<70:=by omega
 have D:¬p<103:=by omega
 have C:¬p<=105:=by omega
 have B:p<=166:=by omega
 have H:=Hm hn;have l:=Hm (Jg s);rw[g]at l;clear hn g;go_enter func90,ntmps90;go_wp2_with fail
 refine(H.o _).mono ?_;rintro e w1 ⟨rfl,b⟩;have f:=(RB.new w).keep b;clear b;go_wp2_with fail
 refine(l.o _).mono ?_;rintro e m ⟨rfl,rfl⟩;go_wp2_with fail
 refine(sig_c _ _ _ _ _).mono ?_;rintro e L ⟨A,z,rfl,j,b⟩;obtain⟨k,c⟩:=f.both [t,t] [t] #[U O t,U O t] rfl 2 rfl (by simp) j b;clear j b f;have I:=Hm k;obtain⟨y,u,q,n,lt,d⟩:=c;clear k;go_wp2;exact bodyPost_ret (v:=Ag #[S (some ⟨w1.heap.size,0,none⟩) 2 2,S A 1 z]) (by simp[results,results90,go_sem,y,u]) rfl ⟨_,_,rfl,I.o.sets lt d rfl⟩
theorem st_14 (p t:Int)(s:ByteArray)(w:J)(Y:124<=p)(X:p<=138)(hn:∀w,Ec Q 145 #[U O p] w λe w'=>e=Z (Xs s)/\Bw w.heap.size w w')(g:QA s=t):Ec Q 90 #[U O p] w λe w'=>∃a r,e=Z (Ag #[a,r])/\FT w' w.heap.size w'.heap.size a r ([t,t]:List Int).length ([t]:List Int).length [t,t] [t]/\Bw w.heap.size w w':=by
 have f1:¬p<40:=by omega
 have f3:¬p<54:=by omega
 have f5:(p==(63:Int))=false:=by simp;omega
 have f6:(p==(64:Int))=false:=by simp;omega
 have f7:¬p<65:=by omega
 have f9:(p==(69:Int))=false:=by simp;omega
 have L:(p==(80:Int))=false:=by simp;omega
 have I:¬p<70:=by omega
 have H:¬p<103:=by omega
 have F:¬p<=105:=by omega
 have E:¬p<121:=by omega
 have D:¬p<=123:=by omega
 have C:¬p<106:=by omega
 have B:p<=166:=by omega
 have M:=Hm hn;have l:=Hm (Jg s);rw[g]at l;clear hn g;go_enter func90,ntmps90;go_wp2_with fail
 refine(M.o _).mono ?_;rintro e w1 ⟨rfl,b⟩;have f:=(RB.new w).keep b;clear b;go_wp2_with fail
 refine(l.o _).mono ?_;rintro e m ⟨rfl,rfl⟩;go_wp2_with fail
 refine(sig_c _ _ _ _ _).mono ?_;rintro e V ⟨A,z,rfl,j,b⟩;obtain⟨k,c⟩:=f.both [t,t] [t] #[U O t,U O t] rfl 2 rfl (by simp) j b;clear j b f;have R:=Hm k;obtain⟨y,u,q,n,lt,d⟩:=c;clear k;go_wp2;exact bodyPost_ret (v:=Ag #[S (some ⟨w1.heap.size,0,none⟩) 2 2,S A 1 z]) (by simp[results,results90,go_sem,y,u]) rfl ⟨_,_,rfl,R.o.sets lt d rfl⟩
theorem st_15 (p t:Int)(s:ByteArray)(w:J)(h1:146<=p)(h2:p<=152)(hn:∀w,Ec Q 145 #[U O p] w λe w'=>e=Z (Xs s)/\Bw w.heap.size w w')(g:QA s=t):Ec Q 90 #[U O p] w λe w'=>∃a r,e=Z (Ag #[a,r])/\FT w' w.heap.size w'.heap.size a r ([t,t]:List Int).length ([t]:List Int).length [t,t] [t]/\Bw w.heap.size w w':=by
 have f1:¬p<40:=by omega
 have f3:¬p<54:=by omega
 have f5:(p==(63:Int))=false:=by simp;omega
 have f6:(p==(64:Int))=false:=by simp;omega
 have f7:¬p<65:=by omega
 have f9:(p==(69:Int))=false:=by simp;omega
 have R:(p==(80:Int))=false:=by simp;omega
 have M:¬p<70:=by omega
 have L:¬p<103:=by omega
 have I:¬p<=105:=by omega
 have H:¬p<121:=by omega
 have F:¬p<=123:=by omega
 have E:¬p<139:=by omega
 have D:¬p<=145:=by omega
 have C:¬p<106:=by omega
 have B:p<=166:=by omega
 have V:=Hm hn;have l:=Hm (Jg s);rw[g]at l;clear hn g;go_enter func90,ntmps90;go_wp2_with fail
 refine(V.o _).mono ?_;rintro e w1 ⟨rfl,b⟩;have f:=(RB.new w).keep b;clear b;go_wp2_with fail
 refine(l.o _).mono ?_;rintro e m ⟨rfl,rfl⟩;go_wp2_with fail
 refine(sig_c _ _ _ _ _).mono ?_;rintro e Y ⟨A,z,rfl,j,b⟩;obtain⟨k,c⟩:=f.both [t,t] [t] #[U O t,U O t] rfl 2 rfl (by simp) j b;clear j b f;have X:=Hm k;obtain⟨y,u,q,n,lt,d⟩:=c;clear k;go_wp2;exact bodyPost_ret (v:=Ag #[S (some ⟨w1.heap.size,0,none⟩) 2 2,S A 1 z]) (by simp[results,results90,go_sem,y,u]) rfl ⟨_,_,rfl,X.o.sets lt d rfl⟩
theorem st_16 (p t:Int)(s:ByteArray)(w:J)(h1:160<=p)(h2:p<=166)(hn:∀w,Ec Q 145 #[U O p] w λe w'=>e=Z (Xs s)/\Bw w.heap.size w w')(g:QA s=t):Ec Q 90 #[U O p] w λe w'=>∃a r,e=Z (Ag #[a,r])/\FT w' w.heap.size w'.heap.size a r ([t,t]:List Int).length ([t]:List Int).length [t,t] [t]/\Bw w.heap.size w w':=by
 have f1:¬p<40:=by omega
 have f3:¬p<54:=by omega
 have f5:(p==(63:Int))=false:=by simp;omega
 have f6:(p==(64:Int))=false:=by simp;omega
 have f7:¬p<65:=by omega
 have f9:(p==(69:Int))=false:=by simp;omega
 have R:(p==(80:Int))=false:=by simp;omega
 have M:¬p<70:=by omega
 have L:¬p<103:=by omega
 have I:¬p<=105:=by omega
 have H:¬p<121:=by omega
 have F:¬p<=123:=by omega
 have E:¬p<139:=by omega
 have D:¬p<=145:=by omega
 have C:¬p<153:=by omega
 have B:¬p<106:=by omega
 have V:=Hm hn;have l:=Hm (Jg s);rw[g]at l;clear hn g;go_enter func90,ntmps90;go_wp2_with fail
 refine(V.o _).mono ?_;rintro e w1 ⟨rfl,b⟩;have f:=(RB.new w).keep b;clear b;go_wp2_with fail
 refine(l.o _).mono ?_;rintro e m ⟨rfl,rfl⟩;go_wp2_with fail
 refine(sig_c _ _ _ _ _).mono ?_;rintro e Y ⟨A,z,rfl,j,b⟩;obtain⟨k,c⟩:=f.both [t,t] [t] #[U O t,U O t] rfl 2 rfl (by simp) j b;clear j b f;have X:=Hm k;obtain⟨y,u,q,n,lt,d⟩:=c;clear k;go_wp2;exact bodyPost_ret (v:=Ag #[S (some ⟨w1.heap.size,0,none⟩) 2 2,S A 1 z]) (by simp[results,results90,go_sem,y,u]) rfl ⟨_,_,rfl,X.o.sets lt d rfl⟩
theorem st_17 (p t:Int)(s:ByteArray)(w:J)(z:p<=39)(hn:∀w,Ec Q 145 #[U O p] w λe w'=>e=Z (Xs s)/\Bw w.heap.size w w')(d:QA s=t):Ec Q 90 #[U O p] w λe w'=>∃a r,e=Z (Ag #[a,r])/\FT w' w.heap.size w'.heap.size a r ([]:List Int).length ([]:List Int).length [] []/\Bw w.heap.size w w':=by
 have C:(p==(63:Int))=false:=by simp;omega
 have B:(p==(64:Int))=false:=by simp;omega
 have A:(p==(69:Int))=false:=by simp;omega
 have q:(p==(80:Int))=false:=by simp;omega
 have u:=Hm hn;have g:=Hm (Jg s);rw[d]at g;clear hn d;go_enter func90,ntmps90;go_wp2_with fail
 refine(u.o _).mono ?_;rintro e w1 ⟨rfl,f⟩;have c:=(RB.new w).keep f;clear f;go_wp2_with fail
 refine(g.o _).mono ?_;rintro e j ⟨rfl,rfl⟩;have y:=Hm c.none;obtain⟨n,m,l,k,lt,b⟩:=c;go_wp2;exact bodyPost_ret (v:=Ag #[S none 0 0,S none 0 0]) (by simp[results,results90,go_sem,n,m]) rfl ⟨_,_,rfl,y.o.sets lt b rfl⟩
theorem st_18 (p t:Int)(s:ByteArray)(w:J)(M:192<=p)(hn:∀w,Ec Q 145 #[U O p] w λe w'=>e=Z (Xs s)/\Bw w.heap.size w w')(d:QA s=t):Ec Q 90 #[U O p] w λe w'=>∃a r,e=Z (Ag #[a,r])/\FT w' w.heap.size w'.heap.size a r ([]:List Int).length ([]:List Int).length [] []/\Bw w.heap.size w w':=by
 have f1:¬p<40:=by omega
 have f3:¬p<54:=by omega
 have Y:(p==(63:Int))=false:=by simp;omega
 have X:(p==(64:Int))=false:=by simp;omega
 have V:¬p<65:=by omega
 have R:(p==(69:Int))=false:=by simp;omega
 have H:(p==(80:Int))=false:=by simp;omega
 have F:¬p<70:=by omega
 have E:¬p<103:=by omega
 have D:¬p<=105:=by omega
 have C:¬p<121:=by omega
 have B:¬p<=123:=by omega
 have A:¬p<139:=by omega
 have z:¬p<=145:=by omega
 have y:¬p<153:=by omega
 have u:¬p<106:=by omega
 have q:¬p<167:=by omega
 have I:=Hm hn;have g:=Hm (Jg s);rw[d]at g;clear hn d;go_enter func90,ntmps90;go_wp2_with fail
 refine(I.o _).mono ?_;rintro e w1 ⟨rfl,f⟩;have c:=(RB.new w).keep f;clear f;go_wp2_with fail
 refine(g.o _).mono ?_;rintro e j ⟨rfl,rfl⟩;have L:=Hm c.none;obtain⟨n,m,l,k,lt,b⟩:=c;go_wp2;exact bodyPost_ret (v:=Ag #[S none 0 0,S none 0 0]) (by simp[results,results90,go_sem,n,m]) rfl ⟨_,_,rfl,L.o.sets lt b rfl⟩
theorem at_getD (s:ByteArray)(k:Nat)(h:k<s.size):s[k]'h=s.data.toList.getD k 0:=by
 have a:k<N s.data.toList:=h;rw[Kx,Kj a,Option.getD_some];rfl
theorem st_u (p t f:Int)(q:Nat)(s:ByteArray)(w:J)(h1:167<=p)(h2:p<=191)(hn:∀w,Ec Q 145 #[U O p] w λe w'=>e=Z (Xs s)/\Bw w.heap.size w w')(z:QA s=t) (hq:q<s.size) (V:s.size<=100) (l:∀k,k<q->(s.data.toList.getD k 0).toNat≠95) (j:(s.data.toList.getD q 0).toNat=95) (g:QA (s.extract (q+1) s.size)=f):Ec Q 90 #[U O p] w λe w'=>∃a r,e=Z (Ag #[a,r])/\FT w' w.heap.size w'.heap.size a r ([f]:List Int).length ([t]:List Int).length [f] [t]/\Bw w.heap.size w w':=by
 have f1:¬p<40:=by omega
 have f3:¬p<54:=by omega
 have f5:(p==(63:Int))=false:=by simp;omega
 have f6:(p==(64:Int))=false:=by simp;omega
 have f7:¬p<65:=by omega
 have f9:(p==(69:Int))=false:=by simp;omega
 have ao:(p==(80:Int))=false:=by simp;omega
 have ak:¬p<70:=by omega
 have aj:¬p<103:=by omega
 have ai:¬p<=105:=by omega
 have ah:¬p<121:=by omega
 have ag:¬p<=123:=by omega
 have af:¬p<139:=by omega
 have ae:¬p<=145:=by omega
 have ad:¬p<153:=by omega
 have ac:¬p<106:=by omega
 have D:=Hm hn;have C:=Hm (Jg s);rw[z]at C;have m:=Hm (Jg (s.extract (q+1) s.size));rw[g]at m;have H1:=Hm l;have H2:=Hm j;clear hn z g l j;go_enter func90,ntmps90;go_wp2_with fail
 refine(D.o _).mono ?_;rintro e w1 ⟨rfl,d⟩;have y:=(RB.new w).keep d;clear d;go_wp2_with fail
 refine(C.o _).mono ?_;rintro e H ⟨rfl,rfl⟩;go_wp2_with fail
 refine(D.o _).mono ?_;rintro e F ⟨rfl,d⟩;have b:=y.keep d;clear d y;have E:=Hm b;clear b;go_wp2_with fail
 go_loop [5] (λi=>∃k:Nat,k<=q/\i=U O k) (λi=>q-(intOf i).toNat)
 case atStart=>exact⟨0,Kw _,rfl⟩
 obtain⟨k,hk,rfl⟩:=hrel;have X:(k:Int)<(s.size:Int):=by omega
 have c:k<s.size:=by omega
 by_cases n:k<q
 . (have Y:(((s[k]'c).toNat:Int) != 95)=true:=by rw[at_getD s k c];have:=H1.o k n;simp only[bne_iff_ne,ne_eq];omega);(go_wp2_with fail);(go_round);(case rel=>exact⟨k+1,by omega,by go_num⟩);case measure=>simp[intOf];omega
 obtain rfl:k=q:=by omega
 have Y:(((s[k]'c).toNat:Int) != 95)=false:=by rw[at_getD s k c,H2.o];rfl
 go_wp2_with fail
 refine(m.o _).mono ?_;rintro e w3 ⟨rfl,rfl⟩;go_wp2_with fail
 refine(sig_c _ _ _ _ _).mono ?_;rintro e w4 ⟨ga,gc,rfl,A,d⟩;obtain⟨B,b⟩:=E.o.both [f] [t] #[U O f] rfl 1 rfl (by simp) A d;clear A d E;have HF:=Hm B;obtain⟨R,M,L,I,lt,u⟩:=b;clear B;go_wp2;exact bodyPost_ret (v:=Ag #[S (some ⟨F.heap.size,0,none⟩) 1 1,S ga 1 gc]) (by simp[results,results90,go_sem,R,M]) rfl ⟨_,_,rfl,HF.o.sets lt u rfl⟩
theorem stype_c (p:Int)(w:J):Ec Q 90 #[U O p] w λe w'=>∃a r,e=Z (Ag #[a,r])/\FT w' w.heap.size w'.heap.size a r (nz [(Qa p).a,(Qa p).b]).length (nz [(Qa p).g]).length (nz [(Qa p).a,(Qa p).b]) (nz [(Qa p).g])/\Bw w.heap.size w w':=by
 have f:(40<=p/\p<=53)\/(54<=p/\p<=62)\/(63<=p/\p<=63)\/(64<=p/\p<=64)\/(65<=p/\p<=68)\/(69<=p/\p<=69)\/(80<=p/\p<=80)\/(70<=p/\p<=79)\/(81<=p/\p<=102)\/(103<=p/\p<=105)\/(121<=p/\p<=123)\/(139<=p/\p<=145)\/(153<=p/\p<=159)\/(106<=p/\p<=120)\/(124<=p/\p<=138)\/(146<=p/\p<=152)\/(160<=p/\p<=166)\/(p<=39)\/(192<=p)\/(167<=p/\p<=191):=by omega
 rcases f with h|h|h|h|h|h|h|h|h|h|h|h|h|h|h|h|h|h|h|h
 . have e:=of_decide_eq_true (rng 40 14 (λi=>decide (nz [(tbl.getD i Z0).a,(tbl.getD i Z0).b]=[127]/\nz [(tbl.getD i Z0).g]=[QA (tbl.getD i Z0).nm])) (by decide +kernel) p (by omega) (by omega));(have c:nz [(Qa p).a,(Qa p).b]=[127]/\nz [(Qa p).g]=[QA (Qa p).nm]:=by simpa only[Qa,show(0<=p/\p<192) by omega,and_self,if_true]using e);rw[c.1,c.2];exact st_0 p _ _ w h.1 h.2 (λw=>Q1 p w) rfl
 . have e:=of_decide_eq_true (rng 54 9 (λi=>decide (nz [(tbl.getD i Z0).a,(tbl.getD i Z0).b]=[127,QA (tbl.getD i Z0).nm]/\nz [(tbl.getD i Z0).g]=[])) (by decide +kernel) p (by omega) (by omega));(have c:nz [(Qa p).a,(Qa p).b]=[127,QA (Qa p).nm]/\nz [(Qa p).g]=[]:=by simpa only[Qa,show(0<=p/\p<192) by omega,and_self,if_true]using e);rw[c.1,c.2];exact st_1 p _ _ w h.1 h.2 (λw=>Q1 p w) rfl
 . have e:=of_decide_eq_true (rng 63 1 (λi=>decide (nz [(tbl.getD i Z0).a,(tbl.getD i Z0).b]=[]/\nz [(tbl.getD i Z0).g]=[127])) (by decide +kernel) p (by omega) (by omega));(have c:nz [(Qa p).a,(Qa p).b]=[]/\nz [(Qa p).g]=[127]:=by simpa only[Qa,show(0<=p/\p<192) by omega,and_self,if_true]using e);rw[c.1,c.2];exact st_2 p _ _ w h.1 h.2 (λw=>Q1 p w) rfl
 . have e:=of_decide_eq_true (rng 64 1 (λi=>decide (nz [(tbl.getD i Z0).a,(tbl.getD i Z0).b]=[127]/\nz [(tbl.getD i Z0).g]=[127])) (by decide +kernel) p (by omega) (by omega));(have c:nz [(Qa p).a,(Qa p).b]=[127]/\nz [(Qa p).g]=[127]:=by simpa only[Qa,show(0<=p/\p<192) by omega,and_self,if_true]using e);rw[c.1,c.2];exact st_3 p _ _ w h.1 h.2 (λw=>Q1 p w) rfl
 . have e:=of_decide_eq_true (rng 65 4 (λi=>decide (nz [(tbl.getD i Z0).a,(tbl.getD i Z0).b]=[]/\nz [(tbl.getD i Z0).g]=[QA (tbl.getD i Z0).nm])) (by decide +kernel) p (by omega) (by omega));(have c:nz [(Qa p).a,(Qa p).b]=[]/\nz [(Qa p).g]=[QA (Qa p).nm]:=by simpa only[Qa,show(0<=p/\p<192) by omega,and_self,if_true]using e);rw[c.1,c.2];exact st_4 p _ _ w h.1 h.2 (λw=>Q1 p w) rfl
 . have e:=of_decide_eq_true (rng 69 1 (λi=>decide (nz [(tbl.getD i Z0).a,(tbl.getD i Z0).b]=[QA (tbl.getD i Z0).nm]/\nz [(tbl.getD i Z0).g]=[127])) (by decide +kernel) p (by omega) (by omega));(have c:nz [(Qa p).a,(Qa p).b]=[QA (Qa p).nm]/\nz [(Qa p).g]=[127]:=by simpa only[Qa,show(0<=p/\p<192) by omega,and_self,if_true]using e);rw[c.1,c.2];exact st_5 p _ _ w h.1 h.2 (λw=>Q1 p w) rfl
 . have e:=of_decide_eq_true (rng 80 1 (λi=>decide (nz [(tbl.getD i Z0).a,(tbl.getD i Z0).b]=[QA (tbl.getD i Z0).nm]/\nz [(tbl.getD i Z0).g]=[127])) (by decide +kernel) p (by omega) (by omega));(have c:nz [(Qa p).a,(Qa p).b]=[QA (Qa p).nm]/\nz [(Qa p).g]=[127]:=by simpa only[Qa,show(0<=p/\p<192) by omega,and_self,if_true]using e);rw[c.1,c.2];exact st_6 p _ _ w h.1 h.2 (λw=>Q1 p w) rfl
 . have e:=of_decide_eq_true (rng 70 10 (λi=>decide (nz [(tbl.getD i Z0).a,(tbl.getD i Z0).b]=[QA (tbl.getD i Z0).nm,QA (tbl.getD i Z0).nm]/\nz [(tbl.getD i Z0).g]=[127])) (by decide +kernel) p (by omega) (by omega));(have c:nz [(Qa p).a,(Qa p).b]=[QA (Qa p).nm,QA (Qa p).nm]/\nz [(Qa p).g]=[127]:=by simpa only[Qa,show(0<=p/\p<192) by omega,and_self,if_true]using e);rw[c.1,c.2];exact st_7 p _ _ w h.1 h.2 (λw=>Q1 p w) rfl
 . have e:=of_decide_eq_true (rng 81 22 (λi=>decide (nz [(tbl.getD i Z0).a,(tbl.getD i Z0).b]=[QA (tbl.getD i Z0).nm,QA (tbl.getD i Z0).nm]/\nz [(tbl.getD i Z0).g]=[127])) (by decide +kernel) p (by omega) (by omega));(have c:nz [(Qa p).a,(Qa p).b]=[QA (Qa p).nm,QA (Qa p).nm]/\nz [(Qa p).g]=[127]:=by simpa only[Qa,show(0<=p/\p<192) by omega,and_self,if_true]using e);rw[c.1,c.2];exact st_8 p _ _ w h.1 h.2 (λw=>Q1 p w) rfl
 . have e:=of_decide_eq_true (rng 103 3 (λi=>decide (nz [(tbl.getD i Z0).a,(tbl.getD i Z0).b]=[QA (tbl.getD i Z0).nm]/\nz [(tbl.getD i Z0).g]=[QA (tbl.getD i Z0).nm])) (by decide +kernel) p (by omega) (by omega));(have c:nz [(Qa p).a,(Qa p).b]=[QA (Qa p).nm]/\nz [(Qa p).g]=[QA (Qa p).nm]:=by simpa only[Qa,show(0<=p/\p<192) by omega,and_self,if_true]using e);rw[c.1,c.2];exact st_9 p _ _ w h.1 h.2 (λw=>Q1 p w) rfl
 . have e:=of_decide_eq_true (rng 121 3 (λi=>decide (nz [(tbl.getD i Z0).a,(tbl.getD i Z0).b]=[QA (tbl.getD i Z0).nm]/\nz [(tbl.getD i Z0).g]=[QA (tbl.getD i Z0).nm])) (by decide +kernel) p (by omega) (by omega));(have c:nz [(Qa p).a,(Qa p).b]=[QA (Qa p).nm]/\nz [(Qa p).g]=[QA (Qa p).nm]:=by simpa only[Qa,show(0<=p/\p<192) by omega,and_self,if_true]using e);rw[c.1,c.2];exact st_10 p _ _ w h.1 h.2 (λw=>Q1 p w) rfl
 . have e:=of_decide_eq_true (rng 139 7 (λi=>decide (nz [(tbl.getD i Z0).a,(tbl.getD i Z0).b]=[QA (tbl.getD i Z0).nm]/\nz [(tbl.getD i Z0).g]=[QA (tbl.getD i Z0).nm])) (by decide +kernel) p (by omega) (by omega));(have c:nz [(Qa p).a,(Qa p).b]=[QA (Qa p).nm]/\nz [(Qa p).g]=[QA (Qa p).nm]:=by simpa only[Qa,show(0<=p/\p<192) by omega,and_self,if_true]using e);rw[c.1,c.2];exact st_11 p _ _ w h.1 h.2 (λw=>Q1 p w) rfl
 . have e:=of_decide_eq_true (rng 153 7 (λi=>decide (nz [(tbl.getD i Z0).a,(tbl.getD i Z0).b]=[QA (tbl.getD i Z0).nm]/\nz [(tbl.getD i Z0).g]=[QA (tbl.getD i Z0).nm])) (by decide +kernel) p (by omega) (by omega));(have c:nz [(Qa p).a,(Qa p).b]=[QA (Qa p).nm]/\nz [(Qa p).g]=[QA (Qa p).nm]:=by simpa only[Qa,show(0<=p/\p<192) by omega,and_self,if_true]using e);rw[c.1,c.2];exact st_12 p _ _ w h.1 h.2 (λw=>Q1 p w) rfl
 . have e:=of_decide_eq_true (rng 106 15 (λi=>decide (nz [(tbl.getD i Z0).a,(tbl.getD i Z0).b]=[QA (tbl.getD i Z0).nm,QA (tbl.getD i Z0).nm]/\nz [(tbl.getD i Z0).g]=[QA (tbl.getD i Z0).nm])) (by decide +kernel) p (by omega) (by omega));(have c:nz [(Qa p).a,(Qa p).b]=[QA (Qa p).nm,QA (Qa p).nm]/\nz [(Qa p).g]=[QA (Qa p).nm]:=by simpa only[Qa,show(0<=p/\p<192) by omega,and_self,if_true]using e);rw[c.1,c.2];exact st_13 p _ _ w h.1 h.2 (λw=>Q1 p w) rfl
 . have e:=of_decide_eq_true (rng 124 15 (λi=>decide (nz [(tbl.getD i Z0).a,(tbl.getD i Z0).b]=[QA (tbl.getD i Z0).nm,QA (tbl.getD i Z0).nm]/\nz [(tbl.getD i Z0).g]=[QA (tbl.getD i Z0).nm])) (by decide +kernel) p (by omega) (by omega));(have c:nz [(Qa p).a,(Qa p).b]=[QA (Qa p).nm,QA (Qa p).nm]/\nz [(Qa p).g]=[QA (Qa p).nm]:=by simpa only[Qa,show(0<=p/\p<192) by omega,and_self,if_true]using e);rw[c.1,c.2];exact st_14 p _ _ w h.1 h.2 (λw=>Q1 p w) rfl
 . have e:=of_decide_eq_true (rng 146 7 (λi=>decide (nz [(tbl.getD i Z0).a,(tbl.getD i Z0).b]=[QA (tbl.getD i Z0).nm,QA (tbl.getD i Z0).nm]/\nz [(tbl.getD i Z0).g]=[QA (tbl.getD i Z0).nm])) (by decide +kernel) p (by omega) (by omega));(have c:nz [(Qa p).a,(Qa p).b]=[QA (Qa p).nm,QA (Qa p).nm]/\nz [(Qa p).g]=[QA (Qa p).nm]:=by simpa only[Qa,show(0<=p/\p<192) by omega,and_self,if_true]using e);rw[c.1,c.2];exact st_15 p _ _ w h.1 h.2 (λw=>Q1 p w) rfl
 . have e:=of_decide_eq_true (rng 160 7 (λi=>decide (nz [(tbl.getD i Z0).a,(tbl.getD i Z0).b]=[QA (tbl.getD i Z0).nm,QA (tbl.getD i Z0).nm]/\nz [(tbl.getD i Z0).g]=[QA (tbl.getD i Z0).nm])) (by decide +kernel) p (by omega) (by omega));(have c:nz [(Qa p).a,(Qa p).b]=[QA (Qa p).nm,QA (Qa p).nm]/\nz [(Qa p).g]=[QA (Qa p).nm]:=by simpa only[Qa,show(0<=p/\p<192) by omega,and_self,if_true]using e);rw[c.1,c.2];exact st_16 p _ _ w h.1 h.2 (λw=>Q1 p w) rfl
 . have d:=st_17 p _ _ w h (λw=>Q1 p w) rfl;have e:nz [(Qa p).a,(Qa p).b]=[]/\nz [(Qa p).g]=[]:=by
    by_cases s:0<=p
    . have e:=of_decide_eq_true (rng 0 40 (λi=>decide (nz [(tbl.getD i Z0).a,(tbl.getD i Z0).b]=[]/\nz [(tbl.getD i Z0).g]=[])) (by decide +kernel) p (by omega) (by omega));simpa only[Qa,show(0<=p/\p<192) by omega,and_self,if_true]using e
    (have e:Qa p=Z0:=by simp only[Qa,show ¬(0<=p/\p<192) by omega,if_false]);rw[e];decide
   rw[e.1,e.2];exact d
 . (have e:Qa p=Z0:=by simp only[Qa,show ¬(0<=p/\p<192) by omega,if_false]);have d:=st_18 p _ _ w h (λw=>Q1 p w) rfl;rw[e];exact d
 have e:=of_decide_eq_true (rng 167 25 (λi=>decide (nz [(tbl.getD i Z0).a,(tbl.getD i Z0).b]=[QA ((tbl.getD i Z0).nm.extract ((tbl.getD i Z0).nm.data.toList.findIdx (·==95)+1) (tbl.getD i Z0).nm.size)]/\nz [(tbl.getD i Z0).g]=[QA (tbl.getD i Z0).nm]/\(tbl.getD i Z0).nm.data.toList.findIdx (·==95)<(tbl.getD i Z0).nm.size/\(tbl.getD i Z0).nm.size<=100/\(List.range ((tbl.getD i Z0).nm.data.toList.findIdx (·==95))).all (λk=>decide (((tbl.getD i Z0).nm.data.toList.getD k 0).toNat≠95))=true/\((tbl.getD i Z0).nm.data.toList.getD ((tbl.getD i Z0).nm.data.toList.findIdx (·==95)) 0).toNat=95)) (by decide +kernel) p (by omega) (by omega));have er:Qa p=tbl.getD p.toNat Z0:=by simp only[Qa,show(0<=p/\p<192) by omega,and_self,if_true]
 rw[<- er]at e;obtain⟨q,o,n,m,l,j⟩:=e;rw[q,o];refine st_u p _ _ _ _ w h.1 h.2 (λw=>Q1 p w) rfl n m (λk hk=>?_) j rfl;exact of_decide_eq_true (List.all_eq_true.1 l k (by simpa using hk))
theorem FT.shape {C n m:Nat}{p r:Vu}{xs f:List Int}(h:FT w B C p r n m xs f):∃a c d b,p=S a n c/\r=S d m b:=by
 obtain⟨a,c,e⟩:=own_slice h.hp;obtain⟨d,b,g⟩:=own_slice h.hr;exact⟨a,c,d,b,e,g⟩
