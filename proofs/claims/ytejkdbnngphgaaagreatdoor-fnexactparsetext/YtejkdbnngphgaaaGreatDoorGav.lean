import Derived.Test.YtejkdbnngphgaaaGreatDoorGas
import Derived.Deep.CutRange
set_option linter.all false
set_option maxHeartbeats 400000000
set_option maxRecDepth 100000
namespace Go.Proofs
open Value renaming int->U,slice->S,bool->G,string->Xs,agg->Ag
open IntKind renaming i64->O,u64->Ou
open Ending renaming returned->Z
open Obj renaming cells->Fc
open Go renaming World->J,Calls->Ec,Value->Vu,Addr->Ad
open Go.RowKit renaming Below->Bw
open Tryz renaming prog->Q
open Tryz
open Nat renaming zero_le->Hw,zero_add->Kk
open World renaming ownsRow->Lq
open IntKind renaming wrap_i64->Kw,wrap_u64->Kn
open List renaming map_append->Rb,map_cons->Mm,append_nil->Tb,set_cons_zero->Tm,set_cons_succ->Th,append_assoc->Kd,cons_append->Tv,count_append->Tf,count_cons->Hv,length->Hx,getD->Ty,length->N
namespace YtejkdbnngphgaaaGreatDoor.Ms
open Go.RowKit Go.Sort
variable {rs:List Qb}{C:List Vu}{B:Nat}{α:Type}
theorem markI_c (l:List Int)(a:Option Ad)(c:Nat)(b:Int){B w0}{w}(h:Mo B w0 (⟨2,1,N l,S a (N l) c,I (l)⟩::rs) w)(z:0<=b)(h1:b+N l<=1000000000):Ec Q 48 #[S a (N l) c,U O b] w λe w'=>e=Z (U O (b+N l))/\Mo B w0 (⟨2,1,N l,S a (N l) c,I (mkI b (N l))⟩::rs) w':=by
 have H:=Hm h;clear h;go_enter func48,ntmps48;go_wp2_with fail
 go_loopw [1,5] (λkv iv wr=>∃i:Nat,i<=N l/\kv=U O (b+(i:Int))/\iv=U O (i:Int)/\Mo B w0 (⟨2,1,N l,S a (N l) c,I (mkI b i++l.drop i)⟩::rs) wr) (λ_ i _=>N l-(intOf i).toNat)
 case atStart=>exact⟨0,Hw _,by simp,rfl,by simpa[mkI,mkI]using H.o⟩
 obtain⟨i,v,rfl,rfl,f⟩:=hrel;clear H;by_cases n:i<N l
 . (have p:(i:Int)<(N l:Int):=by omega);obtain⟨g,C,hv,-⟩:=QR (show Lq _ B 2 1 (S a (N l) c) (N l) _ from f.own.head) (by omega);injection hv with hv1 _ hv2;subst hv1 hv2;obtain⟨y,m⟩:=drop_at l i n;(have k:(I (mkI b i++l.drop i))[i]?=some (U O y):=by rw[m];simp[I,JW]);obtain⟨D,A⟩:=f.cell (j:=i) (by omega) k;(have s:IntKind.i64.wrap (b+(i:Int)+1)=b+(i:Int)+1:=by rw[Kw];omega);(have q:Hid (Mo B w0 (⟨2,1,N l,S (some ⟨g,0,none⟩) (N l) c,I (mkI b (i+1)++l.drop (i+1))⟩::rs) (wr.setCell ⟨g,i,none⟩ (U O ((b+(i:Int)))))):=by have r:=f.set i (U O ((b+(i:Int))));(have t:(I (mkI b i++l.drop i)).set i (U O ((b+(i:Int))))=I (mkI b (i+1)++l.drop (i+1)):=by rw[m,mkI_succ];simp only[I,Rb,Mm];rw[set_mid _ _ i _ _ (by simp[JW])];simp);rw[t]at r;exact r);clear f m k;(go_wp2_with fail);(go_roundw);(case rel=>exact⟨i+1,by omega,by go_num,by go_num,q.o⟩);case measure=>simp[intOf];omega
 have d:i=N l:=by omega
 have p:¬(i:Int)<(N l:Int):=by omega
 have q:Hid (Mo B w0 (⟨2,1,N l,S a (N l) c,I (mkI b (N l))⟩::rs) wr):=by show Mo _ _ _ _;have:=f;rw[d]at this;simpa using this
 have u:=Hm d;clear f d;go_wp2_with fail
 go_ret;exact⟨by rw[u.o];rfl,q.o⟩
theorem heldI_c (n:Nat)(a:Option Ad)(c:Nat)(b:Int)(B:Nat)(w:J)(h:w.ownsRow B 2 1 (S a n c) n (I (mkI b n)))(p:0<=b)(h1:b+n<=1000000000):Ec Q 58 #[S a n c,U O b] w λe w'=>e=Z (U O (b+n))/\w=w':=by
 have H:=Hm h;clear h;go_enter func58,ntmps58;go_wp2_with fail
 go_loop [1,5] (λkv iv=>∃i:Nat,i<=n/\kv=U O (b+(i:Int))/\iv=U O (i:Int)) (λ_ i=>n-(intOf i).toNat)
 case atStart=>exact⟨0,Hw _,by simp,rfl⟩
 obtain⟨i,m,rfl,rfl⟩:=hrel;by_cases f:i<n
 . (have j:(i:Int)<(n:Int):=by omega);obtain⟨g,q,hv,-⟩:=QR H.o (by omega);injection hv with hv1 _ hv2;subst hv1 hv2;(have r:w.cell? ⟨g,i,none⟩=some (U O ((b+(i:Int)))):=by rw[World.ownsRow.cellAt H.o i (by omega)];simp[I,mkI,mkI,f]);(have k:IntKind.i64.wrap (b+(i:Int)+1)=b+(i:Int)+1:=by rw[Kw];omega);(go_wp2_with fail);(go_round);(case rel=>exact⟨i+1,by omega,by go_num,by go_num⟩);case measure=>simp[intOf];omega
 have d:i=n:=by omega
 have j:¬(i:Int)<(n:Int):=by omega
 have l:=Hm d;clear d;go_wp2_with fail
 go_ret;exact⟨by rw[l.o];rfl,rfl⟩
theorem markB_c (l:List Int)(a:Option Ad)(c:Nat)(b:Int){B w0}{w}(h:Mo B w0 (⟨5,1,N l,S a (N l) c,Uz0 (l)⟩::rs) w)(z:0<=b)(h1:b+N l<=1000000000):Ec Q 9 #[S a (N l) c,U O b] w λe w'=>e=Z (U O (b+N l))/\Mo B w0 (⟨5,1,N l,S a (N l) c,Uz0 (mkB b (N l))⟩::rs) w':=by
 have H:=Hm h;clear h;go_enter func9,ntmps9;go_wp2_with fail
 go_loopw [1,5] (λkv iv wr=>∃i:Nat,i<=N l/\kv=U O (b+(i:Int))/\iv=U O (i:Int)/\Mo B w0 (⟨5,1,N l,S a (N l) c,Uz0 (mkB b i++l.drop i)⟩::rs) wr) (λ_ i _=>N l-(intOf i).toNat)
 case atStart=>exact⟨0,Hw _,by simp,rfl,by simpa[mkB,mkI]using H.o⟩
 obtain⟨i,v,rfl,rfl,f⟩:=hrel;clear H;by_cases n:i<N l
 . (have p:(i:Int)<(N l:Int):=by omega);obtain⟨g,C,hv,-⟩:=QR (show Lq _ B 5 1 (S a (N l) c) (N l) _ from f.own.head) (by omega);injection hv with hv1 _ hv2;subst hv1 hv2;obtain⟨y,m⟩:=drop_at l i n;(have k:(Uz0 (mkB b i++l.drop i))[i]?=some (U .u8 y):=by rw[m];simp[Uz0,mkB_len]);obtain⟨D,A⟩:=f.cell (j:=i) (by omega) k;(have s:IntKind.i64.wrap (b+(i:Int)+1)=b+(i:Int)+1:=by rw[Kw];omega);(have q:Hid (Mo B w0 (⟨5,1,N l,S (some ⟨g,0,none⟩) (N l) c,Uz0 (mkB b (i+1)++l.drop (i+1))⟩::rs) (wr.setCell ⟨g,i,none⟩ (U .u8 ((b+(i:Int))%256)))):=by have r:=f.set i (U .u8 ((b+(i:Int))%256));(have t:(Uz0 (mkB b i++l.drop i)).set i (U .u8 ((b+(i:Int))%256))=Uz0 (mkB b (i+1)++l.drop (i+1)):=by rw[m,mkB_succ];simp only[Uz0,Rb,Mm];rw[set_mid _ _ i _ _ (by simp[mkB_len])];simp);rw[t]at r;exact r);clear f m k;(go_wp2_with fail);(go_roundw);(case rel=>exact⟨i+1,by omega,by go_num,by go_num,q.o⟩);case measure=>simp[intOf];omega
 have d:i=N l:=by omega
 have p:¬(i:Int)<(N l:Int):=by omega
 have q:Hid (Mo B w0 (⟨5,1,N l,S a (N l) c,Uz0 (mkB b (N l))⟩::rs) wr):=by show Mo _ _ _ _;have:=f;rw[d]at this;simpa using this
 have u:=Hm d;clear f d;go_wp2_with fail
 go_ret;exact⟨by rw[u.o];rfl,q.o⟩
theorem heldB_c (n:Nat)(a:Option Ad)(c:Nat)(b:Int)(B:Nat)(w:J)(h:w.ownsRow B 5 1 (S a n c) n (Uz0 (mkB b n)))(p:0<=b)(h1:b+n<=1000000000):Ec Q 135 #[S a n c,U O b] w λe w'=>e=Z (U O (b+n))/\w=w':=by
 have H:=Hm h;clear h;go_enter func135,ntmps135;go_wp2_with fail
 go_loop [1,5] (λkv iv=>∃i:Nat,i<=n/\kv=U O (b+(i:Int))/\iv=U O (i:Int)) (λ_ i=>n-(intOf i).toNat)
 case atStart=>exact⟨0,Hw _,by simp,rfl⟩
 obtain⟨i,m,rfl,rfl⟩:=hrel;by_cases f:i<n
 . (have j:(i:Int)<(n:Int):=by omega);obtain⟨g,q,hv,-⟩:=QR H.o (by omega);injection hv with hv1 _ hv2;subst hv1 hv2;(have r:w.cell? ⟨g,i,none⟩=some (U .u8 ((b+(i:Int))%256)):=by rw[World.ownsRow.cellAt H.o i (by omega)];simp[Uz0,mkB,mkI,f]);(have k:IntKind.i64.wrap (b+(i:Int)+1)=b+(i:Int)+1:=by rw[Kw];omega);(go_wp2_with fail);(go_round);(case rel=>exact⟨i+1,by omega,by go_num,by go_num⟩);case measure=>simp[intOf];omega
 have d:i=n:=by omega
 have j:¬(i:Int)<(n:Int):=by omega
 have l:=Hm d;clear d;go_wp2_with fail
 go_ret;exact⟨by rw[l.o];rfl,rfl⟩
def dgs (n:Int)(t:ByteArray):ByteArray:=if h:0<n then dgs (n / 10) (strOfNums [48+n%10]++t)else t
termination_by n.toNat
decreasing_by omega
def mtx (k:Int):ByteArray:=if k<=0 then⟨#[109,48]⟩else ⟨#[109]⟩++dgs k ⟨#[]⟩
theorem conv_one (W:J)(x:Int):(convert 22 9 (S (some ⟨W.heap.size,0,none⟩) 1 1)).run Q (W.alloc (Fc #[U .u8 x] 5))=.ok (Xs (strOfNums [x])) (W.alloc (Fc #[U .u8 x] 5)):=by
 refine run_convert_bytes_arg _ 22 5 underlying22 underlying5 W.heap.size 0 1 1 [x] rfl (λi hi=>?_) 9 underlying9;obtain rfl:i=0:=by omega
 exact Qn rfl rfl
theorem Xp (k:Int)(w:J)(r:0<=k)(h1:k<=1000000000):Ec Q 130 #[U O k] w λe w'=>e=Z (Xs (mtx k))/\Bw w.heap.size w w':=by
 by_cases d:k<=0
 . (have j:Hid (mtx k=⟨#[109,48]⟩):=by show _=_;rw[mtx,if_pos d]);go_enter func130,ntmps130;go_wp2;go_ret;exact⟨by rw[j.o];rfl,bFz⟩
 have j:Hid (mtx k=⟨#[109]⟩++dgs k ⟨#[]⟩):=by show _=_;rw[mtx,if_neg d]
 go_enter func130,ntmps130;go_wp2;go_loopw [0,3] (λq s wr=>∃(n:Int) (t:ByteArray),0<=n/\n+(t.size:Int)<=1000000000/\q=U O n/\s=Xs t/\dgs k ⟨#[]⟩=dgs n t/\Bw w.heap.size w wr) (λq _ _=>(intOf q).toNat)
 case atStart=>exact⟨k,_,r,by simpa[ByteArray.size]using h1,rfl,rfl,rfl,bFz⟩
 obtain⟨n,t,m,A,rfl,rfl,b,c⟩:=hrel;clear r h1 d;by_cases p:0<n
 . have y:=conv_one wr;(have l:Hid (dgs k ⟨#[]⟩=dgs (n / 10) (strOfNums [48+n%10]++t)):=by show _=_;rw[b,dgs,dif_pos p]);have z:=Hm (c.alloc c.size (Fc #[U .u8 (48+n%10)] 5));(have f:0<=n / 10:=by omega);(have v:n / 10<n:=by omega);have B:Int.tmod n 10=n%10:=Int.tmod_eq_emod_of_nonneg m;have C:Int.tdiv n 10=n / 10:=Int.tdiv_eq_ediv_of_nonneg m;clear c b;(have a:(strOfNums [48+n%10]++t).size=t.size+1:=by simp[strOfNums_size,ByteArray.size_append];omega);(have u:¬9223372036854775807<(strOfNums [48+n%10]).size+t.size:=by rw[strOfNums_size];simp only[List.length_cons,List.length_nil];omega);have g:=Hm a;clear a;go_wp2;(go_roundw);(case rel=>exact⟨n / 10,_,f,by rw[g.o];omega,rfl,rfl,l.o,z.o⟩);case measure=>simp[intOf];omega
 have l:Hid (mtx k=⟨#[109]⟩++t):=by show _=_;rw[j.o,b,dgs,dif_neg p]
 clear b;go_wp2;go_ret;exact⟨by rw[l.o];rfl,c⟩
def mkExp (K:Int)(x:Exp):Exp:=⟨(mtx (K)),(K+1),(K+1+1)⟩
def QP (x:Exp):Nat:=3
def mkImp (K:Int)(x:Imp):Imp:=⟨(mtx (K)),(mtx (K+1)),(K+1+1),(K+1+1+1),⟨(K+1+1+1+1),(K+1+1+1+1+1),((K+1+1+1+1+1+1)%3==0)⟩,⟨(K+1+1+1+1+1+1+1),((K+1+1+1+1+1+1+1+1)%3==0)⟩⟩
def Qr (x:Imp):Nat:=9
theorem markExp_c (l:List Exp)(a:Option Ad)(c:Nat)(C:List Vu)(r:Int){B w0}{w}(h:Mo B w0 (⟨157,3,N l,S a (N l) c,C⟩::rs) w)(d:LR RExp l C [])(h0:0<=r)(h1:r+Qa QP l<=1000000000):Ec Q 51 #[S a (N l) c,U O r] w (MkP RExp (QM mkExp QP r l) [] 157 3 (N l) (S a (N l) c) (r+(Qa QP l:Nat)) B w0 rs):=by
 have H:=Hm h;have q:=Hm d;clear h d;go_enter func51,ntmps51;go_wp2_with fail
 go_loopw [1,5] (λkv iv wr=>∃(X Y:List Exp) (C:List Vu),l=X++Y/\kv=U O (r+(Qa QP X:Nat))/\iv=U O (N X:Int)/\LR RExp (QM mkExp QP r X++Y) C []/\Mo B w0 (⟨157,3,N l,S a (N l) c,C⟩::rs) wr) (λ_ i _=>N l-(intOf i).toNat)
 case atStart=>exact⟨[],l,C,rfl,by simp[Qa],rfl,q.o,H.o⟩
 obtain⟨X,Y,C,p,rfl,rfl,d,y⟩:=hrel;clear H q;have E:=Hm p;have f:N l=N X+N Y:=by rw[p];simp
 have m:Qa QP l=Qa QP X+Qa QP Y:=by rw[p,QS]
 clear p;rcases Y with _|⟨x,Y⟩
 . (have M:¬(N X:Int)<(N l:Int):=by simp at f;omega);(have HE:Hid (l=X):=by show _=_;have:=E.o;simpa using this);have HS:=Hm y;have q:=Hm d;clear y d f m;(go_wp2_with fail);go_ret;refine⟨C,by rw[HE.o];rfl,?_,HS.o⟩;have:=q.o;rw[Tb]at this;rw[HE.o];exact this
 have M:(N X:Int)<(N l:Int):=by simp at f;omega
 obtain⟨c1,cx,c2,k1,kx,k2,rfl,z,R,hx,hY⟩:=LR.zip d;obtain⟨rfl,rfl⟩:=hx;have A:k1=[]/\k2=[]:=by simpa using z.symm
 obtain⟨rfl,rfl⟩:=A;have k:N c1=N X*3:=by rw[LR.len (sz:=3) (by rintro x cs rs ⟨rfl,rfl⟩;rfl) R,Qz]
 obtain⟨g,cc,hv,-⟩:=QR (show Lq _ B 157 3 (S a (N l) c) (N l) _ from y.own.head) (by omega);injection hv with hv1 _ hv2;subst hv1 hv2;have v:QP x=3:=rfl;rw[QK,v]at m;obtain⟨b,n⟩:∃b:Int,b=r+(Qa QP X:Nat):=⟨_,rfl⟩;have aa:0<=b:=by omega
 have V:b+3<=1000000000:=by omega
 have ar:Qa QP X ≥ (N X):=JB (λx=>by simp[QP];try omega) X;have aj:IntKind.i64.wrap ((N X:Int)+1)=(N X:Int)+1:=by rw[Kw];omega
 have I:=Hm n;rw[<- n];clear n z;have aq:IntKind.i64.wrap (b+1)=b+1:=by rw[Kw];omega
 have ao:IntKind.i64.wrap (b+1+1)=b+1+1:=by rw[Kw];omega
 have ak:IntKind.i64.wrap (b+1+1+1)=b+1+1+1:=by rw[Kw];omega
 clear f m v;have F:=Hm y;clear y;go_wp2_with fail
 refine(Xp (b) _ (by omega) (by omega)).mono ?_;rintro e V0 ⟨rfl,D⟩;have s:=F.o.keep D;clear D F;obtain⟨y0,ag⟩:=s.cell (j:=N X*3) (by omega) (QX k rfl);have u:=s.set (N X*3) (Xs (mtx (b)));rw[XA k (by simp)]at u;simp only[Tm,Th]at u;clear s;obtain⟨y1,af⟩:=u.cell (j:=N X*3+1) (by omega) (Qk k (j:=1) rfl);have t:=u.set (N X*3+1) (U O (b+1));rw[Q1 k (j:=1) (by simp)]at t;simp only[Tm,Th]at t;clear u;obtain⟨y2,ae⟩:=t.cell (j:=N X*3+2) (by omega) (Qk k (j:=2) rfl);have L:=t.set (N X*3+2) (U O (b+1+1));rw[Q1 k (j:=2) (by simp)]at L;simp only[Tm,Th]at L;clear t;have HF:=Hm L;have HX:=Hm R;have HY:=Hm hY;clear L R hY d;go_wp2_with fail
 go_roundw
 case rel=>
  refine⟨X++[x],Y,_,by rw[E.o];simp,?_,by rw[show(((X++[x]).length:Nat):Int)=(N X:Int)+1 by simp],?_,HF.o⟩
  . rw[Qw,I.o];rw[show QP x=3 from rfl];congr 1;push_cast;omega
  rw[Jh,Kd];have h9:=LR.app HX.o (LR.app (LR.one (show RExp (mkExp b x) [Xs (mtx (b)),U O (b+1),U O (b+1+1)] []from⟨rfl,rfl⟩)) HY.o);rw[I.o]at h9⊢;exact h9
 have:N X<N l:=by omega
 simp[intOf];omega
theorem JK {c:Int->α->α}{sz:α->Nat}:∀(b a:List α) (k:Int),QM c sz k (b++a)=QM c sz k b++QM c sz (k+Qa sz b) a
 |[],a,k=>by simp[QM,Qa]
 |x::b,a,k=>by
  rw[Tv,QM,JK b a,QM,Tv,QK]
  congr 3
  push_cast;omega
theorem heldL:(∀(l:List Qp) (a:Option Ad) (c:Nat) (C:List Vu) (m:Int) (B:Nat) (w:J) (h:w.ownsRow B 120 3 (S a (N l) c) (N l) C) (f:LR RLim (QM mkLim Qo m l) C []) (M:0<=m) (h1:m+Qa Qo l<=1000000000),Ec Q 59 #[S a (N l) c,U O m] w λe w'=>e=Z (U O (m+(Qa Qo l:Nat)))/\w=w')/\(∀(l:List Grp) (a:Option Ad) (c:Nat) (C:List Vu) (m:Int) (B:Nat) (w:J) (h:w.ownsRow B 206 2 (S a (N l) c) (N l) C) (f:LR RGrp (QM mkGrp QT m l) C []) (M:0<=m) (h1:m+Qa QT l<=1000000000),Ec Q 134 #[S a (N l) c,U O m] w λe w'=>e=Z (U O (m+(Qa QT l:Nat)))/\w=w'):=by
 refine⟨?c0,?c1⟩;case' c0=>have b:=0
 case' c1=>have aa:=0
 all_goals
  intro l a c C m B w h f M h1
  have H:=Hm h;have I:=Hm f;clear h f
  first|(replace b:=b;go_enter func59,ntmps59)|(go_enter func134,ntmps134)
  go_wp2_with fail
  first|(replace b:=b;go_loop [1,5] (λkv iv=>∃(X Y:List Qp),l=X++Y/\kv=U O (m+(Qa Qo X:Nat))/\iv=U O (N X:Int)) (λ_ i=>N l-(intOf i).toNat))|(go_loop [1,5] (λkv iv=>∃(X Y:List Grp),l=X++Y/\kv=U O (m+(Qa QT X:Nat))/\iv=U O (N X:Int)) (λ_ i=>N l-(intOf i).toNat))
  case atStart=>exact⟨[],l,rfl,by simp[Qa],rfl⟩
  case round =>
   obtain⟨X,Y,s,rfl,rfl⟩:=hrel;have t:=Hm s;have r:N l=N X+N Y:=by rw[s];simp
   first|(replace b:=b;have q:Qa Qo l=Qa Qo X+Qa Qo Y:=by rw[s,QS])|(have q:Qa QT l=Qa QT X+Qa QT Y:=by rw[s,QS])
   clear s
   rcases Y with _|⟨x,Y⟩
   . have D:¬(N X:Int)<(N l:Int):=by simp at r;omega
     have HE:Hid (l=X):=by
      show _=_
      have:=t.o;simpa using this
     clear r q
     go_wp2_with fail
     go_ret
     exact⟨by rw[HE.o];rfl,rfl⟩
   . have D:(N X:Int)<(N l:Int):=by simp at r;omega
     have f:=I.o;rw[t.o,JK,QM]at f;obtain⟨c1,cx,c2,k1,kx,k2,u,A,F,hx,hY⟩:=LR.zip f;obtain⟨n,rfl⟩:=hx
     first|(replace b:=b;have p:N c1=N X*3:=by rw[LR.len (sz:=3) (by rintro x cs rs ⟨rfl,rfl⟩;rfl) F,Qz])|(have p:N c1=N X*2:=by rw[LR.len (sz:=2) (by rintro x cs rs ⟨rfl,rfl⟩;rfl) F,Qz])
     obtain⟨g,cc,hv,-⟩:=QR H.o (by omega)
     injection hv with hv1 _ hv2
     subst hv1 hv2
     first|(replace b:=b;have v:Qo x=3:=rfl)|(have v:QT x=2:=rfl)
     rw[QK,v]at q
     first|(replace b:=b;obtain⟨d,k⟩:∃d:Int,d=m+(Qa Qo X:Nat):=⟨_,rfl⟩)|(obtain⟨d,k⟩:∃d:Int,d=m+(Qa QT X:Nat):=⟨_,rfl⟩)
     have L:0<=d:=by omega
     first|(replace b:=b;have y:d+3<=1000000000:=by omega)|(have y:d+2<=1000000000:=by omega)
     first|(replace b:=b;have E:Qa Qo X ≥ (N X):=JB (λx=>by simp[Qo];try omega) X)|(have E:Qa QT X ≥ (N X):=JB (λx=>by simp[QT];try omega) X)
     have ab:IntKind.i64.wrap ((N X:Int)+1)=(N X:Int)+1:=by rw[Kw];omega
     have z:=Hm k;rw[<- k]at n;rw[<- k];clear k A f F hY;have ae:IntKind.i64.wrap (d+1)=d+1:=by rw[Kw];omega
     have ad:IntKind.i64.wrap (d+1+1)=d+1+1:=by rw[Kw];omega
     first
     | (
      replace b:=b;have ac:IntKind.i64.wrap (d+1+1+1)=d+1+1+1:=by rw[Kw];omega)
     |skip
     first
     | (
      replace b:=b;have V:w.cell? ⟨g,N X*3,none⟩=some (U O (d)):=(World.ownsRow.cellAt H.o (N X*3) (by omega)).trans (by rw[u,n];exact QX p rfl))
     |skip
     first|(replace b:=b;have R:w.cell? ⟨g,N X*3+1,none⟩=some (U O (d+1)):=(World.ownsRow.cellAt H.o (N X*3+1) (by omega)).trans (by rw[u,n];exact Qk p (j:=1) rfl))|(have V:w.cell? ⟨g,N X*2,none⟩=some (U O (d)):=(World.ownsRow.cellAt H.o (N X*2) (by omega)).trans (by rw[u,n];exact QX p rfl))
     first|(replace b:=b;have y2:w.cell? ⟨g,N X*3+2,none⟩=some (G ((d+1+1)%3==0)):=(World.ownsRow.cellAt H.o (N X*3+2) (by omega)).trans (by rw[u,n];exact Qk p (j:=2) rfl))|(have R:w.cell? ⟨g,N X*2+1,none⟩=some (U O (d+1)):=(World.ownsRow.cellAt H.o (N X*2+1) (by omega)).trans (by rw[u,n];exact Qk p (j:=1) rfl))
     clear u n p
     go_wp2_with fail
     go_round
     case rel =>
      refine⟨X++[x],Y,by rw[t.o];simp,?_,by rw[show(((X++[x]).length:Nat):Int)=(N X:Int)+1 by simp]⟩
      first|(replace b:=b;rw[Qw,z.o];rw[show Qo x=3 from rfl];congr 1;push_cast;omega)|(rw[Qw,z.o];rw[show QT x=2 from rfl];congr 1;push_cast;omega)
     case measure =>
      have:N X<N l:=by omega
      simp[intOf];omega
def heldLim_c:=heldL.1
def heldGrp_c:=heldL.2
theorem markImp_c (l:List Imp)(a:Option Ad)(c:Nat)(C:List Vu)(D:Int){B w0}{w}(h:Mo B w0 (⟨143,9,N l,S a (N l) c,C⟩::rs) w)(p:LR RImp l C [])(h0:0<=D)(h1:D+Qa Qr l<=1000000000):Ec Q 47 #[S a (N l) c,U O D] w (MkP RImp (QM mkImp Qr D l) [] 143 9 (N l) (S a (N l) c) (D+(Qa Qr l:Nat)) B w0 rs):=by
 have H:=Hm h;have A:=Hm p;clear h p;go_enter func47,ntmps47;go_wp2_with fail
 go_loopw [1,5] (λkv iv wr=>∃(X Y:List Imp) (C:List Vu),l=X++Y/\kv=U O (D+(Qa Qr X:Nat))/\iv=U O (N X:Int)/\LR RImp (QM mkImp Qr D X++Y) C []/\Mo B w0 (⟨143,9,N l,S a (N l) c,C⟩::rs) wr) (λ_ i _=>N l-(intOf i).toNat)
 case atStart=>exact⟨[],l,C,rfl,by simp[Qa],rfl,A.o,H.o⟩
 obtain⟨X,Y,C,v,rfl,rfl,p,F⟩:=hrel;clear H A;have R:=Hm v;have q:N l=N X+N Y:=by rw[v];simp
 have r:Qa Qr l=Qa Qr X+Qa Qr Y:=by rw[v,QS]
 clear v;rcases Y with _|⟨x,Y⟩
 . (have aj:¬(N X:Int)<(N l:Int):=by simp at q;omega);(have HE:Hid (l=X):=by show _=_;have:=R.o;simpa using this);have f:=Hm F;have A:=Hm p;clear F p q r;(go_wp2_with fail);go_ret;refine⟨C,by rw[HE.o];rfl,?_,f.o⟩;have:=A.o;rw[Tb]at this;rw[HE.o];exact this
 have aj:(N X:Int)<(N l:Int):=by simp at q;omega
 obtain⟨u,cx,z,k1,kx,k2,rfl,I,hX,hx,hY⟩:=LR.zip p;obtain⟨rfl,rfl⟩:=hx;have L:k1=[]/\k2=[]:=by simpa using I.symm
 obtain⟨rfl,rfl⟩:=L;have d:N u=N X*9:=by rw[LR.len (sz:=9) (by rintro x cs rs ⟨rfl,rfl⟩;rfl) hX,Qz]
 obtain⟨g,cc,hv,-⟩:=QR (show Lq _ B 143 9 (S a (N l) c) (N l) _ from F.own.head) (by omega);injection hv with hv1 _ hv2;subst hv1 hv2;have E:Qr x=9:=rfl;rw[QK,E]at r;obtain⟨b,s⟩:∃b:Int,b=D+(Qa Qr X:Nat):=⟨_,rfl⟩;have aq:0<=b:=by omega
 have ao:b+9<=1000000000:=by omega
 have az:Qa Qr X ≥ (N X):=JB (λx=>by simp[Qr];try omega) X;have ay:IntKind.i64.wrap ((N X:Int)+1)=(N X:Int)+1:=by rw[Kw];omega
 have aa:=Hm s;rw[<- s];clear s I;have ai:IntKind.i64.wrap (b+1)=b+1:=by rw[Kw];omega
 have ah:IntKind.i64.wrap (b+1+1)=b+1+1:=by rw[Kw];omega
 have ag:IntKind.i64.wrap (b+1+1+1)=b+1+1+1:=by rw[Kw];omega
 have af:IntKind.i64.wrap (b+1+1+1+1)=b+1+1+1+1:=by rw[Kw];omega
 have ae:IntKind.i64.wrap (b+1+1+1+1+1)=b+1+1+1+1+1:=by rw[Kw];omega
 have ad:IntKind.i64.wrap (b+1+1+1+1+1+1)=b+1+1+1+1+1+1:=by rw[Kw];omega
 have ac:IntKind.i64.wrap (b+1+1+1+1+1+1+1)=b+1+1+1+1+1+1+1:=by rw[Kw];omega
 have ab:IntKind.i64.wrap (b+1+1+1+1+1+1+1+1)=b+1+1+1+1+1+1+1+1:=by rw[Kw];omega
 clear q r E;have m:=F;clear F;clear ai;clear ah;clear ag;clear af;clear ae;clear ad;clear ac;clear ab;have V:=Hm m;clear m;go_wp2_with fail
 refine(Xp (b) _ (by omega) (by omega)).mono ?_;rintro e a1 ⟨rfl,M⟩;have m:=V.o.keep M;clear M V;obtain⟨y,k⟩:=m.cell (j:=N X*9) (by omega) (QX d rfl);have t:=m.set (N X*9) (Xs (mtx (b)));rw[XA d (by simp)]at t;simp only[Tm,Th]at t;have f:=Hm t;clear t m;go_upto_region 5 with fail
 refine Qh (λW=>Mo B w0 (⟨143,9,N l,S (some ⟨g,0,none⟩) (N l) c,u++([Xs (mtx (b)),Xs x.nm,U O x.kind,U O x.ty,U O x.lim.min,U O x.lim.max,G x.lim.has,U O x.gl.ty,G x.gl.mu]++z)⟩::rs) W) f.o ?_;rintro V0 m;clear f y k;have n:IntKind.i64.wrap (b+1)=b+1:=by rw[Kw];omega
 go_upto_region 6 with fail
 clear n;have V:=Hm m;clear m;go_wp2_with fail
 refine(Xp (b+1) _ (by omega) (by omega)).mono ?_;rintro e a0 ⟨rfl,M⟩;have m:=V.o.keep M;clear M V;obtain⟨y,k⟩:=m.cell (j:=N X*9+1) (by omega) (Qk d (j:=1) rfl);have t:=m.set (N X*9+1) (Xs (mtx (b+1)));rw[Q1 d (j:=1) (by simp)]at t;simp only[Tm,Th]at t;have f:=Hm t;clear t m;go_upto_region 7 with fail
 refine Qh (λW=>Mo B w0 (⟨143,9,N l,S (some ⟨g,0,none⟩) (N l) c,u++([Xs (mtx (b)),Xs (mtx (b+1)),U O x.kind,U O x.ty,U O x.lim.min,U O x.lim.max,G x.lim.has,U O x.gl.ty,G x.gl.mu]++z)⟩::rs) W) f.o ?_;rintro V1 m;clear f y k;have n:IntKind.i64.wrap (b+1+1)=b+1+1:=by rw[Kw];omega
 go_upto_region 8 with fail
 clear n;obtain⟨y,k⟩:=m.cell (j:=N X*9+2) (by omega) (Qk d (j:=2) rfl);have t:=m.set (N X*9+2) (U O (b+1+1));rw[Q1 d (j:=2) (by simp)]at t;simp only[Tm,Th]at t;have f:=Hm t;clear t m;go_upto_region 9 with fail
 refine Qh (λW=>Mo B w0 (⟨143,9,N l,S (some ⟨g,0,none⟩) (N l) c,u++([Xs (mtx (b)),Xs (mtx (b+1)),U O (b+1+1),U O x.ty,U O x.lim.min,U O x.lim.max,G x.lim.has,U O x.gl.ty,G x.gl.mu]++z)⟩::rs) W) f.o ?_;rintro V2 m;clear f y k;have n:IntKind.i64.wrap (b+1+1+1)=b+1+1+1:=by rw[Kw];omega
 go_upto_region 10 with fail
 clear n;obtain⟨y,k⟩:=m.cell (j:=N X*9+3) (by omega) (Qk d (j:=3) rfl);have t:=m.set (N X*9+3) (U O (b+1+1+1));rw[Q1 d (j:=3) (by simp)]at t;simp only[Tm,Th]at t;have f:=Hm t;clear t m;go_upto_region 11 with fail
 refine Qh (λW=>Mo B w0 (⟨143,9,N l,S (some ⟨g,0,none⟩) (N l) c,u++([Xs (mtx (b)),Xs (mtx (b+1)),U O (b+1+1),U O (b+1+1+1),U O x.lim.min,U O x.lim.max,G x.lim.has,U O x.gl.ty,G x.gl.mu]++z)⟩::rs) W) f.o ?_;rintro V3 m;clear f y k;have n:IntKind.i64.wrap (b+1+1+1+1)=b+1+1+1+1:=by rw[Kw];omega
 go_upto_region 12 with fail
 clear n;obtain⟨y,k⟩:=m.cell (j:=N X*9+4) (by omega) (Qk d (j:=4) rfl);have t:=m.set (N X*9+4) (U O (b+1+1+1+1));rw[Q1 d (j:=4) (by simp)]at t;simp only[Tm,Th]at t;have f:=Hm t;clear t m;go_upto_region 13 with fail
 refine Qh (λW=>Mo B w0 (⟨143,9,N l,S (some ⟨g,0,none⟩) (N l) c,u++([Xs (mtx (b)),Xs (mtx (b+1)),U O (b+1+1),U O (b+1+1+1),U O (b+1+1+1+1),U O x.lim.max,G x.lim.has,U O x.gl.ty,G x.gl.mu]++z)⟩::rs) W) f.o ?_;rintro V4 m;clear f y k;have n:IntKind.i64.wrap (b+1+1+1+1+1)=b+1+1+1+1+1:=by rw[Kw];omega
 go_upto_region 14 with fail
 clear n;obtain⟨y,k⟩:=m.cell (j:=N X*9+5) (by omega) (Qk d (j:=5) rfl);have t:=m.set (N X*9+5) (U O (b+1+1+1+1+1));rw[Q1 d (j:=5) (by simp)]at t;simp only[Tm,Th]at t;have f:=Hm t;clear t m;go_upto_region 15 with fail
 refine Qh (λW=>Mo B w0 (⟨143,9,N l,S (some ⟨g,0,none⟩) (N l) c,u++([Xs (mtx (b)),Xs (mtx (b+1)),U O (b+1+1),U O (b+1+1+1),U O (b+1+1+1+1),U O (b+1+1+1+1+1),G x.lim.has,U O x.gl.ty,G x.gl.mu]++z)⟩::rs) W) f.o ?_;rintro V5 m;clear f y k;have n:IntKind.i64.wrap (b+1+1+1+1+1+1)=b+1+1+1+1+1+1:=by rw[Kw];omega
 go_upto_region 16 with fail
 clear n;obtain⟨y,k⟩:=m.cell (j:=N X*9+6) (by omega) (Qk d (j:=6) rfl);have t:=m.set (N X*9+6) (G ((b+1+1+1+1+1+1)%3==0));rw[Q1 d (j:=6) (by simp)]at t;simp only[Tm,Th]at t;have f:=Hm t;clear t m;go_upto_region 17 with fail
 refine Qh (λW=>Mo B w0 (⟨143,9,N l,S (some ⟨g,0,none⟩) (N l) c,u++([Xs (mtx (b)),Xs (mtx (b+1)),U O (b+1+1),U O (b+1+1+1),U O (b+1+1+1+1),U O (b+1+1+1+1+1),G ((b+1+1+1+1+1+1)%3==0),U O x.gl.ty,G x.gl.mu]++z)⟩::rs) W) f.o ?_;rintro V6 m;clear f y k;have n:IntKind.i64.wrap (b+1+1+1+1+1+1+1)=b+1+1+1+1+1+1+1:=by rw[Kw];omega
 go_upto_region 18 with fail
 clear n;obtain⟨y,k⟩:=m.cell (j:=N X*9+7) (by omega) (Qk d (j:=7) rfl);have t:=m.set (N X*9+7) (U O (b+1+1+1+1+1+1+1));rw[Q1 d (j:=7) (by simp)]at t;simp only[Tm,Th]at t;have f:=Hm t;clear t m;go_upto_region 19 with fail
 refine Qh (λW=>Mo B w0 (⟨143,9,N l,S (some ⟨g,0,none⟩) (N l) c,u++([Xs (mtx (b)),Xs (mtx (b+1)),U O (b+1+1),U O (b+1+1+1),U O (b+1+1+1+1),U O (b+1+1+1+1+1),G ((b+1+1+1+1+1+1)%3==0),U O (b+1+1+1+1+1+1+1),G x.gl.mu]++z)⟩::rs) W) f.o ?_;rintro V7 m;clear f y k;have n:IntKind.i64.wrap (b+1+1+1+1+1+1+1+1)=b+1+1+1+1+1+1+1+1:=by rw[Kw];omega
 go_upto_region 20 with fail
 clear n;obtain⟨y,k⟩:=m.cell (j:=N X*9+8) (by omega) (Qk d (j:=8) rfl);have t:=m.set (N X*9+8) (G ((b+1+1+1+1+1+1+1+1)%3==0));rw[Q1 d (j:=8) (by simp)]at t;simp only[Tm,Th]at t;have f:=Hm t;clear t m;go_upto_region 21 with fail
 refine Qh (λW=>Mo B w0 (⟨143,9,N l,S (some ⟨g,0,none⟩) (N l) c,u++([Xs (mtx (b)),Xs (mtx (b+1)),U O (b+1+1),U O (b+1+1+1),U O (b+1+1+1+1),U O (b+1+1+1+1+1),G ((b+1+1+1+1+1+1)%3==0),U O (b+1+1+1+1+1+1+1),G ((b+1+1+1+1+1+1+1+1)%3==0)]++z)⟩::rs) W) f.o ?_;rintro V8 m;clear f y k;have n:IntKind.i64.wrap (b+1+1+1+1+1+1+1+1+1)=b+1+1+1+1+1+1+1+1+1:=by rw[Kw];omega
 go_upto_region 3 with fail
 clear n;have HF:=Hm m;have HX:=Hm hX;have HY:=Hm hY;clear m hX hY p;go_wp2_with fail
 go_roundw
 case rel=>
  refine⟨X++[x],Y,_,by rw[R.o];simp,?_,by rw[show(((X++[x]).length:Nat):Int)=(N X:Int)+1 by simp],?_,HF.o⟩
  . rw[Qw,aa.o];rw[show Qr x=9 from rfl];congr 1;push_cast;omega
  rw[Jh,Kd];have h9:=LR.app HX.o (LR.app (LR.one (show RImp (mkImp b x) [Xs (mtx (b)),Xs (mtx (b+1)),U O (b+1+1),U O (b+1+1+1),U O (b+1+1+1+1),U O (b+1+1+1+1+1),G ((b+1+1+1+1+1+1)%3==0),U O (b+1+1+1+1+1+1+1),G ((b+1+1+1+1+1+1+1+1)%3==0)] []from⟨rfl,rfl⟩)) HY.o);rw[aa.o]at h9⊢;exact h9
 have:N X<N l:=by omega
 simp[intOf];omega
def MkQ {α:Type}(Rep:α->List Vu->List Qb->Prop)(l:List α)(T sz n:Nat)(v:Vu)(k:Int)(B:Nat)(w0:J)(rs:List Qb)(e:Ending)(w':J):Prop:=∃C K,e=Z (U O k)/\LR Rep l C K/\Mo B w0 (⟨T,sz,n,v,C⟩::(K++rs)) w'
theorem Qf {B w}{T sz n:Nat}{v:Vu}{cs:List Vu}(h:Qb.Ok B w ⟨T,sz,n,v,cs⟩):∃a d,v=S a n d:=by
 rcases h.2 with ⟨e,c⟩|⟨g,j,f,hv,-⟩
 . have b:n=0:=c;subst b;exact⟨_,_,e⟩
 exact⟨_,_,hv⟩
theorem pm_out (m s:α)(d p b q c r:List α):(m::((d++((p++(s::(b++q)))++c))++r)).Perm (s::(b++(m::((d++((p++q)++c))++r)))):=by
 classical
 refine List.perm_iff_count.2 λa=>?_;simp only[Tf,Hv];omega
theorem JC (m s:α)(d p b c r:List α):(m::((d++((p++(s::b))++c))++r)).Perm (s::(b++(m::((d++(p++c))++r)))):=by
 classical
 refine List.perm_iff_count.2 λa=>?_;simp only[Tf,Hv];omega
theorem len_RIn:∀(x:In) a rs,RIn x a rs->N a=5:=by
 rintro x a rs ⟨v,rfl,rfl⟩;rfl
theorem len_RFT:∀(x:QE) a rs,RFT x a rs->N a=2:=by
 rintro x a rs ⟨v,b,rfl,rfl⟩;rfl
theorem len_RCus:∀(x:Cus) a rs,RCus x a rs->N a=3:=by
 rintro x a rs ⟨v,rfl,rfl⟩;rfl
theorem len_RGlob:∀(x:Q6) a rs,RGlob x a rs->N a=3:=by
 rintro x a rs ⟨v,rfl,h⟩;rfl
theorem len_REle:∀(x:Ele) a rs,REle x a rs->N a=2:=by
 rintro x a rs ⟨v,b,c,rfl,h,rfl⟩;rfl
theorem len_RDat:∀(x:Dat) a rs,RDat x a rs->N a=2:=by
 rintro x a rs ⟨v,b,c,rfl,h,rfl⟩;rfl
theorem len_RCod:∀(x:Cod) a rs,RCod x a rs->N a=2:=by
 rintro x a rs ⟨v,c,b,d,rfl,g,f,rfl⟩;rfl
def mkIn (K:Int)(x:In):In:=⟨(K),(K+1),(K+1+1),(K+1+1+1),(mkI (K+1+1+1+1) (N x.l))⟩
def QC (x:In):Nat:=4+Hx x.l
def mkFT (K:Int)(x:QE):QE:=⟨(mkI (K) (N x.ps)),(mkI (K+(Hx x.ps:Nat)) (N x.rs))⟩
def QH (x:QE):Nat:=0+Hx x.ps+Hx x.rs
def mkCus (K:Int)(x:Cus):Cus:=⟨(K),(mtx (K+1)),(mkB (K+1+1) (N x.bs))⟩
def Jf (x:Cus):Nat:=2+Hx x.bs
def mkGlob (K:Int)(x:Q6):Q6:=⟨⟨(K),((K+1)%3==0)⟩,(QM mkIn QC (K+1+1) x.ini)⟩
def Qy (x:Q6):Nat:=2+Qa QC x.ini
def mkEle (K:Int)(x:Ele):Ele:=⟨(QM mkIn QC (K) x.off),(mkI (K+(Qa QC x.off:Nat)) (N x.fs))⟩
def QZ (x:Ele):Nat:=0+Qa QC x.off+Hx x.fs
def mkCod (K:Int)(x:Cod):Cod:=⟨(QM mkGrp QT (K) x.gv),(QM mkIn QC (K+(Qa QT x.gv:Nat)) x.body)⟩
def Q2 (x:Cod):Nat:=0+Qa QT x.gv+Qa QC x.body
def mkDat (K:Int)(x:Dat):Dat:=⟨(QM mkIn QC (K) x.off),(mkB (K+(Qa QC x.off:Nat)) (N x.bs))⟩
def Q7 (x:Dat):Nat:=0+Qa QC x.off+Hx x.bs
theorem markIn_c (l:List In)(a:Option Ad)(c:Nat)(C:List Vu)(K:List Qb)(R:Int){B w0}{w}(h:Mo B w0 (⟨70,5,N l,S a (N l) c,C⟩::(K++rs)) w)(p:LR RIn l C K)(hn:N l<=1000000000)(h0:0<=R)(h1:R+Qa QC l<=1000000000):Ec Q 131 #[S a (N l) c,U O R] w (MkQ RIn (QM mkIn QC R l) 70 5 (N l) (S a (N l) c) (R+(Qa QC l:Nat)) B w0 rs):=by
 have H:=Hm h;have F:=Hm p;clear h p;go_enter func131,ntmps131;go_wp2_with fail
 go_loopw [1,5] (λkv iv wr=>∃(X Y:List In) (C:List Vu) (K:List Qb),l=X++Y/\kv=U O (R+(Qa QC X:Nat))/\iv=U O (N X:Int)/\LR RIn (QM mkIn QC R X++Y) C K/\Mo B w0 (⟨70,5,N l,S a (N l) c,C⟩::(K++rs)) wr) (λ_ i _=>N l-(intOf i).toNat)
 case atStart=>exact⟨[],l,C,K,rfl,by simp[Qa],rfl,F.o,H.o⟩
 obtain⟨X,Y,C,K,D,rfl,rfl,p,hs⟩:=hrel;clear H F;have ad:=Hm D;have q:N l=N X+N Y:=by rw[D];simp
 have u:Qa QC l=Qa QC X+Qa QC Y:=by rw[D,QS]
 clear D;rcases Y with _|⟨x,Y⟩
 . (have af:¬(N X:Int)<(N l:Int):=by simp at q;omega);(have HE:Hid (l=X):=by show _=_;have:=ad.o;simpa using this);have s:=Hm hs;have F:=Hm p;clear hs p q u;(go_wp2_with fail);go_ret;refine⟨C,K,by rw[HE.o];rfl,?_,s.o⟩;have:=F.o;rw[Tb]at this;rw[HE.o];exact this
 have af:(N X:Int)<(N l:Int):=by simp at q;omega
 obtain⟨E,cx,V,M,kx,L,rfl,rfl,hX,hx,hY⟩:=LR.zip p;obtain⟨v4,rfl,rfl⟩:=hx;have f:N E=N X*5:=by rw[LR.len (sz:=5) len_RIn hX,Qz]
 obtain⟨g,cc,hv,-⟩:=QR (show Lq _ B 70 5 (S a (N l) c) (N l) _ from hs.own.head) (by omega);injection hv with hv1 _ hv2;subst hv1 hv2;obtain⟨n,k,rfl⟩:∃a' d',v4=S a' (N x.l) d':=Qf (hs.row (r:=⟨2,1,N x.l,v4,I x.l⟩) (by simp[nR,bR]));have ac:QC x=4+Hx x.l:=rfl;rw[QK,ac]at u;obtain⟨d,z⟩:∃d:Int,d=R+(Qa QC X:Nat):=⟨_,rfl⟩;have ak:0<=d:=by omega
 have aj:d+4+(N x.l:Int)<=1000000000:=by omega
 have au:IntKind.i64.wrap ((N X:Int)+1)=(N X:Int)+1:=by rw[Kw];omega
 have ae:=Hm z;rw[<- z];clear z;clear q u ac p;have HX:=Hm hX;have HY:=Hm hY;clear hX hY;have m:Mo B w0 (⟨70,5,N l,S (some ⟨g,0,none⟩) (N l) c,E++([U O x.op,U O x.a,U O x.b,U Ou x.v,(S n (N x.l) k)]++V)⟩::((M++([⟨2,1,N x.l,(S n (N x.l) k),I x.l⟩]++L))++rs)) wr:=hs;clear hs;obtain⟨y,A⟩:=m.cell (j:=N X*5) (by omega) (QX f rfl);have t:=m.set (N X*5) (U O (d));rw[XA f (by simp)]at t;simp only[Tm,Th]at t;have s:=Hm t;clear t m;go_upto_region 5 with fail
 refine Qh (λW=>Mo B w0 (⟨70,5,N l,S (some ⟨g,0,none⟩) (N l) c,E++([U O (d),U O x.a,U O x.b,U Ou x.v,(S n (N x.l) k)]++V)⟩::((M++([⟨2,1,N x.l,(S n (N x.l) k),I x.l⟩]++L))++rs)) W) s.o ?_;rintro V0 m;clear s y A;have hw:IntKind.i64.wrap (d+1)=d+1:=by rw[Kw];omega
 go_upto_region 6 with fail
 clear hw;obtain⟨y,A⟩:=m.cell (j:=N X*5+1) (by omega) (Qk f (j:=1) rfl);have t:=m.set (N X*5+1) (U O (d+1));rw[Q1 f (j:=1) (by simp)]at t;simp only[Tm,Th]at t;have s:=Hm t;clear t m;go_upto_region 7 with fail
 refine Qh (λW=>Mo B w0 (⟨70,5,N l,S (some ⟨g,0,none⟩) (N l) c,E++([U O (d),U O (d+1),U O x.b,U Ou x.v,(S n (N x.l) k)]++V)⟩::((M++([⟨2,1,N x.l,(S n (N x.l) k),I x.l⟩]++L))++rs)) W) s.o ?_;rintro V1 m;clear s y A;have hw:IntKind.i64.wrap (d+1+1)=d+1+1:=by rw[Kw];omega
 go_upto_region 8 with fail
 clear hw;obtain⟨y,A⟩:=m.cell (j:=N X*5+2) (by omega) (Qk f (j:=2) rfl);have t:=m.set (N X*5+2) (U O (d+1+1));rw[Q1 f (j:=2) (by simp)]at t;simp only[Tm,Th]at t;have s:=Hm t;clear t m;go_upto_region 9 with fail
 refine Qh (λW=>Mo B w0 (⟨70,5,N l,S (some ⟨g,0,none⟩) (N l) c,E++([U O (d),U O (d+1),U O (d+1+1),U Ou x.v,(S n (N x.l) k)]++V)⟩::((M++([⟨2,1,N x.l,(S n (N x.l) k),I x.l⟩]++L))++rs)) W) s.o ?_;rintro V2 m;clear s y A;have hw:IntKind.i64.wrap (d+1+1+1)=d+1+1+1:=by rw[Kw];omega
 go_upto_region 10 with fail
 clear hw;have hu:IntKind.u64.wrap (d+1+1+1)=d+1+1+1:=by rw[Kn];omega
 obtain⟨y,A⟩:=m.cell (j:=N X*5+3) (by omega) (Qk f (j:=3) rfl);have t:=m.set (N X*5+3) (U Ou (d+1+1+1));rw[Q1 f (j:=3) (by simp)]at t;simp only[Tm,Th]at t;have s:=Hm t;clear t m;go_upto_region 11 with fail
 refine Qh (λW=>Mo B w0 (⟨70,5,N l,S (some ⟨g,0,none⟩) (N l) c,E++([U O (d),U O (d+1),U O (d+1+1),U Ou (d+1+1+1),(S n (N x.l) k)]++V)⟩::((M++([⟨2,1,N x.l,(S n (N x.l) k),I x.l⟩]++L))++rs)) W) s.o ?_;rintro V3 m;clear s y A;have hw:IntKind.i64.wrap (d+1+1+1+1)=d+1+1+1+1:=by rw[Kw];omega
 go_upto_region 12 with fail
 clear hw;obtain⟨y,A⟩:=m.cell (j:=N X*5+4) (by omega) (Qk f (j:=4) rfl);have HP:=Hm (m.perm (JC (⟨70,5,N l,S (some ⟨g,0,none⟩) (N l) c,E++([U O (d),U O (d+1),U O (d+1+1),U Ou (d+1+1+1),(S n (N x.l) k)]++V)⟩) (⟨2,1,N x.l,(S n (N x.l) k),I x.l⟩) M [] [] L rs));clear m;go_wp2_with fail
 refine(markI_c x.l n k (d+1+1+1+1) HP.o (by omega) (by omega)).mono ?_;rintro e V4 ⟨rfl,mp⟩;have m:Mo B w0 (⟨70,5,N l,S (some ⟨g,0,none⟩) (N l) c,E++([U O (d),U O (d+1),U O (d+1+1),U Ou (d+1+1+1),(S n (N x.l) k)]++V)⟩::((M++([⟨2,1,N x.l,(S n (N x.l) k),I (mkI (d+1+1+1+1) (N x.l))⟩]++L))++rs)) V4:=mp.perm (JC (⟨70,5,N l,S (some ⟨g,0,none⟩) (N l) c,E++([U O (d),U O (d+1),U O (d+1+1),U Ou (d+1+1+1),(S n (N x.l) k)]++V)⟩) (⟨2,1,N x.l,(S n (N x.l) k),I (mkI (d+1+1+1+1) (N x.l))⟩) M [] [] L rs).symm;clear mp HP y A;go_upto_region 3 with fail
 have HF:=Hm m;clear m;go_wp2_with fail
 go_roundw
 case rel=>
  refine⟨X++[x],Y,_,_,by rw[ad.o];simp,?_,by rw[show(((X++[x]).length:Nat):Int)=(N X:Int)+1 by simp],?_,HF.o⟩
  . rw[Qw,ae.o];rw[show QC x=4+Hx x.l from rfl];congr 1;push_cast;omega
  rw[Jh,Kd];have hr:RIn (mkIn d x) [U O (d),U O (d+1),U O (d+1+1),U Ou (d+1+1+1),(S n (N x.l) k)] [⟨2,1,N x.l,(S n (N x.l) k),I (mkI (d+1+1+1+1) (N x.l))⟩]:=⟨_,rfl,by simp[nR,JW,mkIn]⟩;have h9:=LR.app HX.o (LR.app (LR.one hr) HY.o);rw[<- ae.o];exact h9
 have:N X<N l:=by omega
 simp[intOf];omega
theorem markGlob_c (l:List Q6)(a:Option Ad)(c:Nat)(C:List Vu)(K:List Qb)(D:Int){B w0}{w}(h:Mo B w0 (⟨76,3,N l,S a (N l) c,C⟩::(K++rs)) w)(d:LR RGlob l C K)(hn:N l<=1000000000)(h0:0<=D)(h1:D+Qa Qy l<=1000000000):Ec Q 50 #[S a (N l) c,U O D] w (MkQ RGlob (QM mkGlob Qy D l) 76 3 (N l) (S a (N l) c) (D+(Qa Qy l:Nat)) B w0 rs):=by
 have H:=Hm h;have A:=Hm d;clear h d;go_enter func50,ntmps50;go_wp2_with fail
 go_loopw [1,5] (λkv iv wr=>∃(X Y:List Q6) (C:List Vu) (K:List Qb),l=X++Y/\kv=U O (D+(Qa Qy X:Nat))/\iv=U O (N X:Int)/\LR RGlob (QM mkGlob Qy D X++Y) C K/\Mo B w0 (⟨76,3,N l,S a (N l) c,C⟩::(K++rs)) wr) (λ_ i _=>N l-(intOf i).toNat)
 case atStart=>exact⟨[],l,C,K,rfl,by simp[Qa],rfl,A.o,H.o⟩
 obtain⟨X,Y,C,K,v,rfl,rfl,d,M⟩:=hrel;clear H A;have ad:=Hm v;have n:N l=N X+N Y:=by rw[v];simp
 have p:Qa Qy l=Qa Qy X+Qa Qy Y:=by rw[v,QS]
 clear v;rcases Y with _|⟨x,Y⟩
 . (have ah:¬(N X:Int)<(N l:Int):=by simp at n;omega);(have HE:Hid (l=X):=by show _=_;have:=ad.o;simpa using this);have F:=Hm M;have A:=Hm d;clear M d n p;(go_wp2_with fail);go_ret;refine⟨C,K,by rw[HE.o];rfl,?_,F.o⟩;have:=A.o;rw[Tb]at this;rw[HE.o];exact this
 have ah:(N X:Int)<(N l:Int):=by simp at n;omega
 obtain⟨E,cx,R,L,kx,I,rfl,rfl,hX,hx,hY⟩:=LR.zip d;obtain⟨v2,rfl,cI,kI,hI,rfl⟩:=hx;have s:N E=N X*3:=by rw[LR.len (sz:=3) len_RGlob hX,Qz]
 obtain⟨g,cc,hv,-⟩:=QR (show Lq _ B 76 3 (S a (N l) c) (N l) _ from M.own.head) (by omega);injection hv with hv1 _ hv2;subst hv1 hv2;obtain⟨k,f,rfl⟩:∃a' d',v2=S a' (N x.ini) d':=Qf (M.row (r:=⟨70,5,N x.ini,v2,cI⟩) (by simp[nR,bR]));have aa:Qy x=2+Qa QC x.ini:=rfl;rw[QK,aa]at p;obtain⟨b,q⟩:∃b:Int,b=D+(Qa Qy X:Nat):=⟨_,rfl⟩;have au:0<=b:=by omega
 have ar:b+2+((Qa QC x.ini:Nat):Int)<=1000000000:=by omega
 have az:IntKind.i64.wrap ((N X:Int)+1)=(N X:Int)+1:=by rw[Kw];omega
 have ae:=Hm q;rw[<- q];clear q;clear n p aa d;have HX:=Hm hX;have HY:=Hm hY;clear hX hY;have aj:=Hm hI;clear hI;have m:Mo B w0 (⟨76,3,N l,S (some ⟨g,0,none⟩) (N l) c,E++([U O x.ty.ty,G x.ty.mu,(S k (N x.ini) f)]++R)⟩::((L++((⟨70,5,N x.ini,(S k (N x.ini) f),cI⟩::kI)++I))++rs)) wr:=M;clear M;obtain⟨y,V⟩:=m.cell (j:=N X*3) (by omega) (QX s rfl);have t:=m.set (N X*3) (U O (b));rw[XA s (by simp)]at t;simp only[Tm,Th]at t;have F:=Hm t;clear t m;go_upto_region 5 with fail
 refine Qh (λW=>Mo B w0 (⟨76,3,N l,S (some ⟨g,0,none⟩) (N l) c,E++([U O (b),G x.ty.mu,(S k (N x.ini) f)]++R)⟩::((L++((⟨70,5,N x.ini,(S k (N x.ini) f),cI⟩::kI)++I))++rs)) W) F.o ?_;rintro V0 m;clear F y V;have hw:IntKind.i64.wrap (b+1)=b+1:=by rw[Kw];omega
 go_upto_region 6 with fail
 clear hw;obtain⟨y,V⟩:=m.cell (j:=N X*3+1) (by omega) (Qk s (j:=1) rfl);have t:=m.set (N X*3+1) (G ((b+1)%3==0));rw[Q1 s (j:=1) (by simp)]at t;simp only[Tm,Th]at t;have F:=Hm t;clear t m;go_upto_region 7 with fail
 refine Qh (λW=>Mo B w0 (⟨76,3,N l,S (some ⟨g,0,none⟩) (N l) c,E++([U O (b),G ((b+1)%3==0),(S k (N x.ini) f)]++R)⟩::((L++((⟨70,5,N x.ini,(S k (N x.ini) f),cI⟩::kI)++I))++rs)) W) F.o ?_;rintro V1 m;clear F y V;have hw:IntKind.i64.wrap (b+1+1)=b+1+1:=by rw[Kw];omega
 go_upto_region 8 with fail
 clear hw;obtain⟨y,V⟩:=m.cell (j:=N X*3+2) (by omega) (Qk s (j:=2) rfl);have HP:=Hm (m.perm (JC (⟨76,3,N l,S (some ⟨g,0,none⟩) (N l) c,E++([U O (b),G ((b+1)%3==0),(S k (N x.ini) f)]++R)⟩) (⟨70,5,N x.ini,(S k (N x.ini) f),cI⟩) L [] kI I rs));clear m;go_wp2_with fail
 refine(markIn_c x.ini k f _ _ (b+1+1) HP.o aj.o (by have:=JB (sz:=QC) (λx=>by simp[QC];try omega) x.ini;omega) (by omega) (by omega)).mono ?_;rintro e V2 ⟨z,u,rfl,ab,mp⟩;have ak:=Hm ab;clear ab;have m:Mo B w0 (⟨76,3,N l,S (some ⟨g,0,none⟩) (N l) c,E++([U O (b),G ((b+1)%3==0),(S k (N x.ini) f)]++R)⟩::((L++((⟨70,5,N x.ini,(S k (N x.ini) f),z⟩::u)++I))++rs)) V2:=mp.perm (JC (⟨76,3,N l,S (some ⟨g,0,none⟩) (N l) c,E++([U O (b),G ((b+1)%3==0),(S k (N x.ini) f)]++R)⟩) (⟨70,5,N x.ini,(S k (N x.ini) f),z⟩) L [] u I rs).symm;clear mp HP y V;go_upto_region 3 with fail
 have HF:=Hm m;clear m;go_wp2_with fail
 go_roundw
 case rel=>
  refine⟨X++[x],Y,_,_,by rw[ad.o];simp,?_,by rw[show(((X++[x]).length:Nat):Int)=(N X:Int)+1 by simp],?_,HF.o⟩
  . rw[Qw,ae.o];rw[show Qy x=2+Qa QC x.ini from rfl];congr 1;push_cast;omega
  rw[Jh,Kd];have hr:RGlob (mkGlob b x) [U O (b),G ((b+1)%3==0),(S k (N x.ini) f)] (⟨70,5,N x.ini,(S k (N x.ini) f),z⟩::u):=⟨_,rfl,z,u,ak.o,by simp[Qz,mkGlob]⟩;have h9:=LR.app HX.o (LR.app (LR.one hr) HY.o);rw[<- ae.o];exact h9
 have:N X<N l:=by omega
 simp[intOf];omega
theorem markEle_c (l:List Ele)(a:Option Ad)(c:Nat)(C:List Vu)(K:List Qb)(D:Int){B w0}{w}(h:Mo B w0 (⟨78,2,N l,S a (N l) c,C⟩::(K++rs)) w)(p:LR REle l C K)(hn:N l<=1000000000)(h0:0<=D)(h1:D+Qa QZ l<=1000000000):Ec Q 52 #[S a (N l) c,U O D] w (MkQ REle (QM mkEle QZ D l) 78 2 (N l) (S a (N l) c) (D+(Qa QZ l:Nat)) B w0 rs):=by
 have H:=Hm h;have A:=Hm p;clear h p;go_enter func52,ntmps52;go_wp2_with fail
 go_loopw [1,5] (λkv iv wr=>∃(X Y:List Ele) (C:List Vu) (K:List Qb),l=X++Y/\kv=U O (D+(Qa QZ X:Nat))/\iv=U O (N X:Int)/\LR REle (QM mkEle QZ D X++Y) C K/\Mo B w0 (⟨78,2,N l,S a (N l) c,C⟩::(K++rs)) wr) (λ_ i _=>N l-(intOf i).toNat)
 case atStart=>exact⟨[],l,C,K,rfl,by simp[Qa],rfl,A.o,H.o⟩
 obtain⟨X,Y,C,K,z,rfl,rfl,p,M⟩:=hrel;clear H A;have ad:=Hm z;have s:N l=N X+N Y:=by rw[z];simp
 have t:Qa QZ l=Qa QZ X+Qa QZ Y:=by rw[z,QS]
 clear z;rcases Y with _|⟨x,Y⟩
 . (have ah:¬(N X:Int)<(N l:Int):=by simp at s;omega);(have HE:Hid (l=X):=by show _=_;have:=ad.o;simpa using this);have HS:=Hm M;have A:=Hm p;clear M p s t;(go_wp2_with fail);go_ret;refine⟨C,K,by rw[HE.o];rfl,?_,HS.o⟩;have:=A.o;rw[Tb]at this;rw[HE.o];exact this
 have ah:(N X:Int)<(N l:Int):=by simp at s;omega
 obtain⟨E,cx,R,L,kx,F,rfl,rfl,hX,hx,hY⟩:=LR.zip p;obtain⟨v0,v1,r1,rfl,⟨cI,kI,hI,rfl⟩,rfl⟩:=hx;have ab:N E=N X*2:=by rw[LR.len (sz:=2) len_REle hX,Qz]
 obtain⟨g,cc,hv,-⟩:=QR (show Lq _ B 78 2 (S a (N l) c) (N l) _ from M.own.head) (by omega);injection hv with hv1 _ hv2;subst hv1 hv2;obtain⟨k,d,rfl⟩:∃a' d',v0=S a' (N x.off) d':=Qf (M.row (r:=⟨70,5,N x.off,v0,cI⟩) (by simp[nR,bR]));obtain⟨f,b,rfl⟩:∃a' d',v1=S a' (N x.fs) d':=Qf (M.row (r:=⟨2,1,N x.fs,v1,I x.fs⟩) (by simp[nR,bR]));have aa:QZ x=0+Qa QC x.off+Hx x.fs:=rfl;rw[QK,aa]at t;obtain⟨v,u⟩:∃v:Int,v=D+(Qa QZ X:Nat):=⟨_,rfl⟩;have aw:0<=v:=by omega
 have av:v+0+((Qa QC x.off:Nat):Int)+(N x.fs:Int)<=1000000000:=by omega
 have a2:IntKind.i64.wrap ((N X:Int)+1)=(N X:Int)+1:=by rw[Kw];omega
 have af:=Hm u;rw[<- u];clear u;clear s t aa p;have HX:=Hm hX;have HY:=Hm hY;clear hX hY;have ak:=Hm hI;clear hI;have m:Mo B w0 (⟨78,2,N l,S (some ⟨g,0,none⟩) (N l) c,E++([(S k (N x.off) d),(S f (N x.fs) b)]++R)⟩::((L++(((⟨70,5,N x.off,(S k (N x.off) d),cI⟩::kI)++[⟨2,1,N x.fs,(S f (N x.fs) b),I x.fs⟩])++F))++rs)) wr:=M;clear M;obtain⟨y,yf⟩:=m.cell (j:=N X*2) (by omega) (QX ab rfl);have HP:=Hm (m.perm (pm_out (⟨78,2,N l,S (some ⟨g,0,none⟩) (N l) c,E++([(S k (N x.off) d),(S f (N x.fs) b)]++R)⟩) (⟨70,5,N x.off,(S k (N x.off) d),cI⟩) L [] kI [⟨2,1,N x.fs,(S f (N x.fs) b),I x.fs⟩] F rs));clear m;go_wp2_with fail
 refine(markIn_c x.off k d _ _ (v) HP.o ak.o (by have:=JB (sz:=QC) (λx=>by simp[QC];try omega) x.off;omega) (by omega) (by omega)).mono ?_;rintro e V0 ⟨q,n,rfl,ac,V⟩;have ao:=Hm ac;clear ac;have m:Mo B w0 (⟨78,2,N l,S (some ⟨g,0,none⟩) (N l) c,E++([(S k (N x.off) d),(S f (N x.fs) b)]++R)⟩::((L++(((⟨70,5,N x.off,(S k (N x.off) d),q⟩::n)++[⟨2,1,N x.fs,(S f (N x.fs) b),I x.fs⟩])++F))++rs)) V0:=V.perm (pm_out (⟨78,2,N l,S (some ⟨g,0,none⟩) (N l) c,E++([(S k (N x.off) d),(S f (N x.fs) b)]++R)⟩) (⟨70,5,N x.off,(S k (N x.off) d),q⟩) L [] n [⟨2,1,N x.fs,(S f (N x.fs) b),I x.fs⟩] F rs).symm;clear V HP y yf;go_upto_region 5 with fail
 obtain⟨y,yf⟩:=m.cell (j:=N X*2+1) (by omega) (Qk ab (j:=1) rfl);have HP:=Hm (m.perm (JC (⟨78,2,N l,S (some ⟨g,0,none⟩) (N l) c,E++([(S k (N x.off) d),(S f (N x.fs) b)]++R)⟩) (⟨2,1,N x.fs,(S f (N x.fs) b),I x.fs⟩) L (⟨70,5,N x.off,(S k (N x.off) d),q⟩::n) [] F rs));clear m;go_wp2_with fail
 refine(markI_c x.fs f b (v+((Qa QC x.off:Nat):Int)) HP.o (by omega) (by omega)).mono ?_;rintro e V1 ⟨rfl,V⟩;have m:Mo B w0 (⟨78,2,N l,S (some ⟨g,0,none⟩) (N l) c,E++([(S k (N x.off) d),(S f (N x.fs) b)]++R)⟩::((L++(((⟨70,5,N x.off,(S k (N x.off) d),q⟩::n)++[⟨2,1,N x.fs,(S f (N x.fs) b),I (mkI (v+((Qa QC x.off:Nat):Int)) (N x.fs))⟩])++F))++rs)) V1:=V.perm (JC (⟨78,2,N l,S (some ⟨g,0,none⟩) (N l) c,E++([(S k (N x.off) d),(S f (N x.fs) b)]++R)⟩) (⟨2,1,N x.fs,(S f (N x.fs) b),I (mkI (v+((Qa QC x.off:Nat):Int)) (N x.fs))⟩) L (⟨70,5,N x.off,(S k (N x.off) d),q⟩::n) [] F rs).symm;clear V HP y yf;go_upto_region 3 with fail
 have HF:=Hm m;clear m;go_wp2_with fail
 go_roundw
 case rel=>
  refine⟨X++[x],Y,_,_,by rw[ad.o];simp,?_,by rw[show(((X++[x]).length:Nat):Int)=(N X:Int)+1 by simp],?_,HF.o⟩
  . rw[Qw,af.o];rw[show QZ x=0+Qa QC x.off+Hx x.fs from rfl];congr 1;push_cast;omega
  rw[Jh,Kd];have hr:REle (mkEle v x) [(S k (N x.off) d),(S f (N x.fs) b)] ((⟨70,5,N x.off,(S k (N x.off) d),q⟩::n)++[⟨2,1,N x.fs,(S f (N x.fs) b),I (mkI (v+((Qa QC x.off:Nat):Int)) (N x.fs))⟩]):=⟨_,_,_,rfl,⟨q,n,ao.o,rfl⟩,by simp[nR,JW,Qz,mkEle]⟩;have h9:=LR.app HX.o (LR.app (LR.one hr) HY.o);rw[<- af.o];exact h9
 have:N X<N l:=by omega
 simp[intOf];omega
theorem markCod_c (l:List Cod)(a:Option Ad)(c:Nat)(C:List Vu)(K:List Qb)(D:Int){B w0}{w}(h:Mo B w0 (⟨81,2,N l,S a (N l) c,C⟩::(K++rs)) w)(n:LR RCod l C K)(hn:N l<=1000000000)(h0:0<=D)(h1:D+Qa Q2 l<=1000000000):Ec Q 53 #[S a (N l) c,U O D] w (MkQ RCod (QM mkCod Q2 D l) 81 2 (N l) (S a (N l) c) (D+(Qa Q2 l:Nat)) B w0 rs):=by
 have H:=Hm h;have A:=Hm n;clear h n;go_enter func53,ntmps53;go_wp2_with fail
 go_loopw [1,5] (λkv iv wr=>∃(X Y:List Cod) (C:List Vu) (K:List Qb),l=X++Y/\kv=U O (D+(Qa Q2 X:Nat))/\iv=U O (N X:Int)/\LR RCod (QM mkCod Q2 D X++Y) C K/\Mo B w0 (⟨81,2,N l,S a (N l) c,C⟩::(K++rs)) wr) (λ_ i _=>N l-(intOf i).toNat)
 case atStart=>exact⟨[],l,C,K,rfl,by simp[Qa],rfl,A.o,H.o⟩
 obtain⟨X,Y,C,K,v,rfl,rfl,n,M⟩:=hrel;clear H A;have ag:=Hm v;have q:N l=N X+N Y:=by rw[v];simp
 have s:Qa Q2 l=Qa Q2 X+Qa Q2 Y:=by rw[v,QS]
 clear v;rcases Y with _|⟨x,Y⟩
 . (have ak:¬(N X:Int)<(N l:Int):=by simp at q;omega);(have HE:Hid (l=X):=by show _=_;have:=ag.o;simpa using this);have HS:=Hm M;have A:=Hm n;clear M n q s;(go_wp2_with fail);go_ret;refine⟨C,K,by rw[HE.o];rfl,?_,HS.o⟩;have:=A.o;rw[Tb]at this;rw[HE.o];exact this
 have ak:(N X:Int)<(N l:Int):=by simp at q;omega
 obtain⟨E,cx,R,L,kx,I,rfl,rfl,hX,hx,hY⟩:=LR.zip n;obtain⟨v0,cG,v1,r1,rfl,hG,⟨V,kI,hI,rfl⟩,rfl⟩:=hx;have ad:N E=N X*2:=by rw[LR.len (sz:=2) len_RCod hX,Qz]
 obtain⟨g,cc,hv,-⟩:=QR (show Lq _ B 81 2 (S a (N l) c) (N l) _ from M.own.head) (by omega);injection hv with hv1 _ hv2;subst hv1 hv2;obtain⟨k,d,rfl⟩:∃a' d',v0=S a' (N x.gv) d':=Qf (M.row (r:=⟨206,2,N x.gv,v0,cG⟩) (by simp[nR,bR]));obtain⟨f,b,rfl⟩:∃a' d',v1=S a' (N x.body) d':=Qf (M.row (r:=⟨70,5,N x.body,v1,V⟩) (by simp[nR,bR]));have ac:Q2 x=0+Qa QT x.gv+Qa QC x.body:=rfl;rw[QK,ac]at s;obtain⟨F,t⟩:∃F:Int,F=D+(Qa Q2 X:Nat):=⟨_,rfl⟩;have a2:0<=F:=by omega
 have az:F+0+((Qa QT x.gv:Nat):Int)+((Qa QC x.body:Nat):Int)<=1000000000:=by omega
 have a7:IntKind.i64.wrap ((N X:Int)+1)=(N X:Int)+1:=by rw[Kw];omega
 have ai:=Hm t;rw[<- t];clear t;clear q s ac n;have HX:=Hm hX;have HY:=Hm hY;clear hX hY;have ar:=Hm hI;clear hI;have au:=Hm hG;clear hG;have m:Mo B w0 (⟨81,2,N l,S (some ⟨g,0,none⟩) (N l) c,E++([(S k (N x.gv) d),(S f (N x.body) b)]++R)⟩::((L++((⟨206,2,N x.gv,(S k (N x.gv) d),cG⟩::(⟨70,5,N x.body,(S f (N x.body) b),V⟩::kI))++I))++rs)) wr:=M;clear M;obtain⟨y,yf⟩:=m.cell (j:=N X*2) (by omega) (QX ad rfl);have HP:=Hm (m.perm (pm_out (⟨81,2,N l,S (some ⟨g,0,none⟩) (N l) c,E++([(S k (N x.gv) d),(S f (N x.body) b)]++R)⟩) (⟨206,2,N x.gv,(S k (N x.gv) d),cG⟩) L [] [] (⟨70,5,N x.body,(S f (N x.body) b),V⟩::kI) I rs));clear m;go_wp2_with fail
 refine(markGrp_c x.gv k d _ (F) HP.o au.o (by omega) (by omega)).mono ?_;rintro e V0 ⟨p,rfl,af,mp⟩;have aw:=Hm af;clear af;have m:Mo B w0 (⟨81,2,N l,S (some ⟨g,0,none⟩) (N l) c,E++([(S k (N x.gv) d),(S f (N x.body) b)]++R)⟩::((L++((⟨206,2,N x.gv,(S k (N x.gv) d),p⟩::(⟨70,5,N x.body,(S f (N x.body) b),V⟩::kI))++I))++rs)) V0:=mp.perm (pm_out (⟨81,2,N l,S (some ⟨g,0,none⟩) (N l) c,E++([(S k (N x.gv) d),(S f (N x.body) b)]++R)⟩) (⟨206,2,N x.gv,(S k (N x.gv) d),p⟩) L [] [] (⟨70,5,N x.body,(S f (N x.body) b),V⟩::kI) I rs).symm;clear mp HP y yf;go_upto_region 5 with fail
 obtain⟨y,yf⟩:=m.cell (j:=N X*2+1) (by omega) (Qk ad (j:=1) rfl);have HP:=Hm (m.perm (JC (⟨81,2,N l,S (some ⟨g,0,none⟩) (N l) c,E++([(S k (N x.gv) d),(S f (N x.body) b)]++R)⟩) (⟨70,5,N x.body,(S f (N x.body) b),V⟩) L [⟨206,2,N x.gv,(S k (N x.gv) d),p⟩] kI I rs));clear m;go_wp2_with fail
 refine(markIn_c x.body f b _ _ (F+((Qa QT x.gv:Nat):Int)) HP.o ar.o (by have:=JB (sz:=QC) (λx=>by simp[QC];try omega) x.body;omega) (by omega) (by omega)).mono ?_;rintro e V1 ⟨z,u,rfl,ae,mp⟩;have av:=Hm ae;clear ae;have m:Mo B w0 (⟨81,2,N l,S (some ⟨g,0,none⟩) (N l) c,E++([(S k (N x.gv) d),(S f (N x.body) b)]++R)⟩::((L++((⟨206,2,N x.gv,(S k (N x.gv) d),p⟩::(⟨70,5,N x.body,(S f (N x.body) b),z⟩::u))++I))++rs)) V1:=mp.perm (JC (⟨81,2,N l,S (some ⟨g,0,none⟩) (N l) c,E++([(S k (N x.gv) d),(S f (N x.body) b)]++R)⟩) (⟨70,5,N x.body,(S f (N x.body) b),z⟩) L [⟨206,2,N x.gv,(S k (N x.gv) d),p⟩] u I rs).symm;clear mp HP y yf;go_upto_region 3 with fail
 have HF:=Hm m;clear m;go_wp2_with fail
 go_roundw
 case rel=>
  refine⟨X++[x],Y,_,_,by rw[ag.o];simp,?_,by rw[show(((X++[x]).length:Nat):Int)=(N X:Int)+1 by simp],?_,HF.o⟩
  . rw[Qw,ai.o];rw[show Q2 x=0+Qa QT x.gv+Qa QC x.body from rfl];congr 1;push_cast;omega
  rw[Jh,Kd];have hr:RCod (mkCod F x) [(S k (N x.gv) d),(S f (N x.body) b)] (⟨206,2,N x.gv,(S k (N x.gv) d),p⟩::(⟨70,5,N x.body,(S f (N x.body) b),z⟩::u)):=⟨_,p,_,_,rfl,aw.o,⟨z,u,av.o,rfl⟩,by simp[Qz,mkCod]⟩;have h9:=LR.app HX.o (LR.app (LR.one hr) HY.o);rw[<- ai.o];exact h9
 have:N X<N l:=by omega
 simp[intOf];omega
theorem markDat_c (l:List Dat)(a:Option Ad)(c:Nat)(C:List Vu)(K:List Qb)(D:Int){B w0}{w}(h:Mo B w0 (⟨83,2,N l,S a (N l) c,C⟩::(K++rs)) w)(p:LR RDat l C K)(hn:N l<=1000000000)(h0:0<=D)(h1:D+Qa Q7 l<=1000000000):Ec Q 54 #[S a (N l) c,U O D] w (MkQ RDat (QM mkDat Q7 D l) 83 2 (N l) (S a (N l) c) (D+(Qa Q7 l:Nat)) B w0 rs):=by
 have H:=Hm h;have A:=Hm p;clear h p;go_enter func54,ntmps54;go_wp2_with fail
 go_loopw [1,5] (λkv iv wr=>∃(X Y:List Dat) (C:List Vu) (K:List Qb),l=X++Y/\kv=U O (D+(Qa Q7 X:Nat))/\iv=U O (N X:Int)/\LR RDat (QM mkDat Q7 D X++Y) C K/\Mo B w0 (⟨83,2,N l,S a (N l) c,C⟩::(K++rs)) wr) (λ_ i _=>N l-(intOf i).toNat)
 case atStart=>exact⟨[],l,C,K,rfl,by simp[Qa],rfl,A.o,H.o⟩
 obtain⟨X,Y,C,K,z,rfl,rfl,p,L⟩:=hrel;clear H A;have ac:=Hm z;have s:N l=N X+N Y:=by rw[z];simp
 have t:Qa Q7 l=Qa Q7 X+Qa Q7 Y:=by rw[z,QS]
 clear z;rcases Y with _|⟨x,Y⟩
 . (have ag:¬(N X:Int)<(N l:Int):=by simp at s;omega);(have HE:Hid (l=X):=by show _=_;have:=ac.o;simpa using this);have HS:=Hm L;have A:=Hm p;clear L p s t;(go_wp2_with fail);go_ret;refine⟨C,K,by rw[HE.o];rfl,?_,HS.o⟩;have:=A.o;rw[Tb]at this;rw[HE.o];exact this
 have ag:(N X:Int)<(N l:Int):=by simp at s;omega
 obtain⟨E,cx,M,I,kx,F,rfl,rfl,hX,hx,hY⟩:=LR.zip p;obtain⟨v0,v1,r1,rfl,⟨cI,kI,hI,rfl⟩,rfl⟩:=hx;have aa:N E=N X*2:=by rw[LR.len (sz:=2) len_RDat hX,Qz]
 obtain⟨g,cc,hv,-⟩:=QR (show Lq _ B 83 2 (S a (N l) c) (N l) _ from L.own.head) (by omega);injection hv with hv1 _ hv2;subst hv1 hv2;obtain⟨k,d,rfl⟩:∃a' d',v0=S a' (N x.off) d':=Qf (L.row (r:=⟨70,5,N x.off,v0,cI⟩) (by simp[nR,bR]));obtain⟨f,b,rfl⟩:∃a' d',v1=S a' (N x.bs) d':=Qf (L.row (r:=⟨5,1,N x.bs,v1,Uz0 x.bs⟩) (by simp[nR,bR]));have V:Q7 x=0+Qa QC x.off+Hx x.bs:=rfl;rw[QK,V]at t;obtain⟨v,u⟩:∃v:Int,v=D+(Qa Q7 X:Nat):=⟨_,rfl⟩;have av:0<=v:=by omega
 have au:v+0+((Qa QC x.off:Nat):Int)+(N x.bs:Int)<=1000000000:=by omega
 have az:IntKind.i64.wrap ((N X:Int)+1)=(N X:Int)+1:=by rw[Kw];omega
 have ae:=Hm u;rw[<- u];clear u;clear s t V p;have HX:=Hm hX;have HY:=Hm hY;clear hX hY;have aj:=Hm hI;clear hI;have m:Mo B w0 (⟨83,2,N l,S (some ⟨g,0,none⟩) (N l) c,E++([(S k (N x.off) d),(S f (N x.bs) b)]++M)⟩::((I++(((⟨70,5,N x.off,(S k (N x.off) d),cI⟩::kI)++[⟨5,1,N x.bs,(S f (N x.bs) b),Uz0 x.bs⟩])++F))++rs)) wr:=L;clear L;obtain⟨y,yf⟩:=m.cell (j:=N X*2) (by omega) (QX aa rfl);have HP:=Hm (m.perm (pm_out (⟨83,2,N l,S (some ⟨g,0,none⟩) (N l) c,E++([(S k (N x.off) d),(S f (N x.bs) b)]++M)⟩) (⟨70,5,N x.off,(S k (N x.off) d),cI⟩) I [] kI [⟨5,1,N x.bs,(S f (N x.bs) b),Uz0 x.bs⟩] F rs));clear m;go_wp2_with fail
 refine(markIn_c x.off k d _ _ (v) HP.o aj.o (by have:=JB (sz:=QC) (λx=>by simp[QC];try omega) x.off;omega) (by omega) (by omega)).mono ?_;rintro e V0 ⟨q,n,rfl,ab,R⟩;have ak:=Hm ab;clear ab;have m:Mo B w0 (⟨83,2,N l,S (some ⟨g,0,none⟩) (N l) c,E++([(S k (N x.off) d),(S f (N x.bs) b)]++M)⟩::((I++(((⟨70,5,N x.off,(S k (N x.off) d),q⟩::n)++[⟨5,1,N x.bs,(S f (N x.bs) b),Uz0 x.bs⟩])++F))++rs)) V0:=R.perm (pm_out (⟨83,2,N l,S (some ⟨g,0,none⟩) (N l) c,E++([(S k (N x.off) d),(S f (N x.bs) b)]++M)⟩) (⟨70,5,N x.off,(S k (N x.off) d),q⟩) I [] n [⟨5,1,N x.bs,(S f (N x.bs) b),Uz0 x.bs⟩] F rs).symm;clear R HP y yf;go_upto_region 5 with fail
 obtain⟨y,yf⟩:=m.cell (j:=N X*2+1) (by omega) (Qk aa (j:=1) rfl);have HP:=Hm (m.perm (JC (⟨83,2,N l,S (some ⟨g,0,none⟩) (N l) c,E++([(S k (N x.off) d),(S f (N x.bs) b)]++M)⟩) (⟨5,1,N x.bs,(S f (N x.bs) b),Uz0 x.bs⟩) I (⟨70,5,N x.off,(S k (N x.off) d),q⟩::n) [] F rs));clear m;go_wp2_with fail
 refine(markB_c x.bs f b (v+((Qa QC x.off:Nat):Int)) HP.o (by omega) (by omega)).mono ?_;rintro e V1 ⟨rfl,R⟩;have m:Mo B w0 (⟨83,2,N l,S (some ⟨g,0,none⟩) (N l) c,E++([(S k (N x.off) d),(S f (N x.bs) b)]++M)⟩::((I++(((⟨70,5,N x.off,(S k (N x.off) d),q⟩::n)++[⟨5,1,N x.bs,(S f (N x.bs) b),Uz0 (mkB (v+((Qa QC x.off:Nat):Int)) (N x.bs))⟩])++F))++rs)) V1:=R.perm (JC (⟨83,2,N l,S (some ⟨g,0,none⟩) (N l) c,E++([(S k (N x.off) d),(S f (N x.bs) b)]++M)⟩) (⟨5,1,N x.bs,(S f (N x.bs) b),Uz0 (mkB (v+((Qa QC x.off:Nat):Int)) (N x.bs))⟩) I (⟨70,5,N x.off,(S k (N x.off) d),q⟩::n) [] F rs).symm;clear R HP y yf;go_upto_region 3 with fail
 have HF:=Hm m;clear m;go_wp2_with fail
 go_roundw
 case rel=>
  refine⟨X++[x],Y,_,_,by rw[ac.o];simp,?_,by rw[show(((X++[x]).length:Nat):Int)=(N X:Int)+1 by simp],?_,HF.o⟩
  . rw[Qw,ae.o];rw[show Q7 x=0+Qa QC x.off+Hx x.bs from rfl];congr 1;push_cast;omega
  rw[Jh,Kd];have hr:RDat (mkDat v x) [(S k (N x.off) d),(S f (N x.bs) b)] ((⟨70,5,N x.off,(S k (N x.off) d),q⟩::n)++[⟨5,1,N x.bs,(S f (N x.bs) b),Uz0 (mkB (v+((Qa QC x.off:Nat):Int)) (N x.bs))⟩]):=⟨_,_,_,rfl,⟨q,n,ak.o,rfl⟩,by simp[bR,mkB_len,Qz,mkDat]⟩;have h9:=LR.app HX.o (LR.app (LR.one hr) HY.o);rw[<- ae.o];exact h9
 have:N X<N l:=by omega
 simp[intOf];omega
theorem markFT_c (l:List QE)(a:Option Ad)(c:Nat)(C:List Vu)(K:List Qb)(z:Int){B w0}{w}(h:Mo B w0 (⟨137,2,N l,S a (N l) c,C⟩::(K++rs)) w)(p:LR RFT l C K)(hn:N l<=1000000000)(h0:0<=z)(h1:z+Qa QH l<=1000000000):Ec Q 46 #[S a (N l) c,U O z] w (MkQ RFT (QM mkFT QH z l) 137 2 (N l) (S a (N l) c) (z+(Qa QH l:Nat)) B w0 rs):=by
 have H:=Hm h;have v:=Hm p;clear h p;go_enter func46,ntmps46;go_wp2_with fail
 go_loopw [1,5] (λkv iv wr=>∃(X Y:List QE) (C:List Vu) (K:List Qb),l=X++Y/\kv=U O (z+(Qa QH X:Nat))/\iv=U O (N X:Int)/\LR RFT (QM mkFT QH z X++Y) C K/\Mo B w0 (⟨137,2,N l,S a (N l) c,C⟩::(K++rs)) wr) (λ_ i _=>N l-(intOf i).toNat)
 case atStart=>exact⟨[],l,C,K,rfl,by simp[Qa],rfl,v.o,H.o⟩
 obtain⟨X,Y,C,K,u,rfl,rfl,p,F⟩:=hrel;clear H v;have aa:=Hm u;have q:N l=N X+N Y:=by rw[u];simp
 have s:Qa QH l=Qa QH X+Qa QH Y:=by rw[u,QS]
 clear u;rcases Y with _|⟨x,Y⟩
 . (have ae:¬(N X:Int)<(N l:Int):=by simp at q;omega);(have HE:Hid (l=X):=by show _=_;have:=aa.o;simpa using this);have HS:=Hm F;have v:=Hm p;clear F p q s;(go_wp2_with fail);go_ret;refine⟨C,K,by rw[HE.o];rfl,?_,HS.o⟩;have:=v.o;rw[Tb]at this;rw[HE.o];exact this
 have ae:(N X:Int)<(N l:Int):=by simp at q;omega
 obtain⟨A,cx,L,E,kx,D,rfl,rfl,hX,hx,hY⟩:=LR.zip p;obtain⟨v0,v1,rfl,rfl⟩:=hx;have V:N A=N X*2:=by rw[LR.len (sz:=2) len_RFT hX,Qz]
 obtain⟨g,cc,hv,-⟩:=QR (show Lq _ B 137 2 (S a (N l) c) (N l) _ from F.own.head) (by omega);injection hv with hv1 _ hv2;subst hv1 hv2;obtain⟨k,d,rfl⟩:∃a' d',v0=S a' (N x.ps) d':=Qf (F.row (r:=⟨2,1,N x.ps,v0,I x.ps⟩) (by simp[nR,bR]));obtain⟨f,b,rfl⟩:∃a' d',v1=S a' (N x.rs) d':=Qf (F.row (r:=⟨2,1,N x.rs,v1,I x.rs⟩) (by simp[nR,bR]));have R:QH x=0+Hx x.ps+Hx x.rs:=rfl;rw[QK,R]at s;obtain⟨n,t⟩:∃n:Int,n=z+(Qa QH X:Nat):=⟨_,rfl⟩;have aj:0<=n:=by omega
 have ai:n+0+(N x.ps:Int)+(N x.rs:Int)<=1000000000:=by omega
 have aq:IntKind.i64.wrap ((N X:Int)+1)=(N X:Int)+1:=by rw[Kw];omega
 have ac:=Hm t;rw[<- t];clear t;clear q s R p;have HX:=Hm hX;have HY:=Hm hY;clear hX hY;have m:Mo B w0 (⟨137,2,N l,S (some ⟨g,0,none⟩) (N l) c,A++([(S k (N x.ps) d),(S f (N x.rs) b)]++L)⟩::((E++([⟨2,1,N x.ps,(S k (N x.ps) d),I x.ps⟩,⟨2,1,N x.rs,(S f (N x.rs) b),I x.rs⟩]++D))++rs)) wr:=F;clear F;obtain⟨y,yf⟩:=m.cell (j:=N X*2) (by omega) (QX V rfl);have HP:=Hm (m.perm (pm_out (⟨137,2,N l,S (some ⟨g,0,none⟩) (N l) c,A++([(S k (N x.ps) d),(S f (N x.rs) b)]++L)⟩) (⟨2,1,N x.ps,(S k (N x.ps) d),I x.ps⟩) E [] [] [⟨2,1,N x.rs,(S f (N x.rs) b),I x.rs⟩] D rs));clear m;go_wp2_with fail
 refine(markI_c x.ps k d (n) HP.o (by omega) (by omega)).mono ?_;rintro e V0 ⟨rfl,M⟩;have m:Mo B w0 (⟨137,2,N l,S (some ⟨g,0,none⟩) (N l) c,A++([(S k (N x.ps) d),(S f (N x.rs) b)]++L)⟩::((E++([⟨2,1,N x.ps,(S k (N x.ps) d),I (mkI (n) (N x.ps))⟩,⟨2,1,N x.rs,(S f (N x.rs) b),I x.rs⟩]++D))++rs)) V0:=M.perm (pm_out (⟨137,2,N l,S (some ⟨g,0,none⟩) (N l) c,A++([(S k (N x.ps) d),(S f (N x.rs) b)]++L)⟩) (⟨2,1,N x.ps,(S k (N x.ps) d),I (mkI (n) (N x.ps))⟩) E [] [] [⟨2,1,N x.rs,(S f (N x.rs) b),I x.rs⟩] D rs).symm;clear M HP y yf;go_upto_region 5 with fail
 obtain⟨y,yf⟩:=m.cell (j:=N X*2+1) (by omega) (Qk V (j:=1) rfl);have HP:=Hm (m.perm (JC (⟨137,2,N l,S (some ⟨g,0,none⟩) (N l) c,A++([(S k (N x.ps) d),(S f (N x.rs) b)]++L)⟩) (⟨2,1,N x.rs,(S f (N x.rs) b),I x.rs⟩) E [⟨2,1,N x.ps,(S k (N x.ps) d),I (mkI (n) (N x.ps))⟩] [] D rs));clear m;go_wp2_with fail
 refine(markI_c x.rs f b (n+(N x.ps:Int)) HP.o (by omega) (by omega)).mono ?_;rintro e V1 ⟨rfl,M⟩;have m:Mo B w0 (⟨137,2,N l,S (some ⟨g,0,none⟩) (N l) c,A++([(S k (N x.ps) d),(S f (N x.rs) b)]++L)⟩::((E++([⟨2,1,N x.ps,(S k (N x.ps) d),I (mkI (n) (N x.ps))⟩,⟨2,1,N x.rs,(S f (N x.rs) b),I (mkI (n+(N x.ps:Int)) (N x.rs))⟩]++D))++rs)) V1:=M.perm (JC (⟨137,2,N l,S (some ⟨g,0,none⟩) (N l) c,A++([(S k (N x.ps) d),(S f (N x.rs) b)]++L)⟩) (⟨2,1,N x.rs,(S f (N x.rs) b),I (mkI (n+(N x.ps:Int)) (N x.rs))⟩) E [⟨2,1,N x.ps,(S k (N x.ps) d),I (mkI (n) (N x.ps))⟩] [] D rs).symm;clear M HP y yf;go_upto_region 3 with fail
 have HF:=Hm m;clear m;go_wp2_with fail
 go_roundw
 case rel=>
  refine⟨X++[x],Y,_,_,by rw[aa.o];simp,?_,by rw[show(((X++[x]).length:Nat):Int)=(N X:Int)+1 by simp],?_,HF.o⟩
  . rw[Qw,ac.o];rw[show QH x=0+Hx x.ps+Hx x.rs from rfl];congr 1;push_cast;omega
  rw[Jh,Kd];have hr:RFT (mkFT n x) [(S k (N x.ps) d),(S f (N x.rs) b)] [⟨2,1,N x.ps,(S k (N x.ps) d),I (mkI (n) (N x.ps))⟩,⟨2,1,N x.rs,(S f (N x.rs) b),I (mkI (n+(N x.ps:Int)) (N x.rs))⟩]:=⟨_,_,rfl,by simp[nR,JW,mkFT]⟩;have h9:=LR.app HX.o (LR.app (LR.one hr) HY.o);rw[<- ac.o];exact h9
 have:N X<N l:=by omega
 simp[intOf];omega
theorem markCus_c (l:List Cus)(a:Option Ad)(c:Nat)(C:List Vu)(K:List Qb)(z:Int){B w0}{w}(h:Mo B w0 (⟨131,3,N l,S a (N l) c,C⟩::(K++rs)) w)(d:LR RCus l C K)(hn:N l<=1000000000)(h0:0<=z)(h1:z+Qa Jf l<=1000000000):Ec Q 55 #[S a (N l) c,U O z] w (MkQ RCus (QM mkCus Jf z l) 131 3 (N l) (S a (N l) c) (z+(Qa Jf l:Nat)) B w0 rs):=by
 have H:=Hm h;have v:=Hm d;clear h d;go_enter func55,ntmps55;go_wp2_with fail
 go_loopw [1,5] (λkv iv wr=>∃(X Y:List Cus) (C:List Vu) (K:List Qb),l=X++Y/\kv=U O (z+(Qa Jf X:Nat))/\iv=U O (N X:Int)/\LR RCus (QM mkCus Jf z X++Y) C K/\Mo B w0 (⟨131,3,N l,S a (N l) c,C⟩::(K++rs)) wr) (λ_ i _=>N l-(intOf i).toNat)
 case atStart=>exact⟨[],l,C,K,rfl,by simp[Qa],rfl,v.o,H.o⟩
 obtain⟨X,Y,C,K,u,rfl,rfl,d,I⟩:=hrel;clear H v;have V:=Hm u;have n:N l=N X+N Y:=by rw[u];simp
 have p:Qa Jf l=Qa Jf X+Qa Jf Y:=by rw[u,QS]
 clear u;rcases Y with _|⟨x,Y⟩
 . (have ac:¬(N X:Int)<(N l:Int):=by simp at n;omega);(have HE:Hid (l=X):=by show _=_;have:=V.o;simpa using this);have D:=Hm I;have v:=Hm d;clear I d n p;(go_wp2_with fail);go_ret;refine⟨C,K,by rw[HE.o];rfl,?_,D.o⟩;have:=v.o;rw[Tb]at this;rw[HE.o];exact this
 have ac:(N X:Int)<(N l:Int):=by simp at n;omega
 obtain⟨A,cx,L,F,kx,E,rfl,rfl,hX,hx,hY⟩:=LR.zip d;obtain⟨v2,rfl,rfl⟩:=hx;have s:N A=N X*3:=by rw[LR.len (sz:=3) len_RCus hX,Qz]
 obtain⟨g,cc,hv,-⟩:=QR (show Lq _ B 131 3 (S a (N l) c) (N l) _ from I.own.head) (by omega);injection hv with hv1 _ hv2;subst hv1 hv2;obtain⟨k,f,rfl⟩:∃a' d',v2=S a' (N x.bs) d':=Qf (I.row (r:=⟨5,1,N x.bs,v2,Uz0 x.bs⟩) (by simp[nR,bR]));have R:Jf x=2+Hx x.bs:=rfl;rw[QK,R]at p;obtain⟨b,q⟩:∃b:Int,b=z+(Qa Jf X:Nat):=⟨_,rfl⟩;have ah:0<=b:=by omega
 have ag:b+2+(N x.bs:Int)<=1000000000:=by omega
 have ar:IntKind.i64.wrap ((N X:Int)+1)=(N X:Int)+1:=by rw[Kw];omega
 have aa:=Hm q;rw[<- q];clear q;clear n p R d;have HX:=Hm hX;have HY:=Hm hY;clear hX hY;have m:Mo B w0 (⟨131,3,N l,S (some ⟨g,0,none⟩) (N l) c,A++([U O x.aft,Xs x.nm,(S k (N x.bs) f)]++L)⟩::((F++([⟨5,1,N x.bs,(S k (N x.bs) f),Uz0 x.bs⟩]++E))++rs)) wr:=I;clear I;obtain⟨y,M⟩:=m.cell (j:=N X*3) (by omega) (QX s rfl);have t:=m.set (N X*3) (U O (b));rw[XA s (by simp)]at t;simp only[Tm,Th]at t;have D:=Hm t;clear t m;go_upto_region 5 with fail
 refine Qh (λW=>Mo B w0 (⟨131,3,N l,S (some ⟨g,0,none⟩) (N l) c,A++([U O (b),Xs x.nm,(S k (N x.bs) f)]++L)⟩::((F++([⟨5,1,N x.bs,(S k (N x.bs) f),Uz0 x.bs⟩]++E))++rs)) W) D.o ?_;rintro V0 m;clear D y M;have hw:IntKind.i64.wrap (b+1)=b+1:=by rw[Kw];omega
 go_upto_region 6 with fail
 clear hw;have HT:=Hm m;clear m;go_wp2_with fail
 refine(Xp (b+1) _ (by omega) (by omega)).mono ?_;rintro e aw ⟨rfl,hb⟩;have m:=HT.o.keep hb;clear hb HT;obtain⟨y,M⟩:=m.cell (j:=N X*3+1) (by omega) (Qk s (j:=1) rfl);have t:=m.set (N X*3+1) (Xs (mtx (b+1)));rw[Q1 s (j:=1) (by simp)]at t;simp only[Tm,Th]at t;have D:=Hm t;clear t m;go_upto_region 7 with fail
 refine Qh (λW=>Mo B w0 (⟨131,3,N l,S (some ⟨g,0,none⟩) (N l) c,A++([U O (b),Xs (mtx (b+1)),(S k (N x.bs) f)]++L)⟩::((F++([⟨5,1,N x.bs,(S k (N x.bs) f),Uz0 x.bs⟩]++E))++rs)) W) D.o ?_;rintro V1 m;clear D y M;have hw:IntKind.i64.wrap (b+1+1)=b+1+1:=by rw[Kw];omega
 go_upto_region 8 with fail
 clear hw;obtain⟨y,M⟩:=m.cell (j:=N X*3+2) (by omega) (Qk s (j:=2) rfl);have HP:=Hm (m.perm (JC (⟨131,3,N l,S (some ⟨g,0,none⟩) (N l) c,A++([U O (b),Xs (mtx (b+1)),(S k (N x.bs) f)]++L)⟩) (⟨5,1,N x.bs,(S k (N x.bs) f),Uz0 x.bs⟩) F [] [] E rs));clear m;go_wp2_with fail
 refine(markB_c x.bs k f (b+1+1) HP.o (by omega) (by omega)).mono ?_;rintro e V2 ⟨rfl,mp⟩;have m:Mo B w0 (⟨131,3,N l,S (some ⟨g,0,none⟩) (N l) c,A++([U O (b),Xs (mtx (b+1)),(S k (N x.bs) f)]++L)⟩::((F++([⟨5,1,N x.bs,(S k (N x.bs) f),Uz0 (mkB (b+1+1) (N x.bs))⟩]++E))++rs)) V2:=mp.perm (JC (⟨131,3,N l,S (some ⟨g,0,none⟩) (N l) c,A++([U O (b),Xs (mtx (b+1)),(S k (N x.bs) f)]++L)⟩) (⟨5,1,N x.bs,(S k (N x.bs) f),Uz0 (mkB (b+1+1) (N x.bs))⟩) F [] [] E rs).symm;clear mp HP y M;go_upto_region 3 with fail
 have HF:=Hm m;clear m;go_wp2_with fail
 go_roundw
 case rel=>
  refine⟨X++[x],Y,_,_,by rw[V.o];simp,?_,by rw[show(((X++[x]).length:Nat):Int)=(N X:Int)+1 by simp],?_,HF.o⟩
  . rw[Qw,aa.o];rw[show Jf x=2+Hx x.bs from rfl];congr 1;push_cast;omega
  rw[Jh,Kd];have hr:RCus (mkCus b x) [U O (b),Xs (mtx (b+1)),(S k (N x.bs) f)] [⟨5,1,N x.bs,(S k (N x.bs) f),Uz0 (mkB (b+1+1) (N x.bs))⟩]:=⟨_,rfl,by simp[bR,mkB_len,mkCus]⟩;have h9:=LR.app HX.o (LR.app (LR.one hr) HY.o);rw[<- aa.o];exact h9
 have:N X<N l:=by omega
 simp[intOf];omega
theorem heldIn_c (l:List In)(a:Option Ad)(c:Nat)(C:List Vu)(K:List Qb)(q:Int)(B:Nat)(w:J)(h:w.ownsRow B 70 5 (S a (N l) c) (N l) C)(V:∀r∈K,r.Ok B w)(k:LR RIn (QM mkIn QC q l) C K)(hn:N l<=1000000000)(h0:0<=q)(h1:q+Qa QC l<=1000000000):Ec Q 133 #[S a (N l) c,U O q] w λe F=>e=Z (U O (q+(Qa QC l:Nat)))/\w=F:=by
 have H:=Hm h;have HK:=Hm V;have D:=Hm k;clear h k V;go_enter func133,ntmps133;go_wp2_with fail
 go_loop [1,5] (λkv iv=>∃(X Y:List In),l=X++Y/\kv=U O (q+(Qa QC X:Nat))/\iv=U O (N X:Int)) (λ_ i=>N l-(intOf i).toNat)
 case atStart=>exact⟨[],l,rfl,by simp[Qa],rfl⟩
 obtain⟨X,Y,p,rfl,rfl⟩:=hrel;have s:=Hm p;have d:N l=N X+N Y:=by rw[p];simp
 have n:Qa QC l=Qa QC X+Qa QC Y:=by rw[p,QS]
 clear p;rcases Y with _|⟨x,Y⟩
 . (have z:¬(N X:Int)<(N l:Int):=by simp at d;omega);(have HE:Hid (l=X):=by show _=_;have:=s.o;simpa using this);clear d n;(go_wp2_with fail);go_ret;exact⟨by rw[HE.o];rfl,rfl⟩
 have z:(N X:Int)<(N l:Int):=by simp at d;omega
 have k:=D.o;rw[s.o,JK,QM]at k;obtain⟨c1,cx,c2,k1,kx,k2,t,v,R,hx,hY⟩:=LR.zip k;have m:N c1=N X*5:=by rw[LR.len (sz:=5) len_RIn R,Qz]
 have u:QC x=4+Hx x.l:=rfl;rw[QK,u]at n;obtain⟨b,f⟩:∃b:Int,b=q+(Qa QC X:Nat):=⟨_,rfl⟩;have M:0<=b:=by omega
 have L:b+4+(N x.l:Int)<=1000000000:=by omega
 have ad:IntKind.i64.wrap ((N X:Int)+1)=(N X:Int)+1:=by rw[Kw];omega
 have E:=Hm f;rw[<- f]at hx;rw[<- f];obtain⟨v4,rfl,rfl⟩:=hx;clear f k R hY;obtain⟨g,cc,hv,-⟩:=QR H.o (by omega);injection hv with hv1 _ hv2;subst hv1 hv2;clear d n u;have y:Qb.Ok B w ⟨2,1,(mkI (b+1+1+1+1) (N x.l)).length,v4,I (mkI (b+1+1+1+1) (N x.l))⟩:=HK.o _ (by rw[v];exact mR (mL mS));rw[JW]at y;obtain⟨a4,d4,rfl⟩:=Qf y;have A:=Hm y;clear y;have y0:w.cell? ⟨g,N X*5,none⟩=some (U O (b)):=(World.ownsRow.cellAt H.o (N X*5) (by omega)).trans (by rw[t];exact QX m rfl);have y1:w.cell? ⟨g,N X*5+1,none⟩=some (U O (b+1)):=(World.ownsRow.cellAt H.o (N X*5+1) (by omega)).trans (by rw[t];exact Qk m (j:=1) rfl);have y2:w.cell? ⟨g,N X*5+2,none⟩=some (U O (b+1+1)):=(World.ownsRow.cellAt H.o (N X*5+2) (by omega)).trans (by rw[t];exact Qk m (j:=2) rfl);have y3:w.cell? ⟨g,N X*5+3,none⟩=some (U Ou (b+1+1+1)):=(World.ownsRow.cellAt H.o (N X*5+3) (by omega)).trans (by rw[t];exact Qk m (j:=3) rfl);have y4:w.cell? ⟨g,N X*5+4,none⟩=some (S a4 (N x.l) d4):=(World.ownsRow.cellAt H.o (N X*5+4) (by omega)).trans (by rw[t];exact Qk m (j:=4) rfl);clear t v m;have ah:IntKind.i64.wrap (b+1)=b+1:=by rw[Kw];omega
 have ag:IntKind.i64.wrap (b+1+1)=b+1+1:=by rw[Kw];omega
 have af:IntKind.i64.wrap (b+1+1+1)=b+1+1+1:=by rw[Kw];omega
 have ae:IntKind.i64.wrap (b+1+1+1+1)=b+1+1+1+1:=by rw[Kw];omega
 have hu:IntKind.u64.wrap (b+1+1+1)=b+1+1+1:=by rw[Kn];omega
 go_wp2_with fail
 refine(heldI_c (N x.l) a4 d4 (b+1+1+1+1) B w A.o (by omega) (by omega)).mono ?_;rintro e F ⟨rfl,rfl⟩;have ai:¬b+1+1+1+1+(N x.l:Int)<0:=by omega
 go_wp2_with fail
 go_round
 case rel=>refine⟨X++[x],Y,by rw[s.o];simp,?_,by rw[show(((X++[x]).length:Nat):Int)=(N X:Int)+1 by simp]⟩;rw[Qw,E.o];rw[show QC x=4+Hx x.l from rfl];congr 1;push_cast;omega
 have:N X<N l:=by omega
 simp[intOf];omega
theorem heldFT_c (l:List QE)(a:Option Ad)(c:Nat)(C:List Vu)(K:List Qb)(p:Int)(B:Nat)(w:J)(h:w.ownsRow B 137 2 (S a (N l) c) (N l) C)(hK:∀r∈K,r.Ok B w)(f:LR RFT (QM mkFT QH p l) C K)(hn:N l<=1000000000)(h0:0<=p)(h1:p+Qa QH l<=1000000000):Ec Q 56 #[S a (N l) c,U O p] w λe z=>e=Z (U O (p+(Qa QH l:Nat)))/\w=z:=by
 have H:=Hm h;have HK:=Hm hK;have L:=Hm f;clear h f hK;go_enter func56,ntmps56;go_wp2_with fail
 go_loop [1,5] (λkv iv=>∃(X Y:List QE),l=X++Y/\kv=U O (p+(Qa QH X:Nat))/\iv=U O (N X:Int)) (λ_ i=>N l-(intOf i).toNat)
 case atStart=>exact⟨[],l,rfl,by simp[Qa],rfl⟩
 obtain⟨X,Y,n,rfl,rfl⟩:=hrel;have t:=Hm n;have b:N l=N X+N Y:=by rw[n];simp
 have m:Qa QH l=Qa QH X+Qa QH Y:=by rw[n,QS]
 clear n;rcases Y with _|⟨x,Y⟩
 . (have A:¬(N X:Int)<(N l:Int):=by simp at b;omega);(have HE:Hid (l=X):=by show _=_;have:=t.o;simpa using this);clear b m;(go_wp2_with fail);go_ret;exact⟨by rw[HE.o];rfl,rfl⟩
 have A:(N X:Int)<(N l:Int):=by simp at b;omega
 have f:=L.o;rw[t.o,JK,QM]at f;obtain⟨c1,cx,c2,k1,kx,k2,D,s,hX,hx,hY⟩:=LR.zip f;have q:N c1=N X*2:=by rw[LR.len (sz:=2) len_RFT hX,Qz]
 have u:QH x=0+Hx x.ps+Hx x.rs:=rfl;rw[QK,u]at m;obtain⟨k,d⟩:∃k:Int,k=p+(Qa QH X:Nat):=⟨_,rfl⟩;have V:0<=k:=by omega
 have R:k+0+(N x.ps:Int)+(N x.rs:Int)<=1000000000:=by omega
 have aj:IntKind.i64.wrap ((N X:Int)+1)=(N X:Int)+1:=by rw[Kw];omega
 have M:=Hm d;rw[<- d]at hx;rw[<- d];obtain⟨v0,v1,rfl,rfl⟩:=hx;clear d f hX hY;obtain⟨g,cc,hv,-⟩:=QR H.o (by omega);injection hv with hv1 _ hv2;subst hv1 hv2;clear b m u;have y:Qb.Ok B w ⟨2,1,(mkI (k) (N x.ps)).length,v0,I (mkI (k) (N x.ps))⟩:=HK.o _ (by rw[s];exact mR (mL mS));rw[JW]at y;obtain⟨a0,d0,rfl⟩:=Qf y;have F:=Hm y;clear y;have v:Qb.Ok B w ⟨2,1,(mkI (k+(N x.ps:Int)) (N x.rs)).length,v1,I (mkI (k+(N x.ps:Int)) (N x.rs))⟩:=HK.o _ (by rw[s];exact mR (mL (mC mS)));rw[JW]at v;obtain⟨a1,d1,rfl⟩:=Qf v;have E:=Hm v;clear v;have y0:w.cell? ⟨g,N X*2,none⟩=some (S a0 (N x.ps) d0):=(World.ownsRow.cellAt H.o (N X*2) (by omega)).trans (by rw[D];exact QX q rfl);have y1:w.cell? ⟨g,N X*2+1,none⟩=some (S a1 (N x.rs) d1):=(World.ownsRow.cellAt H.o (N X*2+1) (by omega)).trans (by rw[D];exact Qk q (j:=1) rfl);clear D s q;go_wp2_with fail
 refine(heldI_c (N x.ps) a0 d0 (k) B w F.o (by omega) (by omega)).mono ?_;rintro e z ⟨rfl,rfl⟩;have ao:¬k+(N x.ps:Int)<0:=by omega
 go_wp2_with fail
 refine(heldI_c (N x.rs) a1 d1 (k+(N x.ps:Int)) B w E.o (by omega) (by omega)).mono ?_;rintro e z ⟨rfl,rfl⟩;have ak:¬k+(N x.ps:Int)+(N x.rs:Int)<0:=by omega
 go_wp2_with fail
 go_round
 case rel=>refine⟨X++[x],Y,by rw[t.o];simp,?_,by rw[show(((X++[x]).length:Nat):Int)=(N X:Int)+1 by simp]⟩;rw[Qw,M.o];rw[show QH x=0+Hx x.ps+Hx x.rs from rfl];congr 1;push_cast;omega
 have:N X<N l:=by omega
 simp[intOf];omega
theorem Gb {w wr W V}(h:Bw w.heap.size w wr)(b:Bw W.heap.size W V)(e:Bw wr.heap.size wr W):Bw w.heap.size w V:=by
 have a:=h.trans (e.mono h.size);exact a.trans (b.mono a.size)
theorem Qb.Ok.below {B w V}{r:Qb}(h:Qb.Ok B w r)(a:Bw w.heap.size w V):Qb.Ok B V r:=by
 have:Own B w [r]:=⟨by simpa using h,by cases hv:r.v.ownBlock<;>simp[blk,hv]⟩;exact(this.keep a).all r (by simp)
theorem heldExp_c (l:List Exp)(a:Option Ad)(c:Nat)(C:List Vu)(K:List Qb)(v:Int)(B:Nat)(w:J)(h:w.ownsRow B 157 3 (S a (N l) c) (N l) C)(hK:∀r∈K,r.Ok B w)(k:LR RExp (QM mkExp QP v l) C K)(hn:N l<=1000000000)(h0:0<=v)(h1:v+Qa QP l<=1000000000):Ec Q 61 #[S a (N l) c,U O v] w λe w'=>e=Z (U O (v+(Qa QP l:Nat)))/\Bw w.heap.size w w':=by
 have H:=Hm h;have L:=Hm k;clear h k hK;go_enter func61,ntmps61;go_wp2_with fail
 go_loopw [1,5] (λkv iv wr=>∃(X Y:List Exp),l=X++Y/\kv=U O (v+(Qa QP X:Nat))/\iv=U O (N X:Int)/\Bw w.heap.size w wr) (λ_ i _=>N l-(intOf i).toNat)
 case atStart=>exact⟨[],l,rfl,by simp[Qa],rfl,bFz⟩
 obtain⟨X,Y,s,rfl,rfl,D⟩:=hrel;have y:=Hm s;have d:N l=N X+N Y:=by rw[s];simp
 have m:Qa QP l=Qa QP X+Qa QP Y:=by rw[s,QS]
 have u:=Hm D;clear s D;rcases Y with _|⟨x,Y⟩
 . (have F:¬(N X:Int)<(N l:Int):=by simp at d;omega);(have HE:Hid (l=X):=by show _=_;have:=y.o;simpa using this);clear d m;(go_wp2_with fail);go_ret;exact⟨by rw[HE.o];rfl,u.o⟩
 have F:(N X:Int)<(N l:Int):=by simp at d;omega
 have k:=L.o;rw[y.o,JK,QM]at k;obtain⟨c1,cx,c2,k1,kx,k2,E,I,hX,hx,hY⟩:=LR.zip k;have q:N c1=N X*3:=by rw[LR.len (sz:=3) (by rintro x cs rs ⟨rfl,rfl⟩;rfl) hX,Qz]
 have z:QP x=3:=rfl;rw[QK,z]at m;obtain⟨b,f⟩:∃b:Int,b=v+(Qa QP X:Nat):=⟨_,rfl⟩;have aa:0<=b:=by omega
 have R:b+3<=1000000000:=by omega
 have ag:IntKind.i64.wrap ((N X:Int)+1)=(N X:Int)+1:=by rw[Kw];omega
 have M:=Hm f;rw[<- f]at hx;rw[<- f];obtain⟨rfl,rfl⟩:=hx;clear f k hX hY;obtain⟨g,cc,hv,-⟩:=QR H.o (by omega);injection hv with hv1 _ hv2;subst hv1 hv2;have n:g<w.heap.size:=(World.ownsRow.lt H.o g rfl).2;clear d m z;have Y0:Hid (∀W,Bw w.heap.size w W->W.cell? ⟨g,N X*3,none⟩=some (Xs (mtx (b)))):=Hm (λW hW=>(hW.cell (p:=⟨g,N X*3,none⟩) n).trans ((World.ownsRow.cellAt H.o (N X*3) (by omega)).trans (by rw[E];exact QX q rfl)));have Y1:Hid (∀W,Bw w.heap.size w W->W.cell? ⟨g,N X*3+1,none⟩=some (U O (b+1))):=Hm (λW hW=>(hW.cell (p:=⟨g,N X*3+1,none⟩) n).trans ((World.ownsRow.cellAt H.o (N X*3+1) (by omega)).trans (by rw[E];exact Qk q (j:=1) rfl)));have Y2:Hid (∀W,Bw w.heap.size w W->W.cell? ⟨g,N X*3+2,none⟩=some (U O (b+1+1))):=Hm (λW hW=>(hW.cell (p:=⟨g,N X*3+2,none⟩) n).trans ((World.ownsRow.cellAt H.o (N X*3+2) (by omega)).trans (by rw[E];exact Qk q (j:=2) rfl)));clear E I q;have y0:=Y0.o _ u.o;have KT:=Hm (λW=>Xp (b) W (by omega) (by omega));go_upto_region 4 with fail
 go_cut [19]from 12 to 19 (λt V=>t=G false/\Bw w.heap.size w V)
 case first=>
  go_region_law (first
   | (
    go_simp
    refine(KT.o _).mono ?_
    rintro e V ⟨rfl,A⟩;have BV:Hid (Bw w.heap.size w V):=Hm (Gb u.o A (by first | exact bFz | exact bFz.drew | exact(bFz.drew).drew));have yV:=Y0.o _ BV.o;clear A))
  all_goals
   go_wp2_with fail
   go_meet
   exact⟨by simp,BV.o⟩
 obtain⟨rfl,D⟩:=hcut;clear u y0 KT;have u:=Hm D;clear D;have aj:IntKind.i64.wrap (b+1)=b+1:=by rw[Kw];omega
 have y1:=Y1.o _ u.o;have ai:IntKind.i64.wrap (b+1+1)=b+1+1:=by rw[Kw];omega
 have y2:=Y2.o _ u.o;have ah:IntKind.i64.wrap (b+1+1+1)=b+1+1+1:=by rw[Kw];omega
 go_wp2_with fail
 go_roundw
 case rel=>refine⟨X++[x],Y,by rw[y.o];simp,?_,by rw[show(((X++[x]).length:Nat):Int)=(N X:Int)+1 by simp],u.o⟩;rw[Qw,M.o];rw[show QP x=3 from rfl];congr 1;push_cast;omega
 have:N X<N l:=by omega
 simp[intOf];omega
theorem heldImp_c (l:List Imp)(a:Option Ad)(c:Nat)(C:List Vu)(K:List Qb)(A:Int)(B:Nat)(w:J)(h:w.ownsRow B 143 9 (S a (N l) c) (N l) C)(hK:∀r∈K,r.Ok B w)(q:LR RImp (QM mkImp Qr A l) C K)(hn:N l<=1000000000)(h0:0<=A)(h1:A+Qa Qr l<=1000000000):Ec Q 57 #[S a (N l) c,U O A] w λe w'=>e=Z (U O (A+(Qa Qr l:Nat)))/\Bw w.heap.size w w':=by
 have H:=Hm h;have R:=Hm q;clear h q hK;go_enter func57,ntmps57;go_wp2_with fail
 go_loopw [1,5] (λkv iv wr=>∃(X Y:List Imp),l=X++Y/\kv=U O (A+(Qa Qr X:Nat))/\iv=U O (N X:Int)/\Bw w.heap.size w wr) (λ_ i _=>N l-(intOf i).toNat)
 case atStart=>exact⟨[],l,rfl,by simp[Qa],rfl,bFz⟩
 obtain⟨X,Y,y,rfl,rfl,z⟩:=hrel;have D:=Hm y;have m:N l=N X+N Y:=by rw[y];simp
 have s:Qa Qr l=Qa Qr X+Qa Qr Y:=by rw[y,QS]
 have k:=Hm z;clear y z;rcases Y with _|⟨x,Y⟩
 . (have L:¬(N X:Int)<(N l:Int):=by simp at m;omega);(have HE:Hid (l=X):=by show _=_;have:=D.o;simpa using this);clear m s;(go_wp2_with fail);go_ret;exact⟨by rw[HE.o];rfl,k.o⟩
 have L:(N X:Int)<(N l:Int):=by simp at m;omega
 have q:=R.o;rw[D.o,JK,QM]at q;obtain⟨c1,cx,c2,k1,kx,k2,v,M,hX,hx,hY⟩:=LR.zip q;have f:N c1=N X*9:=by rw[LR.len (sz:=9) (by rintro x cs rs ⟨rfl,rfl⟩;rfl) hX,Qz]
 have E:Qr x=9:=rfl;rw[QK,E]at s;obtain⟨b,n⟩:∃b:Int,b=A+(Qa Qr X:Nat):=⟨_,rfl⟩;have ac:0<=b:=by omega
 have ab:b+9<=1000000000:=by omega
 have aj:IntKind.i64.wrap ((N X:Int)+1)=(N X:Int)+1:=by rw[Kw];omega
 have aa:=Hm n;rw[<- n]at hx;rw[<- n];obtain⟨rfl,rfl⟩:=hx;clear n q hX hY;obtain⟨g,cc,hv,-⟩:=QR H.o (by omega);injection hv with hv1 _ hv2;subst hv1 hv2;have d:g<w.heap.size:=(World.ownsRow.lt H.o g rfl).2;clear m s E;have Y0:Hid (∀W,Bw w.heap.size w W->W.cell? ⟨g,N X*9,none⟩=some (Xs (mtx (b)))):=Hm (λW hW=>(hW.cell (p:=⟨g,N X*9,none⟩) d).trans ((World.ownsRow.cellAt H.o (N X*9) (by omega)).trans (by rw[v];exact QX f rfl)));have Y1:Hid (∀W,Bw w.heap.size w W->W.cell? ⟨g,N X*9+1,none⟩=some (Xs (mtx (b+1)))):=Hm (λW hW=>(hW.cell (p:=⟨g,N X*9+1,none⟩) d).trans ((World.ownsRow.cellAt H.o (N X*9+1) (by omega)).trans (by rw[v];exact Qk f (j:=1) rfl)));have Y2:Hid (∀W,Bw w.heap.size w W->W.cell? ⟨g,N X*9+2,none⟩=some (U O (b+1+1))):=Hm (λW hW=>(hW.cell (p:=⟨g,N X*9+2,none⟩) d).trans ((World.ownsRow.cellAt H.o (N X*9+2) (by omega)).trans (by rw[v];exact Qk f (j:=2) rfl)));have Y3:Hid (∀W,Bw w.heap.size w W->W.cell? ⟨g,N X*9+3,none⟩=some (U O (b+1+1+1))):=Hm (λW hW=>(hW.cell (p:=⟨g,N X*9+3,none⟩) d).trans ((World.ownsRow.cellAt H.o (N X*9+3) (by omega)).trans (by rw[v];exact Qk f (j:=3) rfl)));have Y4:Hid (∀W,Bw w.heap.size w W->W.cell? ⟨g,N X*9+4,none⟩=some (U O (b+1+1+1+1))):=Hm (λW hW=>(hW.cell (p:=⟨g,N X*9+4,none⟩) d).trans ((World.ownsRow.cellAt H.o (N X*9+4) (by omega)).trans (by rw[v];exact Qk f (j:=4) rfl)));have Y5:Hid (∀W,Bw w.heap.size w W->W.cell? ⟨g,N X*9+5,none⟩=some (U O (b+1+1+1+1+1))):=Hm (λW hW=>(hW.cell (p:=⟨g,N X*9+5,none⟩) d).trans ((World.ownsRow.cellAt H.o (N X*9+5) (by omega)).trans (by rw[v];exact Qk f (j:=5) rfl)))
 have Y6:Hid (∀W,Bw w.heap.size w W->W.cell? ⟨g,N X*9+6,none⟩=some (G ((b+1+1+1+1+1+1)%3==0))):=Hm (λW hW=>(hW.cell (p:=⟨g,N X*9+6,none⟩) d).trans ((World.ownsRow.cellAt H.o (N X*9+6) (by omega)).trans (by rw[v];exact Qk f (j:=6) rfl)));have Y7:Hid (∀W,Bw w.heap.size w W->W.cell? ⟨g,N X*9+7,none⟩=some (U O (b+1+1+1+1+1+1+1))):=Hm (λW hW=>(hW.cell (p:=⟨g,N X*9+7,none⟩) d).trans ((World.ownsRow.cellAt H.o (N X*9+7) (by omega)).trans (by rw[v];exact Qk f (j:=7) rfl)));have Y8:Hid (∀W,Bw w.heap.size w W->W.cell? ⟨g,N X*9+8,none⟩=some (G ((b+1+1+1+1+1+1+1+1)%3==0))):=Hm (λW hW=>(hW.cell (p:=⟨g,N X*9+8,none⟩) d).trans ((World.ownsRow.cellAt H.o (N X*9+8) (by omega)).trans (by rw[v];exact Qk f (j:=8) rfl)));clear v M f;have y0:=Y0.o _ k.o;have F:=Hm (λW=>Xp (b) W (by omega) (by omega));go_upto_region 4 with fail
 go_cut [19]from 12 to 19 (λt V=>t=G false/\Bw w.heap.size w V)
 case first=>
  go_region_law (first
   | (
    go_simp
    refine(F.o _).mono ?_
    rintro e V ⟨rfl,u⟩;have I:Hid (Bw w.heap.size w V):=Hm (Gb k.o u (by first | exact bFz | exact bFz.drew | exact(bFz.drew).drew));have yV:=Y0.o _ I.o;clear u))
  all_goals
   go_wp2_with fail
   go_meet
   exact⟨by simp,I.o⟩
 obtain⟨rfl,z⟩:=hcut;clear k y0 F;have k:=Hm z;clear z;have ay:IntKind.i64.wrap (b+1)=b+1:=by rw[Kw];omega
 have y1:=Y1.o _ k.o;have F:=Hm (λW=>Xp (b+1) W (by omega) (by omega));go_upto_region 7 with fail
 go_cut [29]from 22 to 29 (λt V=>t=G false/\Bw w.heap.size w V)
 case first=>
  go_region_law (first
   | (
    go_simp
    refine(F.o _).mono ?_
    rintro e V ⟨rfl,u⟩;have I:Hid (Bw w.heap.size w V):=Hm (Gb k.o u (by first | exact bFz | exact bFz.drew | exact(bFz.drew).drew));have yV:=Y1.o _ I.o;clear u))
  all_goals
   go_wp2_with fail
   go_meet
   exact⟨by simp,I.o⟩
 obtain⟨rfl,z⟩:=hcut;clear k y1 F;have k:=Hm z;clear z;have ax:IntKind.i64.wrap (b+1+1)=b+1+1:=by rw[Kw];omega
 have y2:=Y2.o _ k.o;have aw:IntKind.i64.wrap (b+1+1+1)=b+1+1+1:=by rw[Kw];omega
 have y3:=Y3.o _ k.o;have av:IntKind.i64.wrap (b+1+1+1+1)=b+1+1+1+1:=by rw[Kw];omega
 have y4:=Y4.o _ k.o;have au:IntKind.i64.wrap (b+1+1+1+1+1)=b+1+1+1+1+1:=by rw[Kw];omega
 have y5:=Y5.o _ k.o;have ar:IntKind.i64.wrap (b+1+1+1+1+1+1)=b+1+1+1+1+1+1:=by rw[Kw];omega
 have y6:=Y6.o _ k.o;have aq:IntKind.i64.wrap (b+1+1+1+1+1+1+1)=b+1+1+1+1+1+1+1:=by rw[Kw];omega
 have y7:=Y7.o _ k.o;have ao:IntKind.i64.wrap (b+1+1+1+1+1+1+1+1)=b+1+1+1+1+1+1+1+1:=by rw[Kw];omega
 have y8:=Y8.o _ k.o;have ak:IntKind.i64.wrap (b+1+1+1+1+1+1+1+1+1)=b+1+1+1+1+1+1+1+1+1:=by rw[Kw];omega
 go_wp2_with fail
 go_roundw
 case rel=>refine⟨X++[x],Y,by rw[D.o];simp,?_,by rw[show(((X++[x]).length:Nat):Int)=(N X:Int)+1 by simp],k.o⟩;rw[Qw,aa.o];rw[show Qr x=9 from rfl];congr 1;push_cast;omega
 have:N X<N l:=by omega
 simp[intOf];omega
theorem heldCus_c (l:List Cus)(a:Option Ad)(c:Nat)(C:List Vu)(K:List Qb)(v:Int)(B:Nat)(w:J)(h:w.ownsRow B 131 3 (S a (N l) c) (N l) C)(hK:∀r∈K,r.Ok B w)(k:LR RCus (QM mkCus Jf v l) C K)(hn:N l<=1000000000)(h0:0<=v)(h1:v+Qa Jf l<=1000000000):Ec Q 65 #[S a (N l) c,U O v] w λe w'=>e=Z (U O (v+(Qa Jf l:Nat)))/\Bw w.heap.size w w':=by
 have H:=Hm h;have HK:=Hm hK;have R:=Hm k;clear h k hK;go_enter func65,ntmps65;go_wp2_with fail
 go_loopw [1,5] (λkv iv wr=>∃(X Y:List Cus),l=X++Y/\kv=U O (v+(Qa Jf X:Nat))/\iv=U O (N X:Int)/\Bw w.heap.size w wr) (λ_ i _=>N l-(intOf i).toNat)
 case atStart=>exact⟨[],l,rfl,by simp[Qa],rfl,bFz⟩
 obtain⟨X,Y,s,rfl,rfl,D⟩:=hrel;have y:=Hm s;have d:N l=N X+N Y:=by rw[s];simp
 have m:Qa Jf l=Qa Jf X+Qa Jf Y:=by rw[s,QS]
 have u:=Hm D;clear s D;rcases Y with _|⟨x,Y⟩
 . (have L:¬(N X:Int)<(N l:Int):=by simp at d;omega);(have HE:Hid (l=X):=by show _=_;have:=y.o;simpa using this);clear d m;(go_wp2_with fail);go_ret;exact⟨by rw[HE.o];rfl,u.o⟩
 have L:(N X:Int)<(N l:Int):=by simp at d;omega
 have k:=R.o;rw[y.o,JK,QM]at k;obtain⟨c1,cx,c2,k1,kx,k2,I,E,hX,hx,hY⟩:=LR.zip k;have q:N c1=N X*3:=by rw[LR.len (sz:=3) len_RCus hX,Qz]
 have z:Jf x=2+Hx x.bs:=rfl;rw[QK,z]at m;obtain⟨b,f⟩:∃b:Int,b=v+(Qa Jf X:Nat):=⟨_,rfl⟩;have ad:0<=b:=by omega
 have ac:b+2+(N x.bs:Int)<=1000000000:=by omega
 have au:IntKind.i64.wrap ((N X:Int)+1)=(N X:Int)+1:=by rw[Kw];omega
 have aa:=Hm f;rw[<- f]at hx;rw[<- f];obtain⟨v2,rfl,rfl⟩:=hx;clear f k hX hY;obtain⟨g,cc,hv,-⟩:=QR H.o (by omega);injection hv with hv1 _ hv2;subst hv1 hv2;have n:g<w.heap.size:=(World.ownsRow.lt H.o g rfl).2;clear d m z;have F:Qb.Ok B w ⟨5,1,(mkB (b+1+1) (N x.bs)).length,v2,Uz0 (mkB (b+1+1) (N x.bs))⟩:=HK.o _ (by rw[E];exact mR (mL mS));rw[mkB_len]at F;obtain⟨a2,d2,rfl⟩:=Qf F;have M:=Hm F;clear F;have Y0:Hid (∀W,Bw w.heap.size w W->W.cell? ⟨g,N X*3,none⟩=some (U O (b))):=Hm (λW hW=>(hW.cell (p:=⟨g,N X*3,none⟩) n).trans ((World.ownsRow.cellAt H.o (N X*3) (by omega)).trans (by rw[I];exact QX q rfl)));have Y1:Hid (∀W,Bw w.heap.size w W->W.cell? ⟨g,N X*3+1,none⟩=some (Xs (mtx (b+1)))):=Hm (λW hW=>(hW.cell (p:=⟨g,N X*3+1,none⟩) n).trans ((World.ownsRow.cellAt H.o (N X*3+1) (by omega)).trans (by rw[I];exact Qk q (j:=1) rfl)));have Y2:Hid (∀W,Bw w.heap.size w W->W.cell? ⟨g,N X*3+2,none⟩=some (S a2 (N x.bs) d2)):=Hm (λW hW=>(hW.cell (p:=⟨g,N X*3+2,none⟩) n).trans ((World.ownsRow.cellAt H.o (N X*3+2) (by omega)).trans (by rw[I];exact Qk q (j:=2) rfl)));clear I E q;have y0:=Y0.o _ u.o;have aw:IntKind.i64.wrap (b+1)=b+1:=by rw[Kw];omega
 have y1:=Y1.o _ u.o;have KT:=Hm (λW=>Xp (b+1) W (by omega) (by omega));go_upto_region 7 with fail
 clear y0;go_cut [28]from 21 to 28 (λt V=>t=G false/\Bw w.heap.size w V)
 case first=>
  go_region_law (first
   | (
    go_simp
    refine(KT.o _).mono ?_
    rintro e V ⟨rfl,A⟩;have BV:Hid (Bw w.heap.size w V):=Hm (Gb u.o A (by first | exact bFz | exact bFz.drew | exact(bFz.drew).drew));have yV:=Y1.o _ BV.o;clear A))
  all_goals
   go_wp2_with fail
   go_meet
   exact⟨by simp,BV.o⟩
 obtain⟨rfl,D⟩:=hcut;clear u y1 KT;have u:=Hm D;clear D;have av:IntKind.i64.wrap (b+1+1)=b+1+1:=by rw[Kw];omega
 have y2:=Y2.o _ u.o;go_wp2_with fail
 refine(heldB_c (N x.bs) a2 d2 (b+1+1) B _ (Qb.Ok.below M.o u.o) (by omega) (by omega)).mono ?_;rintro e w' ⟨rfl,rfl⟩;have ax:¬b+1+1+(N x.bs:Int)<0:=by omega
 go_wp2_with fail
 go_roundw
 case rel=>refine⟨X++[x],Y,by rw[y.o];simp,?_,by rw[show(((X++[x]).length:Nat):Int)=(N X:Int)+1 by simp],u.o⟩;rw[Qw,aa.o];rw[show Jf x=2+Hx x.bs from rfl];congr 1;push_cast;omega
 have:N X<N l:=by omega
 simp[intOf];omega
theorem heldGlob_c (l:List Q6)(a:Option Ad)(c:Nat)(C:List Vu)(K:List Qb)(q:Int)(B:Nat)(w:J)(h:w.ownsRow B 76 3 (S a (N l) c) (N l) C)(hK:∀r∈K,r.Ok B w)(k:LR RGlob (QM mkGlob Qy q l) C K)(hn:N l<=1000000000)(h0:0<=q)(h1:q+Qa Qy l<=1000000000):Ec Q 60 #[S a (N l) c,U O q] w λe R=>e=Z (U O (q+(Qa Qy l:Nat)))/\w=R:=by
 have H:=Hm h;have HK:=Hm hK;have L:=Hm k;clear h k hK;go_enter func60,ntmps60;go_wp2_with fail
 go_loop [1,5] (λkv iv=>∃(X Y:List Q6),l=X++Y/\kv=U O (q+(Qa Qy X:Nat))/\iv=U O (N X:Int)) (λ_ i=>N l-(intOf i).toNat)
 case atStart=>exact⟨[],l,rfl,by simp[Qa],rfl⟩
 obtain⟨X,Y,p,rfl,rfl⟩:=hrel;have t:=Hm p;have d:N l=N X+N Y:=by rw[p];simp
 have m:Qa Qy l=Qa Qy X+Qa Qy Y:=by rw[p,QS]
 clear p;rcases Y with _|⟨x,Y⟩
 . (have A:¬(N X:Int)<(N l:Int):=by simp at d;omega);(have HE:Hid (l=X):=by show _=_;have:=t.o;simpa using this);clear d m;(go_wp2_with fail);go_ret;exact⟨by rw[HE.o];rfl,rfl⟩
 have A:(N X:Int)<(N l:Int):=by simp at d;omega
 have k:=L.o;rw[t.o,JK,QM]at k;obtain⟨c1,cx,c2,k1,kx,k2,y,s,hX,hx,hY⟩:=LR.zip k;have n:N c1=N X*3:=by rw[LR.len (sz:=3) len_RGlob hX,Qz]
 have u:Qy x=2+Qa QC x.ini:=rfl;rw[QK,u]at m;obtain⟨b,f⟩:∃b:Int,b=q+(Qa Qy X:Nat):=⟨_,rfl⟩;have aa:0<=b:=by omega
 have V:b+2+((Qa QC x.ini:Nat):Int)<=1000000000:=by omega
 have ai:IntKind.i64.wrap ((N X:Int)+1)=(N X:Int)+1:=by rw[Kw];omega
 have M:=Hm f;rw[<- f]at hx;rw[<- f];obtain⟨v2,rfl,D,z,hI,rfl⟩:=hx;clear f k hX hY;obtain⟨g,cc,hv,-⟩:=QR H.o (by omega);injection hv with hv1 _ hv2;subst hv1 hv2;clear d m u;have v:Qb.Ok B w ⟨70,5,(QM mkIn QC (b+1+1) x.ini).length,v2,D⟩:=HK.o _ (by rw[s];exact mR (mL mS));rw[Qz]at v;obtain⟨a2,d2,rfl⟩:=Qf v;have E:=Hm v;clear v;have F:Hid (∀r∈z,Qb.Ok B w r):=Hm (λr hr=>HK.o r (by rw[s];exact mR (mL (mC hr))));have I:Hid (LR RIn (QM mkIn QC (b+1+1) x.ini) D z):=Hm hI;clear hI;have y0:w.cell? ⟨g,N X*3,none⟩=some (U O (b)):=(World.ownsRow.cellAt H.o (N X*3) (by omega)).trans (by rw[y];exact QX n rfl);have y1:w.cell? ⟨g,N X*3+1,none⟩=some (G ((b+1)%3==0)):=(World.ownsRow.cellAt H.o (N X*3+1) (by omega)).trans (by rw[y];exact Qk n (j:=1) rfl);have y2:w.cell? ⟨g,N X*3+2,none⟩=some (S a2 (N x.ini) d2):=(World.ownsRow.cellAt H.o (N X*3+2) (by omega)).trans (by rw[y];exact Qk n (j:=2) rfl);clear y s n;have ak:IntKind.i64.wrap (b+1)=b+1:=by rw[Kw];omega
 have aj:IntKind.i64.wrap (b+1+1)=b+1+1:=by rw[Kw];omega
 go_wp2_with fail
 refine(heldIn_c x.ini a2 d2 D z (b+1+1) B w E.o F.o I.o (by have:=JB (sz:=QC) (λx=>by simp[QC];try omega) x.ini;omega) (by omega) (by omega)).mono ?_;rintro e R ⟨rfl,rfl⟩;have ao:¬b+1+1+((Qa QC x.ini:Nat):Int)<0:=by omega
 go_wp2_with fail
 go_round
 case rel=>refine⟨X++[x],Y,by rw[t.o];simp,?_,by rw[show(((X++[x]).length:Nat):Int)=(N X:Int)+1 by simp]⟩;rw[Qw,M.o];rw[show Qy x=2+Qa QC x.ini from rfl];congr 1;push_cast;omega
 have:N X<N l:=by omega
 simp[intOf];omega
theorem heldCod_c (l:List Cod)(a:Option Ad)(c:Nat)(C:List Vu)(K:List Qb)(q:Int)(B:Nat)(w:J)(h:w.ownsRow B 81 2 (S a (N l) c) (N l) C)(hK:∀r∈K,r.Ok B w)(f:LR RCod (QM mkCod Q2 q l) C K)(hn:N l<=1000000000)(h0:0<=q)(h1:q+Qa Q2 l<=1000000000):Ec Q 63 #[S a (N l) c,U O q] w λe z=>e=Z (U O (q+(Qa Q2 l:Nat)))/\w=z:=by
 have H:=Hm h;have HK:=Hm hK;have ab:=Hm f;clear h f hK;go_enter func63,ntmps63;go_wp2_with fail
 go_loop [1,5] (λkv iv=>∃(X Y:List Cod),l=X++Y/\kv=U O (q+(Qa Q2 X:Nat))/\iv=U O (N X:Int)) (λ_ i=>N l-(intOf i).toNat)
 case atStart=>exact⟨[],l,rfl,by simp[Qa],rfl⟩
 obtain⟨X,Y,n,rfl,rfl⟩:=hrel;have t:=Hm n;have b:N l=N X+N Y:=by rw[n];simp
 have m:Qa Q2 l=Qa Q2 X+Qa Q2 Y:=by rw[n,QS]
 clear n;rcases Y with _|⟨x,Y⟩
 . (have D:¬(N X:Int)<(N l:Int):=by simp at b;omega);(have HE:Hid (l=X):=by show _=_;have:=t.o;simpa using this);clear b m;(go_wp2_with fail);go_ret;exact⟨by rw[HE.o];rfl,rfl⟩
 have D:(N X:Int)<(N l:Int):=by simp at b;omega
 have f:=ab.o;rw[t.o,JK,QM]at f;obtain⟨c1,cx,c2,k1,kx,k2,E,p,hX,hx,hY⟩:=LR.zip f;have s:N c1=N X*2:=by rw[LR.len (sz:=2) len_RCod hX,Qz]
 have u:Q2 x=0+Qa QT x.gv+Qa QC x.body:=rfl;rw[QK,u]at m;obtain⟨k,d⟩:∃k:Int,k=q+(Qa Q2 X:Nat):=⟨_,rfl⟩;have af:0<=k:=by omega
 have ae:k+0+((Qa QT x.gv:Nat):Int)+((Qa QC x.body:Nat):Int)<=1000000000:=by omega
 have aw:IntKind.i64.wrap ((N X:Int)+1)=(N X:Int)+1:=by rw[Kw];omega
 have ac:=Hm d;rw[<- d]at hx;rw[<- d];obtain⟨v0,I,v1,r1,rfl,hG,⟨F,A,hI,rfl⟩,rfl⟩:=hx;clear d f hX hY;obtain⟨g,cc,hv,-⟩:=QR H.o (by omega);injection hv with hv1 _ hv2;subst hv1 hv2;clear b m u;have y:Qb.Ok B w ⟨206,2,(QM mkGrp QT (k) x.gv).length,v0,I⟩:=HK.o _ (by rw[p];exact mR (mL mS));rw[Qz]at y;obtain⟨a0,d0,rfl⟩:=Qf y;have M:=Hm y;clear y;have aa:Hid (LR RGrp (QM mkGrp QT (k) x.gv) I []):=Hm hG;clear hG;have v:Qb.Ok B w ⟨70,5,(QM mkIn QC (k+((Qa QT x.gv:Nat):Int)) x.body).length,v1,F⟩:=HK.o _ (by rw[p];exact mR (mL (mC mS)));rw[Qz]at v;obtain⟨a1,d1,rfl⟩:=Qf v;have L:=Hm v;clear v;have R:Hid (∀r∈A,Qb.Ok B w r):=Hm (λr hr=>HK.o r (by rw[p];exact mR (mL (mC (mC hr)))));have V:Hid (LR RIn (QM mkIn QC (k+((Qa QT x.gv:Nat):Int)) x.body) F A):=Hm hI;clear hI;have y0:w.cell? ⟨g,N X*2,none⟩=some (S a0 (N x.gv) d0):=(World.ownsRow.cellAt H.o (N X*2) (by omega)).trans (by rw[E];exact QX s rfl);have y1:w.cell? ⟨g,N X*2+1,none⟩=some (S a1 (N x.body) d1):=(World.ownsRow.cellAt H.o (N X*2+1) (by omega)).trans (by rw[E];exact Qk s (j:=1) rfl);clear E p s;go_wp2_with fail
 refine(heldGrp_c x.gv a0 d0 I (k) B w M.o aa.o (by omega) (by omega)).mono ?_;rintro e z ⟨rfl,rfl⟩;have ay:¬k+((Qa QT x.gv:Nat):Int)<0:=by omega
 go_wp2_with fail
 refine(heldIn_c x.body a1 d1 F A (k+((Qa QT x.gv:Nat):Int)) B w L.o R.o V.o (by have:=JB (sz:=QC) (λx=>by simp[QC];try omega) x.body;omega) (by omega) (by omega)).mono ?_;rintro e z ⟨rfl,rfl⟩;have ax:¬k+((Qa QT x.gv:Nat):Int)+((Qa QC x.body:Nat):Int)<0:=by omega
 go_wp2_with fail
 go_round
 case rel=>refine⟨X++[x],Y,by rw[t.o];simp,?_,by rw[show(((X++[x]).length:Nat):Int)=(N X:Int)+1 by simp]⟩;rw[Qw,ac.o];rw[show Q2 x=0+Qa QT x.gv+Qa QC x.body from rfl];congr 1;push_cast;omega
 have:N X<N l:=by omega
 simp[intOf];omega
theorem heldY:(∀(l:List Ele) (a:Option Ad) (c:Nat) (C:List Vu) (K:List Qb) (m:Int) (B:Nat) (w:J) (h:w.ownsRow B 78 2 (S a (N l) c) (N l) C) (F:∀r∈K,r.Ok B w) (f:LR REle (QM mkEle QZ m l) C K) (hn:N l<=1000000000) (h0:0<=m) (h1:m+Qa QZ l<=1000000000),Ec Q 62 #[S a (N l) c,U O m] w λe z=>e=Z (U O (m+(Qa QZ l:Nat)))/\w=z)/\(∀(l:List Dat) (a:Option Ad) (c:Nat) (C:List Vu) (K:List Qb) (m:Int) (B:Nat) (w:J) (h:w.ownsRow B 83 2 (S a (N l) c) (N l) C) (F:∀r∈K,r.Ok B w) (f:LR RDat (QM mkDat Q7 m l) C K) (hn:N l<=1000000000) (h0:0<=m) (h1:m+Qa Q7 l<=1000000000),Ec Q 64 #[S a (N l) c,U O m] w λe z=>e=Z (U O (m+(Qa Q7 l:Nat)))/\w=z):=by
 refine⟨?c0,?c1⟩;case' c0=>have b:=0
 case' c1=>have n:=0
 all_goals
  intro l a c C K m B w h F f hn h0 h1
  have H:=Hm h;have V:=Hm F;have ai:=Hm f;clear h f F
  first|(replace b:=b;go_enter func62,ntmps62)|(go_enter func64,ntmps64)
  go_wp2_with fail
  first|(replace b:=b;go_loop [1,5] (λkv iv=>∃(X Y:List Ele),l=X++Y/\kv=U O (m+(Qa QZ X:Nat))/\iv=U O (N X:Int)) (λ_ i=>N l-(intOf i).toNat))|(go_loop [1,5] (λkv iv=>∃(X Y:List Dat),l=X++Y/\kv=U O (m+(Qa Q7 X:Nat))/\iv=U O (N X:Int)) (λ_ i=>N l-(intOf i).toNat))
  case atStart=>exact⟨[],l,rfl,by simp[Qa],rfl⟩
  case round =>
   obtain⟨X,Y,t,rfl,rfl⟩:=hrel;have y:=Hm t;have q:N l=N X+N Y:=by rw[t];simp
   first|(replace b:=b;have p:Qa QZ l=Qa QZ X+Qa QZ Y:=by rw[t,QS])|(have p:Qa Q7 l=Qa Q7 X+Qa Q7 Y:=by rw[t,QS])
   clear t
   rcases Y with _|⟨x,Y⟩
   . have ab:¬(N X:Int)<(N l:Int):=by simp at q;omega
     have HE:Hid (l=X):=by
      show _=_
      have:=y.o;simpa using this
     clear q p
     go_wp2_with fail
     go_ret
     exact⟨by rw[HE.o];rfl,rfl⟩
   . have ab:(N X:Int)<(N l:Int):=by simp at q;omega
     have f:=ai.o;rw[y.o,JK,QM]at f;obtain⟨c1,cx,c2,k1,kx,k2,L,u,hX,hx,hY⟩:=LR.zip f
     first|(replace b:=b;have s:N c1=N X*2:=by rw[LR.len (sz:=2) len_REle hX,Qz])|(have s:N c1=N X*2:=by rw[LR.len (sz:=2) len_RDat hX,Qz])
     first|(replace b:=b;have v:QZ x=0+Qa QC x.off+Hx x.fs:=rfl)|(have v:Q7 x=0+Qa QC x.off+Hx x.bs:=rfl)
     rw[QK,v]at p
     first|(replace b:=b;obtain⟨d,k⟩:∃d:Int,d=m+(Qa QZ X:Nat):=⟨_,rfl⟩)|(obtain⟨d,k⟩:∃d:Int,d=m+(Qa Q7 X:Nat):=⟨_,rfl⟩)
     have ao:0<=d:=by omega
     first|(replace b:=b;have A:d+0+((Qa QC x.off:Nat):Int)+(N x.fs:Int)<=1000000000:=by omega)|(have A:d+0+((Qa QC x.off:Nat):Int)+(N x.bs:Int)<=1000000000:=by omega)
     have ay:IntKind.i64.wrap ((N X:Int)+1)=(N X:Int)+1:=by rw[Kw];omega
     have E:=Hm k;rw[<- k]at hx;rw[<- k];obtain⟨v0,v1,r1,rfl,⟨cI,kI,hI,rfl⟩,rfl⟩:=hx;clear k f hX hY;obtain⟨g,cc,hv,-⟩:=QR H.o (by omega)
     injection hv with hv1 _ hv2
     subst hv1 hv2;clear q p v;have b:Qb.Ok B w ⟨70,5,(QM mkIn QC (d) x.off).length,v0,cI⟩:=V.o _ (by rw[u];exact mR (mL (mL mS)));rw[Qz]at b;obtain⟨a0,d0,rfl⟩:=Qf b;have af:=Hm b;clear b;have ag:Hid (∀r∈kI,Qb.Ok B w r):=Hm (λr hr=>V.o r (by rw[u];exact mR (mL (mL (mC hr)))));have ah:Hid (LR RIn (QM mkIn QC (d) x.off) cI kI):=Hm hI;clear hI
     first|(replace b:=b;have n:Qb.Ok B w ⟨2,1,(mkI (d+((Qa QC x.off:Nat):Int)) (N x.fs)).length,v1,I (mkI (d+((Qa QC x.off:Nat):Int)) (N x.fs))⟩:=V.o _ (by rw[u];exact mR (mL (mR mS))))|(have n:Qb.Ok B w ⟨5,1,(mkB (d+((Qa QC x.off:Nat):Int)) (N x.bs)).length,v1,Uz0 (mkB (d+((Qa QC x.off:Nat):Int)) (N x.bs))⟩:=V.o _ (by rw[u];exact mR (mL (mR mS))))
     first|(replace b:=b;rw[JW]at n)|(rw[mkB_len]at n)
     obtain⟨R,M,rfl⟩:=Qf n;have D:=Hm n;clear n;have y0:w.cell? ⟨g,N X*2,none⟩=some (S a0 (N x.off) d0):=(World.ownsRow.cellAt H.o (N X*2) (by omega)).trans (by rw[L];exact QX s rfl)
     first|(replace b:=b;have y1:w.cell? ⟨g,N X*2+1,none⟩=some (S R (N x.fs) M):=(World.ownsRow.cellAt H.o (N X*2+1) (by omega)).trans (by rw[L];exact Qk s (j:=1) rfl))|(have y1:w.cell? ⟨g,N X*2+1,none⟩=some (S R (N x.bs) M):=(World.ownsRow.cellAt H.o (N X*2+1) (by omega)).trans (by rw[L];exact Qk s (j:=1) rfl))
     clear L u s
     go_wp2_with fail
     refine(heldIn_c x.off a0 d0 cI kI (d) B w af.o ag.o ah.o (by have:=JB (sz:=QC) (λx=>by simp[QC];try omega) x.off;omega) (by omega) (by omega)).mono ?_
     rintro e z ⟨rfl,rfl⟩;have az:¬d+((Qa QC x.off:Nat):Int)<0:=by omega
     go_wp2_with fail
     first|(replace b:=b;refine(heldI_c (N x.fs) R M (d+((Qa QC x.off:Nat):Int)) B w D.o (by omega) (by omega)).mono ?_)|(refine(heldB_c (N x.bs) R M (d+((Qa QC x.off:Nat):Int)) B w D.o (by omega) (by omega)).mono ?_)
     rintro e z ⟨rfl,rfl⟩
     first|(replace b:=b;have ac:¬d+((Qa QC x.off:Nat):Int)+(N x.fs:Int)<0:=by omega)|(have ac:¬d+((Qa QC x.off:Nat):Int)+(N x.bs:Int)<0:=by omega)
     go_wp2_with fail
     go_round
     case rel =>
      refine⟨X++[x],Y,by rw[y.o];simp,?_,by rw[show(((X++[x]).length:Nat):Int)=(N X:Int)+1 by simp]⟩
      first|(replace b:=b;rw[Qw,E.o];rw[show QZ x=0+Qa QC x.off+Hx x.fs from rfl];congr 1;push_cast;omega)|(rw[Qw,E.o];rw[show Q7 x=0+Qa QC x.off+Hx x.bs from rfl];congr 1;push_cast;omega)
     case measure =>
      have:N X<N l:=by omega
      simp[intOf];omega
def heldEle_c:=heldY.1
def heldDat_c:=heldY.2
def MX (m:Mod)(v0 v1 v2 v3 v4 v5 v6 v7 v8 v9 v10:Vu)(rs R:List Qb):Prop:=∃C0 K0 C1 C3 C4 C5 K5 C6 C7 K7 C8 K8 C9 K9 C10 K10,LR RFT m.types C0 K0/\LR RImp m.cj C1 []/\LR RLim m.fk C3 []/\LR RLim m.jj C4 []/\LR RGlob m.fq C5 K5/\LR RExp m.fj C6 []/\LR REle m.fw C7 K7/\LR RCod m.gq C8 K8/\LR RDat m.gj C9 K9/\LR RCus m.gx C10 K10/\R=(⟨137,2,N m.types,v0,C0⟩::(K0++(⟨143,9,N m.cj,v1,C1⟩::(⟨2,1,N m.jv,v2,I m.jv⟩::(⟨120,3,N m.fk,v3,C3⟩::(⟨120,3,N m.jj,v4,C4⟩::(⟨76,3,N m.fq,v5,C5⟩::(K5++(⟨157,3,N m.fj,v6,C6⟩::(⟨78,2,N m.fw,v7,C7⟩::(K7++(⟨81,2,N m.gq,v8,C8⟩::(K8++(⟨83,2,N m.gj,v9,C9⟩::(K9++(⟨131,3,N m.gx,v10,C10⟩::(K10++rs)))))))))))))))))
def szM (m:Mod):Nat:=Qa QH m.types+Qa Qr m.cj+N m.jv+Qa Qo m.fk+Qa Qo m.jj+Qa Qy m.fq+Qa QP m.fj+Qa QZ m.fw+Qa Q2 m.gq+Qa Q7 m.gj+Qa Jf m.gx
def mkM (k0:Int)(m:Mod):Mod:={ m with types:=QM mkFT QH (k0) m.types,cj:=QM mkImp Qr (k0+((Qa QH m.types:Nat):Int)) m.cj,jv:=mkI (k0+((Qa QH m.types:Nat):Int)+((Qa Qr m.cj:Nat):Int)) (N m.jv),fk:=QM mkLim Qo (k0+((Qa QH m.types:Nat):Int)+((Qa Qr m.cj:Nat):Int)+(N m.jv:Int)) m.fk,jj:=QM mkLim Qo (k0+((Qa QH m.types:Nat):Int)+((Qa Qr m.cj:Nat):Int)+(N m.jv:Int)+((Qa Qo m.fk:Nat):Int)) m.jj,fq:=QM mkGlob Qy (k0+((Qa QH m.types:Nat):Int)+((Qa Qr m.cj:Nat):Int)+(N m.jv:Int)+((Qa Qo m.fk:Nat):Int)+((Qa Qo m.jj:Nat):Int)) m.fq,fj:=QM mkExp QP (k0+((Qa QH m.types:Nat):Int)+((Qa Qr m.cj:Nat):Int)+(N m.jv:Int)+((Qa Qo m.fk:Nat):Int)+((Qa Qo m.jj:Nat):Int)+((Qa Qy m.fq:Nat):Int)) m.fj,fw:=QM mkEle QZ (k0+((Qa QH m.types:Nat):Int)+((Qa Qr m.cj:Nat):Int)+(N m.jv:Int)+((Qa Qo m.fk:Nat):Int)+((Qa Qo m.jj:Nat):Int)+((Qa Qy m.fq:Nat):Int)+((Qa QP m.fj:Nat):Int)) m.fw,gq:=QM mkCod Q2 (k0+((Qa QH m.types:Nat):Int)+((Qa Qr m.cj:Nat):Int)+(N m.jv:Int)+((Qa Qo m.fk:Nat):Int)+((Qa Qo m.jj:Nat):Int)+((Qa Qy m.fq:Nat):Int)+((Qa QP m.fj:Nat):Int)+((Qa QZ m.fw:Nat):Int)) m.gq,gj:=QM mkDat Q7 (k0+((Qa QH m.types:Nat):Int)+((Qa Qr m.cj:Nat):Int)+(N m.jv:Int)+((Qa Qo m.fk:Nat):Int)+((Qa Qo m.jj:Nat):Int)+((Qa Qy m.fq:Nat):Int)+((Qa QP m.fj:Nat):Int)+((Qa QZ m.fw:Nat):Int)+((Qa Q2 m.gq:Nat):Int)) m.gj,gx:=QM mkCus Jf (k0+((Qa QH m.types:Nat):Int)+((Qa Qr m.cj:Nat):Int)+(N m.jv:Int)+((Qa Qo m.fk:Nat):Int)+((Qa Qo m.jj:Nat):Int)+((Qa Qy m.fq:Nat):Int)+((Qa QP m.fj:Nat):Int)+((Qa QZ m.fw:Nat):Int)+((Qa Q2 m.gq:Nat):Int)+((Qa Q7 m.gj:Nat):Int)) m.gx }
def LnM (m:Mod):Prop:=N m.types<=1000000000/\N m.cj<=1000000000/\N m.jv<=1000000000/\N m.fk<=1000000000/\N m.jj<=1000000000/\N m.fq<=1000000000/\N m.fj<=1000000000/\N m.fw<=1000000000/\N m.gq<=1000000000/\N m.gj<=1000000000/\N m.gx<=1000000000
def MmP (m:Mod)(v0 v1 v2 v3 v4 v5 v6 v7 v8 v9 v10:Vu)(k0:Int)(B:Nat)(w0:J)(rs:List Qb)(e:Ending)(w':J):Prop:=∃R,e=Z (U O (k0+(szM m:Nat)))/\MX (mkM k0 m) v0 v1 v2 v3 v4 v5 v6 v7 v8 v9 v10 rs R/\Mo B w0 R w'
theorem Mo.box {B w0 V rs}(h:Mo B w0 rs V)(cur:Array Vu)(e n:Nat)(c:cur.size=n):Mo B w0 (⟨e,n,1,S (some ⟨V.heap.size,0,none⟩) 1 1,cur.toList⟩::rs) (V.alloc (Fc cur e)):=by
 have a:Bw V.heap.size V (V.alloc (Fc cur e)):=bFz.alloc lRz _;refine⟨?_,h.b.trans (a.mono h.le),Nat.le_trans h.le a.size⟩;have d:Qb.Ok V.heap.size (V.alloc (Fc cur e)) ⟨e,n,1,S (some ⟨V.heap.size,0,none⟩) 1 1,cur.toList⟩:=by
  subst c;refine⟨by simp,.inr ⟨V.heap.size,1,cur,rfl,lRz,?_,lRz,by decide,by simp,?_⟩⟩
  . show(V.heap.push _)[V.heap.size]?=_;exact Array.getElem?_push_size
  show cur.toList.take (1*cur.size)=cur.toList;rw[List.take_of_length_le (by simp)]
 exact(Own.new h.own (h.own.keep a) (Own.one d) h.le).comm
theorem Mo.tail {B w0 V}{r:Qb}(h:Mo B w0 (r::rs) V):Mo B w0 rs V:=⟨h.own.tail,h.b,h.le⟩
theorem lr_nil {a:α->List Vu->List Qb->Prop}(hr:∀x c k,a x c k->k=[]):∀{l:List α} {c:List Vu} {k:List Qb},LR a l c k->k=[]:=by
 intro l;induction l with
 |nil =>
  rintro c k ⟨d,b,f,rfl,rfl⟩
  have:d=[]:=by simpa using b
  subst this;rfl
 |cons x l ih =>
  intro c k h
  obtain⟨r,p,q,g,n,o,rfl,rfl,b,hx,f⟩:=LR.zip (X:=[]) h
  have j:g=[]:=by
   obtain⟨d,m,s,rfl,rfl⟩:=b
   have:d=[]:=by simpa using m
   subst this;rfl
  rw[j,hr _ _ _ hx,ih f];rfl
theorem lr_int:∀{l:List Int} {c:List Vu} {k:List Qb},LR RInt l c k->c=I l/\k=[]:=by
 intro l;induction l with
 |nil =>
  rintro c k ⟨b,a,d,rfl,rfl⟩
  have:b=[]:=by simpa using a
  subst this;exact⟨rfl,rfl⟩
 |cons x l ih =>
  intro c k h
  obtain⟨j,p,q,f,n,o,rfl,rfl,a,hx,d⟩:=LR.zip (X:=[]) h
  have g:j=[]/\f=[]:=by
   obtain⟨b,m,r,rfl,rfl⟩:=a
   have:b=[]:=by simpa using m
   subst this;exact⟨rfl,rfl⟩
  obtain⟨rfl,rfl⟩:=g;obtain⟨rfl,rfl⟩:=hx;obtain⟨rfl,rfl⟩:=ih d
  exact⟨rfl,rfl⟩
theorem mr_mx {m}{a0 a1 a2 a3 a4 a5 a6 a7 a8 a9 p:Option Ad}{n0 n1 n2 n3 n4 n5 n6 n7 Y X f:Nat}{L}(h:MR m [S a0 (N m.types) n0,S a1 (N m.cj) n1,S a2 (N m.jv) n2,S a3 (N m.fk) n3,S a4 (N m.jj) n4,S a5 (N m.fq) n5,S a6 (N m.fj) n6,G m.gk,U O m.start,S a7 (N m.fw) n7,S a8 (N m.gq) Y,S a9 (N m.gj) X,S p (N m.gx) f] L)(rs:List Qb):MX m (S a0 (N m.types) n0) (S a1 (N m.cj) n1) (S a2 (N m.jv) n2) (S a3 (N m.fk) n3) (S a4 (N m.jj) n4) (S a5 (N m.fq) n5) (S a6 (N m.fj) n6) (S a7 (N m.fw) n7) (S a8 (N m.gq) Y) (S a9 (N m.gj) X) (S p (N m.gx) f) rs (L.flatten++rs):=by
 obtain⟨V,R,M,I,H,F,E,D,C,B,d,rfl⟩:∃V R M I H F E D C B d,L=[V,R,M,I,H,F,E,D,C,B,d]:=by
  have:=h.ll;match L,this with
  |[y0,y1,y2,y3,y4,y5,y6,y7,y8,y9,y10],_=>exact⟨y0,y1,y2,y3,y4,y5,y6,y7,y8,y9,y10,rfl⟩
 obtain⟨v,C0,K0,b,a,y⟩:=h.types;injection b with b;injection a with a;subst b a;obtain⟨v,C1,K1,b,a,o⟩:=h.cj;injection b with b;injection a with a;subst b a;obtain rfl:=lr_nil (λx c k h=>h.2) o;obtain⟨v,C2,K2,b,a,u⟩:=h.jv;injection b with b;injection a with a;subst b a;obtain⟨rfl,rfl⟩:=lr_int u;obtain⟨v,C3,K3,b,a,l⟩:=h.fk;injection b with b;injection a with a;subst b a;obtain rfl:=lr_nil (λx c k h=>h.2) l;obtain⟨v,C4,K4,b,a,j⟩:=h.jj;injection b with b;injection a with a;subst b a;obtain rfl:=lr_nil (λx c k h=>h.2) j;obtain⟨v,C5,K5,b,a,t⟩:=h.fq;injection b with b;injection a with a;subst b a;obtain⟨v,C6,K6,b,a,g⟩:=h.fj;injection b with b;injection a with a;subst b a;obtain rfl:=lr_nil (λx c k h=>h.2) g;obtain⟨v,C7,K7,b,a,s⟩:=h.fw;injection b with b;injection a with a;subst b a;obtain⟨v,C8,K8,b,a,r⟩:=h.gq;injection b with b;injection a with a;subst b a;obtain⟨v,C9,K9,b,a,q⟩:=h.gj;injection b with b;injection a with a;subst b a;obtain⟨v,A,z,b,a,n⟩:=h.gx;injection b with b;injection a with a;subst b a;refine⟨C0,K0,C1,C3,C4,C5,K5,C6,C7,K7,C8,K8,C9,K9,A,z,y,o,l,j,t,g,s,r,q,n,?_⟩;simp only[List.flatten_cons,List.flatten_nil,Tv,Kd,List.nil_append,Tb]
theorem Xe {l:α->List Vu->List Qb->Prop}{At:Nat->Nat->α->Prop}{T sz c:Nat}{w:J}{a:Option Ad}{d:List α}{K}(z:α)(k:∀x cs rs,l x cs rs->N cs=sz)(y:∀b o x n p,l x n p->(∀j,j<sz->w.cell? ⟨b,o+j,none⟩=n[j]?)->(∀r∈p,r.Ok B w)->At b o x)(h:Qb.Ok B w ⟨T,sz,N d,S a (N d) c,C⟩)(s:LR l d C K)(H:∀r∈K,r.Ok B w):d=[]\/∃b off,a=some ⟨b,off,none⟩/\B<=b/\∀i,i<N d->At b (off+i*sz) (d.getD i z):=by
 by_cases D:d=[]
 . exact .inl D
 right;have m:0<N d:=List.length_pos_iff.2 D;obtain⟨g,Y,hv,-⟩:=QR h m;injection hv with hv1 _ hv2;subst hv1;refine⟨g,0,rfl,(World.ownsRow.lt h g rfl).1,λi hi=>?_⟩;have q:d=d.take i++(d[i]::d.drop (i+1)):=by
  conv=>lhs;rw[<- List.take_append_drop i d]
  rw[List.drop_eq_getElem_cons hi]
 have f:=s;rw[q]at f;obtain⟨M,n,c2,V,p,R,I,v,L,hx,X⟩:=LR.zip f;have t:N M=i*sz:=by rw[LR.len (sz:=sz) k L,List.length_take,Nat.min_eq_left (Nat.le_of_lt hi)]
 have E:=k _ _ _ hx;rw[show d.getD i z=d[i] by simp[Ty,hi]];refine y _ _ _ n p hx (λj hj=>?_) (λr hr=>H r (by rw[v];simp[hr]));have F:i*sz+j<N d*sz:=by
  have:i*sz+sz<=N d*sz:=by have:=Nat.mul_le_mul_right sz (show i+1<=N d from hi);rw[Nat.add_mul,Nat.one_mul]at this;exact this
  omega
 rw[Kk];refine(World.ownsRow.cellAt h (i*sz+j) F).trans ?_;show C[i*sz+j]?=_;obtain⟨u,A⟩:∃u,n[j]?=some u:=⟨_,List.getElem?_eq_getElem (by omega)⟩;rw[I,A];exact Qk t A
theorem hi_i64 {c:Nat}{w}{a:Option Ad}{b:List Int}(h:Qb.Ok B w ⟨2,1,N b,S a (N b) c,I b⟩):HI O B w a b:=by
 by_cases f:b=[]
 . exact .inl f
 right;have d:0<N b:=List.length_pos_iff.2 f;obtain⟨g,j,hv,-⟩:=QR h d;injection hv with hv1 _ hv2;subst hv1;refine⟨g,0,rfl,(World.ownsRow.lt h g rfl).1,λi hi=>?_⟩;rw[Kk];refine(World.ownsRow.cellAt h i (show i<N b*1 by omega)).trans ?_;show(I b)[i]?=_;simp[I,Ty,hi]
theorem hi_u8 {c:Nat}{w}{a:Option Ad}{b:List Int}(h:Qb.Ok B w ⟨5,1,N b,S a (N b) c,Uz0 b⟩):HI .u8 B w a b:=by
 by_cases f:b=[]
 . exact .inl f
 right;have d:0<N b:=List.length_pos_iff.2 f;obtain⟨g,j,hv,-⟩:=QR h d;injection hv with hv1 _ hv2;subst hv1;refine⟨g,0,rfl,(World.ownsRow.lt h g rfl).1,λi hi=>?_⟩;rw[Kk];refine(World.ownsRow.cellAt h i (show i<N b*1 by omega)).trans ?_;show(Uz0 b)[i]?=_;simp[Uz0,Ty,hi]
theorem ls_Lim {c:Nat}{w}{a:Option Ad}{d:List Qp}{K}(h:Qb.Ok B w ⟨120,3,N d,S a (N d) c,C⟩)(f:LR RLim d C K)(g:∀r∈K,r.Ok B w):Qp.Ls B w a d :=
 Xe Qp.z (by rintro x m rs ⟨rfl,rfl⟩;rfl) (by
  rintro b o x l j ⟨rfl,rfl⟩ hc k
  exact⟨⟨hc 0 (by decide),hc 1 (by decide),hc 2 (by decide)⟩,trivial⟩) h f g
theorem ls_Grp {c:Nat}{w}{a:Option Ad}{d:List Grp}{K}(h:Qb.Ok B w ⟨206,2,N d,S a (N d) c,C⟩)(f:LR RGrp d C K)(g:∀r∈K,r.Ok B w):Grp.Ls B w a d :=
 Xe Grp.z (by rintro x m rs ⟨rfl,rfl⟩;rfl) (by
  rintro b o x l j ⟨rfl,rfl⟩ hc k
  exact⟨⟨hc 0 (by decide),hc 1 (by decide)⟩,trivial⟩) h f g
theorem ls_Exp {c:Nat}{w}{a:Option Ad}{d:List Exp}{K}(h:Qb.Ok B w ⟨157,3,N d,S a (N d) c,C⟩)(f:LR RExp d C K)(g:∀r∈K,r.Ok B w):Exp.Ls B w a d :=
 Xe Exp.z (by rintro x m rs ⟨rfl,rfl⟩;rfl) (by
  rintro b o x l j ⟨rfl,rfl⟩ hc k
  exact⟨⟨hc 0 (by decide),hc 1 (by decide),hc 2 (by decide)⟩,trivial⟩) h f g
theorem ls_Imp {c:Nat}{w}{a:Option Ad}{d:List Imp}{K}(h:Qb.Ok B w ⟨143,9,N d,S a (N d) c,C⟩)(f:LR RImp d C K)(g:∀r∈K,r.Ok B w):Imp.Ls B w a d :=
 Xe Imp.z (by rintro x m rs ⟨rfl,rfl⟩;rfl) (by
  rintro b o x l j ⟨rfl,rfl⟩ hc k
  exact⟨⟨hc 0 (by decide),hc 1 (by decide),hc 2 (by decide),hc 3 (by decide),hc 4 (by decide),hc 5 (by decide),hc 6 (by decide),hc 7 (by decide),hc 8 (by decide)⟩,trivial⟩) h f g
theorem ls_In {c:Nat}{w}{a:Option Ad}{d:List In}{K}(h:Qb.Ok B w ⟨70,5,N d,S a (N d) c,C⟩)(f:LR RIn d C K)(j:∀r∈K,r.Ok B w):In.Ls B w a d :=
 Xe I0 len_RIn (by
  rintro b o x n m ⟨v,rfl,rfl⟩ hc g;obtain⟨l,k,rfl⟩:=Qf (g _ mS)
  exact⟨l,k,⟨hc 0 (by decide),hc 1 (by decide),hc 2 (by decide),hc 3 (by decide),hc 4 (by decide)⟩,hi_i64 (g _ mS)⟩) h f j
theorem ls_FT {c:Nat}{w}{a:Option Ad}{d:List QE}{K}(h:Qb.Ok B w ⟨137,2,N d,S a (N d) c,C⟩)(g:LR RFT d C K)(j:∀r∈K,r.Ok B w):QE.Ls B w a d :=
 Xe QE.z len_RFT (by
  rintro b o x s q ⟨v,p,rfl,rfl⟩ hc f;obtain⟨n,l,rfl⟩:=Qf (f _ mS);obtain⟨m,k,rfl⟩:=Qf (f _ (mC mS))
  exact⟨n,l,m,k,⟨hc 0 (by decide),hc 1 (by decide)⟩,hi_i64 (f _ mS),hi_i64 (f _ (mC mS))⟩) h g j
theorem ls_Cus {c:Nat}{w}{a:Option Ad}{d:List Cus}{K}(h:Qb.Ok B w ⟨131,3,N d,S a (N d) c,C⟩)(f:LR RCus d C K)(j:∀r∈K,r.Ok B w):Cus.Ls B w a d :=
 Xe Cus.z len_RCus (by
  rintro b o x n m ⟨v,rfl,rfl⟩ hc g;obtain⟨l,k,rfl⟩:=Qf (g _ mS)
  exact⟨l,k,⟨hc 0 (by decide),hc 1 (by decide),hc 2 (by decide)⟩,hi_u8 (g _ mS)⟩) h f j
theorem ls_Glob {c:Nat}{w}{a:Option Ad}{d:List Q6}{K}(h:Qb.Ok B w ⟨76,3,N d,S a (N d) c,C⟩)(f:LR RGlob d C K)(j:∀r∈K,r.Ok B w):Q6.Ls B w a d :=
 Xe Q6.z len_RGlob (by
  rintro b o x q n ⟨v,rfl,s,p,k,rfl⟩ hc g;obtain⟨m,l,rfl⟩:=Qf (g _ mS)
  exact⟨m,l,⟨hc 0 (by decide),hc 1 (by decide),hc 2 (by decide)⟩,ls_In (g _ mS) k (fun r hr=>g r (mC hr))⟩) h f j
theorem ls_Ele {c:Nat}{w}{a:Option Ad}{f:List Ele}{K}(h:Qb.Ok B w ⟨78,2,N f,S a (N f) c,C⟩)(g:LR REle f C K)(j:∀r∈K,r.Ok B w):Ele.Ls B w a f :=
 Xe Ele.z len_REle (by
  rintro b o x y t ⟨v,q,s,rfl,⟨A,u,k,rfl⟩,rfl⟩ hc d;obtain⟨p,m,rfl⟩:=Qf (d _ (mL mS));obtain⟨n,l,rfl⟩:=Qf (d _ (mR mS))
  exact⟨p,m,n,l,⟨hc 0 (by decide),hc 1 (by decide)⟩,ls_In (d _ (mL mS)) k (fun r hr=>d r (mL (mC hr))),hi_i64 (d _ (mR mS))⟩) h g j
theorem ls_Dat {c:Nat}{w}{a:Option Ad}{f:List Dat}{K}(h:Qb.Ok B w ⟨83,2,N f,S a (N f) c,C⟩)(g:LR RDat f C K)(j:∀r∈K,r.Ok B w):Dat.Ls B w a f :=
 Xe Dat.z len_RDat (by
  rintro b o x y t ⟨v,q,s,rfl,⟨A,u,k,rfl⟩,rfl⟩ hc d;obtain⟨p,m,rfl⟩:=Qf (d _ (mL mS));obtain⟨n,l,rfl⟩:=Qf (d _ (mR mS))
  exact⟨p,m,n,l,⟨hc 0 (by decide),hc 1 (by decide)⟩,ls_In (d _ (mL mS)) k (fun r hr=>d r (mL (mC hr))),hi_u8 (d _ (mR mS))⟩) h g j
theorem ls_Cod {c:Nat}{w}{a:Option Ad}{f:List Cod}{K}(h:Qb.Ok B w ⟨81,2,N f,S a (N f) c,C⟩)(g:LR RCod f C K)(j:∀r∈K,r.Ok B w):Cod.Ls B w a f :=
 Xe Cod.z len_RCod (by
  rintro b o x A u ⟨v,E,s,t,rfl,l,⟨D,y,k,rfl⟩,rfl⟩ hc d;obtain⟨q,n,rfl⟩:=Qf (d _ mS);obtain⟨p,m,rfl⟩:=Qf (d _ (mC mS))
  exact⟨q,n,p,m,⟨hc 0 (by decide),hc 1 (by decide)⟩,ls_Grp (d _ mS) l (fun r hr=>by cases hr),ls_In (d _ (mC mS)) k (fun r hr=>d r (mC (mC hr)))⟩) h g j
theorem mx_is {m}{E D C A z y v u t s a:Option Ad}{n0 n1 n2 n3 n4 Y X V M L b:Nat}{rs R}{w:J}(hx:MX m (S E (N m.types) n0) (S D (N m.cj) n1) (S C (N m.jv) n2) (S A (N m.fk) n3) (S z (N m.jj) n4) (S y (N m.fq) Y) (S v (N m.fj) X) (S u (N m.fw) V) (S t (N m.gq) M) (S s (N m.gj) L) (S a (N m.gx) b) rs R)(h:∀r∈R,r.Ok B w):Mod.Is 0 w m E D C A z y v u t s a:=by
 obtain⟨C0,K0,C1,C3,C4,C5,K5,C6,C7,K7,C8,K8,C9,K9,H,F,q,p,o,n,l,k,j,f,d,c,rfl⟩:=hx;have g:∀r∈(⟨137,2,N m.types,(S E (N m.types) n0),C0⟩::(K0++(⟨143,9,N m.cj,(S D (N m.cj) n1),C1⟩::(⟨2,1,N m.jv,(S C (N m.jv) n2),I m.jv⟩::(⟨120,3,N m.fk,(S A (N m.fk) n3),C3⟩::(⟨120,3,N m.jj,(S z (N m.jj) n4),C4⟩::(⟨76,3,N m.fq,(S y (N m.fq) Y),C5⟩::(K5++(⟨157,3,N m.fj,(S v (N m.fj) X),C6⟩::(⟨78,2,N m.fw,(S u (N m.fw) V),C7⟩::(K7++(⟨81,2,N m.gq,(S t (N m.gq) M),C8⟩::(K8++(⟨83,2,N m.gj,(S s (N m.gj) L),C9⟩::(K9++(⟨131,3,N m.gx,(S a (N m.gx) b),H⟩::(F++rs))))))))))))))))),Qb.Ok 0 w r:=λr hr=>World.ownsRow.mono (h r hr) (Hw _)
 exact⟨ls_FT (g _ mS) q (fun r hr=>g r (mC (mL hr))),
  ls_Imp (g _ (mC (mR mS))) p (λr hr=>by cases hr),
  hi_i64 (g _ (mC (mR (mC mS)))),
  ls_Lim (g _ (mC (mR (mC (mC mS))))) o (λr hr=>by cases hr),
  ls_Lim (g _ (mC (mR (mC (mC (mC mS)))))) n (λr hr=>by cases hr),
  ls_Glob (g _ (mC (mR (mC (mC (mC (mC mS))))))) l (λr hr=>g r (mC (mR (mC (mC (mC (mC (mC (mL hr))))))))),
  ls_Exp (g _ (mC (mR (mC (mC (mC (mC (mC (mR mS))))))))) k (λr hr=>by cases hr),
  ls_Ele (g _ (mC (mR (mC (mC (mC (mC (mC (mR (mC mS)))))))))) j (λr hr=>g r (mC (mR (mC (mC (mC (mC (mC (mR (mC (mC (mL hr)))))))))))),
  ls_Cod (g _ (mC (mR (mC (mC (mC (mC (mC (mR (mC (mC (mR mS)))))))))))) f (λr hr=>g r (mC (mR (mC (mC (mC (mC (mC (mR (mC (mC (mR (mC (mL hr)))))))))))))),
  ls_Dat (g _ (mC (mR (mC (mC (mC (mC (mC (mR (mC (mC (mR (mC (mR mS)))))))))))))) d (λr hr=>g r (mC (mR (mC (mC (mC (mC (mC (mR (mC (mC (mR (mC (mR (mC (mL hr)))))))))))))))),
  ls_Cus (g _ (mC (mR (mC (mC (mC (mC (mC (mR (mC (mC (mR (mC (mR (mC (mR mS)))))))))))))))) c (fun r hr=>g r (mC (mR (mC (mC (mC (mC (mC (mR (mC (mC (mR (mC (mR (mC (mR (mC (mL hr))))))))))))))))))⟩
abbrev R0w (m:Mod)(a:Option Ad)(n:Nat)(C:List Vu):Qb:=⟨137,2,N m.types,(S a (N m.types) n),C⟩
abbrev R1w (m:Mod)(a:Option Ad)(n:Nat)(C:List Vu):Qb:=⟨143,9,N m.cj,(S a (N m.cj) n),C⟩
abbrev R2w (m:Mod)(a:Option Ad)(n:Nat)(C:List Vu):Qb:=⟨2,1,N m.jv,(S a (N m.jv) n),C⟩
abbrev R3w (m:Mod)(a:Option Ad)(n:Nat)(C:List Vu):Qb:=⟨120,3,N m.fk,(S a (N m.fk) n),C⟩
abbrev R4w (m:Mod)(a:Option Ad)(n:Nat)(C:List Vu):Qb:=⟨120,3,N m.jj,(S a (N m.jj) n),C⟩
abbrev R5w (m:Mod)(a:Option Ad)(n:Nat)(C:List Vu):Qb:=⟨76,3,N m.fq,(S a (N m.fq) n),C⟩
abbrev R6w (m:Mod)(a:Option Ad)(n:Nat)(C:List Vu):Qb:=⟨157,3,N m.fj,(S a (N m.fj) n),C⟩
abbrev R7w (m:Mod)(a:Option Ad)(n:Nat)(C:List Vu):Qb:=⟨78,2,N m.fw,(S a (N m.fw) n),C⟩
abbrev R8w (m:Mod)(a:Option Ad)(n:Nat)(C:List Vu):Qb:=⟨81,2,N m.gq,(S a (N m.gq) n),C⟩
abbrev R9w (m:Mod)(a:Option Ad)(n:Nat)(C:List Vu):Qb:=⟨83,2,N m.gj,(S a (N m.gj) n),C⟩
abbrev Jg (m:Mod)(a:Option Ad)(n:Nat)(C:List Vu):Qb:=⟨131,3,N m.gx,(S a (N m.gx) n),C⟩
abbrev Rbw (w:J)(m:Mod)(a0:Option Ad)(n0:Nat)(a1:Option Ad)(n1:Nat)(a2:Option Ad)(n2:Nat)(a3:Option Ad)(n3:Nat)(a4:Option Ad)(n4:Nat)(a5:Option Ad)(n5:Nat)(a6:Option Ad)(n6:Nat)(a7:Option Ad)(n7:Nat)(a8:Option Ad)(n8:Nat)(a9:Option Ad)(n9:Nat)(a10:Option Ad)(n10:Nat):Qb:=⟨34,13,1,S (some ⟨w.heap.size,0,none⟩) 1 1,[S a0 (N m.types) n0,S a1 (N m.cj) n1,S a2 (N m.jv) n2,S a3 (N m.fk) n3,S a4 (N m.jj) n4,S a5 (N m.fq) n5,S a6 (N m.fj) n6,G m.gk,U O m.start,S a7 (N m.fw) n7,S a8 (N m.gq) n8,S a9 (N m.gj) n9,S a10 (N m.gx) n10]⟩
theorem markM_c (m)(F:Option Ad)(r:Nat)(E:Option Ad)(q:Nat)(D:Option Ad)(p:Nat)(C:Option Ad)(n:Nat)(A:Option Ad)(l:Nat)(y:Option Ad)(k:Nat)(v:Option Ad)(j:Nat)(u:Option Ad)(g:Nat)(t:Option Ad)(f:Nat)(s:Option Ad)(d:Nat)(b:Option Ad)(a:Nat)(M:Int)(R){B w0 rs w}(hx:MX m (S F (N m.types) r) (S E (N m.cj) q) (S D (N m.jv) p) (S C (N m.fk) n) (S A (N m.jj) l) (S y (N m.fq) k) (S v (N m.fj) j) (S u (N m.fw) g) (S t (N m.gq) f) (S s (N m.gj) d) (S b (N m.gx) a) rs R)(h:Mo B w0 R w)(hl:LnM m)(h0:0<=M)(h1:M+szM m<=1000000000):Ec Q 17 #[Ag #[S F (N m.types) r,S E (N m.cj) q,S D (N m.jv) p,S C (N m.fk) n,S A (N m.jj) l,S y (N m.fq) k,S v (N m.fj) j,G m.gk,U O m.start,S u (N m.fw) g,S t (N m.gq) f,S s (N m.gj) d,S b (N m.gx) a],U O M] w (MmP m (S F (N m.types) r) (S E (N m.cj) q) (S D (N m.jv) p) (S C (N m.fk) n) (S A (N m.jj) l) (S y (N m.fq) k) (S v (N m.fj) j) (S u (N m.fw) g) (S t (N m.gq) f) (S s (N m.gj) d) (S b (N m.gx) a) M B w0 rs):=by
 obtain⟨C0,K0,C1,C3,C4,C5,K5,C6,C7,K7,C8,K8,C9,K9,L,H,bq,bp,bo,bn,bm,bl,bk,bj,bh,aw,rfl⟩:=hx;obtain⟨ct,dm,dl,dk,dj,cs,di,cr,cp,co,bg⟩:=hl;have m0:=h.box #[S F (N m.types) r,S E (N m.cj) q,S D (N m.jv) p,S C (N m.fk) n,S A (N m.jj) l,S y (N m.fq) k,S v (N m.fj) j,G m.gk,U O m.start,S u (N m.fw) g,S t (N m.gq) f,S s (N m.gj) d,S b (N m.gx) a] 34 13 rfl;simp only[szM]at h1;obtain⟨V0,bb⟩:∃V0,V0=w.alloc (Fc #[S F (N m.types) r,S E (N m.cj) q,S D (N m.jv) p,S C (N m.fk) n,S A (N m.jj) l,S y (N m.fq) k,S v (N m.fj) j,G m.gk,U O m.start,S u (N m.fw) g,S t (N m.gq) f,S s (N m.gj) d,S b (N m.gx) a] 34):=⟨_,rfl⟩;rw[<- bb]at m0;have b6:=Hm bb;have cg:=Hm bq;clear bq;have cf:=Hm bp;clear bp;have ce:=Hm bo;clear bo;have cd:=Hm bn;clear bn;have cc:=Hm bm;clear bm;have cb:=Hm bl;clear bl;have b9:=Hm bk;clear bk;have b8:=Hm bj;clear bj;have b7:=Hm bh;clear bh;have az:=Hm aw;clear aw;have c:Mo B w0 ((Rbw w m F r E q D p C n A l y k v j u g t f s d b a)::((R0w m F r C0)::(K0++((R1w m E q C1)::((R2w m D p (I m.jv))::((R3w m C n C3)::((R4w m A l C4)::((R5w m y k C5)::(K5++((R6w m v j C6)::((R7w m u g C7)::(K7++((R8w m t f C8)::(K8++((R9w m s d C9)::(K9++((Jg m b a L)::(H++rs)))))))))))))))))) V0:=m0;clear m0 h bb;go_enter func17,ntmps17;go_upto_region 1 with fail
 rw[<- b6.o];clear b6;have hq:V0.cell? ⟨w.heap.size,0,none⟩=some (S F (N m.types) r):=(World.ownsRow.cellAt (c.row mS) 0 (show 0<1*13 by decide)).trans rfl;have V:Hid (Mo B w0 ((R0w m F r C0)::(K0++((R1w m E q C1)::((R2w m D p (I m.jv))::((R3w m C n C3)::((R4w m A l C4)::((R5w m y k C5)::(K5++((R6w m v j C6)::((R7w m u g C7)::(K7++((R8w m t f C8)::(K8++((R9w m s d C9)::(K9++((Jg m b a L)::(H++((Rbw w m F r E q D p C n A l y k v j u g t f s d b a)::rs)))))))))))))))))) V0):=Hm (c.perm (by
  classical
  refine List.perm_iff_count.2 λz=>?_
  simp only[Tf,Hv,R0w,R1w,R2w,R3w,R4w,R5w,R6w,R7w,R8w,R9w,Jg,Rbw]
  omega))
 clear c;go_wp2_with fail
 refine(markFT_c m.types F r C0 K0 (M) V.o cg.o ct (by omega) (by omega)).mono ?_;rintro e V1 ⟨Y,X,rfl,b3,c⟩;have dg:=Hm b3;clear b3 cg;clear V hq
 replace c:Mo B w0 ((Rbw w m F r E q D p C n A l y k v j u g t f s d b a)::((R1w m E q C1)::((R2w m D p (I m.jv))::((R3w m C n C3)::((R4w m A l C4)::((R5w m y k C5)::(K5++((R6w m v j C6)::((R7w m u g C7)::(K7++((R8w m t f C8)::(K8++((R9w m s d C9)::(K9++((Jg m b a L)::(H++((R0w m F r Y)::(X++rs)))))))))))))))))) V1:=c.perm (by
  classical
  refine List.perm_iff_count.2 λz=>?_
  simp only[Tf,Hv,R0w,R1w,R2w,R3w,R4w,R5w,R6w,R7w,R8w,R9w,Jg,Rbw]
  omega)
 have hq:V1.cell? ⟨w.heap.size,1,none⟩=some (S E (N m.cj) q):=(World.ownsRow.cellAt (c.row mS) 1 (show 1<1*13 by decide)).trans rfl;have V:Hid (Mo B w0 ((R1w m E q C1)::((R2w m D p (I m.jv))::((R3w m C n C3)::((R4w m A l C4)::((R5w m y k C5)::(K5++((R6w m v j C6)::((R7w m u g C7)::(K7++((R8w m t f C8)::(K8++((R9w m s d C9)::(K9++((Jg m b a L)::(H++((R0w m F r Y)::(X++((Rbw w m F r E q D p C n A l y k v j u g t f s d b a)::rs)))))))))))))))))) V1):=Hm (c.perm (by
  classical
  refine List.perm_iff_count.2 λz=>?_
  simp only[Tf,Hv,R0w,R1w,R2w,R3w,R4w,R5w,R6w,R7w,R8w,R9w,Jg,Rbw]
  omega))
 clear c;go_wp2_with fail
 refine(markImp_c m.cj E q C1 (M+((Qa QH m.types:Nat):Int)) V.o cf.o (by omega) (by omega)).mono ?_;rintro e V2 ⟨D1,rfl,b2,c⟩;have df:=Hm b2;clear b2 cf;clear V hq
 replace c:Mo B w0 ((Rbw w m F r E q D p C n A l y k v j u g t f s d b a)::((R2w m D p (I m.jv))::((R3w m C n C3)::((R4w m A l C4)::((R5w m y k C5)::(K5++((R6w m v j C6)::((R7w m u g C7)::(K7++((R8w m t f C8)::(K8++((R9w m s d C9)::(K9++((Jg m b a L)::(H++((R0w m F r Y)::(X++((R1w m E q D1)::rs)))))))))))))))))) V2:=c.perm (by
  classical
  refine List.perm_iff_count.2 λz=>?_
  simp only[Tf,Hv,R0w,R1w,R2w,R3w,R4w,R5w,R6w,R7w,R8w,R9w,Jg,Rbw]
  omega)
 have hq:V2.cell? ⟨w.heap.size,2,none⟩=some (S D (N m.jv) p):=(World.ownsRow.cellAt (c.row mS) 2 (show 2<1*13 by decide)).trans rfl;have V:Hid (Mo B w0 ((R2w m D p (I m.jv))::((R3w m C n C3)::((R4w m A l C4)::((R5w m y k C5)::(K5++((R6w m v j C6)::((R7w m u g C7)::(K7++((R8w m t f C8)::(K8++((R9w m s d C9)::(K9++((Jg m b a L)::(H++((R0w m F r Y)::(X++((R1w m E q D1)::((Rbw w m F r E q D p C n A l y k v j u g t f s d b a)::rs)))))))))))))))))) V2):=Hm (c.perm (by
  classical
  refine List.perm_iff_count.2 λz=>?_
  simp only[Tf,Hv,R0w,R1w,R2w,R3w,R4w,R5w,R6w,R7w,R8w,R9w,Jg,Rbw]
  omega))
 clear c;go_wp2_with fail
 refine(markI_c m.jv D p (M+((Qa QH m.types:Nat):Int)+((Qa Qr m.cj:Nat):Int)) V.o (by omega) (by omega)).mono ?_;rintro e V3 ⟨rfl,c⟩;clear V hq
 replace c:Mo B w0 ((Rbw w m F r E q D p C n A l y k v j u g t f s d b a)::((R3w m C n C3)::((R4w m A l C4)::((R5w m y k C5)::(K5++((R6w m v j C6)::((R7w m u g C7)::(K7++((R8w m t f C8)::(K8++((R9w m s d C9)::(K9++((Jg m b a L)::(H++((R0w m F r Y)::(X++((R1w m E q D1)::((R2w m D p (I (mkI (M+((Qa QH m.types:Nat):Int)+((Qa Qr m.cj:Nat):Int)) (N m.jv))))::rs)))))))))))))))))) V3:=c.perm (by
  classical
  refine List.perm_iff_count.2 λz=>?_
  simp only[Tf,Hv,R0w,R1w,R2w,R3w,R4w,R5w,R6w,R7w,R8w,R9w,Jg,Rbw]
  omega)
 have hq:V3.cell? ⟨w.heap.size,3,none⟩=some (S C (N m.fk) n):=(World.ownsRow.cellAt (c.row mS) 3 (show 3<1*13 by decide)).trans rfl;have V:Hid (Mo B w0 ((R3w m C n C3)::((R4w m A l C4)::((R5w m y k C5)::(K5++((R6w m v j C6)::((R7w m u g C7)::(K7++((R8w m t f C8)::(K8++((R9w m s d C9)::(K9++((Jg m b a L)::(H++((R0w m F r Y)::(X++((R1w m E q D1)::((R2w m D p (I (mkI (M+((Qa QH m.types:Nat):Int)+((Qa Qr m.cj:Nat):Int)) (N m.jv))))::((Rbw w m F r E q D p C n A l y k v j u g t f s d b a)::rs)))))))))))))))))) V3):=Hm (c.perm (by
  classical
  refine List.perm_iff_count.2 λz=>?_
  simp only[Tf,Hv,R0w,R1w,R2w,R3w,R4w,R5w,R6w,R7w,R8w,R9w,Jg,Rbw]
  omega))
 clear c;go_wp2_with fail
 refine(markLim_c m.fk C n C3 (M+((Qa QH m.types:Nat):Int)+((Qa Qr m.cj:Nat):Int)+(N m.jv:Int)) V.o ce.o (by omega) (by omega)).mono ?_;rintro e V4 ⟨D3,rfl,bz,c⟩;have de:=Hm bz;clear bz ce;clear V hq
 replace c:Mo B w0 ((Rbw w m F r E q D p C n A l y k v j u g t f s d b a)::((R4w m A l C4)::((R5w m y k C5)::(K5++((R6w m v j C6)::((R7w m u g C7)::(K7++((R8w m t f C8)::(K8++((R9w m s d C9)::(K9++((Jg m b a L)::(H++((R0w m F r Y)::(X++((R1w m E q D1)::((R2w m D p (I (mkI (M+((Qa QH m.types:Nat):Int)+((Qa Qr m.cj:Nat):Int)) (N m.jv))))::((R3w m C n D3)::rs)))))))))))))))))) V4:=c.perm (by
  classical
  refine List.perm_iff_count.2 λz=>?_
  simp only[Tf,Hv,R0w,R1w,R2w,R3w,R4w,R5w,R6w,R7w,R8w,R9w,Jg,Rbw]
  omega)
 have hq:V4.cell? ⟨w.heap.size,4,none⟩=some (S A (N m.jj) l):=(World.ownsRow.cellAt (c.row mS) 4 (show 4<1*13 by decide)).trans rfl;have V:Hid (Mo B w0 ((R4w m A l C4)::((R5w m y k C5)::(K5++((R6w m v j C6)::((R7w m u g C7)::(K7++((R8w m t f C8)::(K8++((R9w m s d C9)::(K9++((Jg m b a L)::(H++((R0w m F r Y)::(X++((R1w m E q D1)::((R2w m D p (I (mkI (M+((Qa QH m.types:Nat):Int)+((Qa Qr m.cj:Nat):Int)) (N m.jv))))::((R3w m C n D3)::((Rbw w m F r E q D p C n A l y k v j u g t f s d b a)::rs)))))))))))))))))) V4):=Hm (c.perm (by
  classical
  refine List.perm_iff_count.2 λz=>?_
  simp only[Tf,Hv,R0w,R1w,R2w,R3w,R4w,R5w,R6w,R7w,R8w,R9w,Jg,Rbw]
  omega))
 clear c;go_wp2_with fail
 refine(markLim_c m.jj A l C4 (M+((Qa QH m.types:Nat):Int)+((Qa Qr m.cj:Nat):Int)+(N m.jv:Int)+((Qa Qo m.fk:Nat):Int)) V.o cd.o (by omega) (by omega)).mono ?_;rintro e V5 ⟨D4,rfl,bw,c⟩;have dd:=Hm bw;clear bw cd;clear V hq
 replace c:Mo B w0 ((Rbw w m F r E q D p C n A l y k v j u g t f s d b a)::((R5w m y k C5)::(K5++((R6w m v j C6)::((R7w m u g C7)::(K7++((R8w m t f C8)::(K8++((R9w m s d C9)::(K9++((Jg m b a L)::(H++((R0w m F r Y)::(X++((R1w m E q D1)::((R2w m D p (I (mkI (M+((Qa QH m.types:Nat):Int)+((Qa Qr m.cj:Nat):Int)) (N m.jv))))::((R3w m C n D3)::((R4w m A l D4)::rs)))))))))))))))))) V5:=c.perm (by
  classical
  refine List.perm_iff_count.2 λz=>?_
  simp only[Tf,Hv,R0w,R1w,R2w,R3w,R4w,R5w,R6w,R7w,R8w,R9w,Jg,Rbw]
  omega)
 have hq:V5.cell? ⟨w.heap.size,5,none⟩=some (S y (N m.fq) k):=(World.ownsRow.cellAt (c.row mS) 5 (show 5<1*13 by decide)).trans rfl;have V:Hid (Mo B w0 ((R5w m y k C5)::(K5++((R6w m v j C6)::((R7w m u g C7)::(K7++((R8w m t f C8)::(K8++((R9w m s d C9)::(K9++((Jg m b a L)::(H++((R0w m F r Y)::(X++((R1w m E q D1)::((R2w m D p (I (mkI (M+((Qa QH m.types:Nat):Int)+((Qa Qr m.cj:Nat):Int)) (N m.jv))))::((R3w m C n D3)::((R4w m A l D4)::((Rbw w m F r E q D p C n A l y k v j u g t f s d b a)::rs)))))))))))))))))) V5):=Hm (c.perm (by
  classical
  refine List.perm_iff_count.2 λz=>?_
  simp only[Tf,Hv,R0w,R1w,R2w,R3w,R4w,R5w,R6w,R7w,R8w,R9w,Jg,Rbw]
  omega))
 clear c;go_wp2_with fail
 refine(markGlob_c m.fq y k C5 K5 (M+((Qa QH m.types:Nat):Int)+((Qa Qr m.cj:Nat):Int)+(N m.jv:Int)+((Qa Qo m.fk:Nat):Int)+((Qa Qo m.jj:Nat):Int)) V.o cc.o cs (by omega) (by omega)).mono ?_;rintro e V6 ⟨D5,J5,rfl,bv,c⟩;have dc:=Hm bv;clear bv cc;clear V hq
 replace c:Mo B w0 ((Rbw w m F r E q D p C n A l y k v j u g t f s d b a)::((R6w m v j C6)::((R7w m u g C7)::(K7++((R8w m t f C8)::(K8++((R9w m s d C9)::(K9++((Jg m b a L)::(H++((R0w m F r Y)::(X++((R1w m E q D1)::((R2w m D p (I (mkI (M+((Qa QH m.types:Nat):Int)+((Qa Qr m.cj:Nat):Int)) (N m.jv))))::((R3w m C n D3)::((R4w m A l D4)::((R5w m y k D5)::(J5++rs)))))))))))))))))) V6:=c.perm (by
  classical
  refine List.perm_iff_count.2 λz=>?_
  simp only[Tf,Hv,R0w,R1w,R2w,R3w,R4w,R5w,R6w,R7w,R8w,R9w,Jg,Rbw]
  omega)
 have hq:V6.cell? ⟨w.heap.size,6,none⟩=some (S v (N m.fj) j):=(World.ownsRow.cellAt (c.row mS) 6 (show 6<1*13 by decide)).trans rfl;have V:Hid (Mo B w0 ((R6w m v j C6)::((R7w m u g C7)::(K7++((R8w m t f C8)::(K8++((R9w m s d C9)::(K9++((Jg m b a L)::(H++((R0w m F r Y)::(X++((R1w m E q D1)::((R2w m D p (I (mkI (M+((Qa QH m.types:Nat):Int)+((Qa Qr m.cj:Nat):Int)) (N m.jv))))::((R3w m C n D3)::((R4w m A l D4)::((R5w m y k D5)::(J5++((Rbw w m F r E q D p C n A l y k v j u g t f s d b a)::rs)))))))))))))))))) V6):=Hm (c.perm (by
  classical
  refine List.perm_iff_count.2 λz=>?_
  simp only[Tf,Hv,R0w,R1w,R2w,R3w,R4w,R5w,R6w,R7w,R8w,R9w,Jg,Rbw]
  omega))
 clear c;go_wp2_with fail
 refine(markExp_c m.fj v j C6 (M+((Qa QH m.types:Nat):Int)+((Qa Qr m.cj:Nat):Int)+(N m.jv:Int)+((Qa Qo m.fk:Nat):Int)+((Qa Qo m.jj:Nat):Int)+((Qa Qy m.fq:Nat):Int)) V.o cb.o (by omega) (by omega)).mono ?_;rintro e V7 ⟨D6,rfl,bu,c⟩;have db:=Hm bu;clear bu cb;clear V hq
 replace c:Mo B w0 ((Rbw w m F r E q D p C n A l y k v j u g t f s d b a)::((R7w m u g C7)::(K7++((R8w m t f C8)::(K8++((R9w m s d C9)::(K9++((Jg m b a L)::(H++((R0w m F r Y)::(X++((R1w m E q D1)::((R2w m D p (I (mkI (M+((Qa QH m.types:Nat):Int)+((Qa Qr m.cj:Nat):Int)) (N m.jv))))::((R3w m C n D3)::((R4w m A l D4)::((R5w m y k D5)::(J5++((R6w m v j D6)::rs)))))))))))))))))) V7:=c.perm (by
  classical
  refine List.perm_iff_count.2 λz=>?_
  simp only[Tf,Hv,R0w,R1w,R2w,R3w,R4w,R5w,R6w,R7w,R8w,R9w,Jg,Rbw]
  omega)
 have hq:V7.cell? ⟨w.heap.size,9,none⟩=some (S u (N m.fw) g):=(World.ownsRow.cellAt (c.row mS) 9 (show 9<1*13 by decide)).trans rfl;have V:Hid (Mo B w0 ((R7w m u g C7)::(K7++((R8w m t f C8)::(K8++((R9w m s d C9)::(K9++((Jg m b a L)::(H++((R0w m F r Y)::(X++((R1w m E q D1)::((R2w m D p (I (mkI (M+((Qa QH m.types:Nat):Int)+((Qa Qr m.cj:Nat):Int)) (N m.jv))))::((R3w m C n D3)::((R4w m A l D4)::((R5w m y k D5)::(J5++((R6w m v j D6)::((Rbw w m F r E q D p C n A l y k v j u g t f s d b a)::rs)))))))))))))))))) V7):=Hm (c.perm (by
  classical
  refine List.perm_iff_count.2 λz=>?_
  simp only[Tf,Hv,R0w,R1w,R2w,R3w,R4w,R5w,R6w,R7w,R8w,R9w,Jg,Rbw]
  omega))
 clear c;go_wp2_with fail
 refine(markEle_c m.fw u g C7 K7 (M+((Qa QH m.types:Nat):Int)+((Qa Qr m.cj:Nat):Int)+(N m.jv:Int)+((Qa Qo m.fk:Nat):Int)+((Qa Qo m.jj:Nat):Int)+((Qa Qy m.fq:Nat):Int)+((Qa QP m.fj:Nat):Int)) V.o b9.o cr (by omega) (by omega)).mono ?_;rintro e V8 ⟨D7,J7,rfl,bt,c⟩;have da:=Hm bt;clear bt b9;clear V hq
 replace c:Mo B w0 ((Rbw w m F r E q D p C n A l y k v j u g t f s d b a)::((R8w m t f C8)::(K8++((R9w m s d C9)::(K9++((Jg m b a L)::(H++((R0w m F r Y)::(X++((R1w m E q D1)::((R2w m D p (I (mkI (M+((Qa QH m.types:Nat):Int)+((Qa Qr m.cj:Nat):Int)) (N m.jv))))::((R3w m C n D3)::((R4w m A l D4)::((R5w m y k D5)::(J5++((R6w m v j D6)::((R7w m u g D7)::(J7++rs)))))))))))))))))) V8:=c.perm (by
  classical
  refine List.perm_iff_count.2 λz=>?_
  simp only[Tf,Hv,R0w,R1w,R2w,R3w,R4w,R5w,R6w,R7w,R8w,R9w,Jg,Rbw]
  omega)
 have hq:V8.cell? ⟨w.heap.size,10,none⟩=some (S t (N m.gq) f):=(World.ownsRow.cellAt (c.row mS) 10 (show 10<1*13 by decide)).trans rfl;have V:Hid (Mo B w0 ((R8w m t f C8)::(K8++((R9w m s d C9)::(K9++((Jg m b a L)::(H++((R0w m F r Y)::(X++((R1w m E q D1)::((R2w m D p (I (mkI (M+((Qa QH m.types:Nat):Int)+((Qa Qr m.cj:Nat):Int)) (N m.jv))))::((R3w m C n D3)::((R4w m A l D4)::((R5w m y k D5)::(J5++((R6w m v j D6)::((R7w m u g D7)::(J7++((Rbw w m F r E q D p C n A l y k v j u g t f s d b a)::rs)))))))))))))))))) V8):=Hm (c.perm (by
  classical
  refine List.perm_iff_count.2 λz=>?_
  simp only[Tf,Hv,R0w,R1w,R2w,R3w,R4w,R5w,R6w,R7w,R8w,R9w,Jg,Rbw]
  omega))
 clear c;go_wp2_with fail
 refine(markCod_c m.gq t f C8 K8 (M+((Qa QH m.types:Nat):Int)+((Qa Qr m.cj:Nat):Int)+(N m.jv:Int)+((Qa Qo m.fk:Nat):Int)+((Qa Qo m.jj:Nat):Int)+((Qa Qy m.fq:Nat):Int)+((Qa QP m.fj:Nat):Int)+((Qa QZ m.fw:Nat):Int)) V.o b8.o cp (by omega) (by omega)).mono ?_;rintro e V9 ⟨D8,J8,rfl,bs,c⟩;have c9:=Hm bs;clear bs b8;clear V hq
 replace c:Mo B w0 ((Rbw w m F r E q D p C n A l y k v j u g t f s d b a)::((R9w m s d C9)::(K9++((Jg m b a L)::(H++((R0w m F r Y)::(X++((R1w m E q D1)::((R2w m D p (I (mkI (M+((Qa QH m.types:Nat):Int)+((Qa Qr m.cj:Nat):Int)) (N m.jv))))::((R3w m C n D3)::((R4w m A l D4)::((R5w m y k D5)::(J5++((R6w m v j D6)::((R7w m u g D7)::(J7++((R8w m t f D8)::(J8++rs)))))))))))))))))) V9:=c.perm (by
  classical
  refine List.perm_iff_count.2 λz=>?_
  simp only[Tf,Hv,R0w,R1w,R2w,R3w,R4w,R5w,R6w,R7w,R8w,R9w,Jg,Rbw]
  omega)
 have hq:V9.cell? ⟨w.heap.size,11,none⟩=some (S s (N m.gj) d):=(World.ownsRow.cellAt (c.row mS) 11 (show 11<1*13 by decide)).trans rfl;have V:Hid (Mo B w0 ((R9w m s d C9)::(K9++((Jg m b a L)::(H++((R0w m F r Y)::(X++((R1w m E q D1)::((R2w m D p (I (mkI (M+((Qa QH m.types:Nat):Int)+((Qa Qr m.cj:Nat):Int)) (N m.jv))))::((R3w m C n D3)::((R4w m A l D4)::((R5w m y k D5)::(J5++((R6w m v j D6)::((R7w m u g D7)::(J7++((R8w m t f D8)::(J8++((Rbw w m F r E q D p C n A l y k v j u g t f s d b a)::rs)))))))))))))))))) V9):=Hm (c.perm (by
  classical
  refine List.perm_iff_count.2 λz=>?_
  simp only[Tf,Hv,R0w,R1w,R2w,R3w,R4w,R5w,R6w,R7w,R8w,R9w,Jg,Rbw]
  omega))
 clear c;go_wp2_with fail
 refine(markDat_c m.gj s d C9 K9 (M+((Qa QH m.types:Nat):Int)+((Qa Qr m.cj:Nat):Int)+(N m.jv:Int)+((Qa Qo m.fk:Nat):Int)+((Qa Qo m.jj:Nat):Int)+((Qa Qy m.fq:Nat):Int)+((Qa QP m.fj:Nat):Int)+((Qa QZ m.fw:Nat):Int)+((Qa Q2 m.gq:Nat):Int)) V.o b7.o co (by omega) (by omega)).mono ?_;rintro e bc ⟨D9,J9,rfl,br,c⟩;have c8:=Hm br;clear br b7;clear V hq
 replace c:Mo B w0 ((Rbw w m F r E q D p C n A l y k v j u g t f s d b a)::((Jg m b a L)::(H++((R0w m F r Y)::(X++((R1w m E q D1)::((R2w m D p (I (mkI (M+((Qa QH m.types:Nat):Int)+((Qa Qr m.cj:Nat):Int)) (N m.jv))))::((R3w m C n D3)::((R4w m A l D4)::((R5w m y k D5)::(J5++((R6w m v j D6)::((R7w m u g D7)::(J7++((R8w m t f D8)::(J8++((R9w m s d D9)::(J9++rs)))))))))))))))))) bc:=c.perm (by
  classical
  refine List.perm_iff_count.2 λz=>?_
  simp only[Tf,Hv,R0w,R1w,R2w,R3w,R4w,R5w,R6w,R7w,R8w,R9w,Jg,Rbw]
  omega)
 have hq:bc.cell? ⟨w.heap.size,12,none⟩=some (S b (N m.gx) a):=(World.ownsRow.cellAt (c.row mS) 12 (show 12<1*13 by decide)).trans rfl;have V:Hid (Mo B w0 ((Jg m b a L)::(H++((R0w m F r Y)::(X++((R1w m E q D1)::((R2w m D p (I (mkI (M+((Qa QH m.types:Nat):Int)+((Qa Qr m.cj:Nat):Int)) (N m.jv))))::((R3w m C n D3)::((R4w m A l D4)::((R5w m y k D5)::(J5++((R6w m v j D6)::((R7w m u g D7)::(J7++((R8w m t f D8)::(J8++((R9w m s d D9)::(J9++((Rbw w m F r E q D p C n A l y k v j u g t f s d b a)::rs)))))))))))))))))) bc):=Hm (c.perm (by
  classical
  refine List.perm_iff_count.2 λz=>?_
  simp only[Tf,Hv,R0w,R1w,R2w,R3w,R4w,R5w,R6w,R7w,R8w,R9w,Jg,Rbw]
  omega))
 clear c;go_wp2_with fail
 refine(markCus_c m.gx b a L H (M+((Qa QH m.types:Nat):Int)+((Qa Qr m.cj:Nat):Int)+(N m.jv:Int)+((Qa Qo m.fk:Nat):Int)+((Qa Qo m.jj:Nat):Int)+((Qa Qy m.fq:Nat):Int)+((Qa QP m.fj:Nat):Int)+((Qa QZ m.fw:Nat):Int)+((Qa Q2 m.gq:Nat):Int)+((Qa Q7 m.gj:Nat):Int)) V.o az.o bg (by omega) (by omega)).mono ?_;rintro e c5 ⟨ci,b5,rfl,ax,c⟩;have ch:=Hm ax;clear ax az;clear V hq
 replace c:Mo B w0 ((Rbw w m F r E q D p C n A l y k v j u g t f s d b a)::((R0w m F r Y)::(X++((R1w m E q D1)::((R2w m D p (I (mkI (M+((Qa QH m.types:Nat):Int)+((Qa Qr m.cj:Nat):Int)) (N m.jv))))::((R3w m C n D3)::((R4w m A l D4)::((R5w m y k D5)::(J5++((R6w m v j D6)::((R7w m u g D7)::(J7++((R8w m t f D8)::(J8++((R9w m s d D9)::(J9++((Jg m b a ci)::(b5++rs)))))))))))))))))) c5:=c.perm (by
  classical
  refine List.perm_iff_count.2 λz=>?_
  simp only[Tf,Hv,R0w,R1w,R2w,R3w,R4w,R5w,R6w,R7w,R8w,R9w,Jg,Rbw]
  omega)
 have V:=Hm c;clear c;go_wp2_with fail
 go_ret;refine⟨_,?_,⟨Y,X,D1,D3,D4,D5,J5,D6,D7,J7,D8,J8,D9,J9,ci,b5,dg.o,df.o,de.o,dd.o,dc.o,db.o,da.o,c9.o,c8.o,ch.o,rfl⟩,?_⟩
 . simp only[szM];(push_cast);rw[show M+(((Qa QH m.types:Nat):Int)+((Qa Qr m.cj:Nat):Int)+(N m.jv:Int)+((Qa Qo m.fk:Nat):Int)+((Qa Qo m.jj:Nat):Int)+((Qa Qy m.fq:Nat):Int)+((Qa QP m.fj:Nat):Int)+((Qa QZ m.fw:Nat):Int)+((Qa Q2 m.gq:Nat):Int)+((Qa Q7 m.gj:Nat):Int)+((Qa Jf m.gx:Nat):Int))=M+((Qa QH m.types:Nat):Int)+((Qa Qr m.cj:Nat):Int)+(N m.jv:Int)+((Qa Qo m.fk:Nat):Int)+((Qa Qo m.jj:Nat):Int)+((Qa Qy m.fq:Nat):Int)+((Qa QP m.fj:Nat):Int)+((Qa QZ m.fw:Nat):Int)+((Qa Q2 m.gq:Nat):Int)+((Qa Q7 m.gj:Nat):Int)+((Qa Jf m.gx:Nat):Int) by omega];rfl
 have h9:=V.o.tail;simp only[mkM,Qz,JW];exact h9
theorem heldM_c (m:Mod)(a0:Option Ad)(F:Nat)(a1:Option Ad)(E:Nat)(a2:Option Ad)(D:Nat)(a3:Option Ad)(C:Nat)(Y:Option Ad)(A:Nat)(X:Option Ad)(z:Nat)(V:Option Ad)(y:Nat)(M:Option Ad)(v:Nat)(L:Option Ad)(u:Nat)(H:Option Ad)(t:Nat)(l:Option Ad)(k:Nat)(b:Int)(rs R)(B:Nat)(w:J)(hx:MX (mkM b m) (S a0 (N m.types) F) (S a1 (N m.cj) E) (S a2 (N m.jv) D) (S a3 (N m.fk) C) (S Y (N m.jj) A) (S X (N m.fq) z) (S V (N m.fj) y) (S M (N m.fw) v) (S L (N m.gq) u) (S H (N m.gj) t) (S l (N m.gx) k) rs R)(h:∀r∈R,r.Ok B w)(hl:LnM m)(h0:0<=b)(h1:b+szM m<=1000000000):Ec Q 18 #[Ag #[S a0 (N m.types) F,S a1 (N m.cj) E,S a2 (N m.jv) D,S a3 (N m.fk) C,S Y (N m.jj) A,S X (N m.fq) z,S V (N m.fj) y,G m.gk,U O m.start,S M (N m.fw) v,S L (N m.gq) u,S H (N m.gj) t,S l (N m.gx) k],U O b] w λe q=>e=Z (U O (b+(szM m:Nat)))/\Bw w.heap.size w q:=by
 have HS:Hid (szM m=Qa QH m.types+Qa Qr m.cj+N m.jv+Qa Qo m.fk+Qa Qo m.jj+Qa Qy m.fq+Qa QP m.fj+Qa QZ m.fw+Qa Q2 m.gq+Qa Q7 m.gj+Qa Jf m.gx):=Hm rfl;simp only[MX,mkM,Qz,JW]at hx;obtain⟨C0,K0,C1,C3,C4,C5,K5,C6,C7,K7,C8,K8,C9,K9,ay,av,ar,aq,ao,ak,aj,ai,ah,ag,af,s,rfl⟩:=hx;obtain⟨bh,bg,cg,cf,ce,bf,bd,bc,bb,ba,ae⟩:=hl;rw[HS.o]at h1;have T0:Hid (Qb.Ok B w ⟨137,2,N m.types,(S a0 (N m.types) F),C0⟩):=Hm (h _ mS);have G0:Hid (∀r∈K0,Qb.Ok B w r):=Hm (λr hr=>h r (mC (mL hr)));have bt:=Hm ar;clear ar;have T1:Hid (Qb.Ok B w ⟨143,9,N m.cj,(S a1 (N m.cj) E),C1⟩):=Hm (h _ (mC (mR mS)));have bs:=Hm aq;clear aq;have T2:Hid (Qb.Ok B w ⟨2,1,N m.jv,(S a2 (N m.jv) D),I (mkI (b+((Qa QH m.types:Nat):Int)+((Qa Qr m.cj:Nat):Int)) (N m.jv))⟩):=Hm (h _ (mC (mR (mC mS))));have T3:Hid (Qb.Ok B w ⟨120,3,N m.fk,(S a3 (N m.fk) C),C3⟩):=Hm (h _ (mC (mR (mC (mC mS)))));have br:=Hm ao;clear ao;have T4:Hid (Qb.Ok B w ⟨120,3,N m.jj,(S Y (N m.jj) A),C4⟩):=Hm (h _ (mC (mR (mC (mC (mC mS))))));have bq:=Hm ak;clear ak;have T5:Hid (Qb.Ok B w ⟨76,3,N m.fq,(S X (N m.fq) z),C5⟩):=Hm (h _ (mC (mR (mC (mC (mC (mC mS)))))));have G5:Hid (∀r∈K5,Qb.Ok B w r):=Hm (λr hr=>h r (mC (mR (mC (mC (mC (mC (mC (mL hr)))))))));have bp:=Hm aj;clear aj;have T6:Hid (Qb.Ok B w ⟨157,3,N m.fj,(S V (N m.fj) y),C6⟩):=Hm (h _ (mC (mR (mC (mC (mC (mC (mC (mR mS)))))))));have bo:=Hm ai;clear ai;have T7:Hid (Qb.Ok B w ⟨78,2,N m.fw,(S M (N m.fw) v),C7⟩):=Hm (h _ (mC (mR (mC (mC (mC (mC (mC (mR (mC mS))))))))));have G7:Hid (∀r∈K7,Qb.Ok B w r):=Hm (λr hr=>h r (mC (mR (mC (mC (mC (mC (mC (mR (mC (mC (mL hr))))))))))));have bn:=Hm ah;clear ah;have T8:Hid (Qb.Ok B w ⟨81,2,N m.gq,(S L (N m.gq) u),C8⟩):=Hm (h _ (mC (mR (mC (mC (mC (mC (mC (mR (mC (mC (mR mS))))))))))))
 have G8:Hid (∀r∈K8,Qb.Ok B w r):=Hm (λr hr=>h r (mC (mR (mC (mC (mC (mC (mC (mR (mC (mC (mR (mC (mL hr))))))))))))));have bm:=Hm ag;clear ag;have T9:Hid (Qb.Ok B w ⟨83,2,N m.gj,(S H (N m.gj) t),C9⟩):=Hm (h _ (mC (mR (mC (mC (mC (mC (mC (mR (mC (mC (mR (mC (mR mS))))))))))))));have G9:Hid (∀r∈K9,Qb.Ok B w r):=Hm (λr hr=>h r (mC (mR (mC (mC (mC (mC (mC (mR (mC (mC (mR (mC (mR (mC (mL hr))))))))))))))));have bl:=Hm af;clear af;have bk:Hid (Qb.Ok B w ⟨131,3,N m.gx,(S l (N m.gx) k),ay⟩):=Hm (h _ (mC (mR (mC (mC (mC (mC (mC (mR (mC (mC (mR (mC (mR (mC (mR mS))))))))))))))));have bu:Hid (∀r∈av,Qb.Ok B w r):=Hm (λr hr=>h r (mC (mR (mC (mC (mC (mC (mC (mR (mC (mC (mR (mC (mR (mC (mR (mC (mL hr))))))))))))))))));have ax:=Hm s;clear s;obtain⟨c,a⟩:∃c,c=w.alloc (Fc #[S a0 (N m.types) F,S a1 (N m.cj) E,S a2 (N m.jv) D,S a3 (N m.fk) C,S Y (N m.jj) A,S X (N m.fq) z,S V (N m.fj) y,G m.gk,U O m.start,S M (N m.fw) v,S L (N m.gq) u,S H (N m.gj) t,S l (N m.gx) k] 34):=⟨_,rfl⟩;have j:Bw w.heap.size w c:=by rw[a];exact bFz.alloc lRz _
 have n:w.heap.size<c.heap.size:=by rw[a];simp
 have Y0:Hid (∀W,Bw c.heap.size c W->W.cell? ⟨w.heap.size,0,none⟩=some (S a0 (N m.types) F)):=Hm (λW hW=>(hW.cell (p:=⟨w.heap.size,0,none⟩) n).trans (by rw[a];exact Qn rfl rfl));have Y1:Hid (∀W,Bw c.heap.size c W->W.cell? ⟨w.heap.size,1,none⟩=some (S a1 (N m.cj) E)):=Hm (λW hW=>(hW.cell (p:=⟨w.heap.size,1,none⟩) n).trans (by rw[a];exact Qn rfl rfl));have Y2:Hid (∀W,Bw c.heap.size c W->W.cell? ⟨w.heap.size,2,none⟩=some (S a2 (N m.jv) D)):=Hm (λW hW=>(hW.cell (p:=⟨w.heap.size,2,none⟩) n).trans (by rw[a];exact Qn rfl rfl));have Y3:Hid (∀W,Bw c.heap.size c W->W.cell? ⟨w.heap.size,3,none⟩=some (S a3 (N m.fk) C)):=Hm (λW hW=>(hW.cell (p:=⟨w.heap.size,3,none⟩) n).trans (by rw[a];exact Qn rfl rfl));have Y4:Hid (∀W,Bw c.heap.size c W->W.cell? ⟨w.heap.size,4,none⟩=some (S Y (N m.jj) A)):=Hm (λW hW=>(hW.cell (p:=⟨w.heap.size,4,none⟩) n).trans (by rw[a];exact Qn rfl rfl));have Y5:Hid (∀W,Bw c.heap.size c W->W.cell? ⟨w.heap.size,5,none⟩=some (S X (N m.fq) z)):=Hm (λW hW=>(hW.cell (p:=⟨w.heap.size,5,none⟩) n).trans (by rw[a];exact Qn rfl rfl));have Y6:Hid (∀W,Bw c.heap.size c W->W.cell? ⟨w.heap.size,6,none⟩=some (S V (N m.fj) y)):=Hm (λW hW=>(hW.cell (p:=⟨w.heap.size,6,none⟩) n).trans (by rw[a];exact Qn rfl rfl));have Y7:Hid (∀W,Bw c.heap.size c W->W.cell? ⟨w.heap.size,9,none⟩=some (S M (N m.fw) v)):=Hm (λW hW=>(hW.cell (p:=⟨w.heap.size,9,none⟩) n).trans (by rw[a];exact Qn rfl rfl))
 have Y8:Hid (∀W,Bw c.heap.size c W->W.cell? ⟨w.heap.size,10,none⟩=some (S L (N m.gq) u)):=Hm (λW hW=>(hW.cell (p:=⟨w.heap.size,10,none⟩) n).trans (by rw[a];exact Qn rfl rfl));have Y9:Hid (∀W,Bw c.heap.size c W->W.cell? ⟨w.heap.size,11,none⟩=some (S H (N m.gj) t)):=Hm (λW hW=>(hW.cell (p:=⟨w.heap.size,11,none⟩) n).trans (by rw[a];exact Qn rfl rfl));have bj:Hid (∀W,Bw c.heap.size c W->W.cell? ⟨w.heap.size,12,none⟩=some (S l (N m.gx) k)):=Hm (λW hW=>(hW.cell (p:=⟨w.heap.size,12,none⟩) n).trans (by rw[a];exact Qn rfl rfl));have aw:=Hm a;have d:=Hm j;have g:=Hm (Below.refl c.heap.size c);clear h a j n;go_enter func18,ntmps18;go_upto_region 1 with fail
 rw[<- aw.o];clear aw;have f:=Y0.o _ g.o;go_wp2_with fail
 refine(heldFT_c m.types a0 F C0 K0 (b) B c (Qb.Ok.below T0.o d.o) (λr hr=>Qb.Ok.below (G0.o r hr) d.o) bt.o bh (by omega) (by omega)).mono ?_;rintro e q ⟨rfl,rfl⟩;clear f;have cs:¬b+((Qa QH m.types:Nat):Int)<0:=by omega
 have f:=Y1.o _ g.o;go_wp2_with fail
 refine(heldImp_c m.cj a1 E C1 [] (b+((Qa QH m.types:Nat):Int)) B c (Qb.Ok.below T1.o d.o) (by simp) bs.o bg (by omega) (by omega)).mono ?_;rintro e V2 ⟨rfl,j⟩;replace d:=Hm (d.o.trans (j.mono d.o.size));replace g:=Hm (g.o.trans (j.mono g.o.size));clear j f;have cr:¬b+((Qa QH m.types:Nat):Int)+((Qa Qr m.cj:Nat):Int)<0:=by omega
 have f:=Y2.o _ g.o;go_wp2_with fail
 refine(heldI_c (N m.jv) a2 D (b+((Qa QH m.types:Nat):Int)+((Qa Qr m.cj:Nat):Int)) B V2 (Qb.Ok.below T2.o d.o) (by omega) (by omega)).mono ?_;rintro e q ⟨rfl,rfl⟩;clear f;have cp:¬b+((Qa QH m.types:Nat):Int)+((Qa Qr m.cj:Nat):Int)+(N m.jv:Int)<0:=by omega
 have f:=Y3.o _ g.o;go_wp2_with fail
 refine(heldLim_c m.fk a3 C C3 (b+((Qa QH m.types:Nat):Int)+((Qa Qr m.cj:Nat):Int)+(N m.jv:Int)) B V2 (Qb.Ok.below T3.o d.o) br.o (by omega) (by omega)).mono ?_;rintro e q ⟨rfl,rfl⟩;clear f;have co:¬b+((Qa QH m.types:Nat):Int)+((Qa Qr m.cj:Nat):Int)+(N m.jv:Int)+((Qa Qo m.fk:Nat):Int)<0:=by omega
 have f:=Y4.o _ g.o;go_wp2_with fail
 refine(heldLim_c m.jj Y A C4 (b+((Qa QH m.types:Nat):Int)+((Qa Qr m.cj:Nat):Int)+(N m.jv:Int)+((Qa Qo m.fk:Nat):Int)) B V2 (Qb.Ok.below T4.o d.o) bq.o (by omega) (by omega)).mono ?_;rintro e q ⟨rfl,rfl⟩;clear f;have cn:¬b+((Qa QH m.types:Nat):Int)+((Qa Qr m.cj:Nat):Int)+(N m.jv:Int)+((Qa Qo m.fk:Nat):Int)+((Qa Qo m.jj:Nat):Int)<0:=by omega
 have f:=Y5.o _ g.o;go_wp2_with fail
 refine(heldGlob_c m.fq X z C5 K5 (b+((Qa QH m.types:Nat):Int)+((Qa Qr m.cj:Nat):Int)+(N m.jv:Int)+((Qa Qo m.fk:Nat):Int)+((Qa Qo m.jj:Nat):Int)) B V2 (Qb.Ok.below T5.o d.o) (λr hr=>Qb.Ok.below (G5.o r hr) d.o) bp.o bf (by omega) (by omega)).mono ?_;rintro e q ⟨rfl,rfl⟩;clear f;have cm:¬b+((Qa QH m.types:Nat):Int)+((Qa Qr m.cj:Nat):Int)+(N m.jv:Int)+((Qa Qo m.fk:Nat):Int)+((Qa Qo m.jj:Nat):Int)+((Qa Qy m.fq:Nat):Int)<0:=by omega
 have f:=Y6.o _ g.o;go_wp2_with fail
 refine(heldExp_c m.fj V y C6 [] (b+((Qa QH m.types:Nat):Int)+((Qa Qr m.cj:Nat):Int)+(N m.jv:Int)+((Qa Qo m.fk:Nat):Int)+((Qa Qo m.jj:Nat):Int)+((Qa Qy m.fq:Nat):Int)) B V2 (Qb.Ok.below T6.o d.o) (by simp) bo.o bd (by omega) (by omega)).mono ?_;rintro e V7 ⟨rfl,j⟩;replace d:=Hm (d.o.trans (j.mono d.o.size));replace g:=Hm (g.o.trans (j.mono g.o.size));clear j f;have cl:¬b+((Qa QH m.types:Nat):Int)+((Qa Qr m.cj:Nat):Int)+(N m.jv:Int)+((Qa Qo m.fk:Nat):Int)+((Qa Qo m.jj:Nat):Int)+((Qa Qy m.fq:Nat):Int)+((Qa QP m.fj:Nat):Int)<0:=by omega
 have f:=Y7.o _ g.o;go_wp2_with fail
 refine(heldEle_c m.fw M v C7 K7 (b+((Qa QH m.types:Nat):Int)+((Qa Qr m.cj:Nat):Int)+(N m.jv:Int)+((Qa Qo m.fk:Nat):Int)+((Qa Qo m.jj:Nat):Int)+((Qa Qy m.fq:Nat):Int)+((Qa QP m.fj:Nat):Int)) B V7 (Qb.Ok.below T7.o d.o) (λr hr=>Qb.Ok.below (G7.o r hr) d.o) bn.o bc (by omega) (by omega)).mono ?_;rintro e q ⟨rfl,rfl⟩;clear f;have ck:¬b+((Qa QH m.types:Nat):Int)+((Qa Qr m.cj:Nat):Int)+(N m.jv:Int)+((Qa Qo m.fk:Nat):Int)+((Qa Qo m.jj:Nat):Int)+((Qa Qy m.fq:Nat):Int)+((Qa QP m.fj:Nat):Int)+((Qa QZ m.fw:Nat):Int)<0:=by omega
 have f:=Y8.o _ g.o;go_wp2_with fail
 refine(heldCod_c m.gq L u C8 K8 (b+((Qa QH m.types:Nat):Int)+((Qa Qr m.cj:Nat):Int)+(N m.jv:Int)+((Qa Qo m.fk:Nat):Int)+((Qa Qo m.jj:Nat):Int)+((Qa Qy m.fq:Nat):Int)+((Qa QP m.fj:Nat):Int)+((Qa QZ m.fw:Nat):Int)) B V7 (Qb.Ok.below T8.o d.o) (λr hr=>Qb.Ok.below (G8.o r hr) d.o) bm.o bb (by omega) (by omega)).mono ?_;rintro e q ⟨rfl,rfl⟩;clear f;have ci:¬b+((Qa QH m.types:Nat):Int)+((Qa Qr m.cj:Nat):Int)+(N m.jv:Int)+((Qa Qo m.fk:Nat):Int)+((Qa Qo m.jj:Nat):Int)+((Qa Qy m.fq:Nat):Int)+((Qa QP m.fj:Nat):Int)+((Qa QZ m.fw:Nat):Int)+((Qa Q2 m.gq:Nat):Int)<0:=by omega
 have f:=Y9.o _ g.o;go_wp2_with fail
 refine(heldDat_c m.gj H t C9 K9 (b+((Qa QH m.types:Nat):Int)+((Qa Qr m.cj:Nat):Int)+(N m.jv:Int)+((Qa Qo m.fk:Nat):Int)+((Qa Qo m.jj:Nat):Int)+((Qa Qy m.fq:Nat):Int)+((Qa QP m.fj:Nat):Int)+((Qa QZ m.fw:Nat):Int)+((Qa Q2 m.gq:Nat):Int)) B V7 (Qb.Ok.below T9.o d.o) (λr hr=>Qb.Ok.below (G9.o r hr) d.o) bl.o ba (by omega) (by omega)).mono ?_;rintro e q ⟨rfl,rfl⟩;clear f;have ch:¬b+((Qa QH m.types:Nat):Int)+((Qa Qr m.cj:Nat):Int)+(N m.jv:Int)+((Qa Qo m.fk:Nat):Int)+((Qa Qo m.jj:Nat):Int)+((Qa Qy m.fq:Nat):Int)+((Qa QP m.fj:Nat):Int)+((Qa QZ m.fw:Nat):Int)+((Qa Q2 m.gq:Nat):Int)+((Qa Q7 m.gj:Nat):Int)<0:=by omega
 have f:=bj.o _ g.o;go_wp2_with fail
 refine(heldCus_c m.gx l k ay av (b+((Qa QH m.types:Nat):Int)+((Qa Qr m.cj:Nat):Int)+(N m.jv:Int)+((Qa Qo m.fk:Nat):Int)+((Qa Qo m.jj:Nat):Int)+((Qa Qy m.fq:Nat):Int)+((Qa QP m.fj:Nat):Int)+((Qa QZ m.fw:Nat):Int)+((Qa Q2 m.gq:Nat):Int)+((Qa Q7 m.gj:Nat):Int)) B V7 (Qb.Ok.below bk.o d.o) (λr hr=>Qb.Ok.below (bu.o r hr) d.o) ax.o ae (by omega) (by omega)).mono ?_;rintro e c6 ⟨rfl,j⟩;replace d:=Hm (d.o.trans (j.mono d.o.size));replace g:=Hm (g.o.trans (j.mono g.o.size));clear j f;have bv:¬b+((Qa QH m.types:Nat):Int)+((Qa Qr m.cj:Nat):Int)+(N m.jv:Int)+((Qa Qo m.fk:Nat):Int)+((Qa Qo m.jj:Nat):Int)+((Qa Qy m.fq:Nat):Int)+((Qa QP m.fj:Nat):Int)+((Qa QZ m.fw:Nat):Int)+((Qa Q2 m.gq:Nat):Int)+((Qa Q7 m.gj:Nat):Int)+((Qa Jf m.gx:Nat):Int)<0:=by omega
 go_wp2_with fail
 go_ret;refine⟨?_,d.o⟩;rw[HS.o];push_cast;rw[show b+(((Qa QH m.types:Nat):Int)+((Qa Qr m.cj:Nat):Int)+(N m.jv:Int)+((Qa Qo m.fk:Nat):Int)+((Qa Qo m.jj:Nat):Int)+((Qa Qy m.fq:Nat):Int)+((Qa QP m.fj:Nat):Int)+((Qa QZ m.fw:Nat):Int)+((Qa Q2 m.gq:Nat):Int)+((Qa Q7 m.gj:Nat):Int)+((Qa Jf m.gx:Nat):Int))=b+((Qa QH m.types:Nat):Int)+((Qa Qr m.cj:Nat):Int)+(N m.jv:Int)+((Qa Qo m.fk:Nat):Int)+((Qa Qo m.jj:Nat):Int)+((Qa Qy m.fq:Nat):Int)+((Qa QP m.fj:Nat):Int)+((Qa QZ m.fw:Nat):Int)+((Qa Q2 m.gq:Nat):Int)+((Qa Q7 m.gj:Nat):Int)+((Qa Jf m.gx:Nat):Int) by omega]
 rfl
