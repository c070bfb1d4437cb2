import Derived.Test.YtaccbbndmmhenaaGreatDoorGam
import Derived.Test.YtaccbbndmmhenaaGreatDoorGaq
import Derived.Test.YtaccbbndmmhenaaGreatDoorGao
set_option linter.all false
set_option maxHeartbeats 400000000
set_option maxRecDepth 100000
namespace Go.Proofs
open Value renaming int->U,slice->S,bool->G,string->Xs,agg->Ag
open IntKind renaming i64->O
open Ending renaming returned->Z
open Obj renaming cells->Fc
open Go renaming World->J,Calls->Ec,Value->Vu
open Tryz renaming prog->Q
open Tryz
open Nat renaming zero_le->Kz,zero_add->Hq
open List renaming getD->Kg,getElem?_eq_getElem->Kj,length->N
open Bool renaming true_and->Tg
open IntKind renaming wrap_i64->Kv
namespace YtaccbbndmmhenaaGreatDoor
open Go.RowKit Go.Sort
theorem ilim2 (x:Qg)(w:J)(b:Qg.Is 0 w x)(a:Qg.LB 1048576 x):Ec Q 117 #[Ag #[U O x.min,U O x.max,G x.has]] w λe w'=>e=Z (G (Jl x))/\Below w.heap.size w w':=ilim_c x w
theorem aaL1:(∀(a:Option Addr) (c:Nat) (xs:List Dat) (w:J) (E:N xs<=1048576/\∀i,i<N xs->Dat.LB 1048576 (xs.getD i Dat.z)) (A:Dat.Ls 0 w a xs) (L:∀i,i<N xs->QT (xs.getD i Dat.z).off),Ec Q 127 #[S a (N xs) c,.func (.func 128) #[] #[]] w λe w'=>e=Z (G (xs.all JK))/\Below w.heap.size w w')/\(∀(a:Option Addr) (c:Nat) (xs:List Qn) (w:J) (E:N xs<=1048576/\∀i,i<N xs->Qn.LB 1048576 (xs.getD i Qn.z)) (A:Qn.Ls 0 w a xs) (L:∀i,i<N xs->QT (xs.getD i Qn.z).ini),Ec Q 118 #[S a (N xs) c,.func (.func 119) #[] #[]] w λe w'=>e=Z (G (xs.all QW))/\Below w.heap.size w w')/\(∀(a:Option Addr) (c:Nat) (xs:List Ele) (w:J) (E:N xs<=1048576/\∀i,i<N xs->Ele.LB 1048576 (xs.getD i Ele.z)) (A:Ele.Ls 0 w a xs) (L:∀i,i<N xs->QT (xs.getD i Ele.z).off),Ec Q 123 #[S a (N xs) c,.func (.func 124) #[] #[]] w λe w'=>e=Z (G (xs.all JC))/\Below w.heap.size w w')/\(∀(a:Option Addr) (c:Nat) (xs:List Qe) (w:J) (E:N xs<=1048576/\∀i,i<N xs->Qe.LB 1048576 (xs.getD i Qe.z)) (A:Qe.Ls 0 w a xs),Ec Q 110 #[S a (N xs) c,.func (.func 111) #[] #[]] w λe w'=>e=Z (G (xs.all ftB))/\Below w.heap.size w w')/\(∀(a:Option Addr) (c:Nat) (xs:List Qg) (w:J) (E:N xs<=1048576/\∀i,i<N xs->Qg.LB 1048576 (xs.getD i Qg.z)) (A:Qg.Ls 0 w a xs),Ec Q 116 #[S a (N xs) c,.func (.func 117) #[] #[]] w λe w'=>e=Z (G (xs.all Jl))/\Below w.heap.size w w')/\(∀(a:Option Addr) (c:Nat) (xs:List Exp) (w:J) (E:N xs<=1048576/\∀i,i<N xs->Exp.LB 1048576 (xs.getD i Exp.z)) (A:Exp.Ls 0 w a xs),Ec Q 120 #[S a (N xs) c,.func (.func 121) #[] #[]] w λe w'=>e=Z (G (xs.all Jr))/\Below w.heap.size w w'):=by
 refine⟨?c0,?c1,?c2,?c3,?c4,?c5⟩;case' c0=>intro a c xs w E A L;have g:=0
 case' c1=>intro a c xs w E A L;have d:=0
 case' c2=>intro a c xs w E A L;have f:=0
 case' c3=>intro a c xs w E A;have n:=0
 case' c4=>intro a c xs w E A;have m:=0
 case' c5=>intro a c xs w E A;have M:=0
 all_goals
  obtain⟨hn,F⟩:=E;have HL:=Hm A;have Hl:=Hm F
  first|(replace g:=g;have HP:=Hm L)|(replace d:=d;have HP:=Hm L)|(replace f:=f;have HP:=Hm L)|(skip)
  first|(replace g:=g;clear A F L)|(replace d:=d;clear A F L)|(replace f:=f;clear A F L)|(clear A F)
  first|(replace g:=g;go_enter func127,ntmps127)|(replace d:=d;go_enter func118,ntmps118)|(replace f:=f;go_enter func123,ntmps123)|(replace n:=n;go_enter func110,ntmps110)|(replace m:=m;go_enter func116,ntmps116)|(go_enter func120,ntmps120)
  go_wp2_with fail
  first|(replace g:=g;go_loopw [9] (λi wr=>∃k:Nat,k<=N xs/\i=U O k/\(∀j,j<k->JK (xs.getD j Dat.z)=true)/\Below w.heap.size w wr) (λi _=>N xs-(intOf i).toNat))|(replace d:=d;go_loopw [9] (λi wr=>∃k:Nat,k<=N xs/\i=U O k/\(∀j,j<k->QW (xs.getD j Qn.z)=true)/\Below w.heap.size w wr) (λi _=>N xs-(intOf i).toNat))|(replace f:=f;go_loopw [9] (λi wr=>∃k:Nat,k<=N xs/\i=U O k/\(∀j,j<k->JC (xs.getD j Ele.z)=true)/\Below w.heap.size w wr) (λi _=>N xs-(intOf i).toNat))|(replace n:=n;go_loopw [9] (λi wr=>∃k:Nat,k<=N xs/\i=U O k/\(∀j,j<k->ftB (xs.getD j Qe.z)=true)/\Below w.heap.size w wr) (λi _=>N xs-(intOf i).toNat))|(replace m:=m;go_loopw [9] (λi wr=>∃k:Nat,k<=N xs/\i=U O k/\(∀j,j<k->Jl (xs.getD j Qg.z)=true)/\Below w.heap.size w wr) (λi _=>N xs-(intOf i).toNat))|(go_loopw [9] (λi wr=>∃k:Nat,k<=N xs/\i=U O k/\(∀j,j<k->Jr (xs.getD j Exp.z)=true)/\Below w.heap.size w wr) (λi _=>N xs-(intOf i).toNat))
  case atStart=>exact⟨0,Kz _,rfl,λj h=>by omega,bFz⟩
  case round =>
   obtain⟨k,hk,rfl,l,Y⟩:=hrel
   by_cases r:k<N xs
   . have ak:(k:Int)<(N xs:Int):=by omega
     rcases HL.o.up (Qa Y)with t|⟨b,o,ea,_,hc⟩
     . subst t;simp at r
     have v:=hc k r;have s:=Hl.o k r
     first|(replace g:=g;have u:=HP.o k r)|(replace d:=d;have u:=HP.o k r)|(replace f:=f;have u:=HP.o k r)|(skip)
     subst ea
     first|(replace g:=g;obtain⟨x,t⟩:∃x,x=xs.getD k Dat.z:=⟨_,rfl⟩)|(replace d:=d;obtain⟨x,t⟩:∃x,x=xs.getD k Qn.z:=⟨_,rfl⟩)|(replace f:=f;obtain⟨x,t⟩:∃x,x=xs.getD k Ele.z:=⟨_,rfl⟩)|(replace n:=n;obtain⟨x,t⟩:∃x,x=xs.getD k Qe.z:=⟨_,rfl⟩)|(replace m:=m;obtain⟨x,t⟩:∃x,x=xs.getD k Qg.z:=⟨_,rfl⟩)|(obtain⟨x,t⟩:∃x,x=xs.getD k Exp.z:=⟨_,rfl⟩)
     first|(replace g:=g;rw[<- t]at v s u)|(replace d:=d;rw[<- t]at v s u)|(replace f:=f;rw[<- t]at v s u)|(rw[<- t]at v s)
     first|(replace d:=d;obtain⟨R,c1,⟨q0,q1,q2⟩,H⟩:=v)|(replace m:=m;obtain⟨⟨q0,q1,q2⟩,H⟩:=v)|(replace M:=M;obtain⟨⟨q0,q1,q2⟩,H⟩:=v)|(obtain⟨R,c1,X,c2,⟨q0,q1⟩,H⟩:=v)
     first|(replace g:=g;have B:Below wr.heap.size wr (wr.alloc (Fc #[S R (N x.off) c1,S X (N x.bs) c2] 140)):=bFz.alloc lRz _)|(replace d:=d;have B:Below wr.heap.size wr (wr.alloc (Fc #[U O x.ty.ty,G x.ty.mu,S R (N x.ini) c1] 151)):=bFz.alloc lRz _)|(replace f:=f;have B:Below wr.heap.size wr (wr.alloc (Fc #[S R (N x.off) c1,S X (N x.fs) c2] 134)):=bFz.alloc lRz _)|(replace n:=n;have B:Below wr.heap.size wr (wr.alloc (Fc #[S R (N x.ps) c1,S X (N x.rs) c2] 148)):=bFz.alloc lRz _)|(replace m:=m;have B:Below wr.heap.size wr (wr.alloc (Fc #[U O x.min,U O x.max,G x.has] 144)):=bFz.alloc lRz _)|(have B:Below wr.heap.size wr (wr.alloc (Fc #[Xs x.nm,U O x.kind,U O x.ix] 163)):=bFz.alloc lRz _)
     first|(replace g:=g;have q:=Hm (idat_c x R c1 X c2 _ (H.up (Qa B)) s u))|(replace d:=d;have q:=Hm (iglob_c x R c1 _ (H.up (Qa B)) s u))|(replace f:=f;have q:=Hm (iele_c x R c1 X c2 _ (H.up (Qa B)) s u))|(replace n:=n;have q:=Hm (ift_c x R c1 X c2 _ (H.up (Qa B)) s))|(replace m:=m;have q:=Hm (ilim2 x _ (H.up (Qa B)) s))|(have q:=Hm (iexp_c x _ (H.up (Qa B)) s))
     have HB:=Hm Y;have ab:=Hm B
     first|(replace g:=g;generalize C:JK x=gx at q)|(replace d:=d;generalize C:QW x=gx at q)|(replace f:=f;generalize C:JC x=gx at q)|(replace n:=n;generalize C:ftB x=gx at q)|(replace m:=m;generalize C:Jl x=gx at q)|(generalize C:Jr x=gx at q)
     first|(replace g:=g;have y:Hid (JK (xs.getD k Dat.z)=gx):=by show _=_;rw[<- t];exact C)|(replace d:=d;have y:Hid (QW (xs.getD k Qn.z)=gx):=by show _=_;rw[<- t];exact C)|(replace f:=f;have y:Hid (JC (xs.getD k Ele.z)=gx):=by show _=_;rw[<- t];exact C)|(replace n:=n;have y:Hid (ftB (xs.getD k Qe.z)=gx):=by show _=_;rw[<- t];exact C)|(replace m:=m;have y:Hid (Jl (xs.getD k Qg.z)=gx):=by show _=_;rw[<- t];exact C)|(have y:Hid (Jr (xs.getD k Exp.z)=gx):=by show _=_;rw[<- t];exact C)
     cases gx
     . first|(replace g:=g;have p:=Hm (Jb JK xs Dat.z k r y.o))|(replace d:=d;have p:=Hm (Jb QW xs Qn.z k r y.o))|(replace f:=f;have p:=Hm (Jb JC xs Ele.z k r y.o))|(replace n:=n;have p:=Hm (Jb ftB xs Qe.z k r y.o))|(replace m:=m;have p:=Hm (Jb Jl xs Qg.z k r y.o))|(have p:=Hm (Jb Jr xs Exp.z k r y.o))
       clear l hc Y B H HL Hl t C
       go_wp2_with fail
       refine q.o.mono ?_
       rintro e w2 ⟨rfl,I⟩;have V:Below w.heap.size w w2:=HB.o.trans ((ab.o.trans (I.mono (by simp))).mono HB.o.size);clear I
       go_wp2
       go_ret
       exact⟨by rw[p.o];rfl,V⟩
     . first
       | (
        replace g:=g
        have D:Hid (∀j,j<k+1->JK (xs.getD j Dat.z)=true):=λj hj=>by
         rcases(by omega:j<k\/j=k)with h|h
         . exact l j h
         . subst h;exact y.o)
       | (
        replace d:=d
        have D:Hid (∀j,j<k+1->QW (xs.getD j Qn.z)=true):=λj hj=>by
         rcases(by omega:j<k\/j=k)with h|h
         . exact l j h
         . subst h;exact y.o)
       | (
        replace f:=f
        have D:Hid (∀j,j<k+1->JC (xs.getD j Ele.z)=true):=λj hj=>by
         rcases(by omega:j<k\/j=k)with h|h
         . exact l j h
         . subst h;exact y.o)
       | (
        replace n:=n
        have D:Hid (∀j,j<k+1->ftB (xs.getD j Qe.z)=true):=λj hj=>by
         rcases(by omega:j<k\/j=k)with h|h
         . exact l j h
         . subst h;exact y.o)
       | (
        replace m:=m
        have D:Hid (∀j,j<k+1->Jl (xs.getD j Qg.z)=true):=λj hj=>by
         rcases(by omega:j<k\/j=k)with h|h
         . exact l j h
         . subst h;exact y.o)
       | (
        replace M:=M
        have D:Hid (∀j,j<k+1->Jr (xs.getD j Exp.z)=true):=λj hj=>by
         rcases(by omega:j<k\/j=k)with h|h
         . exact l j h
         . subst h;exact y.o)
       clear l hc Y B H HL Hl t C
       go_wp2_with fail
       refine q.o.mono ?_
       rintro e w2 ⟨rfl,I⟩;have V:Below w.heap.size w w2:=HB.o.trans ((ab.o.trans (I.mono (by simp))).mono HB.o.size);clear I
       go_wp2
       go_roundw
       case rel=>exact⟨k+1,by omega,by go_num,D.o,V⟩
       case measure=>simp[intOf];omega
   . have e:k=N xs:=by omega
     subst e
     first|(replace g:=g;have p:=Hm (JA JK xs Dat.z l))|(replace d:=d;have p:=Hm (JA QW xs Qn.z l))|(replace f:=f;have p:=Hm (JA JC xs Ele.z l))|(replace n:=n;have p:=Hm (JA ftB xs Qe.z l))|(replace m:=m;have p:=Hm (JA Jl xs Qg.z l))|(have p:=Hm (JA Jr xs Exp.z l))
     clear l HL Hl
     go_wp2
     go_ret
     exact⟨by rw[p.o];rfl,Y⟩
def aaDat_c:=aaL1.1
def aaGlob_c:=aaL1.2.1
def aaEle_c:=aaL1.2.2.1
def aaFType_c:=aaL1.2.2.2.1
def aaLimits_c:=aaL1.2.2.2.2.1
def aaExp_c:=aaL1.2.2.2.2.2
def LCs:List Qg->List Vu
 |[]=>[]
 |l::ls=>U O l.min::U O l.max::G l.has::LCs ls
theorem LCs_len (xs:List Qg):(LCs xs).length=N xs*3:=by
 induction xs with
 |nil=>rfl
 |cons l ls ih=>simp[LCs,ih];omega
theorem LCs_app (xs a:List Qg):LCs (xs++a)=LCs xs++LCs a:=by
 induction xs with
 |nil=>rfl
 |cons l ls ih=>simp[LCs,ih]
theorem LCs_one (xs:List Qg):∀u∈LCs xs,u.oneCell'=true:=by
 induction xs with
 |nil=>intro u a;simp[LCs]at a
 |cons l ls ih =>
  intro u a
  simp only[LCs,List.mem_cons]at a
  rcases a with rfl|rfl|rfl|a
  . rfl
  . rfl
  . rfl
  . exact ih u a
theorem LCs_at (xs:List Qg)(i:Nat)(h:i<N xs):(LCs xs)[i*3]?=some (U O (xs.getD i Qg.z).min)/\(LCs xs)[i*3+1]?=some (U O (xs.getD i Qg.z).max)/\(LCs xs)[i*3+2]?=some (G (xs.getD i Qg.z).has):=by
 induction xs generalizing i with
 |nil=>simp at h
 |cons l ls ih =>
  cases i with
  |zero=>simp[LCs]
  |succ i =>
   have:=ih i (by simpa using h)
   have e:(i+1)*3=i*3+1+1+1:=by omega
   rw[e]
   simpa[LCs,List.getElem?_cons_succ]using this
theorem Qg.Ls.src {B:Nat}{w:J}{c:Option Addr}{xs:List Qg}(h:Qg.Ls B w c xs):SrcC w c (LCs xs):=by
 rcases h with h|⟨b,o,rfl,_,f⟩
 . subst h;cases c with
   |none=>exact .inl ⟨rfl,rfl⟩
   |some ad=>exact .inr ⟨ad,rfl,λj u hu=>by simp[LCs]at hu⟩
 refine .inr ⟨_,rfl,λj u hu=>?_⟩;have q:j<N xs*3:=by
  rw[<- LCs_len];rcases Nat.lt_or_ge j (LCs xs).length with h|h
  . exact h
  simp[List.getElem?_eq_none h]at hu
 have d:j / 3<N xs:=by omega
 have a:(⟨b,o,none⟩:Addr).add j=⟨b,o+j,none⟩:=by unfold Addr.add;split<;>simp_all
 rw[a];obtain⟨l,k,g⟩:=LCs_at xs (j / 3) d;obtain⟨⟨p,n,m⟩,_⟩:=f (j / 3) d;rcases(by omega:j=j / 3*3\/j=j / 3*3+1\/j=j / 3*3+2)with e|e|e
 . rw[e,l]at hu;rw[e];rw[<- hu];exact p
 . rw[e,k]at hu;rw[e];rw[<- hu];exact n
 rw[e,g]at hu;rw[e];rw[<- hu];exact m
theorem own_lims {w:J}{B:Nat}{e:TypeId}{v:Vu}{xs:List Qg}(h:w.ownsRow B e 3 v (N xs) (LCs xs)):∃a c,v=S a (N xs) c/\Qg.Ls 0 w a xs:=by
 rcases h.2 with ⟨rfl,b⟩|⟨g,d,k,rfl,_,_,_⟩
 . exact⟨none,0,by rw[b],.inl (List.length_eq_zero_iff.1 b)⟩
 refine⟨_,d,rfl,.inr ⟨g,0,rfl,Kz _,λi hi=>?_⟩⟩;obtain⟨b,j,f⟩:=LCs_at xs i hi;refine⟨⟨?_,?_,?_⟩,trivial⟩
 . rw[Hq,h.cellAt _ (by omega)];exact b
 . rw[Hq,h.cellAt _ (by omega)];exact j
 rw[Hq,h.cellAt _ (by omega)];exact f
def JE (x:Mod):List Cus->Int->Bool
 |[],_=>true
 |c::cs,n=>(c.aft==0 || writ x c.aft)&&(decide (n<=c.aft)&&(Q2 c.nm&&JE x cs c.aft))
theorem cus_at (x:Mod)(l:List Cus)(k:Nat)(n:Int)(h:k<N l):JE x (l.drop k) n=(((l.getD k Cus.z).aft==0 || writ x (l.getD k Cus.z).aft)&&(decide (n<=(l.getD k Cus.z).aft)&&(Q2 (l.getD k Cus.z).nm&&JE x (l.drop (k+1)) (l.getD k Cus.z).aft))):=by
 rw[List.drop_eq_getElem_cons h];simp[JE,Kg,Kj h]
theorem icus_c (x:Mod)(a1:Option Addr)(c1:Nat)(a2:Option Addr)(c2:Nat)(a3:Option Addr)(c3:Nat)(a4:Option Addr)(c4:Nat)(a5:Option Addr)(c5:Nat)(a6:Option Addr)(c6:Nat)(a7:Option Addr)(c7:Nat)(a8:Option Addr)(c8:Nat)(a9:Option Addr)(c9:Nat)(v:Option Addr)(u:Nat)(y:Option Addr)(t:Nat)(w:J)(hL:Cus.Ls 0 w y x.customs)(hl:x.Ln)(ad:∀i,i<N x.customs->Cus.LB 1048576 (x.customs.getD i Cus.z)):Ec Q 129 #[Ag #[S a1 (N x.types) c1,S a2 (N x.imps) c2,S a3 (N x.funcs) c3,S a4 (N x.tabs) c4,S a5 (N x.mems) c5,S a6 (N x.globs) c6,S a7 (N x.exps) c7,G x.hasS,U O x.start,S a8 (N x.elems) c8,S a9 (N x.codes) c9,S v (N x.datas) u,S y (N x.customs) t]] w λe w'=>e=Z (G (JE x x.customs 0))/\Below w.heap.size w w':=by
 have bh:N x.customs<=1048576:=hl.2.2.2.2.2.2.2.2.2.2;have HL:=Hm hL;have Hl:=Hm ad;have LN:=Hm hl;clear hL ad hl;go_enter func129,ntmps129;go_upto_region 1 with fail
 refine Qp (λW=>Bk W w.heap.size [S a1 (N x.types) c1,S a2 (N x.imps) c2,S a3 (N x.funcs) c3,S a4 (N x.tabs) c4,S a5 (N x.mems) c5,S a6 (N x.globs) c6,S a7 (N x.exps) c7,G x.hasS,U O x.start,S a8 (N x.elems) c8,S a9 (N x.codes) c9,S v (N x.datas) u,S y (N x.customs) t]/\Below w.heap.size w W) ⟨Bk.new,bFz.alloc lRz _⟩ ?_;rintro W ⟨a,d⟩;have q0:=a.2.1 0 _ rfl;have Y:=a.2.1 1 _ rfl;have X:=a.2.1 2 _ rfl;have R:=a.2.1 3 _ rfl;have M:=a.2.1 4 _ rfl;have L:=a.2.1 5 _ rfl;have I:=a.2.1 6 _ rfl;have H:=a.2.1 7 _ rfl;have F:=a.2.1 8 _ rfl;have E:=a.2.1 9 _ rfl;have q:=a.2.1 10 _ rfl;have p:=a.2.1 11 _ rfl;have m:=a.2.1 12 _ rfl;go_wp2_with fail
 go_loopw [3,10] (λs i wr=>∃(k:Nat) (n:Int),k<=N x.customs/\i=U O k/\s=U O n/\JE x (x.customs.drop k) n=JE x x.customs 0/\Bk wr w.heap.size [S a1 (N x.types) c1,S a2 (N x.imps) c2,S a3 (N x.funcs) c3,S a4 (N x.tabs) c4,S a5 (N x.mems) c5,S a6 (N x.globs) c6,S a7 (N x.exps) c7,G x.hasS,U O x.start,S a8 (N x.elems) c8,S a9 (N x.codes) c9,S v (N x.datas) u,S y (N x.customs) t]/\Below w.heap.size w wr) (λ_ i _=>N x.customs-(intOf i).toNat)
 case atStart=>exact⟨0,0,Kz _,rfl,rfl,rfl,a,d⟩
 clear a d q0 Y X R M L I H F E q p m;obtain⟨k,n,hk,rfl,rfl,hm,a,d⟩:=hrel;have q0:=a.2.1 0 _ rfl;have Y:=a.2.1 1 _ rfl;have X:=a.2.1 2 _ rfl;have R:=a.2.1 3 _ rfl;have M:=a.2.1 4 _ rfl;have L:=a.2.1 5 _ rfl;have I:=a.2.1 6 _ rfl;have H:=a.2.1 7 _ rfl;have F:=a.2.1 8 _ rfl;have E:=a.2.1 9 _ rfl;have q:=a.2.1 10 _ rfl;have p:=a.2.1 11 _ rfl;have m:=a.2.1 12 _ rfl;by_cases r:k<N x.customs
 . (have bn:(k:Int)<(N x.customs:Int):=by omega);rcases HL.o.up (Qa d)with hx|⟨b,o,ea,_,hc⟩
   . rw[hx]at r;simp at r
   have ab:=hc k r;have C:=Hl.o k r;subst ea;have g:=Hm (hm.symm.trans (cus_at x x.customs k n r));generalize x.customs.getD k Cus.z=c at ab g C;obtain⟨b1,d1,⟨g0,g1,g2⟩,_⟩:=ab;clear hm hc;(go_upto_region 5 with fail);refine Qp (λV=>Bk V w.heap.size [S a1 (N x.types) c1,S a2 (N x.imps) c2,S a3 (N x.funcs) c3,S a4 (N x.tabs) c4,S a5 (N x.mems) c5,S a6 (N x.globs) c6,S a7 (N x.exps) c7,G x.hasS,U O x.start,S a8 (N x.elems) c8,S a9 (N x.codes) c9,S v (N x.datas) u,S (some ⟨b,o,none⟩) (N x.customs) t]/\Bk V wr.heap.size [U O c.aft,Xs c.nm,S b1 (N c.bs) d1]/\Below w.heap.size w V) ⟨a.past,Bk.new,d.trans (((Below.refl _ wr).alloc lRz _).mono d.size)⟩ ?_;clear a d g0 g1 g2 q0 Y X R M L I H F E q p m;rintro V ⟨a,j,d⟩;have q0:=a.2.1 0 _ rfl;have Y:=a.2.1 1 _ rfl;have X:=a.2.1 2 _ rfl;have R:=a.2.1 3 _ rfl;have M:=a.2.1 4 _ rfl;have L:=a.2.1 5 _ rfl;have I:=a.2.1 6 _ rfl;have H:=a.2.1 7 _ rfl;have F:=a.2.1 8 _ rfl;have E:=a.2.1 9 _ rfl;have q:=a.2.1 10 _ rfl;have p:=a.2.1 11 _ rfl;have m:=a.2.1 12 _ rfl;have B:=j.2.1 0 _ rfl;have A:=j.2.1 1 _ rfl;by_cases h0:c.aft=0
   . (have g:Hid (JE x x.customs 0=(decide (n<=c.aft)&&(Q2 c.nm&&JE x (x.customs.drop (k+1)) c.aft))):=by rw[Hid,g.o];simp[h0]);clear B A;have B:=j.2.1 0 _ rfl;have A:=j.2.1 1 _ rfl;by_cases hn:c.aft<n
     . (have HF:Hid (JE x x.customs 0=false):=by rw[Hid,g.o];simp[Int.not_le.2 hn]);clear g a j;go_wp2;go_ret;exact⟨by rw[HF.o];rfl,d⟩
     (have g:Hid (JE x x.customs 0=(Q2 c.nm&&JE x (x.customs.drop (k+1)) c.aft)):=by rw[Hid,g.o];simp[Int.not_lt.1 hn]);have D:=Hm (JI c.nm V C.1);generalize hz:Q2 c.nm=z at D g;cases z
     . (go_wp2_with fail);refine D.o.mono ?_;rintro e W9 ⟨rfl,f⟩;have d:=d.trans (f.mono d.size);clear f a j;go_wp2;go_ret;exact⟨by rw[g.o];rfl,d⟩
     (go_wp2_with fail);refine D.o.mono ?_;rintro e W9 ⟨rfl,f⟩;have a:=a.keep f;have j:=j.keep f;have d:=d.trans (f.mono d.size);clear f B A;have B:=j.2.1 0 _ rfl;have A:=j.2.1 1 _ rfl;go_wp2;(go_roundw);(case rel=>exact⟨k+1,c.aft,by omega,by go_num,by first|rfl|rw[h0],by rw[g.o,Tg],a,d⟩);case measure=>simp[intOf];omega
   have HS:=Hm (isec_c x a1 c1 a2 c2 a3 c3 a4 c4 a5 c5 a6 c6 a7 c7 a8 c8 a9 c9 v u (some ⟨b,o,none⟩) t c.aft V LN.o);generalize bj:writ x c.aft=z0 at HS g;cases z0
   . (have HF:Hid (JE x x.customs 0=false):=by rw[Hid,g.o];simp[h0]);clear g;(go_wp2_with fail);refine HS.o.mono ?_;rintro e W8 ⟨rfl,l⟩;have d:=d.trans (l.mono d.size);clear l a j;go_wp2;go_ret;exact⟨by rw[HF.o];rfl,d⟩
   (have g:Hid (JE x x.customs 0=(decide (n<=c.aft)&&(Q2 c.nm&&JE x (x.customs.drop (k+1)) c.aft))):=by rw[Hid,g.o];simp);(go_wp2_with fail);refine HS.o.mono ?_;rintro e W8 ⟨rfl,l⟩;have a:=a.keep l;have j:=j.keep l;have d:=d.trans (l.mono d.size);clear l HS B A q0 Y X R M L I H F E q p m;have B:=j.2.1 0 _ rfl;have A:=j.2.1 1 _ rfl;by_cases hn:c.aft<n
   . (have HF:Hid (JE x x.customs 0=false):=by rw[Hid,g.o];simp[Int.not_le.2 hn]);clear g a j;go_wp2;go_ret;exact⟨by rw[HF.o];rfl,d⟩
   (have g:Hid (JE x x.customs 0=(Q2 c.nm&&JE x (x.customs.drop (k+1)) c.aft)):=by rw[Hid,g.o];simp[Int.not_lt.1 hn]);have D:=Hm (JI c.nm W8 C.1);generalize hz:Q2 c.nm=z at D g;cases z
   . (go_wp2_with fail);refine D.o.mono ?_;rintro e W9 ⟨rfl,f⟩;have d:=d.trans (f.mono d.size);clear f a j;go_wp2;go_ret;exact⟨by rw[g.o];rfl,d⟩
   (go_wp2_with fail);refine D.o.mono ?_;rintro e W9 ⟨rfl,f⟩;have a:=a.keep f;have j:=j.keep f;have d:=d.trans (f.mono d.size);clear f B A;have B:=j.2.1 0 _ rfl;have A:=j.2.1 1 _ rfl;go_wp2;(go_roundw);(case rel=>exact⟨k+1,c.aft,by omega,by go_num,by first|rfl|rw[h0],by rw[g.o,Tg],a,d⟩);case measure=>simp[intOf];omega
 have e:k=N x.customs:=by omega
 subst e;have g:Hid (JE x x.customs 0=true):=by show _=_;rw[<- hm,List.drop_length];rfl
 clear hm a;go_wp2;go_ret;exact⟨by rw[g.o];rfl,d⟩
theorem aaImp_c (a:Option Addr)(c:Nat)(xs:List Imp)(w:J)(M:N xs<=1048576/\∀i,i<N xs->Imp.LB 1048576 (xs.getD i Imp.z))(I:Imp.Ls 0 w a xs):Ec Q 112 #[S a (N xs) c,.func (.func 113) #[] #[]] w λe w'=>e=Z (G (xs.all QO))/\Below w.heap.size w w':=by
 obtain⟨hn,s⟩:=M;have A:=Hm I;have y:=Hm s;skip
 clear I s;go_enter func112,ntmps112;go_wp2_with fail
 go_loopw [9] (λi wr=>∃k:Nat,k<=N xs/\i=U O k/\(∀j,j<k->QO (xs.getD j Imp.z)=true)/\Below w.heap.size w wr) (λi _=>N xs-(intOf i).toNat)
 case atStart=>exact⟨0,Kz _,rfl,λj h=>by omega,bFz⟩
 obtain⟨k,hk,rfl,d,t⟩:=hrel;by_cases l:k<N xs
 . (have R:(k:Int)<(N xs:Int):=by omega);rcases A.o.up (Qa t)with p|⟨b,o,V,_,F⟩
   . subst p;simp at l
   have r:=F k l;have q:=y.o k l;(skip);subst V;obtain⟨x,p⟩:∃x,x=xs.getD k Imp.z:=⟨_,rfl⟩;rw[<- p]at r q;obtain⟨⟨q0,q1,q2,q3,q4,q5,q6,Y,X⟩,D⟩:=r;have v:Below wr.heap.size wr (wr.alloc (Fc #[Xs x.mod,Xs x.nm,U O x.kind,U O x.ty,U O x.lim.min,U O x.lim.max,G x.lim.has,U O x.gl.ty,G x.gl.mu] 147)):=bFz.alloc lRz _;have n:=Hm (iimp_c x _ (D.up (Qa v)) q);have B:=Hm t;have u:=Hm v;generalize E:QO x=gx at n;(have L:Hid (QO (xs.getD k Imp.z)=gx):=by show _=_;rw[<- p];exact E);cases gx
   . have g:=Hm (Jb QO xs Imp.z k l L.o);clear d F t v D A y p E;(go_wp2_with fail);refine n.o.mono ?_;rintro e C ⟨rfl,f⟩;have m:Below w.heap.size w C:=B.o.trans ((u.o.trans (f.mono (by simp))).mono B.o.size);clear f;go_wp2;go_ret;exact⟨by rw[g.o];rfl,m⟩
   have H:Hid (∀j,j<k+1->QO (xs.getD j Imp.z)=true):=λj hj=>by
    rcases(by omega:j<k\/j=k)with h|h
    . exact d j h
    subst h;exact L.o
   clear d F t v D A y p E;(go_wp2_with fail);refine n.o.mono ?_;rintro e C ⟨rfl,f⟩;have m:Below w.heap.size w C:=B.o.trans ((u.o.trans (f.mono (by simp))).mono B.o.size);clear f;go_wp2;(go_roundw);(case rel=>exact⟨k+1,by omega,by go_num,H.o,m⟩);case measure=>simp[intOf];omega
 have e:k=N xs:=by omega
 subst e;have g:=Hm (JA QO xs Imp.z d);clear d A y;go_wp2;go_ret;exact⟨by rw[g.o];rfl,t⟩
theorem aaCod_c (a:Option Addr)(c:Nat)(xs:List Cod)(w:J)(hl:N xs<=1048576/\∀i,i<N xs->Cod.LB 1048576 (xs.getD i Cod.z))(M:Cod.Ls 0 w a xs)(L:∀i,i<N xs->QT (xs.getD i Cod.z).body):Ec Q 125 #[S a (N xs) c,.func (.func 126) #[] #[]] w λe w'=>e=Z (G (xs.all Jm))/\Below w.heap.size w w':=by
 obtain⟨hn,t⟩:=hl;have B:=Hm M;have A:=Hm t;have HP:=Hm L;clear M t L;go_enter func125,ntmps125;go_wp2_with fail
 go_loopw [9] (λi wr=>∃k:Nat,k<=N xs/\i=U O k/\(∀j,j<k->Jm (xs.getD j Cod.z)=true)/\Below w.heap.size w wr) (λi _=>N xs-(intOf i).toNat)
 case atStart=>exact⟨0,Kz _,rfl,λj h=>by omega,bFz⟩
 obtain⟨k,hk,rfl,d,u⟩:=hrel;by_cases f:k<N xs
 . (have ac:(k:Int)<(N xs:Int):=by omega);rcases B.o.up (Qa u)with p|⟨b,o,ea,_,H⟩
   . subst p;simp at f
   have s:=H k f;have r:=A.o k f;have q:=HP.o k f;subst ea;obtain⟨x,p⟩:∃x,x=xs.getD k Cod.z:=⟨_,rfl⟩;rw[<- p]at s r q;obtain⟨Y,V,X,R,⟨q0,q1⟩,E⟩:=s;have y:Below wr.heap.size wr (wr.alloc (Fc #[S Y (N x.locs) V,S X (N x.body) R] 138)):=bFz.alloc lRz _;have n:=Hm (icod_c x Y V X R _ (E.up (Qa y)) r q);have C:=Hm u;have v:=Hm y;generalize F:Jm x=gx at n;(have HG:Hid (Jm (xs.getD k Cod.z)=gx):=by show _=_;rw[<- p];exact F);cases gx
   . have l:=Hm (Jb Jm xs Cod.z k f HG.o);clear d H u y E B A p F;(go_wp2_with fail);refine n.o.mono ?_;rintro e D ⟨rfl,g⟩;have m:Below w.heap.size w D:=C.o.trans ((v.o.trans (g.mono (by simp))).mono C.o.size);clear g;go_wp2;go_ret;exact⟨by rw[l.o];rfl,m⟩
   have I:Hid (∀j,j<k+1->Jm (xs.getD j Cod.z)=true):=λj hj=>by
    rcases(by omega:j<k\/j=k)with h|h
    . exact d j h
    subst h;exact HG.o
   clear d H u y E B A p F;(go_wp2_with fail);refine n.o.mono ?_;rintro e D ⟨rfl,g⟩;have m:Below w.heap.size w D:=C.o.trans ((v.o.trans (g.mono (by simp))).mono C.o.size);clear g;go_wp2;(go_roundw);(case rel=>exact⟨k+1,by omega,by go_num,I.o,m⟩);case measure=>simp[intOf];omega
 have e:k=N xs:=by omega
 subst e;have l:=Hm (JA Jm xs Cod.z d);clear d B A;go_wp2;go_ret;exact⟨by rw[l.o];rfl,u⟩
end YtaccbbndmmhenaaGreatDoor
namespace YtaccbbndmmhenaaGreatDoor.Va
open Go.RowKit Go.Sort
theorem Has.alloc' {w a xs}(h:Has w a xs)(o:Obj):Has (w.alloc o) a xs:=h.keep (bFz.alloc lRz _)
theorem Qo {B w w'}(h:Below B w w')(n:Nat):Below B w (w'.drewN n):=⟨h.os,h.tape,h.output,h.size,h.block⟩
def FV (w:J)(v:Vu)(xs ys:List Int):Prop:=∃pa pc ra rc,v=Ag #[S pa (N xs) pc,S ra (N ys) rc]/\Has w pa xs/\Has w ra ys
theorem ne_at {xs a:List Int}{k:Nat}(h:xs.getD k 0≠a.getD k 0):xs≠a:=λe=>h (by rw[e])
theorem eq_all {xs a:List Int}(c:N xs=N a)(h:∀j,j<N xs->xs.getD j 0=a.getD j 0):xs=a:=by
 apply List.ext_getElem c;intro i b d;have:=h i b;simpa[Kg,b,d]using this
theorem sTE_c (v v':Vu)(xs c b a:List Int)(w:J)(hx:N xs<=1099511627776)(hy:N c<=1099511627776)(h:FV w v xs c)(h':FV w v' b a):Ec Q 208 #[v,v'] w λe w'=>e=Z (G (decide (xs=b)&&decide (c=a)))/\Below w.heap.size w w':=by
 obtain⟨M,L,I,H,rfl,h1,h2⟩:=h;obtain⟨p,n,l,g,rfl,h3,h4⟩:=h';obtain⟨W,R⟩:∃W,W=(w.alloc (Fc #[S M (N xs) L,S I (N c) H] 148)).alloc (Fc #[S p (N b) n,S l (N a) g] 148):=⟨_,rfl⟩;have c0:W.cell? ⟨w.heap.size,0,none⟩=some (S M (N xs) L):=by rw[R,World.cell?_alloc_past _ _ _ (by simp)];exact Qf rfl rfl
 have c1:W.cell? ⟨w.heap.size,1,none⟩=some (S I (N c) H):=by rw[R,World.cell?_alloc_past _ _ _ (by simp)];exact Qf rfl rfl
 have c2:W.cell? ⟨w.heap.size+1,0,none⟩=some (S p (N b) n):=by rw[R];exact Qf (by simp) rfl
 have c3:W.cell? ⟨w.heap.size+1,1,none⟩=some (S l (N a) g):=by rw[R];exact Qf (by simp) rfl
 have H1:=Hm (Has.alloc' (Has.alloc' h1 (Fc #[S M (N xs) L,S I (N c) H] 148)) (Fc #[S p (N b) n,S l (N a) g] 148));have H2:=Hm (Has.alloc' (Has.alloc' h2 (Fc #[S M (N xs) L,S I (N c) H] 148)) (Fc #[S p (N b) n,S l (N a) g] 148));have H3:=Hm (Has.alloc' (Has.alloc' h3 (Fc #[S M (N xs) L,S I (N c) H] 148)) (Fc #[S p (N b) n,S l (N a) g] 148));have H4:=Hm (Has.alloc' (Has.alloc' h4 (Fc #[S M (N xs) L,S I (N c) H] 148)) (Fc #[S p (N b) n,S l (N a) g] 148));rw[<- R]at H1 H2 H3 H4;clear h1 h2 h3 h4;have q:Below w.heap.size w W:=by rw[R];exact(bFz.alloc lRz _).alloc (by simp) _
 have HW:=Hm R;clear R;by_cases B:N b=N xs
 . by_cases A:N a=N c
   . rw[B]at c2;rw[A]at c3;(have F:Hid ((w.alloc (Fc #[S M (N xs) L,S I (N c) H] 148)).alloc (Fc #[S p (N xs) n,S l (N c) g] 148)=W):=by have:=HW.o.symm;rw[B,A]at this;exact this);rw[B,A];have HL:=Hm B;have ab:=Hm A;have C:=Hm (And.intro c0 (And.intro c1 (And.intro c2 c3)));clear B A c0 c1 c2 c3 HW;go_enter func208,ntmps208;(go_wp2_with fail);rw[F.o];(go_loopw [5] (λi wr=>∃k:Nat,k<=N xs/\i=U O k/\(∀j,j<k->xs.getD j 0=b.getD j 0)/\∃m,wr=W.drewN m) (λi _=>N xs-(intOf i).toNat));(case atStart=>exact⟨0,Kz _,rfl,λj hj=>by omega,0,rfl⟩);obtain⟨k,hk,rfl,r,m,rfl⟩:=hrel;have HA:=Hm r;clear r;obtain⟨c0,c1,c2,c3⟩:=C.o;by_cases z:k<N xs
     . rcases H1.o with h|⟨b1,o1,ea,E⟩
       . subst h;simp at z
       rcases H3.o with h|⟨b2,o2,aa,D⟩
       . have:=HL.o;rw[h]at this;simp at this;omega
       have d1:W.cell? ⟨b1,o1+k,none⟩=some (U O (xs.getD k 0)):=E k z;have d2:W.cell? ⟨b2,o2+k,none⟩=some (U O (b.getD k 0)):=D k (by rw[HL.o];exact z);subst ea aa;(have av:(k:Int)<(N xs:Int):=by omega);obtain⟨x,t⟩:∃x,x=xs.getD k 0:=⟨_,rfl⟩;obtain⟨y,s⟩:∃y,y=b.getD k 0:=⟨_,rfl⟩;rw[<- t]at d1;rw[<- s]at d2;have HX:=Hm t;have HY:=Hm s;clear E D H1 H2 H3 H4 C F c1 c3 t s;by_cases Y:x=y
       . subst Y;go_wp2;refine wp_region_quiet_lit (by kernel_rfl) (by kernel_rfl) ?_;(repeat (quiet_step (fail)));refine wpQuiet_nil ?_;intro _ u;obtain⟨V,d⟩:=u;subst d;go_wp2;go_roundw
         case rel=>exact⟨k+1,by omega,by go_num,fun j hj=>by
          rcases(by omega:j<k\/j=k)with h|h
          . exact HA.o j h
          . subst h;rw[<- HX.o,<- HY.o],m+V,by simp[World.drewN,Nat.add_assoc]⟩
         case measure=>simp[intOf];omega
       (have f1:(x != y)=true:=by simpa using Y);go_wp2;refine wp_region_quiet_lit (by kernel_rfl) (by kernel_rfl) ?_;(repeat (quiet_step (fail)));refine wpQuiet_nil ?_;intro _ u;obtain⟨V,d⟩:=u;subst d;go_wp2;go_ret;exact⟨by rw[decide_eq_false (ne_at (k:=k) (by rw[<- HX.o,<- HY.o];exact Y))];rfl,Qo (Qo q m) V⟩
     (have X:k=N xs:=by omega);subst X;have HE:Hid (decide (xs=b)=true):=decide_eq_true (eq_all HL.o.symm HA.o);clear HA H1 H3;(go_wp2_with fail);(go_loopw [6] (λi wr=>∃k:Nat,k<=N c/\i=U O k/\(∀j,j<k->c.getD j 0=a.getD j 0)/\∃m,wr=W.drewN m) (λi _=>N c-(intOf i).toNat));(case atStart=>exact⟨0,Kz _,rfl,λj hj=>by omega,m,rfl⟩);obtain⟨k,hk,rfl,r,m,rfl⟩:=hrel;have HA:=Hm r;clear r;by_cases z:k<N c
     . rcases H2.o with h|⟨b1,o1,ea,E⟩
       . subst h;simp at z
       rcases H4.o with h|⟨b2,o2,aa,D⟩
       . have:=ab.o;rw[h]at this;simp at this;omega
       have d1:W.cell? ⟨b1,o1+k,none⟩=some (U O (c.getD k 0)):=E k z;have d2:W.cell? ⟨b2,o2+k,none⟩=some (U O (a.getD k 0)):=D k (by rw[ab.o];exact z);subst ea aa;(have av:(k:Int)<(N c:Int):=by omega);obtain⟨x,t⟩:∃x,x=c.getD k 0:=⟨_,rfl⟩;obtain⟨y,s⟩:∃y,y=a.getD k 0:=⟨_,rfl⟩;rw[<- t]at d1;rw[<- s]at d2;have HX:=Hm t;have HY:=Hm s;clear E D H2 H4 C F c0 c2 t s;by_cases Y:x=y
       . subst Y;go_wp2;refine wp_region_quiet_lit (by kernel_rfl) (by kernel_rfl) ?_;(repeat (quiet_step (fail)));refine wpQuiet_nil ?_;intro _ u;obtain⟨V,d⟩:=u;subst d;go_wp2;go_roundw
         case rel=>exact⟨k+1,by omega,by go_num,fun j hj=>by
          rcases(by omega:j<k\/j=k)with h|h
          . exact HA.o j h
          . subst h;rw[<- HX.o,<- HY.o],m+V,by simp[World.drewN,Nat.add_assoc]⟩
         case measure=>simp[intOf];omega
       (have f1:(x != y)=true:=by simpa using Y);go_wp2;refine wp_region_quiet_lit (by kernel_rfl) (by kernel_rfl) ?_;(repeat (quiet_step (fail)));refine wpQuiet_nil ?_;intro _ u;obtain⟨V,d⟩:=u;subst d;go_wp2;go_ret;exact⟨by rw[HE.o,Tg,decide_eq_false (ne_at (k:=k) (by rw[<- HX.o,<- HY.o];exact Y))];rfl,Qo (Qo q m) V⟩
     (have X:k=N c:=by omega);subst X;go_wp2;go_ret;exact⟨by rw[HE.o,Tg,decide_eq_true (eq_all ab.o.symm HA.o)];rfl,Qo q m⟩
   (have f:¬((N c:Int)=(N a:Int)):=by omega);(have f1:((N c:Int) != (N a:Int))=true:=by simpa using f);have HN:Hid (c≠a):=λe=>A (by rw[e]);rw[B]at c2;(have F:Hid ((w.alloc (Fc #[S M (N xs) L,S I (N c) H] 148)).alloc (Fc #[S p (N xs) n,S l (N a) g] 148)=W):=by have:=HW.o.symm;rw[B]at this;exact this);rw[B];clear B A H1 H2 H3 H4 HW f hx hy;go_enter func208,ntmps208;go_wp2;go_ret;exact⟨by rw[decide_eq_false HN.o,Bool.and_false];rfl,by rw[F.o];exact q⟩
 have f:¬((N xs:Int)=(N b:Int)):=by omega
 have f1:((N xs:Int) != (N b:Int))=true:=by simpa using f
 have HN:Hid (xs≠b):=λe=>B (by rw[e]);clear B H1 H2 H3 H4 f hx hy;go_enter func208,ntmps208;go_wp2;go_ret;exact⟨by rw[decide_eq_false HN.o,Bool.false_and];rfl,by rw[<- HW.o];exact q⟩
theorem ssame_c (a b)(g f:Nat)(xs c:List Int)(w)(j:N xs<=1099511627776)(k:Has w a xs)(d:Has w b c):Ec Q 187 #[S a (N xs) g,S b (N c) f] w λe w'=>e=Z (G (decide (xs=c)))/\Below w.heap.size w w':=by
 have H:=Hm (sTE_c (Ag #[S a (N xs) g,S none 0 0]) (Ag #[S b (N c) f,S none 0 0]) xs [] c [] w j (by simp) ⟨a,g,none,0,rfl,k,.inl rfl⟩ ⟨b,f,none,0,rfl,d,.inl rfl⟩);have e:(decide (xs=c)&&decide (([]:List Int)=[]))=decide (xs=c):=by simp
 rw[e]at H;generalize decide (xs=c)=q at H⊢;clear k d e j;go_enter func187,ntmps187;go_wp2_with (go_at_call 208;refine H.o.mono ?_;rintro e l ⟨rfl,d⟩)
 go_ret;exact⟨rfl,d⟩
end YtaccbbndmmhenaaGreatDoor.Va
namespace YtaccbbndmmhenaaGreatDoor
open Go.RowKit
theorem sn_a (p:Int)(i:Nat)(s:ByteArray)(w:J)(r:70<=p)(q:p<=79)(o:p-70=i)(f:X6[i]?=some s)(m:s.size<=100):Ec Q 189 #[U O p] w λe w'=>e=Z (Xs (⟨#[105,51,50,46]⟩++s))/\Below w.heap.size w w':=by
 have v:¬p<0:=by omega
 have u:¬p<=68:=by omega
 have t:(p==(69:Int))=false:=by simp;omega
 have n:IntKind.i64.wrap (p-70)=i:=by rw[Kv];omega
 have j:(i:Int)<10:=by omega
 have d:¬9223372036854775807<4+s.size:=by omega
 go_enter func189,ntmps189;go_wp2_with fail
 refine(lTests_c _).mono ?_;rintro e l ⟨g,rfl,c,b⟩;have a:=up1 c;have k:=b i s f;clear c b;go_wp2;go_ret;exact⟨rfl,a⟩
theorem sn_b (p:Int)(i:Nat)(s:ByteArray)(w:J)(r:81<=p)(q:p<=90)(o:p-81=i)(f:X6[i]?=some s)(m:s.size<=100):Ec Q 189 #[U O p] w λe w'=>e=Z (Xs (⟨#[105,54,52,46]⟩++s))/\Below w.heap.size w w':=by
 have z:¬p<0:=by omega
 have y:¬p<=68:=by omega
 have v:(p==(69:Int))=false:=by simp;omega
 have u:¬p<=79:=by omega
 have t:(p==(80:Int))=false:=by simp;omega
 have n:IntKind.i64.wrap (p-81)=i:=by rw[Kv];omega
 have j:(i:Int)<10:=by omega
 have d:¬9223372036854775807<4+s.size:=by omega
 go_enter func189,ntmps189;go_wp2_with fail
 refine(lTests_c _).mono ?_;rintro e l ⟨g,rfl,c,b⟩;have a:=up1 c;have k:=b i s f;clear c b;go_wp2;go_ret;exact⟨rfl,a⟩
theorem sn_c (p:Int)(i:Nat)(s:ByteArray)(w:J)(l:91<=p)(k:p<=96)(g:p-91=i)(b:LT6[i]?=some s)(d:s.size<=100):Ec Q 189 #[U O p] w λe w'=>e=Z (Xs (⟨#[102,51,50,46]⟩++s))/\Below w.heap.size w w':=by
 have t:¬p<0:=by omega
 have r:¬p<=68:=by omega
 have q:(p==(69:Int))=false:=by simp;omega
 have o:¬p<=79:=by omega
 have n:(p==(80:Int))=false:=by simp;omega
 have m:¬p<=90:=by omega
 have f:IntKind.i64.wrap (p-91)=i:=by rw[Kv];omega
 have c:(i:Int)<6:=by omega
 have a:¬9223372036854775807<4+s.size:=by omega
 have j:(w.alloc (Fc #[Xs ⟨#[101,113]⟩,Xs ⟨#[110,101]⟩,Xs ⟨#[108,116]⟩,Xs ⟨#[103,116]⟩,Xs ⟨#[108,101]⟩,Xs ⟨#[103,101]⟩] 9)).cell? ⟨w.heap.size,i,none⟩=some (.string s):=(strNew w LT6 9).2 i s b;go_enter func189,ntmps189;go_wp2;go_ret;exact⟨rfl,bFz.alloc lRz _⟩
theorem sn_d (p:Int)(i:Nat)(s:ByteArray)(w:J)(l:97<=p)(k:p<=102)(g:p-97=i)(b:LT6[i]?=some s)(d:s.size<=100):Ec Q 189 #[U O p] w λe w'=>e=Z (Xs (⟨#[102,54,52,46]⟩++s))/\Below w.heap.size w w':=by
 have u:¬p<0:=by omega
 have t:¬p<=68:=by omega
 have r:(p==(69:Int))=false:=by simp;omega
 have q:¬p<=79:=by omega
 have o:(p==(80:Int))=false:=by simp;omega
 have n:¬p<=90:=by omega
 have m:¬p<=96:=by omega
 have f:IntKind.i64.wrap (p-97)=i:=by rw[Kv];omega
 have c:(i:Int)<6:=by omega
 have a:¬9223372036854775807<4+s.size:=by omega
 have j:(w.alloc (Fc #[Xs ⟨#[101,113]⟩,Xs ⟨#[110,101]⟩,Xs ⟨#[108,116]⟩,Xs ⟨#[103,116]⟩,Xs ⟨#[108,101]⟩,Xs ⟨#[103,101]⟩] 9)).cell? ⟨w.heap.size,i,none⟩=some (.string s):=(strNew w LT6 9).2 i s b;go_enter func189,ntmps189;go_wp2;go_ret;exact⟨rfl,bFz.alloc lRz _⟩
theorem sn_z0 (p:Int)(w:J)(a:p<=-1):Ec Q 189 #[U O p] w λe w'=>e=Z (Xs ⟨#[]⟩)/\Below w.heap.size w w':=by
 have b:p<0:=by omega
 go_enter func189,ntmps189;go_wp2;go_ret;exact⟨rfl,bFz.alloc lRz _⟩
theorem sn_z1 (p:Int)(w:J)(a:192<=p):Ec Q 189 #[U O p] w λe w'=>e=Z (Xs ⟨#[]⟩)/\Below w.heap.size w w':=by
 have c:¬p<0:=by omega
 have b:¬p<=191:=by omega
 go_enter func189,ntmps189;go_wp2;go_ret;exact⟨rfl,bFz.alloc lRz _⟩
theorem sn_x (p:Int)(w:J)(b:69<=p)(a:p<=69):Ec Q 189 #[U O p] w λe w'=>e=Z (Xs ⟨#[105,51,50,46,101,113,122]⟩)/\Below w.heap.size w w':=by
 have f:¬p<0:=by omega
 have d:¬p<=68:=by omega
 have c:(p==(69:Int))=true:=by simp;omega
 go_enter func189,ntmps189;go_wp2;go_ret;exact⟨rfl,bFz.alloc lRz _⟩
theorem sn_y (p:Int)(w:J)(b:80<=p)(a:p<=80):Ec Q 189 #[U O p] w λe w'=>e=Z (Xs ⟨#[105,54,52,46,101,113,122]⟩)/\Below w.heap.size w w':=by
 have j:¬p<0:=by omega
 have g:¬p<=68:=by omega
 have f:(p==(69:Int))=false:=by simp;omega
 have d:¬p<=79:=by omega
 have c:(p==(80:Int))=true:=by simp;omega
 go_enter func189,ntmps189;go_wp2;go_ret;exact⟨rfl,bFz.alloc lRz _⟩
theorem sn_e (p:Int)(i:Nat)(s:ByteArray)(w:J)(r:103<=p)(q:p<=120)(o:p-103=i)(f:LInts[i]?=some s)(m:s.size<=100):Ec Q 189 #[U O p] w λe w'=>e=Z (Xs (⟨#[105,51,50,46]⟩++s))/\Below w.heap.size w w':=by
 have C:¬p<0:=by omega
 have B:¬p<=68:=by omega
 have A:(p==(69:Int))=false:=by simp;omega
 have z:¬p<=79:=by omega
 have y:(p==(80:Int))=false:=by simp;omega
 have v:¬p<=90:=by omega
 have u:¬p<=96:=by omega
 have t:¬p<=102:=by omega
 have n:IntKind.i64.wrap (p-103)=i:=by rw[Kv];omega
 have j:(i:Int)<18:=by omega
 have d:¬9223372036854775807<4+s.size:=by omega
 go_enter func189,ntmps189;go_wp2_with fail
 refine(lInts_c _).mono ?_;rintro e l ⟨g,rfl,c,b⟩;have a:=up1 c;have k:=b i s f;clear c b;go_wp2;go_ret;exact⟨rfl,a⟩
theorem sn_f (p:Int)(i:Nat)(s:ByteArray)(w:J)(t:121<=p)(r:p<=138)(q:p-121=i)(f:LInts[i]?=some s)(n:s.size<=100):Ec Q 189 #[U O p] w λe w'=>e=Z (Xs (⟨#[105,54,52,46]⟩++s))/\Below w.heap.size w w':=by
 have D:¬p<0:=by omega
 have C:¬p<=68:=by omega
 have B:(p==(69:Int))=false:=by simp;omega
 have A:¬p<=79:=by omega
 have z:(p==(80:Int))=false:=by simp;omega
 have y:¬p<=90:=by omega
 have v:¬p<=96:=by omega
 have u:¬p<=102:=by omega
 have l:¬p<=120:=by omega
 have o:IntKind.i64.wrap (p-121)=i:=by rw[Kv];omega
 have j:(i:Int)<18:=by omega
 have d:¬9223372036854775807<4+s.size:=by omega
 go_enter func189,ntmps189;go_wp2_with fail
 refine(lInts_c _).mono ?_;rintro e m ⟨g,rfl,c,b⟩;have a:=up1 c;have k:=b i s f;clear c b;go_wp2;go_ret;exact⟨rfl,a⟩
theorem sn_g (p:Int)(i:Nat)(s:ByteArray)(w:J)(u:139<=p)(t:p<=152)(r:p-139=i)(f:Xy[i]?=some s)(o:s.size<=100):Ec Q 189 #[U O p] w λe w'=>e=Z (Xs (⟨#[102,51,50,46]⟩++s))/\Below w.heap.size w w':=by
 have E:¬p<0:=by omega
 have D:¬p<=68:=by omega
 have C:(p==(69:Int))=false:=by simp;omega
 have B:¬p<=79:=by omega
 have A:(p==(80:Int))=false:=by simp;omega
 have z:¬p<=90:=by omega
 have y:¬p<=96:=by omega
 have v:¬p<=102:=by omega
 have m:¬p<=120:=by omega
 have l:¬p<=138:=by omega
 have q:IntKind.i64.wrap (p-139)=i:=by rw[Kv];omega
 have j:(i:Int)<14:=by omega
 have d:¬9223372036854775807<4+s.size:=by omega
 go_enter func189,ntmps189;go_wp2_with fail
 refine(lFloats_c _).mono ?_;rintro e n ⟨g,rfl,c,b⟩;have a:=up1 c;have k:=b i s f;clear c b;go_wp2;go_ret;exact⟨rfl,a⟩
theorem sn_h (p:Int)(i:Nat)(s:ByteArray)(w:J)(v:153<=p)(u:p<=166)(t:p-153=i)(f:Xy[i]?=some s)(q:s.size<=100):Ec Q 189 #[U O p] w λe w'=>e=Z (Xs (⟨#[102,54,52,46]⟩++s))/\Below w.heap.size w w':=by
 have F:¬p<0:=by omega
 have E:¬p<=68:=by omega
 have D:(p==(69:Int))=false:=by simp;omega
 have C:¬p<=79:=by omega
 have B:(p==(80:Int))=false:=by simp;omega
 have A:¬p<=90:=by omega
 have z:¬p<=96:=by omega
 have y:¬p<=102:=by omega
 have n:¬p<=120:=by omega
 have m:¬p<=138:=by omega
 have l:¬p<=152:=by omega
 have r:IntKind.i64.wrap (p-153)=i:=by rw[Kv];omega
 have j:(i:Int)<14:=by omega
 have d:¬9223372036854775807<4+s.size:=by omega
 go_enter func189,ntmps189;go_wp2_with fail
 refine(lFloats_c _).mono ?_;rintro e o ⟨g,rfl,c,b⟩;have a:=up1 c;have k:=b i s f;clear c b;go_wp2;go_ret;exact⟨rfl,a⟩
theorem sn_i (p:Int)(i:Nat)(s:ByteArray)(w:J)(v:167<=p)(u:p<=191)(t:p-167=i)(d:LConv[i]?=some s)(q:s.size<=100):Ec Q 189 #[U O p] w λe w'=>e=Z (Xs s)/\Below w.heap.size w w':=by
 have F:¬p<0:=by omega
 have E:¬p<=68:=by omega
 have D:(p==(69:Int))=false:=by simp;omega
 have C:¬p<=79:=by omega
 have B:(p==(80:Int))=false:=by simp;omega
 have A:¬p<=90:=by omega
 have z:¬p<=96:=by omega
 have y:¬p<=102:=by omega
 have n:¬p<=120:=by omega
 have m:¬p<=138:=by omega
 have l:¬p<=152:=by omega
 have k:¬p<=166:=by omega
 have r:IntKind.i64.wrap (p-167)=i:=by rw[Kv];omega
 have f:(i:Int)<25:=by omega
 go_enter func189,ntmps189;go_wp2_with fail
 refine(lConv_c _).mono ?_;rintro e o ⟨g,rfl,c,b⟩;have a:=up1 c;have j:=b i s d;clear c b;go_wp2;go_ret;exact⟨rfl,a⟩
theorem sn_n (p:Int)(i:Nat)(s:ByteArray)(w:J)(q:0<=p)(o:p<=68)(k:p-0=i)(f:LNames[i]?=some s)(n:s.size<=100):Ec Q 189 #[U O p] w λe w'=>e=Z (Xs s)/\Below w.heap.size w w':=by
 have a:p=i:=by omega
 clear k;subst a;have r:¬(i:Int)<0:=by omega
 have j:(i:Int)<69:=by omega
 go_enter func189,ntmps189;go_wp2_with fail
 refine(lNames_c _).mono ?_;rintro e m ⟨g,rfl,d,c⟩;have b:=up1 d;have l:=c i s f;clear d c;go_wp2;go_ret;exact⟨rfl,b⟩
theorem pick (L:List ByteArray)(i:Nat)(h:i<N L):L[i]?=some (L.getD i ⟨#[]⟩):=by simp[Kg,Kj h]
theorem Q0 (p:Int)(w:J):Ec Q 189 #[U O p] w λe w'=>e=Z (Xs (Qb p).nm)/\Below w.heap.size w w':=by
 have b:(p<=-1)\/(192<=p)\/(69<=p/\p<=69)\/(80<=p/\p<=80)\/(70<=p/\p<=79)\/(81<=p/\p<=90)\/(91<=p/\p<=96)\/(97<=p/\p<=102)\/(103<=p/\p<=120)\/(121<=p/\p<=138)\/(139<=p/\p<=152)\/(153<=p/\p<=166)\/(167<=p/\p<=191)\/(0<=p/\p<=68):=by omega
 rcases b with h|h|h|h|h|h|h|h|h|h|h|h|h|h
 . (have e:Qb p=Z0:=by simp only[Qb,show ¬(0<=p/\p<192) by omega,if_false]);rw[e];exact sn_z0 p w h
 . (have e:Qb p=Z0:=by simp only[Qb,show ¬(0<=p/\p<192) by omega,if_false]);rw[e];exact sn_z1 p w h
 . (obtain rfl:p=69:=by omega);exact sn_x 69 w (by omega) (by omega)
 . (obtain rfl:p=80:=by omega);exact sn_y 80 w (by omega) (by omega)
 . have e:=of_decide_eq_true (rng 70 10 (λi=>decide ((tbl.getD i Z0).nm=(⟨#[105,51,50,46]⟩++X6.getD (i-70) ⟨#[]⟩:ByteArray)/\(X6.getD (i-70) ⟨#[]⟩).size<=100)) (by decide +kernel) p (by omega) (by omega));(have a:(Qb p).nm=(tbl.getD p.toNat Z0).nm:=by simp only[Qb,show(0<=p/\p<192) by omega,and_self,if_true]);rw[a,e.1];exact sn_a p (p.toNat-70) _ w h.1 h.2 (by omega) (pick X6 _ (by show _<10;omega)) e.2
 . have e:=of_decide_eq_true (rng 81 10 (λi=>decide ((tbl.getD i Z0).nm=(⟨#[105,54,52,46]⟩++X6.getD (i-81) ⟨#[]⟩:ByteArray)/\(X6.getD (i-81) ⟨#[]⟩).size<=100)) (by decide +kernel) p (by omega) (by omega));(have a:(Qb p).nm=(tbl.getD p.toNat Z0).nm:=by simp only[Qb,show(0<=p/\p<192) by omega,and_self,if_true]);rw[a,e.1];exact sn_b p (p.toNat-81) _ w h.1 h.2 (by omega) (pick X6 _ (by show _<10;omega)) e.2
 . have e:=of_decide_eq_true (rng 91 6 (λi=>decide ((tbl.getD i Z0).nm=(⟨#[102,51,50,46]⟩++LT6.getD (i-91) ⟨#[]⟩:ByteArray)/\(LT6.getD (i-91) ⟨#[]⟩).size<=100)) (by decide +kernel) p (by omega) (by omega));(have a:(Qb p).nm=(tbl.getD p.toNat Z0).nm:=by simp only[Qb,show(0<=p/\p<192) by omega,and_self,if_true]);rw[a,e.1];exact sn_c p (p.toNat-91) _ w h.1 h.2 (by omega) (pick LT6 _ (by show _<6;omega)) e.2
 . have e:=of_decide_eq_true (rng 97 6 (λi=>decide ((tbl.getD i Z0).nm=(⟨#[102,54,52,46]⟩++LT6.getD (i-97) ⟨#[]⟩:ByteArray)/\(LT6.getD (i-97) ⟨#[]⟩).size<=100)) (by decide +kernel) p (by omega) (by omega));(have a:(Qb p).nm=(tbl.getD p.toNat Z0).nm:=by simp only[Qb,show(0<=p/\p<192) by omega,and_self,if_true]);rw[a,e.1];exact sn_d p (p.toNat-97) _ w h.1 h.2 (by omega) (pick LT6 _ (by show _<6;omega)) e.2
 . have e:=of_decide_eq_true (rng 103 18 (λi=>decide ((tbl.getD i Z0).nm=(⟨#[105,51,50,46]⟩++LInts.getD (i-103) ⟨#[]⟩:ByteArray)/\(LInts.getD (i-103) ⟨#[]⟩).size<=100)) (by decide +kernel) p (by omega) (by omega));(have a:(Qb p).nm=(tbl.getD p.toNat Z0).nm:=by simp only[Qb,show(0<=p/\p<192) by omega,and_self,if_true]);rw[a,e.1];exact sn_e p (p.toNat-103) _ w h.1 h.2 (by omega) (pick LInts _ (by show _<18;omega)) e.2
 . have e:=of_decide_eq_true (rng 121 18 (λi=>decide ((tbl.getD i Z0).nm=(⟨#[105,54,52,46]⟩++LInts.getD (i-121) ⟨#[]⟩:ByteArray)/\(LInts.getD (i-121) ⟨#[]⟩).size<=100)) (by decide +kernel) p (by omega) (by omega));(have a:(Qb p).nm=(tbl.getD p.toNat Z0).nm:=by simp only[Qb,show(0<=p/\p<192) by omega,and_self,if_true]);rw[a,e.1];exact sn_f p (p.toNat-121) _ w h.1 h.2 (by omega) (pick LInts _ (by show _<18;omega)) e.2
 . have e:=of_decide_eq_true (rng 139 14 (λi=>decide ((tbl.getD i Z0).nm=(⟨#[102,51,50,46]⟩++Xy.getD (i-139) ⟨#[]⟩:ByteArray)/\(Xy.getD (i-139) ⟨#[]⟩).size<=100)) (by decide +kernel) p (by omega) (by omega));(have a:(Qb p).nm=(tbl.getD p.toNat Z0).nm:=by simp only[Qb,show(0<=p/\p<192) by omega,and_self,if_true]);rw[a,e.1];exact sn_g p (p.toNat-139) _ w h.1 h.2 (by omega) (pick Xy _ (by show _<14;omega)) e.2
 . have e:=of_decide_eq_true (rng 153 14 (λi=>decide ((tbl.getD i Z0).nm=(⟨#[102,54,52,46]⟩++Xy.getD (i-153) ⟨#[]⟩:ByteArray)/\(Xy.getD (i-153) ⟨#[]⟩).size<=100)) (by decide +kernel) p (by omega) (by omega));(have a:(Qb p).nm=(tbl.getD p.toNat Z0).nm:=by simp only[Qb,show(0<=p/\p<192) by omega,and_self,if_true]);rw[a,e.1];exact sn_h p (p.toNat-153) _ w h.1 h.2 (by omega) (pick Xy _ (by show _<14;omega)) e.2
 . have e:=of_decide_eq_true (rng 167 25 (λi=>decide ((tbl.getD i Z0).nm=(LConv.getD (i-167) ⟨#[]⟩:ByteArray)/\(LConv.getD (i-167) ⟨#[]⟩).size<=100)) (by decide +kernel) p (by omega) (by omega));(have a:(Qb p).nm=(tbl.getD p.toNat Z0).nm:=by simp only[Qb,show(0<=p/\p<192) by omega,and_self,if_true]);rw[a,e.1];exact sn_i p (p.toNat-167) _ w h.1 h.2 (by omega) (pick LConv _ (by show _<25;omega)) e.2
 have e:=of_decide_eq_true (rng 0 69 (λi=>decide ((tbl.getD i Z0).nm=(LNames.getD (i-0) ⟨#[]⟩:ByteArray)/\(LNames.getD (i-0) ⟨#[]⟩).size<=100)) (by decide +kernel) p (by omega) (by omega));have a:(Qb p).nm=(tbl.getD p.toNat Z0).nm:=by simp only[Qb,show(0<=p/\p<192) by omega,and_self,if_true]
 rw[a,e.1];exact sn_n p (p.toNat-0) _ w h.1 h.2 (by omega) (pick LNames _ (by show _<69;omega)) e.2
theorem st_0 (p t:Int)(s:ByteArray)(w:J)(H:40<=p)(F:p<=53)(hn:∀w,Ec Q 189 #[U O p] w λe w'=>e=Z (Xs s)/\Below w.heap.size w w')(g:Qy s=t):Ec Q 155 #[U O p] w λe w'=>∃a r,e=Z (Ag #[a,r])/\FT w' w.heap.size w'.heap.size a r ([127]:List Int).length ([t]:List Int).length [127] [t]/\Below w.heap.size w w':=by
 have C:=Hm hn;have l:=Hm (Je s);rw[g]at l;clear hn g;go_enter func155,ntmps155;go_wp2_with fail
 refine(C.o _).mono ?_;rintro e n ⟨rfl,b⟩;have f:=(RB.new w).keep b;clear b;go_wp2_with fail
 refine(l.o _).mono ?_;rintro e m ⟨rfl,rfl⟩;go_wp2_with fail
 refine(sig_c _ _ _ _ _).mono ?_;rintro e E ⟨B,A,rfl,j,b⟩;obtain⟨k,c⟩:=f.both [127] [t] #[U O 127] rfl 1 rfl (by simp) j b;clear j b f;have D:=Hm k;obtain⟨z,y,u,q,lt,d⟩:=c;clear k;go_wp2;exact bodyPost_ret (v:=Ag #[S (some ⟨n.heap.size,0,none⟩) 1 1,S B 1 A]) (by simp[results,results155,go_sem,z,y]) rfl ⟨_,_,rfl,D.o.sets lt d rfl⟩
theorem st_1 (p t:Int)(s:ByteArray)(w:J)(d:54<=p)(F:p<=62)(hn:∀w,Ec Q 189 #[U O p] w λe w'=>e=Z (Xs s)/\Below w.heap.size w w')(j:Qy s=t):Ec Q 155 #[U O p] w λe w'=>∃a r,e=Z (Ag #[a,r])/\FT w' w.heap.size w'.heap.size a r ([127,t]:List Int).length ([]:List Int).length [127,t] []/\Below w.heap.size w w':=by
 have H:¬p<40:=by omega
 have D:=Hm hn;have m:=Hm (Je s);rw[j]at m;clear hn j;go_enter func155,ntmps155;go_wp2_with fail
 refine(D.o _).mono ?_;rintro e f ⟨rfl,k⟩;have g:=(RB.new w).keep k;clear k;go_wp2_with fail
 refine(m.o _).mono ?_;rintro e q ⟨rfl,rfl⟩;obtain⟨l,c⟩:=g.one [127,t] #[U O 127,U O t] rfl 2 rfl (by simp);have E:=Hm l;have n:=Hm c;clear l c;obtain⟨B,A,z,u,b,C⟩:=g;go_wp2;exact bodyPost_ret (v:=Ag #[S (some ⟨f.heap.size,0,none⟩) 2 2,S none 0 0]) (by simp[results,results155,go_sem,B,A,b]) rfl ⟨_,_,rfl,by
  have d:=E.o.sets (x:=S (some ⟨f.heap.size,0,none⟩) 2 2) (y:=S none 0 0) n.o.lt n.o.bel rfl;rw[World.setCell_alloc_past (hn:=b),World.setCell_alloc_past (hn:=by simpa using b)]at d
  exact d⟩
theorem st_y:(∀(p t:Int) (s:ByteArray) (w:J) (y:63<=p) (u:p<=63) (hn:∀w,Ec Q 189 #[U O p] w λe w'=>e=Z (Xs s)/\Below w.heap.size w w') (l:Qy s=t),Ec Q 155 #[U O p] w λe w'=>∃a r,e=Z (Ag #[a,r])/\FT w' w.heap.size w'.heap.size a r ([]:List Int).length ([127]:List Int).length [] [127]/\Below w.heap.size w w')/\(∀(p t:Int) (s:ByteArray) (w:J) (y:64<=p) (u:p<=64) (hn:∀w,Ec Q 189 #[U O p] w λe w'=>e=Z (Xs s)/\Below w.heap.size w w') (l:Qy s=t),Ec Q 155 #[U O p] w λe w'=>∃a r,e=Z (Ag #[a,r])/\FT w' w.heap.size w'.heap.size a r ([127]:List Int).length ([127]:List Int).length [127] [127]/\Below w.heap.size w w')/\(∀(p t:Int) (s:ByteArray) (w:J) (y:65<=p) (u:p<=68) (hn:∀w,Ec Q 189 #[U O p] w λe w'=>e=Z (Xs s)/\Below w.heap.size w w') (l:Qy s=t),Ec Q 155 #[U O p] w λe w'=>∃a r,e=Z (Ag #[a,r])/\FT w' w.heap.size w'.heap.size a r ([]:List Int).length ([t]:List Int).length [] [t]/\Below w.heap.size w w')/\(∀(p t:Int) (s:ByteArray) (w:J) (y:69<=p) (u:p<=69) (hn:∀w,Ec Q 189 #[U O p] w λe w'=>e=Z (Xs s)/\Below w.heap.size w w') (l:Qy s=t),Ec Q 155 #[U O p] w λe w'=>∃a r,e=Z (Ag #[a,r])/\FT w' w.heap.size w'.heap.size a r ([t]:List Int).length ([127]:List Int).length [t] [127]/\Below w.heap.size w w')/\(∀(p t:Int) (s:ByteArray) (w:J) (y:80<=p) (u:p<=80) (hn:∀w,Ec Q 189 #[U O p] w λe w'=>e=Z (Xs s)/\Below w.heap.size w w') (l:Qy s=t),Ec Q 155 #[U O p] w λe w'=>∃a r,e=Z (Ag #[a,r])/\FT w' w.heap.size w'.heap.size a r ([t]:List Int).length ([127]:List Int).length [t] [127]/\Below w.heap.size w w'):=by
 refine⟨?c0,?c1,?c2,?c3,?c4⟩;case' c0=>have d:=0
 case' c1=>have g:=0
 case' c2=>have f:=0
 case' c3=>have c:=0
 case' c4=>have b:=0
 all_goals
  intro p t s w y u hn l
  first
  | (
   replace b:=b;have A:¬p<40:=by omega)
  |skip
  first
  | (
   replace c:=c;have A:¬p<40:=by omega)
  | (
   replace b:=b;have L:¬p<54:=by omega)
  |skip
  first
  | (
   replace c:=c;have L:¬p<54:=by omega)
  | (
   replace b:=b;have I:(p==(63:Int))=false:=by simp;omega)
  |skip
  first
  | (
   replace g:=g;have A:¬p<40:=by omega)
  | (
   replace f:=f;have A:¬p<40:=by omega)
  | (
   replace c:=c;have I:(p==(63:Int))=false:=by simp;omega)
  | (
   replace b:=b;have H:(p==(64:Int))=false:=by simp;omega)
  |skip
  first|(replace d:=d;have A:¬p<40:=by omega)|(replace c:=c;have H:(p==(64:Int))=false:=by simp;omega)|(replace b:=b;have f7:¬p<65:=by omega)|(have L:¬p<54:=by omega)
  first|(replace d:=d;have L:¬p<54:=by omega)|(replace c:=c;have f7:¬p<65:=by omega)|(replace b:=b;have f9:(p==(69:Int))=false:=by simp;omega)|(have I:(p==(63:Int))=false:=by simp;omega)
  first|(replace d:=d;have I:(p==(63:Int))=true:=by simp;omega)|(replace g:=g;have H:(p==(64:Int))=true:=by simp;omega)|(replace f:=f;have H:(p==(64:Int))=false:=by simp;omega)|(replace c:=c;have f9:(p==(69:Int))=true:=by simp;omega)|(have ac:(p==(80:Int))=true:=by simp;omega)
  have HN:=Hm hn;have R:=Hm (Je s);rw[l]at R;clear hn l
  go_enter func155,ntmps155
  go_wp2_with fail
  refine(HN.o _).mono ?_
  rintro e B ⟨rfl,k⟩;have n:=(RB.new w).keep k;clear k
  go_wp2_with fail
  refine(R.o _).mono ?_
  rintro e V ⟨rfl,rfl⟩
  go_wp2_with fail
  refine(sig_c _ _ _ _ _).mono ?_
  rintro e w2 ⟨F,E,rfl,q,k⟩
  first|(replace d:=d;obtain⟨z,j⟩:=n.both [] [127] #[] rfl 0 rfl (by simp) q k)|(replace g:=g;obtain⟨z,j⟩:=n.both [127] [127] #[U O 127] rfl 1 rfl (by simp) q k)|(replace f:=f;obtain⟨z,j⟩:=n.both [] [t] #[] rfl 0 rfl (by simp) q k)|(obtain⟨z,j⟩:=n.both [t] [127] #[U O t] rfl 1 rfl (by simp) q k)
  clear q k n;have M:=Hm z;obtain⟨D,C,Y,X,lt,m⟩:=j;clear z
  go_wp2
  first|(replace d:=d;exact bodyPost_ret (v:=Ag #[S (some ⟨B.heap.size,0,none⟩) 0 0,S F 1 E]) (by simp[results,results155,go_sem,D,C]) rfl ⟨_,_,rfl,M.o.sets lt m rfl⟩)|(replace f:=f;exact bodyPost_ret (v:=Ag #[S (some ⟨B.heap.size,0,none⟩) 0 0,S F 1 E]) (by simp[results,results155,go_sem,D,C]) rfl ⟨_,_,rfl,M.o.sets lt m rfl⟩)|(exact bodyPost_ret (v:=Ag #[S (some ⟨B.heap.size,0,none⟩) 1 1,S F 1 E]) (by simp[results,results155,go_sem,D,C]) rfl ⟨_,_,rfl,M.o.sets lt m rfl⟩)
def st_2:=st_y.1
def st_3:=st_y.2.1
def st_4:=st_y.2.2.1
def st_5:=st_y.2.2.2.1
def st_6:=st_y.2.2.2.2
theorem st_x:(∀(p t:Int) (s:ByteArray) (w:J) (q:70<=p) (n:p<=79) (hn:∀w,Ec Q 189 #[U O p] w λe w'=>e=Z (Xs s)/\Below w.heap.size w w') (k:Qy s=t),Ec Q 155 #[U O p] w λe w'=>∃a r,e=Z (Ag #[a,r])/\FT w' w.heap.size w'.heap.size a r ([t,t]:List Int).length ([127]:List Int).length [t,t] [127]/\Below w.heap.size w w')/\(∀(p t:Int) (s:ByteArray) (w:J) (q:81<=p) (n:p<=102) (hn:∀w,Ec Q 189 #[U O p] w λe w'=>e=Z (Xs s)/\Below w.heap.size w w') (k:Qy s=t),Ec Q 155 #[U O p] w λe w'=>∃a r,e=Z (Ag #[a,r])/\FT w' w.heap.size w'.heap.size a r ([t,t]:List Int).length ([127]:List Int).length [t,t] [127]/\Below w.heap.size w w')/\(∀(p t:Int) (s:ByteArray) (w:J) (q:103<=p) (n:p<=105) (hn:∀w,Ec Q 189 #[U O p] w λe w'=>e=Z (Xs s)/\Below w.heap.size w w') (k:Qy s=t),Ec Q 155 #[U O p] w λe w'=>∃a r,e=Z (Ag #[a,r])/\FT w' w.heap.size w'.heap.size a r ([t]:List Int).length ([t]:List Int).length [t] [t]/\Below w.heap.size w w')/\(∀(p t:Int) (s:ByteArray) (w:J) (q:121<=p) (n:p<=123) (hn:∀w,Ec Q 189 #[U O p] w λe w'=>e=Z (Xs s)/\Below w.heap.size w w') (k:Qy s=t),Ec Q 155 #[U O p] w λe w'=>∃a r,e=Z (Ag #[a,r])/\FT w' w.heap.size w'.heap.size a r ([t]:List Int).length ([t]:List Int).length [t] [t]/\Below w.heap.size w w'):=by
 refine⟨?c0,?c1,?c2,?c3⟩;case' c0=>have c:=0
 case' c1=>have d:=0
 case' c2=>have L:=0
 case' c3=>have b:=0
 all_goals
  intro p t s w q n hn k
  first
  | (
   replace b:=b;have f1:¬p<40:=by omega)
  |skip
  first
  | (
   replace b:=b;have f3:¬p<54:=by omega)
  |skip
  first|(replace b:=b;have f5:(p==(63:Int))=false:=by simp;omega)|(have f1:¬p<40:=by omega)
  first|(replace b:=b;have Y:(p==(64:Int))=false:=by simp;omega)|(have f3:¬p<54:=by omega)
  first|(replace b:=b;have X:¬p<65:=by omega)|(have f5:(p==(63:Int))=false:=by simp;omega)
  first|(replace b:=b;have V:(p==(69:Int))=false:=by simp;omega)|(have Y:(p==(64:Int))=false:=by simp;omega)
  first|(replace b:=b;have E:(p==(80:Int))=false:=by simp;omega)|(have X:¬p<65:=by omega)
  first|(replace b:=b;have D:¬p<70:=by omega)|(have V:(p==(69:Int))=false:=by simp;omega)
  first|(replace b:=b;have ad:¬p<103:=by omega)|(have E:(p==(80:Int))=false:=by simp;omega)
  first|(replace c:=c;have ae:p<=102:=by omega)|(replace b:=b;have ac:¬p<=105:=by omega)|(have D:¬p<70:=by omega)
  have HN:=Hm hn;have H:=Hm (Je s);rw[k]at H;clear hn k
  go_enter func155,ntmps155
  go_wp2_with fail
  refine(HN.o _).mono ?_
  rintro e y ⟨rfl,g⟩;have l:=(RB.new w).keep g;clear g
  go_wp2_with fail
  refine(H.o _).mono ?_
  rintro e I ⟨rfl,rfl⟩
  go_wp2_with fail
  refine(sig_c _ _ _ _ _).mono ?_
  rintro e w2 ⟨C,B,rfl,m,g⟩
  first|(replace c:=c;obtain⟨u,f⟩:=l.both [t,t] [127] #[U O t,U O t] rfl 2 rfl (by simp) m g)|(replace d:=d;obtain⟨u,f⟩:=l.both [t,t] [127] #[U O t,U O t] rfl 2 rfl (by simp) m g)|(obtain⟨u,f⟩:=l.both [t] [t] #[U O t] rfl 1 rfl (by simp) m g)
  clear m g l;have F:=Hm u;obtain⟨A,z,R,M,lt,j⟩:=f;clear u
  go_wp2
  first|(replace c:=c;exact bodyPost_ret (v:=Ag #[S (some ⟨y.heap.size,0,none⟩) 2 2,S C 1 B]) (by simp[results,results155,go_sem,A,z]) rfl ⟨_,_,rfl,F.o.sets lt j rfl⟩)|(replace d:=d;exact bodyPost_ret (v:=Ag #[S (some ⟨y.heap.size,0,none⟩) 2 2,S C 1 B]) (by simp[results,results155,go_sem,A,z]) rfl ⟨_,_,rfl,F.o.sets lt j rfl⟩)|(exact bodyPost_ret (v:=Ag #[S (some ⟨y.heap.size,0,none⟩) 1 1,S C 1 B]) (by simp[results,results155,go_sem,A,z]) rfl ⟨_,_,rfl,F.o.sets lt j rfl⟩)
def st_7:=st_x.1
def st_8:=st_x.2.1
def st_9:=st_x.2.2.1
def st_10:=st_x.2.2.2
theorem st_11 (p t:Int)(s:ByteArray)(w:J)(X:139<=p)(V:p<=145)(hn:∀w,Ec Q 189 #[U O p] w λe w'=>e=Z (Xs s)/\Below w.heap.size w w')(g:Qy s=t):Ec Q 155 #[U O p] w λe w'=>∃a r,e=Z (Ag #[a,r])/\FT w' w.heap.size w'.heap.size a r ([t]:List Int).length ([t]:List Int).length [t] [t]/\Below w.heap.size w w':=by
 have f1:¬p<40:=by omega
 have f3:¬p<54:=by omega
 have f5:(p==(63:Int))=false:=by simp;omega
 have f6:(p==(64:Int))=false:=by simp;omega
 have f7:¬p<65:=by omega
 have Y:(p==(69:Int))=false:=by simp;omega
 have I:(p==(80:Int))=false:=by simp;omega
 have H:¬p<70:=by omega
 have F:¬p<103:=by omega
 have E:¬p<=105:=by omega
 have D:¬p<121:=by omega
 have C:¬p<=123:=by omega
 have L:=Hm hn;have l:=Hm (Je s);rw[g]at l;clear hn g;go_enter func155,ntmps155;go_wp2_with fail
 refine(L.o _).mono ?_;rintro e n ⟨rfl,b⟩;have f:=(RB.new w).keep b;clear b;go_wp2_with fail
 refine(l.o _).mono ?_;rintro e m ⟨rfl,rfl⟩;go_wp2_with fail
 refine(sig_c _ _ _ _ _).mono ?_;rintro e R ⟨B,A,rfl,j,b⟩;obtain⟨k,c⟩:=f.both [t] [t] #[U O t] rfl 1 rfl (by simp) j b;clear j b f;have M:=Hm k;obtain⟨z,y,u,q,lt,d⟩:=c;clear k;go_wp2;exact bodyPost_ret (v:=Ag #[S (some ⟨n.heap.size,0,none⟩) 1 1,S B 1 A]) (by simp[results,results155,go_sem,z,y]) rfl ⟨_,_,rfl,M.o.sets lt d rfl⟩
theorem st_12 (p t:Int)(s:ByteArray)(w:J)(h1:153<=p)(Y:p<=159)(hn:∀w,Ec Q 189 #[U O p] w λe w'=>e=Z (Xs s)/\Below w.heap.size w w')(g:Qy s=t):Ec Q 155 #[U O p] w λe w'=>∃a r,e=Z (Ag #[a,r])/\FT w' w.heap.size w'.heap.size a r ([t]:List Int).length ([t]:List Int).length [t] [t]/\Below w.heap.size w w':=by
 have f1:¬p<40:=by omega
 have f3:¬p<54:=by omega
 have f5:(p==(63:Int))=false:=by simp;omega
 have f6:(p==(64:Int))=false:=by simp;omega
 have f7:¬p<65:=by omega
 have f9:(p==(69:Int))=false:=by simp;omega
 have M:(p==(80:Int))=false:=by simp;omega
 have L:¬p<70:=by omega
 have I:¬p<103:=by omega
 have H:¬p<=105:=by omega
 have F:¬p<121:=by omega
 have E:¬p<=123:=by omega
 have D:¬p<139:=by omega
 have C:¬p<=145:=by omega
 have R:=Hm hn;have l:=Hm (Je s);rw[g]at l;clear hn g;go_enter func155,ntmps155;go_wp2_with fail
 refine(R.o _).mono ?_;rintro e n ⟨rfl,b⟩;have f:=(RB.new w).keep b;clear b;go_wp2_with fail
 refine(l.o _).mono ?_;rintro e m ⟨rfl,rfl⟩;go_wp2_with fail
 refine(sig_c _ _ _ _ _).mono ?_;rintro e X ⟨B,A,rfl,j,b⟩;obtain⟨k,c⟩:=f.both [t] [t] #[U O t] rfl 1 rfl (by simp) j b;clear j b f;have V:=Hm k;obtain⟨z,y,u,q,lt,d⟩:=c;clear k;go_wp2;exact bodyPost_ret (v:=Ag #[S (some ⟨n.heap.size,0,none⟩) 1 1,S B 1 A]) (by simp[results,results155,go_sem,z,y]) rfl ⟨_,_,rfl,V.o.sets lt d rfl⟩
theorem st_13 (p t:Int)(s:ByteArray)(w:J)(V:106<=p)(R:p<=120)(hn:∀w,Ec Q 189 #[U O p] w λe w'=>e=Z (Xs s)/\Below w.heap.size w w')(g:Qy s=t):Ec Q 155 #[U O p] w λe w'=>∃a r,e=Z (Ag #[a,r])/\FT w' w.heap.size w'.heap.size a r ([t,t]:List Int).length ([t]:List Int).length [t,t] [t]/\Below w.heap.size w w':=by
 have f1:¬p<40:=by omega
 have f3:¬p<54:=by omega
 have f5:(p==(63:Int))=false:=by simp;omega
 have f6:(p==(64:Int))=false:=by simp;omega
 have Y:¬p<65:=by omega
 have X:(p==(69:Int))=false:=by simp;omega
 have H:(p==(80:Int))=false:=by simp;omega
 have F:¬p<70:=by omega
 have E:¬p<103:=by omega
 have D:¬p<=105:=by omega
 have C:p<=166:=by omega
 have I:=Hm hn;have l:=Hm (Je s);rw[g]at l;clear hn g;go_enter func155,ntmps155;go_wp2_with fail
 refine(I.o _).mono ?_;rintro e n ⟨rfl,b⟩;have f:=(RB.new w).keep b;clear b;go_wp2_with fail
 refine(l.o _).mono ?_;rintro e m ⟨rfl,rfl⟩;go_wp2_with fail
 refine(sig_c _ _ _ _ _).mono ?_;rintro e M ⟨B,A,rfl,j,b⟩;obtain⟨k,c⟩:=f.both [t,t] [t] #[U O t,U O t] rfl 2 rfl (by simp) j b;clear j b f;have L:=Hm k;obtain⟨z,y,u,q,lt,d⟩:=c;clear k;go_wp2;exact bodyPost_ret (v:=Ag #[S (some ⟨n.heap.size,0,none⟩) 2 2,S B 1 A]) (by simp[results,results155,go_sem,z,y]) rfl ⟨_,_,rfl,L.o.sets lt d rfl⟩
theorem st_14 (p t:Int)(s:ByteArray)(w:J)(h1:124<=p)(Y:p<=138)(hn:∀w,Ec Q 189 #[U O p] w λe w'=>e=Z (Xs s)/\Below w.heap.size w w')(g:Qy s=t):Ec Q 155 #[U O p] w λe w'=>∃a r,e=Z (Ag #[a,r])/\FT w' w.heap.size w'.heap.size a r ([t,t]:List Int).length ([t]:List Int).length [t,t] [t]/\Below w.heap.size w w':=by
 have f1:¬p<40:=by omega
 have f3:¬p<54:=by omega
 have f5:(p==(63:Int))=false:=by simp;omega
 have f6:(p==(64:Int))=false:=by simp;omega
 have f7:¬p<65:=by omega
 have f9:(p==(69:Int))=false:=by simp;omega
 have M:(p==(80:Int))=false:=by simp;omega
 have L:¬p<70:=by omega
 have I:¬p<103:=by omega
 have H:¬p<=105:=by omega
 have F:¬p<121:=by omega
 have E:¬p<=123:=by omega
 have D:¬p<106:=by omega
 have C:p<=166:=by omega
 have R:=Hm hn;have l:=Hm (Je s);rw[g]at l;clear hn g;go_enter func155,ntmps155;go_wp2_with fail
 refine(R.o _).mono ?_;rintro e n ⟨rfl,b⟩;have f:=(RB.new w).keep b;clear b;go_wp2_with fail
 refine(l.o _).mono ?_;rintro e m ⟨rfl,rfl⟩;go_wp2_with fail
 refine(sig_c _ _ _ _ _).mono ?_;rintro e X ⟨B,A,rfl,j,b⟩;obtain⟨k,c⟩:=f.both [t,t] [t] #[U O t,U O t] rfl 2 rfl (by simp) j b;clear j b f;have V:=Hm k;obtain⟨z,y,u,q,lt,d⟩:=c;clear k;go_wp2;exact bodyPost_ret (v:=Ag #[S (some ⟨n.heap.size,0,none⟩) 2 2,S B 1 A]) (by simp[results,results155,go_sem,z,y]) rfl ⟨_,_,rfl,V.o.sets lt d rfl⟩
theorem st_15 (p t:Int)(s:ByteArray)(w:J)(h1:146<=p)(h2:p<=152)(hn:∀w,Ec Q 189 #[U O p] w λe w'=>e=Z (Xs s)/\Below w.heap.size w w')(g:Qy s=t):Ec Q 155 #[U O p] w λe w'=>∃a r,e=Z (Ag #[a,r])/\FT w' w.heap.size w'.heap.size a r ([t,t]:List Int).length ([t]:List Int).length [t,t] [t]/\Below w.heap.size w w':=by
 have f1:¬p<40:=by omega
 have f3:¬p<54:=by omega
 have f5:(p==(63:Int))=false:=by simp;omega
 have f6:(p==(64:Int))=false:=by simp;omega
 have f7:¬p<65:=by omega
 have f9:(p==(69:Int))=false:=by simp;omega
 have V:(p==(80:Int))=false:=by simp;omega
 have R:¬p<70:=by omega
 have M:¬p<103:=by omega
 have L:¬p<=105:=by omega
 have I:¬p<121:=by omega
 have H:¬p<=123:=by omega
 have F:¬p<139:=by omega
 have E:¬p<=145:=by omega
 have D:¬p<106:=by omega
 have C:p<=166:=by omega
 have X:=Hm hn;have l:=Hm (Je s);rw[g]at l;clear hn g;go_enter func155,ntmps155;go_wp2_with fail
 refine(X.o _).mono ?_;rintro e n ⟨rfl,b⟩;have f:=(RB.new w).keep b;clear b;go_wp2_with fail
 refine(l.o _).mono ?_;rintro e m ⟨rfl,rfl⟩;go_wp2_with fail
 refine(sig_c _ _ _ _ _).mono ?_;rintro e w2 ⟨B,A,rfl,j,b⟩;obtain⟨k,c⟩:=f.both [t,t] [t] #[U O t,U O t] rfl 2 rfl (by simp) j b;clear j b f;have Y:=Hm k;obtain⟨z,y,u,q,lt,d⟩:=c;clear k;go_wp2;exact bodyPost_ret (v:=Ag #[S (some ⟨n.heap.size,0,none⟩) 2 2,S B 1 A]) (by simp[results,results155,go_sem,z,y]) rfl ⟨_,_,rfl,Y.o.sets lt d rfl⟩
theorem st_16 (p t:Int)(s:ByteArray)(w:J)(h1:160<=p)(h2:p<=166)(hn:∀w,Ec Q 189 #[U O p] w λe w'=>e=Z (Xs s)/\Below w.heap.size w w')(g:Qy s=t):Ec Q 155 #[U O p] w λe w'=>∃a r,e=Z (Ag #[a,r])/\FT w' w.heap.size w'.heap.size a r ([t,t]:List Int).length ([t]:List Int).length [t,t] [t]/\Below w.heap.size w w':=by
 have f1:¬p<40:=by omega
 have f3:¬p<54:=by omega
 have f5:(p==(63:Int))=false:=by simp;omega
 have f6:(p==(64:Int))=false:=by simp;omega
 have f7:¬p<65:=by omega
 have f9:(p==(69:Int))=false:=by simp;omega
 have V:(p==(80:Int))=false:=by simp;omega
 have R:¬p<70:=by omega
 have M:¬p<103:=by omega
 have L:¬p<=105:=by omega
 have I:¬p<121:=by omega
 have H:¬p<=123:=by omega
 have F:¬p<139:=by omega
 have E:¬p<=145:=by omega
 have D:¬p<153:=by omega
 have C:¬p<106:=by omega
 have X:=Hm hn;have l:=Hm (Je s);rw[g]at l;clear hn g;go_enter func155,ntmps155;go_wp2_with fail
 refine(X.o _).mono ?_;rintro e n ⟨rfl,b⟩;have f:=(RB.new w).keep b;clear b;go_wp2_with fail
 refine(l.o _).mono ?_;rintro e m ⟨rfl,rfl⟩;go_wp2_with fail
 refine(sig_c _ _ _ _ _).mono ?_;rintro e w2 ⟨B,A,rfl,j,b⟩;obtain⟨k,c⟩:=f.both [t,t] [t] #[U O t,U O t] rfl 2 rfl (by simp) j b;clear j b f;have Y:=Hm k;obtain⟨z,y,u,q,lt,d⟩:=c;clear k;go_wp2;exact bodyPost_ret (v:=Ag #[S (some ⟨n.heap.size,0,none⟩) 2 2,S B 1 A]) (by simp[results,results155,go_sem,z,y]) rfl ⟨_,_,rfl,Y.o.sets lt d rfl⟩
theorem st_17 (p t:Int)(s:ByteArray)(w:J)(A:p<=39)(hn:∀w,Ec Q 189 #[U O p] w λe w'=>e=Z (Xs s)/\Below w.heap.size w w')(d:Qy s=t):Ec Q 155 #[U O p] w λe w'=>∃a r,e=Z (Ag #[a,r])/\FT w' w.heap.size w'.heap.size a r ([]:List Int).length ([]:List Int).length [] []/\Below w.heap.size w w':=by
 have D:(p==(63:Int))=false:=by simp;omega
 have C:(p==(64:Int))=false:=by simp;omega
 have B:(p==(69:Int))=false:=by simp;omega
 have q:(p==(80:Int))=false:=by simp;omega
 have u:=Hm hn;have g:=Hm (Je s);rw[d]at g;clear hn d;go_enter func155,ntmps155;go_wp2_with fail
 refine(u.o _).mono ?_;rintro e z ⟨rfl,f⟩;have c:=(RB.new w).keep f;clear f;go_wp2_with fail
 refine(g.o _).mono ?_;rintro e j ⟨rfl,rfl⟩;have y:=Hm c.none;obtain⟨n,m,l,k,lt,b⟩:=c;go_wp2;exact bodyPost_ret (v:=Ag #[S none 0 0,S none 0 0]) (by simp[results,results155,go_sem,n,m]) rfl ⟨_,_,rfl,y.o.sets lt b rfl⟩
theorem st_18 (p t:Int)(s:ByteArray)(w:J)(R:192<=p)(hn:∀w,Ec Q 189 #[U O p] w λe w'=>e=Z (Xs s)/\Below w.heap.size w w')(d:Qy s=t):Ec Q 155 #[U O p] w λe w'=>∃a r,e=Z (Ag #[a,r])/\FT w' w.heap.size w'.heap.size a r ([]:List Int).length ([]:List Int).length [] []/\Below w.heap.size w w':=by
 have f1:¬p<40:=by omega
 have f3:¬p<54:=by omega
 have f5:(p==(63:Int))=false:=by simp;omega
 have Y:(p==(64:Int))=false:=by simp;omega
 have X:¬p<65:=by omega
 have V:(p==(69:Int))=false:=by simp;omega
 have H:(p==(80:Int))=false:=by simp;omega
 have F:¬p<70:=by omega
 have E:¬p<103:=by omega
 have D:¬p<=105:=by omega
 have C:¬p<121:=by omega
 have B:¬p<=123:=by omega
 have A:¬p<139:=by omega
 have z:¬p<=145:=by omega
 have y:¬p<153:=by omega
 have u:¬p<106:=by omega
 have q:¬p<167:=by omega
 have I:=Hm hn;have g:=Hm (Je s);rw[d]at g;clear hn d;go_enter func155,ntmps155;go_wp2_with fail
 refine(I.o _).mono ?_;rintro e M ⟨rfl,f⟩;have c:=(RB.new w).keep f;clear f;go_wp2_with fail
 refine(g.o _).mono ?_;rintro e j ⟨rfl,rfl⟩;have L:=Hm c.none;obtain⟨n,m,l,k,lt,b⟩:=c;go_wp2;exact bodyPost_ret (v:=Ag #[S none 0 0,S none 0 0]) (by simp[results,results155,go_sem,n,m]) rfl ⟨_,_,rfl,L.o.sets lt b rfl⟩
theorem at_getD (s:ByteArray)(k:Nat)(h:k<s.size):s[k]'h=s.data.toList.getD k 0:=by
 have a:k<N s.data.toList:=h;rw[Kg,Kj a,Option.getD_some];rfl
theorem st_u (p t f:Int)(q:Nat)(s:ByteArray)(w:J)(h1:167<=p)(h2:p<=191)(hn:∀w,Ec Q 189 #[U O p] w λe w'=>e=Z (Xs s)/\Below w.heap.size w w')(z:Qy s=t) (hq:q<s.size) (V:s.size<=100) (l:∀k,k<q->(s.data.toList.getD k 0).toNat≠95) (j:(s.data.toList.getD q 0).toNat=95) (g:Qy (s.extract (q+1) s.size)=f):Ec Q 155 #[U O p] w λe w'=>∃a r,e=Z (Ag #[a,r])/\FT w' w.heap.size w'.heap.size a r ([f]:List Int).length ([t]:List Int).length [f] [t]/\Below w.heap.size w w':=by
 have f1:¬p<40:=by omega
 have f3:¬p<54:=by omega
 have f5:(p==(63:Int))=false:=by simp;omega
 have f6:(p==(64:Int))=false:=by simp;omega
 have f7:¬p<65:=by omega
 have f9:(p==(69:Int))=false:=by simp;omega
 have ao:(p==(80:Int))=false:=by simp;omega
 have ak:¬p<70:=by omega
 have aj:¬p<103:=by omega
 have ai:¬p<=105:=by omega
 have ah:¬p<121:=by omega
 have ag:¬p<=123:=by omega
 have af:¬p<139:=by omega
 have ae:¬p<=145:=by omega
 have ad:¬p<153:=by omega
 have ac:¬p<106:=by omega
 have D:=Hm hn;have C:=Hm (Je s);rw[z]at C;have m:=Hm (Je (s.extract (q+1) s.size));rw[g]at m;have H1:=Hm l;have H2:=Hm j;clear hn z g l j;go_enter func155,ntmps155;go_wp2_with fail
 refine(D.o _).mono ?_;rintro e w1 ⟨rfl,d⟩;have y:=(RB.new w).keep d;clear d;go_wp2_with fail
 refine(C.o _).mono ?_;rintro e H ⟨rfl,rfl⟩;go_wp2_with fail
 refine(D.o _).mono ?_;rintro e F ⟨rfl,d⟩;have b:=y.keep d;clear d y;have E:=Hm b;clear b;go_wp2_with fail
 go_loop [5] (λi=>∃k:Nat,k<=q/\i=U O k) (λi=>q-(intOf i).toNat)
 case atStart=>exact⟨0,Kz _,rfl⟩
 obtain⟨k,hk,rfl⟩:=hrel;have X:(k:Int)<(s.size:Int):=by omega
 have c:k<s.size:=by omega
 by_cases n:k<q
 . (have Y:(((s[k]'c).toNat:Int) != 95)=true:=by rw[at_getD s k c];have:=H1.o k n;simp only[bne_iff_ne,ne_eq];omega);(go_wp2_with fail);(go_round);(case rel=>exact⟨k+1,by omega,by go_num⟩);case measure=>simp[intOf];omega
 obtain rfl:k=q:=by omega
 have Y:(((s[k]'c).toNat:Int) != 95)=false:=by rw[at_getD s k c,H2.o];rfl
 go_wp2_with fail
 refine(m.o _).mono ?_;rintro e w3 ⟨rfl,rfl⟩;go_wp2_with fail
 refine(sig_c _ _ _ _ _).mono ?_;rintro e w4 ⟨ga,gc,rfl,A,d⟩;obtain⟨B,b⟩:=E.o.both [f] [t] #[U O f] rfl 1 rfl (by simp) A d;clear A d E;have HF:=Hm B;obtain⟨R,M,L,I,lt,u⟩:=b;clear B;go_wp2;exact bodyPost_ret (v:=Ag #[S (some ⟨F.heap.size,0,none⟩) 1 1,S ga 1 gc]) (by simp[results,results155,go_sem,R,M]) rfl ⟨_,_,rfl,HF.o.sets lt u rfl⟩
theorem stype_c (p:Int)(w:J):Ec Q 155 #[U O p] w λe w'=>∃a r,e=Z (Ag #[a,r])/\FT w' w.heap.size w'.heap.size a r (nz [(Qb p).a,(Qb p).b]).length (nz [(Qb p).g]).length (nz [(Qb p).a,(Qb p).b]) (nz [(Qb p).g])/\Below w.heap.size w w':=by
 have f:(40<=p/\p<=53)\/(54<=p/\p<=62)\/(63<=p/\p<=63)\/(64<=p/\p<=64)\/(65<=p/\p<=68)\/(69<=p/\p<=69)\/(80<=p/\p<=80)\/(70<=p/\p<=79)\/(81<=p/\p<=102)\/(103<=p/\p<=105)\/(121<=p/\p<=123)\/(139<=p/\p<=145)\/(153<=p/\p<=159)\/(106<=p/\p<=120)\/(124<=p/\p<=138)\/(146<=p/\p<=152)\/(160<=p/\p<=166)\/(p<=39)\/(192<=p)\/(167<=p/\p<=191):=by omega
 rcases f with h|h|h|h|h|h|h|h|h|h|h|h|h|h|h|h|h|h|h|h
 . have e:=of_decide_eq_true (rng 40 14 (λi=>decide (nz [(tbl.getD i Z0).a,(tbl.getD i Z0).b]=[127]/\nz [(tbl.getD i Z0).g]=[Qy (tbl.getD i Z0).nm])) (by decide +kernel) p (by omega) (by omega));(have c:nz [(Qb p).a,(Qb p).b]=[127]/\nz [(Qb p).g]=[Qy (Qb p).nm]:=by simpa only[Qb,show(0<=p/\p<192) by omega,and_self,if_true]using e);rw[c.1,c.2];exact st_0 p _ _ w h.1 h.2 (λw=>Q0 p w) rfl
 . have e:=of_decide_eq_true (rng 54 9 (λi=>decide (nz [(tbl.getD i Z0).a,(tbl.getD i Z0).b]=[127,Qy (tbl.getD i Z0).nm]/\nz [(tbl.getD i Z0).g]=[])) (by decide +kernel) p (by omega) (by omega));(have c:nz [(Qb p).a,(Qb p).b]=[127,Qy (Qb p).nm]/\nz [(Qb p).g]=[]:=by simpa only[Qb,show(0<=p/\p<192) by omega,and_self,if_true]using e);rw[c.1,c.2];exact st_1 p _ _ w h.1 h.2 (λw=>Q0 p w) rfl
 . have e:=of_decide_eq_true (rng 63 1 (λi=>decide (nz [(tbl.getD i Z0).a,(tbl.getD i Z0).b]=[]/\nz [(tbl.getD i Z0).g]=[127])) (by decide +kernel) p (by omega) (by omega));(have c:nz [(Qb p).a,(Qb p).b]=[]/\nz [(Qb p).g]=[127]:=by simpa only[Qb,show(0<=p/\p<192) by omega,and_self,if_true]using e);rw[c.1,c.2];exact st_2 p _ _ w h.1 h.2 (λw=>Q0 p w) rfl
 . have e:=of_decide_eq_true (rng 64 1 (λi=>decide (nz [(tbl.getD i Z0).a,(tbl.getD i Z0).b]=[127]/\nz [(tbl.getD i Z0).g]=[127])) (by decide +kernel) p (by omega) (by omega));(have c:nz [(Qb p).a,(Qb p).b]=[127]/\nz [(Qb p).g]=[127]:=by simpa only[Qb,show(0<=p/\p<192) by omega,and_self,if_true]using e);rw[c.1,c.2];exact st_3 p _ _ w h.1 h.2 (λw=>Q0 p w) rfl
 . have e:=of_decide_eq_true (rng 65 4 (λi=>decide (nz [(tbl.getD i Z0).a,(tbl.getD i Z0).b]=[]/\nz [(tbl.getD i Z0).g]=[Qy (tbl.getD i Z0).nm])) (by decide +kernel) p (by omega) (by omega));(have c:nz [(Qb p).a,(Qb p).b]=[]/\nz [(Qb p).g]=[Qy (Qb p).nm]:=by simpa only[Qb,show(0<=p/\p<192) by omega,and_self,if_true]using e);rw[c.1,c.2];exact st_4 p _ _ w h.1 h.2 (λw=>Q0 p w) rfl
 . have e:=of_decide_eq_true (rng 69 1 (λi=>decide (nz [(tbl.getD i Z0).a,(tbl.getD i Z0).b]=[Qy (tbl.getD i Z0).nm]/\nz [(tbl.getD i Z0).g]=[127])) (by decide +kernel) p (by omega) (by omega));(have c:nz [(Qb p).a,(Qb p).b]=[Qy (Qb p).nm]/\nz [(Qb p).g]=[127]:=by simpa only[Qb,show(0<=p/\p<192) by omega,and_self,if_true]using e);rw[c.1,c.2];exact st_5 p _ _ w h.1 h.2 (λw=>Q0 p w) rfl
 . have e:=of_decide_eq_true (rng 80 1 (λi=>decide (nz [(tbl.getD i Z0).a,(tbl.getD i Z0).b]=[Qy (tbl.getD i Z0).nm]/\nz [(tbl.getD i Z0).g]=[127])) (by decide +kernel) p (by omega) (by omega));(have c:nz [(Qb p).a,(Qb p).b]=[Qy (Qb p).nm]/\nz [(Qb p).g]=[127]:=by simpa only[Qb,show(0<=p/\p<192) by omega,and_self,if_true]using e);rw[c.1,c.2];exact st_6 p _ _ w h.1 h.2 (λw=>Q0 p w) rfl
 . have e:=of_decide_eq_true (rng 70 10 (λi=>decide (nz [(tbl.getD i Z0).a,(tbl.getD i Z0).b]=[Qy (tbl.getD i Z0).nm,Qy (tbl.getD i Z0).nm]/\nz [(tbl.getD i Z0).g]=[127])) (by decide +kernel) p (by omega) (by omega));(have c:nz [(Qb p).a,(Qb p).b]=[Qy (Qb p).nm,Qy (Qb p).nm]/\nz [(Qb p).g]=[127]:=by simpa only[Qb,show(0<=p/\p<192) by omega,and_self,if_true]using e);rw[c.1,c.2];exact st_7 p _ _ w h.1 h.2 (λw=>Q0 p w) rfl
 . have e:=of_decide_eq_true (rng 81 22 (λi=>decide (nz [(tbl.getD i Z0).a,(tbl.getD i Z0).b]=[Qy (tbl.getD i Z0).nm,Qy (tbl.getD i Z0).nm]/\nz [(tbl.getD i Z0).g]=[127])) (by decide +kernel) p (by omega) (by omega));(have c:nz [(Qb p).a,(Qb p).b]=[Qy (Qb p).nm,Qy (Qb p).nm]/\nz [(Qb p).g]=[127]:=by simpa only[Qb,show(0<=p/\p<192) by omega,and_self,if_true]using e);rw[c.1,c.2];exact st_8 p _ _ w h.1 h.2 (λw=>Q0 p w) rfl
 . have e:=of_decide_eq_true (rng 103 3 (λi=>decide (nz [(tbl.getD i Z0).a,(tbl.getD i Z0).b]=[Qy (tbl.getD i Z0).nm]/\nz [(tbl.getD i Z0).g]=[Qy (tbl.getD i Z0).nm])) (by decide +kernel) p (by omega) (by omega));(have c:nz [(Qb p).a,(Qb p).b]=[Qy (Qb p).nm]/\nz [(Qb p).g]=[Qy (Qb p).nm]:=by simpa only[Qb,show(0<=p/\p<192) by omega,and_self,if_true]using e);rw[c.1,c.2];exact st_9 p _ _ w h.1 h.2 (λw=>Q0 p w) rfl
 . have e:=of_decide_eq_true (rng 121 3 (λi=>decide (nz [(tbl.getD i Z0).a,(tbl.getD i Z0).b]=[Qy (tbl.getD i Z0).nm]/\nz [(tbl.getD i Z0).g]=[Qy (tbl.getD i Z0).nm])) (by decide +kernel) p (by omega) (by omega));(have c:nz [(Qb p).a,(Qb p).b]=[Qy (Qb p).nm]/\nz [(Qb p).g]=[Qy (Qb p).nm]:=by simpa only[Qb,show(0<=p/\p<192) by omega,and_self,if_true]using e);rw[c.1,c.2];exact st_10 p _ _ w h.1 h.2 (λw=>Q0 p w) rfl
 . have e:=of_decide_eq_true (rng 139 7 (λi=>decide (nz [(tbl.getD i Z0).a,(tbl.getD i Z0).b]=[Qy (tbl.getD i Z0).nm]/\nz [(tbl.getD i Z0).g]=[Qy (tbl.getD i Z0).nm])) (by decide +kernel) p (by omega) (by omega));(have c:nz [(Qb p).a,(Qb p).b]=[Qy (Qb p).nm]/\nz [(Qb p).g]=[Qy (Qb p).nm]:=by simpa only[Qb,show(0<=p/\p<192) by omega,and_self,if_true]using e);rw[c.1,c.2];exact st_11 p _ _ w h.1 h.2 (λw=>Q0 p w) rfl
 . have e:=of_decide_eq_true (rng 153 7 (λi=>decide (nz [(tbl.getD i Z0).a,(tbl.getD i Z0).b]=[Qy (tbl.getD i Z0).nm]/\nz [(tbl.getD i Z0).g]=[Qy (tbl.getD i Z0).nm])) (by decide +kernel) p (by omega) (by omega));(have c:nz [(Qb p).a,(Qb p).b]=[Qy (Qb p).nm]/\nz [(Qb p).g]=[Qy (Qb p).nm]:=by simpa only[Qb,show(0<=p/\p<192) by omega,and_self,if_true]using e);rw[c.1,c.2];exact st_12 p _ _ w h.1 h.2 (λw=>Q0 p w) rfl
 . have e:=of_decide_eq_true (rng 106 15 (λi=>decide (nz [(tbl.getD i Z0).a,(tbl.getD i Z0).b]=[Qy (tbl.getD i Z0).nm,Qy (tbl.getD i Z0).nm]/\nz [(tbl.getD i Z0).g]=[Qy (tbl.getD i Z0).nm])) (by decide +kernel) p (by omega) (by omega));(have c:nz [(Qb p).a,(Qb p).b]=[Qy (Qb p).nm,Qy (Qb p).nm]/\nz [(Qb p).g]=[Qy (Qb p).nm]:=by simpa only[Qb,show(0<=p/\p<192) by omega,and_self,if_true]using e);rw[c.1,c.2];exact st_13 p _ _ w h.1 h.2 (λw=>Q0 p w) rfl
 . have e:=of_decide_eq_true (rng 124 15 (λi=>decide (nz [(tbl.getD i Z0).a,(tbl.getD i Z0).b]=[Qy (tbl.getD i Z0).nm,Qy (tbl.getD i Z0).nm]/\nz [(tbl.getD i Z0).g]=[Qy (tbl.getD i Z0).nm])) (by decide +kernel) p (by omega) (by omega));(have c:nz [(Qb p).a,(Qb p).b]=[Qy (Qb p).nm,Qy (Qb p).nm]/\nz [(Qb p).g]=[Qy (Qb p).nm]:=by simpa only[Qb,show(0<=p/\p<192) by omega,and_self,if_true]using e);rw[c.1,c.2];exact st_14 p _ _ w h.1 h.2 (λw=>Q0 p w) rfl
 . have e:=of_decide_eq_true (rng 146 7 (λi=>decide (nz [(tbl.getD i Z0).a,(tbl.getD i Z0).b]=[Qy (tbl.getD i Z0).nm,Qy (tbl.getD i Z0).nm]/\nz [(tbl.getD i Z0).g]=[Qy (tbl.getD i Z0).nm])) (by decide +kernel) p (by omega) (by omega));(have c:nz [(Qb p).a,(Qb p).b]=[Qy (Qb p).nm,Qy (Qb p).nm]/\nz [(Qb p).g]=[Qy (Qb p).nm]:=by simpa only[Qb,show(0<=p/\p<192) by omega,and_self,if_true]using e);rw[c.1,c.2];exact st_15 p _ _ w h.1 h.2 (λw=>Q0 p w) rfl
 . have e:=of_decide_eq_true (rng 160 7 (λi=>decide (nz [(tbl.getD i Z0).a,(tbl.getD i Z0).b]=[Qy (tbl.getD i Z0).nm,Qy (tbl.getD i Z0).nm]/\nz [(tbl.getD i Z0).g]=[Qy (tbl.getD i Z0).nm])) (by decide +kernel) p (by omega) (by omega));(have c:nz [(Qb p).a,(Qb p).b]=[Qy (Qb p).nm,Qy (Qb p).nm]/\nz [(Qb p).g]=[Qy (Qb p).nm]:=by simpa only[Qb,show(0<=p/\p<192) by omega,and_self,if_true]using e);rw[c.1,c.2];exact st_16 p _ _ w h.1 h.2 (λw=>Q0 p w) rfl
 . have d:=st_17 p _ _ w h (λw=>Q0 p w) rfl;have e:nz [(Qb p).a,(Qb p).b]=[]/\nz [(Qb p).g]=[]:=by
    by_cases s:0<=p
    . have e:=of_decide_eq_true (rng 0 40 (λi=>decide (nz [(tbl.getD i Z0).a,(tbl.getD i Z0).b]=[]/\nz [(tbl.getD i Z0).g]=[])) (by decide +kernel) p (by omega) (by omega));simpa only[Qb,show(0<=p/\p<192) by omega,and_self,if_true]using e
    (have e:Qb p=Z0:=by simp only[Qb,show ¬(0<=p/\p<192) by omega,if_false]);rw[e];decide
   rw[e.1,e.2];exact d
 . (have e:Qb p=Z0:=by simp only[Qb,show ¬(0<=p/\p<192) by omega,if_false]);have d:=st_18 p _ _ w h (λw=>Q0 p w) rfl;rw[e];exact d
 have e:=of_decide_eq_true (rng 167 25 (λi=>decide (nz [(tbl.getD i Z0).a,(tbl.getD i Z0).b]=[Qy ((tbl.getD i Z0).nm.extract ((tbl.getD i Z0).nm.data.toList.findIdx (·==95)+1) (tbl.getD i Z0).nm.size)]/\nz [(tbl.getD i Z0).g]=[Qy (tbl.getD i Z0).nm]/\(tbl.getD i Z0).nm.data.toList.findIdx (·==95)<(tbl.getD i Z0).nm.size/\(tbl.getD i Z0).nm.size<=100/\(List.range ((tbl.getD i Z0).nm.data.toList.findIdx (·==95))).all (λk=>decide (((tbl.getD i Z0).nm.data.toList.getD k 0).toNat≠95))=true/\((tbl.getD i Z0).nm.data.toList.getD ((tbl.getD i Z0).nm.data.toList.findIdx (·==95)) 0).toNat=95)) (by decide +kernel) p (by omega) (by omega));have er:Qb p=tbl.getD p.toNat Z0:=by simp only[Qb,show(0<=p/\p<192) by omega,and_self,if_true]
 rw[<- er]at e;obtain⟨q,o,n,m,l,j⟩:=e;rw[q,o];refine st_u p _ _ _ _ w h.1 h.2 (λw=>Q0 p w) rfl n m (λk hk=>?_) j rfl;exact of_decide_eq_true (List.all_eq_true.1 l k (by simpa using hk))
theorem FT.shape {w:J}{B C n m:Nat}{p r:Vu}{xs f:List Int}(h:FT w B C p r n m xs f):∃a c d b,p=S a n c/\r=S d m b:=by
 obtain⟨a,c,e⟩:=own_slice h.hp;obtain⟨d,b,g⟩:=own_slice h.hr;exact⟨a,c,d,b,e,g⟩
