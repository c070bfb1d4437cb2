import Derived.Test.YtedcmcdbejjgcaaGreatGaa
import Derived.Test.YtedcmcdbejjgcaaGreatGbv
import Derived.Deep.RegionLaw
import Derived.Deep.CutRange
set_option linter.all false
set_option maxHeartbeats 400000000
set_option maxRecDepth 100000
namespace Go.Proofs.YtedcmcdbejjgcaaGreat.Ms
open Go.RowKit Go.Sort
def MkQ {α:Type}(Rep:α->List Value->List Qc->Prop)(l:List α)(T sz n:Nat)(v:Value)(k:Int)(B:Nat)(w0:World)(rs:List Qc)(e:Ending)(w':World):Prop:=∃ C K,e=.returned (.int .i64 k)/\LR Rep l C K/\Mo B w0 (⟨T,sz,n,v,C⟩::(K++rs)) w'
theorem QJ {B w}{T sz n:Nat}{v:Value}{cs:List Value}(h:Qc.Ok B w ⟨T,sz,n,v,cs⟩):∃ a d,v=.slice a n d:=by
 rcases h.2 with ⟨e,h0⟩|⟨g,j,f,c,-⟩
 . have b:n=0:=h0;subst b;exact ⟨_,_,e⟩
 . exact ⟨_,_,c⟩
theorem pm_out {α:Type}(m s:α)(c p b q k2 r:List α):(m::((c++((p++(s::(b++q)))++k2))++r)).Perm (s::(b++(m::((c++((p++q)++k2))++r)))):=by
 classical
 refine List.perm_iff_count.2 λa=>?_
 simp only [List.count_append,List.count_cons]
 omega
theorem Xf {α:Type}(m s:α)(c p b k2 r:List α):(m::((c++((p++(s::b))++k2))++r)).Perm (s::(b++(m::((c++(p++k2))++r)))):=by
 classical
 refine List.perm_iff_count.2 λa=>?_
 simp only [List.count_append,List.count_cons]
 omega
theorem len_RIn:∀ (x:In) a b,RIn x a b->a.length=5:=by
 rintro x a b ⟨v,rfl,rfl⟩;rfl
theorem len_RFT:∀ (x:Q1) a b,RFT x a b->a.length=2:=by
 rintro x a b ⟨v,v2,rfl,rfl⟩;rfl
theorem len_RCus:∀ (x:Cus) a b,RCus x a b->a.length=3:=by
 rintro x a b ⟨v,rfl,rfl⟩;rfl
theorem len_RGlob:∀ (x:Jv) a b,X5 x a b->a.length=3:=by
 rintro x a b ⟨v,rfl,h⟩;rfl
theorem len_REle:∀ (x:Ele) a b,REle x a b->a.length=2:=by
 rintro x a b ⟨v,v2,c,rfl,h,rfl⟩;rfl
theorem len_RDat:∀ (x:Dat) a b,RDat x a b->a.length=2:=by
 rintro x a b ⟨v,v2,c,rfl,h,rfl⟩;rfl
theorem len_RCod:∀ (x:Cod) a b,Oq x a b->a.length=2:=by
 rintro x a b ⟨v,c,v2,d,rfl,g,f,rfl⟩;rfl
def mkIn (K:Int)(x:In):In:=⟨(K),(K+1),(K+1+1),(K+1+1+1),(mkI (K+1+1+1+1) x.l.length)⟩
def QO (x:In):Nat:=4+List.length x.l
def mkFT (K:Int)(x:Q1):Q1:=⟨(mkI (K) x.ps.length),(mkI (K+(List.length x.ps:Nat)) x.rs.length)⟩
def QT (x:Q1):Nat:=0+List.length x.ps+List.length x.rs
def mkCus (K:Int)(x:Cus):Cus:=⟨(K),(mtx (K+1)),(mkB (K+1+1) x.bs.length)⟩
def Ju (x:Cus):Nat:=2+List.length x.bs
def mkGlob (K:Int)(x:Jv):Jv:=⟨⟨(K),((K+1)%3==0)⟩,(Q5 mkIn QO (K+1+1) x.ini)⟩
def QG (x:Jv):Nat:=2+Qb QO x.ini
def mkEle (K:Int)(x:Ele):Ele:=⟨(Q5 mkIn QO (K) x.off),(mkI (K+(Qb QO x.off:Nat)) x.fs.length)⟩
def Ja (x:Ele):Nat:=0+Qb QO x.off+List.length x.fs
def mkCod (K:Int)(x:Cod):Cod:=⟨(Q5 mkGrp Q8 (K) x.locs),(Q5 mkIn QO (K+(Qb Q8 x.locs:Nat)) x.body)⟩
def Je (x:Cod):Nat:=0+Qb Q8 x.locs+Qb QO x.body
def mkDat (K:Int)(x:Dat):Dat:=⟨(Q5 mkIn QO (K) x.off),(mkB (K+(Qb QO x.off:Nat)) x.bs.length)⟩
def Jo (x:Dat):Nat:=0+Qb QO x.off+List.length x.bs
theorem markIn_c (l:List In)(a:Option Addr)(c:Nat)(C:List Value)(K:List Qc)(G:Int){B w0}{rs:List Qc}{w}(h:Mo B w0 (⟨170,5,l.length,.slice a l.length c,C⟩::(K++rs)) w)(p:LR RIn l C K)(hn:l.length<=1000000000)(h0:0<=G)(h1:G+Qb QO l<=1000000000) :
    Calls Tryz.prog 173 #[.slice a l.length c,.int .i64 G] w (MkQ RIn (Q5 mkIn QO G l) 170 5 l.length (.slice a l.length c) (G+(Qb QO l:Nat)) B w0 rs):=by
 have H:=Hm h;have E:=Hm p;clear h p
 go_enter Tryz.func173,Tryz.ntmps173
 go_wp2_with fail
 go_loopw [1,5] (λkv iv wr=>∃ (X Y:List In) (C:List Value) (K:List Qc),l=X++Y/\kv=.int .i64 (G+(Qb QO X:Nat))/\iv=.int .i64 (X.length:Int)/\LR RIn (Q5 mkIn QO G X++Y) C K/\Mo B w0 (⟨170,5,l.length,.slice a l.length c,C⟩::(K++rs)) wr) (λ_ i _=>l.length-(intOf i).toNat)
 case atStart=>exact ⟨[],l,C,K,rfl,by simp [Qb],rfl,E.o,H.o⟩
 case round =>
  obtain ⟨X,Y,C,K,D,rfl,rfl,p,M⟩:=hrel;clear H E;have R:=Hm D;have q:l.length=X.length+Y.length:=by rw [D];simp
  have u:Qb QO l=Qb QO X+Qb QO Y:=by rw [D,QL]
  clear D
  rcases Y with _|⟨x,Y⟩
  . have U:¬ (X.length:Int)<(l.length:Int):=by simp at q;omega
    have HE:Hid (l=X):=by
     show _=_
     have:=R.o;simpa using this
    have s:=Hm M;have E:=Hm p;clear M p q u
    go_wp2_with fail
    go_ret
    refine ⟨C,K,by rw [HE.o];rfl,?_,s.o⟩
    have:=E.o;rw [List.append_nil] at this;rw [HE.o];exact this
  . have U:(X.length:Int)<(l.length:Int):=by simp at q;omega
    obtain ⟨c1,cx,J,F,kx,k2,rfl,rfl,V,hx,hY⟩:=LR.zip p;obtain ⟨Z,rfl,rfl⟩:=hx;have f:c1.length=X.length*5:=by rw [LR.len (sz:=5) len_RIn V,QP]
    obtain ⟨g,cc,hv,-⟩:=QI (show World.ownsRow _ B 170 5 (.slice a l.length c) l.length _ from M.own.head) (by omega)
    injection hv with hv1 _ hv2
    subst hv1 hv2;obtain ⟨n,k,rfl⟩:∃ a' d',Z=.slice a' x.l.length d':=QJ (M.row (r:=⟨2,1,x.l.length,Z,I x.l⟩) (by simp [nR,bR]));have O:QO x=4+List.length x.l:=rfl;rw [QQ,O] at u;obtain ⟨d,z⟩:∃ d:Int,d=G+(Qb QO X:Nat):=⟨_,rfl⟩;have ac:0<=d:=by omega
    have ab:d+4+(x.l.length:Int)<=1000000000:=by omega
    have ah:IntKind.i64.wrap ((X.length:Int)+1)=(X.length:Int)+1:=by rw [IntKind.wrap_i64];omega
    have S:=Hm z;rw [<- z];clear z;clear q u O p;have HX:=Hm V;have HY:=Hm hY;clear V hY;have m:Mo B w0 (⟨170,5,l.length,.slice (some ⟨g,0,none⟩) l.length c,c1++([.int .i64 x.op,.int .i64 x.a,.int .i64 x.b,.int .u64 x.v,(.slice n x.l.length k)]++J)⟩::((F++([⟨2,1,x.l.length,(.slice n x.l.length k),I x.l⟩]++k2))++rs)) wr:=M;clear M;obtain ⟨y,A⟩:=m.cell (j:=X.length*5) (by omega) (Jp f rfl);have t:=m.set (X.length*5) (.int .i64 (d));rw [Gl f (by simp)] at t
    simp only [List.set_cons_zero,List.set_cons_succ] at t
    have s:=Hm t;clear t m
    go_upto_region 5 with fail
    refine Ql (λW=>Mo B w0 (⟨170,5,l.length,.slice (some ⟨g,0,none⟩) l.length c,c1++([.int .i64 (d),.int .i64 x.a,.int .i64 x.b,.int .u64 x.v,(.slice n x.l.length k)]++J)⟩::((F++([⟨2,1,x.l.length,(.slice n x.l.length k),I x.l⟩]++k2))++rs)) W) s.o ?_
    rintro V0 m;clear s y A;have L:IntKind.i64.wrap (d+1)=d+1:=by rw [IntKind.wrap_i64];omega
    go_upto_region 6 with fail
    clear L;obtain ⟨y,A⟩:=m.cell (j:=X.length*5+1) (by omega) (Qt f (j:=1) rfl);have t:=m.set (X.length*5+1) (.int .i64 (d+1));rw [Jr f (j:=1) (by simp)] at t
    simp only [List.set_cons_zero,List.set_cons_succ] at t
    have s:=Hm t;clear t m
    go_upto_region 7 with fail
    refine Ql (λW=>Mo B w0 (⟨170,5,l.length,.slice (some ⟨g,0,none⟩) l.length c,c1++([.int .i64 (d),.int .i64 (d+1),.int .i64 x.b,.int .u64 x.v,(.slice n x.l.length k)]++J)⟩::((F++([⟨2,1,x.l.length,(.slice n x.l.length k),I x.l⟩]++k2))++rs)) W) s.o ?_
    rintro V1 m;clear s y A;have L:IntKind.i64.wrap (d+1+1)=d+1+1:=by rw [IntKind.wrap_i64];omega
    go_upto_region 8 with fail
    clear L;obtain ⟨y,A⟩:=m.cell (j:=X.length*5+2) (by omega) (Qt f (j:=2) rfl);have t:=m.set (X.length*5+2) (.int .i64 (d+1+1));rw [Jr f (j:=2) (by simp)] at t
    simp only [List.set_cons_zero,List.set_cons_succ] at t
    have s:=Hm t;clear t m
    go_upto_region 9 with fail
    refine Ql (λW=>Mo B w0 (⟨170,5,l.length,.slice (some ⟨g,0,none⟩) l.length c,c1++([.int .i64 (d),.int .i64 (d+1),.int .i64 (d+1+1),.int .u64 x.v,(.slice n x.l.length k)]++J)⟩::((F++([⟨2,1,x.l.length,(.slice n x.l.length k),I x.l⟩]++k2))++rs)) W) s.o ?_
    rintro V2 m;clear s y A;have L:IntKind.i64.wrap (d+1+1+1)=d+1+1+1:=by rw [IntKind.wrap_i64];omega
    go_upto_region 10 with fail
    clear L;have hu:IntKind.u64.wrap (d+1+1+1)=d+1+1+1:=by rw [IntKind.wrap_u64];omega
    obtain ⟨y,A⟩:=m.cell (j:=X.length*5+3) (by omega) (Qt f (j:=3) rfl);have t:=m.set (X.length*5+3) (.int .u64 (d+1+1+1));rw [Jr f (j:=3) (by simp)] at t
    simp only [List.set_cons_zero,List.set_cons_succ] at t
    have s:=Hm t;clear t m
    go_upto_region 11 with fail
    refine Ql (λW=>Mo B w0 (⟨170,5,l.length,.slice (some ⟨g,0,none⟩) l.length c,c1++([.int .i64 (d),.int .i64 (d+1),.int .i64 (d+1+1),.int .u64 (d+1+1+1),(.slice n x.l.length k)]++J)⟩::((F++([⟨2,1,x.l.length,(.slice n x.l.length k),I x.l⟩]++k2))++rs)) W) s.o ?_
    rintro V3 m;clear s y A;have L:IntKind.i64.wrap (d+1+1+1+1)=d+1+1+1+1:=by rw [IntKind.wrap_i64];omega
    go_upto_region 12 with fail
    clear L;obtain ⟨y,A⟩:=m.cell (j:=X.length*5+4) (by omega) (Qt f (j:=4) rfl);have HP:=Hm (m.perm (Xf (⟨170,5,l.length,.slice (some ⟨g,0,none⟩) l.length c,c1++([.int .i64 (d),.int .i64 (d+1),.int .i64 (d+1+1),.int .u64 (d+1+1+1),(.slice n x.l.length k)]++J)⟩) (⟨2,1,x.l.length,(.slice n x.l.length k),I x.l⟩) F [] [] k2 rs));clear m
    go_wp2_with fail
    refine (markI_c x.l n k (d+1+1+1+1) HP.o (by omega) (by omega)).mono ?_
    rintro e V4 ⟨rfl,mp⟩;have m:Mo B w0 (⟨170,5,l.length,.slice (some ⟨g,0,none⟩) l.length c,c1++([.int .i64 (d),.int .i64 (d+1),.int .i64 (d+1+1),.int .u64 (d+1+1+1),(.slice n x.l.length k)]++J)⟩::((F++([⟨2,1,x.l.length,(.slice n x.l.length k),I (mkI (d+1+1+1+1) x.l.length)⟩]++k2))++rs)) V4:=mp.perm (Xf (⟨170,5,l.length,.slice (some ⟨g,0,none⟩) l.length c,c1++([.int .i64 (d),.int .i64 (d+1),.int .i64 (d+1+1),.int .u64 (d+1+1+1),(.slice n x.l.length k)]++J)⟩) (⟨2,1,x.l.length,(.slice n x.l.length k),I (mkI (d+1+1+1+1) x.l.length)⟩) F [] [] k2 rs).symm;clear mp HP y A
    go_upto_region 3 with fail
    have HF:=Hm m;clear m
    go_wp2_with fail
    go_roundw
    case rel =>
     refine ⟨X++[x],Y,_,_,by rw [R.o];simp,?_,by rw [show (((X++[x]).length:Nat):Int)=(X.length:Int)+1 by simp],?_,HF.o⟩
     . rw [QR,S.o];rw [show QO x=4+List.length x.l from rfl];congr 1;push_cast;omega
     . rw [JU,List.append_assoc];have hr:RIn (mkIn d x) [.int .i64 (d),.int .i64 (d+1),.int .i64 (d+1+1),.int .u64 (d+1+1+1),(.slice n x.l.length k)] [⟨2,1,x.l.length,(.slice n x.l.length k),I (mkI (d+1+1+1+1) x.l.length)⟩]:=⟨_,rfl,by simp [nR,XA,mkIn]⟩;have h9:=LR.app HX.o (LR.app (LR.one hr) HY.o);rw [<- S.o]
       exact h9
    case measure =>
     have:X.length<l.length:=by omega
     simp [intOf];omega
theorem heldIn_c (l:List In)(a:Option Addr)(c:Nat)(C:List Value)(K:List Qc)(q:Int)(B:Nat)(w:World)(h:w.ownsRow B 170 5 (.slice a l.length c) l.length C)(O:∀ r ∈ K,r.Ok B w)(k:LR RIn (Q5 mkIn QO q l) C K)(hn:l.length<=1000000000)(h0:0<=q)(h1:q+Qb QO l<=1000000000) :
    Calls Tryz.prog 175 #[.slice a l.length c,.int .i64 q] w λe F=>e=.returned (.int .i64 (q+(Qb QO l:Nat)))/\w=F:=by
 have H:=Hm h;have HK:=Hm O;have D:=Hm k;clear h k O
 go_enter Tryz.func175,Tryz.ntmps175
 go_wp2_with fail
 go_loop [1,5] (λkv iv=>∃ (X Y:List In),l=X++Y/\kv=.int .i64 (q+(Qb QO X:Nat))/\iv=.int .i64 (X.length:Int)) (λ_ i=>l.length-(intOf i).toNat)
 case atStart=>exact ⟨[],l,rfl,by simp [Qb],rfl⟩
 case round =>
  obtain ⟨X,Y,p,rfl,rfl⟩:=hrel;have s:=Hm p;have d:l.length=X.length+Y.length:=by rw [p];simp
  have n:Qb QO l=Qb QO X+Qb QO Y:=by rw [p,QL]
  clear p
  rcases Y with _|⟨x,Y⟩
  . have z:¬ (X.length:Int)<(l.length:Int):=by simp at d;omega
    have HE:Hid (l=X):=by
     show _=_
     have:=s.o;simpa using this
    clear d n
    go_wp2_with fail
    go_ret
    exact ⟨by rw [HE.o];rfl,rfl⟩
  . have z:(X.length:Int)<(l.length:Int):=by simp at d;omega
    have k:=D.o;rw [s.o,Xi,Q5] at k;obtain ⟨c1,cx,c2,k1,kx,k2,t,v,M,G,hY⟩:=LR.zip k;have m:c1.length=X.length*5:=by rw [LR.len (sz:=5) len_RIn M,QP]
    have u:QO x=4+List.length x.l:=rfl;rw [QQ,u] at n;obtain ⟨b,f⟩:∃ b:Int,b=q+(Qb QO X:Nat):=⟨_,rfl⟩;have L:0<=b:=by omega
    have J:b+4+(x.l.length:Int)<=1000000000:=by omega
    have V:IntKind.i64.wrap ((X.length:Int)+1)=(X.length:Int)+1:=by rw [IntKind.wrap_i64];omega
    have E:=Hm f;rw [<- f] at G;rw [<- f];obtain ⟨U,rfl,rfl⟩:=G;clear f k M hY;obtain ⟨g,cc,hv,-⟩:=QI H.o (by omega)
    injection hv with hv1 _ hv2
    subst hv1 hv2;clear d n u;have y:Qc.Ok B w ⟨2,1,(mkI (b+1+1+1+1) x.l.length).length,U,I (mkI (b+1+1+1+1) x.l.length)⟩:=HK.o _ (by rw [v];exact mR (mL mS));rw [XA] at y;obtain ⟨S,R,rfl⟩:=QJ y;have A:=Hm y;clear y;have y0:w.cell? ⟨g,X.length*5,none⟩=some (.int .i64 (b)):=(World.ownsRow.cellAt H.o (X.length*5) (by omega)).trans (by rw [t];exact Jp m rfl);have y1:w.cell? ⟨g,X.length*5+1,none⟩=some (.int .i64 (b+1)):=(World.ownsRow.cellAt H.o (X.length*5+1) (by omega)).trans (by rw [t];exact Qt m (j:=1) rfl);have y2:w.cell? ⟨g,X.length*5+2,none⟩=some (.int .i64 (b+1+1)):=(World.ownsRow.cellAt H.o (X.length*5+2) (by omega)).trans (by rw [t];exact Qt m (j:=2) rfl);have y3:w.cell? ⟨g,X.length*5+3,none⟩=some (.int .u64 (b+1+1+1)):=(World.ownsRow.cellAt H.o (X.length*5+3) (by omega)).trans (by rw [t];exact Qt m (j:=3) rfl);have y4:w.cell? ⟨g,X.length*5+4,none⟩=some (.slice S x.l.length R):=(World.ownsRow.cellAt H.o (X.length*5+4) (by omega)).trans (by rw [t];exact Qt m (j:=4) rfl);clear t v m;have ac:IntKind.i64.wrap (b+1)=b+1:=by rw [IntKind.wrap_i64];omega
    have ab:IntKind.i64.wrap (b+1+1)=b+1+1:=by rw [IntKind.wrap_i64];omega
    have aa:IntKind.i64.wrap (b+1+1+1)=b+1+1+1:=by rw [IntKind.wrap_i64];omega
    have Z:IntKind.i64.wrap (b+1+1+1+1)=b+1+1+1+1:=by rw [IntKind.wrap_i64];omega
    have hu:IntKind.u64.wrap (b+1+1+1)=b+1+1+1:=by rw [IntKind.wrap_u64];omega
    go_wp2_with fail
    refine (heldI_c x.l.length S R (b+1+1+1+1) B w A.o (by omega) (by omega)).mono ?_
    rintro e F ⟨rfl,rfl⟩;have ae:¬ b+1+1+1+1+(x.l.length:Int)<0:=by omega
    go_wp2_with fail
    go_round
    case rel =>
     refine ⟨X++[x],Y,by rw [s.o];simp,?_,by rw [show (((X++[x]).length:Nat):Int)=(X.length:Int)+1 by simp]⟩
     rw [QR,E.o];rw [show QO x=4+List.length x.l from rfl];congr 1;push_cast;omega
    case measure =>
     have:X.length<l.length:=by omega
     simp [intOf];omega
theorem heldFT_c (l:List Q1)(a:Option Addr)(c:Nat)(C:List Value)(K:List Qc)(p:Int)(B:Nat)(w:World)(h:w.ownsRow B 92 2 (.slice a l.length c) l.length C)(S:∀ r ∈ K,r.Ok B w)(f:LR RFT (Q5 mkFT QT p l) C K)(hn:l.length<=1000000000)(h0:0<=p)(h1:p+Qb QT l<=1000000000) :
    Calls Tryz.prog 104 #[.slice a l.length c,.int .i64 p] w λe z=>e=.returned (.int .i64 (p+(Qb QT l:Nat)))/\w=z:=by
 have H:=Hm h;have HK:=Hm S;have G:=Hm f;clear h f S
 go_enter Tryz.func104,Tryz.ntmps104
 go_wp2_with fail
 go_loop [1,5] (λkv iv=>∃ (X Y:List Q1),l=X++Y/\kv=.int .i64 (p+(Qb QT X:Nat))/\iv=.int .i64 (X.length:Int)) (λ_ i=>l.length-(intOf i).toNat)
 case atStart=>exact ⟨[],l,rfl,by simp [Qb],rfl⟩
 case round =>
  obtain ⟨X,Y,n,rfl,rfl⟩:=hrel;have t:=Hm n;have b:l.length=X.length+Y.length:=by rw [n];simp
  have m:Qb QT l=Qb QT X+Qb QT Y:=by rw [n,QL]
  clear n
  rcases Y with _|⟨x,Y⟩
  . have A:¬ (X.length:Int)<(l.length:Int):=by simp at b;omega
    have HE:Hid (l=X):=by
     show _=_
     have:=t.o;simpa using this
    clear b m
    go_wp2_with fail
    go_ret
    exact ⟨by rw [HE.o];rfl,rfl⟩
  . have A:(X.length:Int)<(l.length:Int):=by simp at b;omega
    have f:=G.o;rw [t.o,Xi,Q5] at f;obtain ⟨c1,cx,c2,k1,kx,k2,D,s,R,L,hY⟩:=LR.zip f;have q:c1.length=X.length*2:=by rw [LR.len (sz:=2) len_RFT R,QP]
    have u:QT x=0+List.length x.ps+List.length x.rs:=rfl;rw [QQ,u] at m;obtain ⟨k,d⟩:∃ k:Int,k=p+(Qb QT X:Nat):=⟨_,rfl⟩;have O:0<=k:=by omega
    have M:k+0+(x.ps.length:Int)+(x.rs.length:Int)<=1000000000:=by omega
    have ac:IntKind.i64.wrap ((X.length:Int)+1)=(X.length:Int)+1:=by rw [IntKind.wrap_i64];omega
    have J:=Hm d;rw [<- d] at L;rw [<- d];obtain ⟨v0,v1,rfl,rfl⟩:=L;clear d f R hY;obtain ⟨g,cc,hv,-⟩:=QI H.o (by omega)
    injection hv with hv1 _ hv2
    subst hv1 hv2;clear b m u;have y:Qc.Ok B w ⟨2,1,(mkI (k) x.ps.length).length,v0,I (mkI (k) x.ps.length)⟩:=HK.o _ (by rw [s];exact mR (mL mS));rw [XA] at y;obtain ⟨a0,V,rfl⟩:=QJ y;have F:=Hm y;clear y;have v:Qc.Ok B w ⟨2,1,(mkI (k+(x.ps.length:Int)) x.rs.length).length,v1,I (mkI (k+(x.ps.length:Int)) x.rs.length)⟩:=HK.o _ (by rw [s];exact mR (mL (mC mS)));rw [XA] at v;obtain ⟨Z,U,rfl⟩:=QJ v;have E:=Hm v;clear v;have y0:w.cell? ⟨g,X.length*2,none⟩=some (.slice a0 x.ps.length V):=(World.ownsRow.cellAt H.o (X.length*2) (by omega)).trans (by rw [D];exact Jp q rfl);have y1:w.cell? ⟨g,X.length*2+1,none⟩=some (.slice Z x.rs.length U):=(World.ownsRow.cellAt H.o (X.length*2+1) (by omega)).trans (by rw [D];exact Qt q (j:=1) rfl);clear D s q
    go_wp2_with fail
    refine (heldI_c x.ps.length a0 V (k) B w F.o (by omega) (by omega)).mono ?_
    rintro e z ⟨rfl,rfl⟩;have af:¬ k+(x.ps.length:Int)<0:=by omega
    go_wp2_with fail
    refine (heldI_c x.rs.length Z U (k+(x.ps.length:Int)) B w E.o (by omega) (by omega)).mono ?_
    rintro e z ⟨rfl,rfl⟩;have ae:¬ k+(x.ps.length:Int)+(x.rs.length:Int)<0:=by omega
    go_wp2_with fail
    go_round
    case rel =>
     refine ⟨X++[x],Y,by rw [t.o];simp,?_,by rw [show (((X++[x]).length:Nat):Int)=(X.length:Int)+1 by simp]⟩
     rw [QR,J.o];rw [show QT x=0+List.length x.ps+List.length x.rs from rfl];congr 1;push_cast;omega
    case measure =>
     have:X.length<l.length:=by omega
     simp [intOf];omega
theorem Oo {w wr W V}(h:Below w.heap.size w wr)(b:Below W.heap.size W V)(e:Below wr.heap.size wr W):Below w.heap.size w V:=by
 have a:=h.trans (e.mono h.size)
 exact a.trans (b.mono a.size)
theorem Qc.Ok.below {B w V}{r:Qc}(h:Qc.Ok B w r)(a:Below w.heap.size w V):Qc.Ok B V r:=by
 have:Own B w [r]:=⟨by simpa using h,by cases hv:r.v.ownBlock<;>simp [blk,hv]⟩
 exact (this.keep a).all r (by simp)
theorem heldExp_c (l:List Exp)(a:Option Addr)(c:Nat)(C:List Value)(K:List Qc)(v:Int)(B:Nat)(w:World)(h:w.ownsRow B 111 3 (.slice a l.length c) l.length C)(hK:∀ r ∈ K,r.Ok B w)(k:LR RExp (Q5 mkExp Q4 v l) C K)(hn:l.length<=1000000000)(h0:0<=v)(h1:v+Qb Q4 l<=1000000000) :
    Calls Tryz.prog 109 #[.slice a l.length c,.int .i64 v] w λe w'=>e=.returned (.int .i64 (v+(Qb Q4 l:Nat)))/\Below w.heap.size w w':=by
 have H:=Hm h;have I:=Hm k;clear h k hK
 go_enter Tryz.func109,Tryz.ntmps109
 go_wp2_with fail
 go_loopw [1,5] (λkv iv wr=>∃ (X Y:List Exp),l=X++Y/\kv=.int .i64 (v+(Qb Q4 X:Nat))/\iv=.int .i64 (X.length:Int)/\Below w.heap.size w wr) (λ_ i _=>l.length-(intOf i).toNat)
 case atStart=>exact ⟨[],l,rfl,by simp [Qb],rfl,bF⟩
 case round =>
  obtain ⟨X,Y,s,rfl,rfl,D⟩:=hrel;have y:=Hm s;have d:l.length=X.length+Y.length:=by rw [s];simp
  have m:Qb Q4 l=Qb Q4 X+Qb Q4 Y:=by rw [s,QL]
  have u:=Hm D;clear s D
  rcases Y with _|⟨x,Y⟩
  . have F:¬ (X.length:Int)<(l.length:Int):=by simp at d;omega
    have HE:Hid (l=X):=by
     show _=_
     have:=y.o;simpa using this
    clear d m
    go_wp2_with fail
    go_ret
    exact ⟨by rw [HE.o];rfl,u.o⟩
  . have F:(X.length:Int)<(l.length:Int):=by simp at d;omega
    have k:=I.o;rw [y.o,Xi,Q5] at k;obtain ⟨c1,cx,c2,k1,kx,k2,E,G,R,L,hY⟩:=LR.zip k;have q:c1.length=X.length*3:=by rw [LR.len (sz:=3) (by rintro x cs rs ⟨rfl,rfl⟩;rfl) R,QP]
    have z:Q4 x=3:=rfl;rw [QQ,z] at m;obtain ⟨b,f⟩:∃ b:Int,b=v+(Qb Q4 X:Nat):=⟨_,rfl⟩;have O:0<=b:=by omega
    have M:b+3<=1000000000:=by omega
    have ab:IntKind.i64.wrap ((X.length:Int)+1)=(X.length:Int)+1:=by rw [IntKind.wrap_i64];omega
    have J:=Hm f;rw [<- f] at L;rw [<- f];obtain ⟨rfl,rfl⟩:=L;clear f k R hY;obtain ⟨g,cc,hv,-⟩:=QI H.o (by omega)
    injection hv with hv1 _ hv2
    subst hv1 hv2;have n:g<w.heap.size:=(World.ownsRow.lt H.o g rfl).2;clear d m z;have S:Hid (∀ W,Below w.heap.size w W->W.cell? ⟨g,X.length*3,none⟩=some (.string (mtx (b)))):=Hm (λW hW=>(hW.cell (p:=⟨g,X.length*3,none⟩) n).trans ((World.ownsRow.cellAt H.o (X.length*3) (by omega)).trans (by rw [E];exact Jp q rfl)));have Y1:Hid (∀ W,Below w.heap.size w W->W.cell? ⟨g,X.length*3+1,none⟩=some (.int .i64 (b+1))):=Hm (λW hW=>(hW.cell (p:=⟨g,X.length*3+1,none⟩) n).trans ((World.ownsRow.cellAt H.o (X.length*3+1) (by omega)).trans (by rw [E];exact Qt q (j:=1) rfl)));have Y2:Hid (∀ W,Below w.heap.size w W->W.cell? ⟨g,X.length*3+2,none⟩=some (.int .i64 (b+1+1))):=Hm (λW hW=>(hW.cell (p:=⟨g,X.length*3+2,none⟩) n).trans ((World.ownsRow.cellAt H.o (X.length*3+2) (by omega)).trans (by rw [E];exact Qt q (j:=2) rfl)));clear E G q;have y0:=S.o _ u.o;have U:=Hm (λW=>XQ (b) W (by omega) (by omega))
    go_upto_region 4 with fail
    go_cut [19] from 12 to 19 (λt V=>t=.bool false/\Below w.heap.size w V)
    case first =>
     go_region_law (first
      | (go_simp
         refine (U.o _).mono ?_
         rintro e V ⟨rfl,A⟩;have Z:Hid (Below w.heap.size w V):=Hm (Oo u.o A (by first | exact bF | exact bF.drew | exact (bF.drew).drew));have yV:=S.o _ Z.o;clear A))
     all_goals
      go_wp2_with fail
      go_meet
      exact ⟨by simp,Z.o⟩
    case rest =>
     obtain ⟨rfl,D⟩:=hcut;clear u y0 U;have u:=Hm D;clear D;have ae:IntKind.i64.wrap (b+1)=b+1:=by rw [IntKind.wrap_i64];omega
     have y1:=Y1.o _ u.o;have ad:IntKind.i64.wrap (b+1+1)=b+1+1:=by rw [IntKind.wrap_i64];omega
     have y2:=Y2.o _ u.o;have ac:IntKind.i64.wrap (b+1+1+1)=b+1+1+1:=by rw [IntKind.wrap_i64];omega
     go_wp2_with fail
     go_roundw
     case rel =>
      refine ⟨X++[x],Y,by rw [y.o];simp,?_,by rw [show (((X++[x]).length:Nat):Int)=(X.length:Int)+1 by simp],u.o⟩
      rw [QR,J.o];rw [show Q4 x=3 from rfl];congr 1;push_cast;omega
     case measure =>
      have:X.length<l.length:=by omega
      simp [intOf];omega
end Go.Proofs.YtedcmcdbejjgcaaGreat.Ms
