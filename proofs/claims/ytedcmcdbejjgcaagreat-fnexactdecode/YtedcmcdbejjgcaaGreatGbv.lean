import Derived.Test.YtedcmcdbejjgcaaGreatGaa
import Derived.Test.YtedcmcdbejjgcaaGreatGbt
set_option linter.all false
set_option maxHeartbeats 400000000
set_option maxRecDepth 100000
namespace Go.Proofs.YtedcmcdbejjgcaaGreat.Ms
open Go.RowKit Go.Sort
def Q5 {α:Type}(mk:Int->α->α)(sz:α->Nat):Int->List α->List α
 |_,[]=>[]
 |k,x::xs=>mk k x::Q5 mk sz (k+sz x) xs
def Qb {α:Type}(sz:α->Nat)(xs:List α):Nat:=(xs.map sz).sum
section
variable {α:Type} {mk:Int->α->α} {sz:α->Nat}
theorem QP:∀ (xs:List α) (k:Int),(Q5 mk sz k xs).length=xs.length
 |[],k=>rfl
 |x::xs,k=>by simp [Q5,QP xs]
theorem QR (xs:List α)(x:α):Qb sz (xs++[x])=Qb sz xs+sz x:=by simp [Qb]
theorem QQ (xs:List α)(x:α):Qb sz (x::xs)=sz x+Qb sz xs:=by simp [Qb]
theorem QL (xs a:List α):Qb sz (xs++a)=Qb sz xs+Qb sz a:=by simp [Qb]
theorem JU:∀ (xs:List α) (x:α) (k:Int),Q5 mk sz k (xs++[x])=Q5 mk sz k xs++[mk (k+Qb sz xs) x]
 |[],x,k=>by simp [Q5,Qb]
 |y::xs,x,k=>by
  rw [List.cons_append,Q5,JU xs x,Q5,List.cons_append,QQ]
  congr 3
  congr 1
  push_cast;omega
end
structure Mo (B:Nat)(w0:World)(rs:List Qc)(V:World):Prop where
 own:Own B V rs
 b:Below B w0 V
 le:B<=V.heap.size
section
variable {B:Nat} {w0 V W:World} {rs rs':List Qc}
theorem Mo.perm (h:Mo B w0 rs V)(p:rs.Perm rs'):Mo B w0 rs' V:=⟨h.own.perm p,h.b,h.le⟩
theorem Mo.keep (h:Mo B w0 rs V)(a:Below V.heap.size V W):Mo B w0 rs W:=⟨h.own.keep a,h.b.trans (a.mono h.le),Nat.le_trans h.le a.size⟩
theorem Mo.drewN (h:Mo B w0 rs V)(n:Nat):Mo B w0 rs (V.drewN n):=h.keep ⟨rfl,rfl,rfl,lR,λ_ _=>rfl⟩
theorem Mo.row (h:Mo B w0 rs V){r:Qc}(hr:r ∈ rs):r.Ok B V:=h.own.all r hr
theorem Mo.set {T sz n g c:Nat}{cs:List Value}(h:Mo B w0 (⟨T,sz,n,.slice (some ⟨g,0,none⟩) n c,cs⟩::rs) V)(j:Nat)(u:Value):Mo B w0 (⟨T,sz,n,.slice (some ⟨g,0,none⟩) n c,cs.set j u⟩::rs) (V.setCell ⟨g,j,none⟩ u):=by
 have f:V.ownsRow B T sz (.slice (some ⟨g,0,none⟩) n c) n cs:=h.own.head;have a:=(World.ownsRow.stored f j u).1;have d:=Qp V g j u;have k:=World.ownsRow.lt f g rfl
 refine ⟨h.own.push (r':=⟨T,sz,n,.slice (some ⟨g,0,none⟩) n c,cs.set j u⟩) d a (.inl rfl),h.b.setCell k.1 _,by simpa using h.le⟩
theorem Mo.cell {T sz n g c:Nat}{cs:List Value}(h:Mo B w0 (⟨T,sz,n,.slice (some ⟨g,0,none⟩) n c,cs⟩::rs) V){j:Nat}{u:Value}(d:j<n*sz)(b:cs[j]?=some u):V.cell? ⟨g,j,none⟩=some u/\V.frozen? ⟨g,j,none⟩=false:=by
 have a:V.ownsRow B T sz (.slice (some ⟨g,0,none⟩) n c) n cs:=h.own.head
 exact ⟨(World.ownsRow.cellAt a j d).trans b,World.ownsRow.frozenAt a j⟩
end
theorem LR.zip {α:Type}{b:α->List Value->List Qc->Prop}{X Y:List α}{x:α}{c k}(h:LR b (X++x::Y) c k):∃ c1 cx c2 k1 kx k2,c=c1++(cx++c2)/\k=k1++(kx++k2)/\LR b X c1 k1/\b x cx kx/\LR b Y c2 k2:=by
 obtain ⟨a,m,j,rfl,rfl⟩:=h;have n:a.length=X.length+(Y.length+1):=by simpa using m
 obtain ⟨e,g⟩:∃ e,a[X.length]?=some e:=⟨_,List.getElem?_eq_getElem (by omega)⟩
 have f:a=a.take X.length++(e::a.drop (X.length+1)):=by
  have d:X.length<a.length:=by omega
  conv=>lhs;rw [<- List.take_append_drop X.length a]
  congr 1
  rw [List.drop_eq_getElem_cons d];rw [List.getElem?_eq_getElem d] at g
  cases g;rfl
 refine ⟨(a.take X.length).flatMap (·.cs),e.cs,(a.drop (X.length+1)).flatMap (·.cs),(a.take X.length).flatMap (·.rs),e.rs,(a.drop (X.length+1)).flatMap (·.rs),?_,?_,⟨_,by simp;omega,λi y ev hy hev=>?_,rfl,rfl⟩,j X.length x e (by simp) g,⟨_,by simp;omega,λi y ev hy hev=>?_,rfl,rfl⟩⟩
 . conv=>lhs;rw [f]
   simp
 . conv=>lhs;rw [f]
   simp
 . have l:i<X.length:=(List.getElem?_eq_some_iff.1 hy).1
   refine j i y ev (by rw [List.getElem?_append_left l];exact hy) ?_
   rw [List.getElem?_take] at hev
   simpa [l] using hev
 . refine j (X.length+1+i) y ev ?_ (by rw [List.getElem?_drop] at hev;exact hev)
   rw [List.getElem?_append_right (by omega),show X.length+1+i-X.length=i+1 by omega,List.getElem?_cons_succ]
   exact hy
theorem LR.app {α:Type}{a:α->List Value->List Qc->Prop}{X Y:List α}{c1 c2 k1 k2}(h1:LR a X c1 k1)(d:LR a Y c2 k2):LR a (X++Y) (c1++c2) (k1++k2):=by
 obtain ⟨g,b,k,rfl,rfl⟩:=h1;obtain ⟨f,b1,j,rfl,rfl⟩:=d
 refine ⟨g++f,by simp [b,b1],λi y ev hy he=>?_,by simp,by simp⟩
 by_cases c:i<X.length
 . rw [List.getElem?_append_left c] at hy;rw [List.getElem?_append_left (by omega)] at he
   exact k i y ev hy he
 . rw [List.getElem?_append_right (by omega)] at hy he;rw [b] at he
   exact j _ y ev hy he
theorem LR.one {α:Type}{a:α->List Value->List Qc->Prop}{x:α}{c:List Value}{k:List Qc}(h:a x c k):LR a [x] c k:=by
 have:=(LR.nil a).snoc h
 simpa using this
theorem LR.len {α:Type}{a:α->List Value->List Qc->Prop}{sz:Nat}(b:∀ x cs rs,a x cs rs->cs.length=sz):∀ {xs:List α} {c:List Value} {k:List Qc},LR a xs c k->c.length=xs.length*sz:=by
 intro xs
 induction xs with
 |nil =>
  rintro c k ⟨f,d,g,rfl,rfl⟩
  have:f=[]:=by simpa using d
  subst this;simp
 |cons x xs ih =>
  intro c k h
  obtain ⟨c1,p,q,o,n,k2,rfl,rfl,d,j,g⟩:=LR.zip (X:=[]) h
  have l:c1=[]:=by
   obtain ⟨f,m,r,rfl,rfl⟩:=d
   have:f=[]:=by simpa using m
   subst this;rfl
  subst l
  have:=ih g
  have:=b _ _ _ j
  simp [Nat.add_mul];omega
def mkI (k:Int)(n:Nat):List Int:=(List.range n).map λ(i:Nat)=>k+(i:Int)
theorem XA (k:Int)(n:Nat):(mkI k n).length=n:=by simp [mkI]
theorem mkI_succ (k:Int)(n:Nat):mkI k (n+1)=mkI k n++[k+(n:Int)]:=by simp [mkI,List.range_succ]
def mkB (k:Int)(n:Nat):List Int:=(mkI k n).map λx=>x%256
theorem mkB_len (k:Int)(n:Nat):(mkB k n).length=n:=by simp [mkB,mkI]
theorem mkB_succ (k:Int)(n:Nat):mkB k (n+1)=mkB k n++[(k+(n:Int))%256]:=by simp [mkB,mkI_succ]
theorem drop_at {α:Type}(l:List α)(j:Nat)(h:j<l.length):∃ x,l.drop j=x::l.drop (j+1):=⟨_,List.drop_eq_getElem_cons h⟩
theorem set_mid {α:Type}(X R:List α)(n:Nat)(y u:α)(a:X.length=n):(X++y::R).set n u=X++u::R:=by
 subst a;simp
theorem markI_c (l:List Int)(a:Option Addr)(c:Nat)(b:Int){B w0}{rs:List Qc}{w}(h:Mo B w0 (⟨2,1,l.length,.slice a l.length c,I (l)⟩::rs) w)(h0:0<=b)(h1:b+l.length<=1000000000) :
    Calls Tryz.prog 96 #[.slice a l.length c,.int .i64 b] w λe w'=>e=.returned (.int .i64 (b+l.length))/\Mo B w0 (⟨2,1,l.length,.slice a l.length c,I (mkI b l.length)⟩::rs) w':=by
 have H:=Hm h;clear h
 go_enter Tryz.func96,Tryz.ntmps96
 go_wp2_with fail
 go_loopw [1,5] (λkv iv wr=>∃ i:Nat,i<=l.length/\kv=.int .i64 (b+(i:Int))/\iv=.int .i64 (i:Int)/\Mo B w0 (⟨2,1,l.length,.slice a l.length c,I (mkI b i++l.drop i)⟩::rs) wr) (λ_ i _=>l.length-(intOf i).toNat)
 case atStart=>exact ⟨0,Nat.zero_le _,by simp,rfl,by simpa [mkI,mkI] using H.o⟩
 case round =>
  obtain ⟨i,z,rfl,rfl,f⟩:=hrel;clear H
  by_cases n:i<l.length
  . have p:(i:Int)<(l.length:Int):=by omega
    obtain ⟨g,C,t,-⟩:=QI (show World.ownsRow _ B 2 1 (.slice a l.length c) l.length _ from f.own.head) (by omega)
    injection t with hv1 _ hv2
    subst hv1 hv2;obtain ⟨y,m⟩:=drop_at l i n
    have k:(I (mkI b i++l.drop i))[i]?=some (.int .i64 y):=by
     rw [m];simp [I,XA]
    obtain ⟨c1,A⟩:=f.cell (j:=i) (by omega) k;have s:IntKind.i64.wrap (b+(i:Int)+1)=b+(i:Int)+1:=by rw [IntKind.wrap_i64];omega
    have q:Hid (Mo B w0 (⟨2,1,l.length,.slice (some ⟨g,0,none⟩) l.length c,I (mkI b (i+1)++l.drop (i+1))⟩::rs) (wr.setCell ⟨g,i,none⟩ (.int .i64 ((b+(i:Int)))))):=by
     have r:=f.set i (.int .i64 ((b+(i:Int))))
     have u:(I (mkI b i++l.drop i)).set i (.int .i64 ((b+(i:Int))))=I (mkI b (i+1)++l.drop (i+1)):=by
      rw [m,mkI_succ]
      simp only [I,List.map_append,List.map_cons]
      rw [set_mid _ _ i _ _ (by simp [XA])]
      simp
     rw [u] at r
     exact r
    clear f m k
    go_wp2_with fail
    go_roundw
    case rel=>exact ⟨i+1,by omega,by go_num,by go_num,q.o⟩
    case measure=>simp [intOf];omega
  . have d:i=l.length:=by omega
    have p:¬ (i:Int)<(l.length:Int):=by omega
    have q:Hid (Mo B w0 (⟨2,1,l.length,.slice a l.length c,I (mkI b l.length)⟩::rs) wr):=by
     show Mo _ _ _ _
     have:=f
     rw [d] at this
     simpa using this
    have v:=Hm d;clear f d
    go_wp2_with fail
    go_ret
    exact ⟨by rw [v.o];rfl,q.o⟩
theorem heldI_c (n:Nat)(a:Option Addr)(c:Nat)(b:Int)(B:Nat)(w:World)(h:w.ownsRow B 2 1 (.slice a n c) n (I (mkI b n)))(h0:0<=b)(h1:b+n<=1000000000) :
    Calls Tryz.prog 106 #[.slice a n c,.int .i64 b] w λe w'=>e=.returned (.int .i64 (b+n))/\w=w':=by
 have H:=Hm h;clear h
 go_enter Tryz.func106,Tryz.ntmps106
 go_wp2_with fail
 go_loop [1,5] (λkv iv=>∃ i:Nat,i<=n/\kv=.int .i64 (b+(i:Int))/\iv=.int .i64 (i:Int)) (λ_ i=>n-(intOf i).toNat)
 case atStart=>exact ⟨0,Nat.zero_le _,by simp,rfl⟩
 case round =>
  obtain ⟨i,p,rfl,rfl⟩:=hrel
  by_cases f:i<n
  . have j:(i:Int)<(n:Int):=by omega
    obtain ⟨g,q,l,-⟩:=QI H.o (by omega)
    injection l with hv1 _ hv2
    subst hv1 hv2
    have c1:w.cell? ⟨g,i,none⟩=some (.int .i64 ((b+(i:Int)))):=by
     rw [World.ownsRow.cellAt H.o i (by omega)]
     simp [I,mkI,mkI,f]
    have k:IntKind.i64.wrap (b+(i:Int)+1)=b+(i:Int)+1:=by rw [IntKind.wrap_i64];omega
    go_wp2_with fail
    go_round
    case rel=>exact ⟨i+1,by omega,by go_num,by go_num⟩
    case measure=>simp [intOf];omega
  . have d:i=n:=by omega
    have j:¬ (i:Int)<(n:Int):=by omega
    have m:=Hm d;clear d
    go_wp2_with fail
    go_ret
    exact ⟨by rw [m.o];rfl,rfl⟩
theorem markB_c (l:List Int)(a:Option Addr)(c:Nat)(b:Int){B w0}{rs:List Qc}{w}(h:Mo B w0 (⟨5,1,l.length,.slice a l.length c,U (l)⟩::rs) w)(h0:0<=b)(h1:b+l.length<=1000000000) :
    Calls Tryz.prog 12 #[.slice a l.length c,.int .i64 b] w λe w'=>e=.returned (.int .i64 (b+l.length))/\Mo B w0 (⟨5,1,l.length,.slice a l.length c,U (mkB b l.length)⟩::rs) w':=by
 have H:=Hm h;clear h
 go_enter Tryz.func12,Tryz.ntmps12
 go_wp2_with fail
 go_loopw [1,5] (λkv iv wr=>∃ i:Nat,i<=l.length/\kv=.int .i64 (b+(i:Int))/\iv=.int .i64 (i:Int)/\Mo B w0 (⟨5,1,l.length,.slice a l.length c,U (mkB b i++l.drop i)⟩::rs) wr) (λ_ i _=>l.length-(intOf i).toNat)
 case atStart=>exact ⟨0,Nat.zero_le _,by simp,rfl,by simpa [mkB,mkI] using H.o⟩
 case round =>
  obtain ⟨i,z,rfl,rfl,f⟩:=hrel;clear H
  by_cases n:i<l.length
  . have p:(i:Int)<(l.length:Int):=by omega
    obtain ⟨g,C,t,-⟩:=QI (show World.ownsRow _ B 5 1 (.slice a l.length c) l.length _ from f.own.head) (by omega)
    injection t with hv1 _ hv2
    subst hv1 hv2;obtain ⟨y,m⟩:=drop_at l i n
    have k:(U (mkB b i++l.drop i))[i]?=some (.int .u8 y):=by
     rw [m];simp [U,mkB_len]
    obtain ⟨c1,A⟩:=f.cell (j:=i) (by omega) k;have s:IntKind.i64.wrap (b+(i:Int)+1)=b+(i:Int)+1:=by rw [IntKind.wrap_i64];omega
    have q:Hid (Mo B w0 (⟨5,1,l.length,.slice (some ⟨g,0,none⟩) l.length c,U (mkB b (i+1)++l.drop (i+1))⟩::rs) (wr.setCell ⟨g,i,none⟩ (.int .u8 ((b+(i:Int))%256)))):=by
     have r:=f.set i (.int .u8 ((b+(i:Int))%256))
     have u:(U (mkB b i++l.drop i)).set i (.int .u8 ((b+(i:Int))%256))=U (mkB b (i+1)++l.drop (i+1)):=by
      rw [m,mkB_succ]
      simp only [U,List.map_append,List.map_cons]
      rw [set_mid _ _ i _ _ (by simp [mkB_len])]
      simp
     rw [u] at r
     exact r
    clear f m k
    go_wp2_with fail
    go_roundw
    case rel=>exact ⟨i+1,by omega,by go_num,by go_num,q.o⟩
    case measure=>simp [intOf];omega
  . have d:i=l.length:=by omega
    have p:¬ (i:Int)<(l.length:Int):=by omega
    have q:Hid (Mo B w0 (⟨5,1,l.length,.slice a l.length c,U (mkB b l.length)⟩::rs) wr):=by
     show Mo _ _ _ _
     have:=f
     rw [d] at this
     simpa using this
    have v:=Hm d;clear f d
    go_wp2_with fail
    go_ret
    exact ⟨by rw [v.o];rfl,q.o⟩
theorem heldB_c (n:Nat)(a:Option Addr)(c:Nat)(b:Int)(B:Nat)(w:World)(h:w.ownsRow B 5 1 (.slice a n c) n (U (mkB b n)))(h0:0<=b)(h1:b+n<=1000000000) :
    Calls Tryz.prog 177 #[.slice a n c,.int .i64 b] w λe w'=>e=.returned (.int .i64 (b+n))/\w=w':=by
 have H:=Hm h;clear h
 go_enter Tryz.func177,Tryz.ntmps177
 go_wp2_with fail
 go_loop [1,5] (λkv iv=>∃ i:Nat,i<=n/\kv=.int .i64 (b+(i:Int))/\iv=.int .i64 (i:Int)) (λ_ i=>n-(intOf i).toNat)
 case atStart=>exact ⟨0,Nat.zero_le _,by simp,rfl⟩
 case round =>
  obtain ⟨i,p,rfl,rfl⟩:=hrel
  by_cases f:i<n
  . have j:(i:Int)<(n:Int):=by omega
    obtain ⟨g,q,l,-⟩:=QI H.o (by omega)
    injection l with hv1 _ hv2
    subst hv1 hv2
    have c1:w.cell? ⟨g,i,none⟩=some (.int .u8 ((b+(i:Int))%256)):=by
     rw [World.ownsRow.cellAt H.o i (by omega)]
     simp [U,mkB,mkI,f]
    have k:IntKind.i64.wrap (b+(i:Int)+1)=b+(i:Int)+1:=by rw [IntKind.wrap_i64];omega
    go_wp2_with fail
    go_round
    case rel=>exact ⟨i+1,by omega,by go_num,by go_num⟩
    case measure=>simp [intOf];omega
  . have d:i=n:=by omega
    have j:¬ (i:Int)<(n:Int):=by omega
    have m:=Hm d;clear d
    go_wp2_with fail
    go_ret
    exact ⟨by rw [m.o];rfl,rfl⟩
theorem Qt {c1 b c2:List Value}{m j:Nat}{u:Value}(h:c1.length=m)(a:b[j]?=some u):(c1++(b++c2))[m+j]?=some u:=by
 subst h;rw [List.getElem?_append_right (by omega),Nat.add_sub_cancel_left,List.getElem?_append_left (List.getElem?_eq_some_iff.1 a).1];exact a
theorem Jr {c1 a c2:List Value}{m j:Nat}{u:Value}(h:c1.length=m)(b:j<a.length):(c1++(a++c2)).set (m+j) u=c1++(a.set j u++c2):=by
 subst h;rw [List.set_append_right _ _ (by omega),Nat.add_sub_cancel_left,List.set_append_left _ _ b]
theorem Jp {c1 a c2:List Value}{m:Nat}{u:Value}(h:c1.length=m)(b:a[0]?=some u):(c1++(a++c2))[m]?=some u:=Qt (j:=0) h b
theorem Gl {c1 a c2:List Value}{m:Nat}{u:Value}(h:c1.length=m)(b:0<a.length):(c1++(a++c2)).set m u=c1++(a.set 0 u++c2):=Jr (j:=0) h b
theorem Xe {α:Type}{sz:α->Nat}(h:∀ x,1<=sz x):∀ xs:List α,xs.length<=Qb sz xs
 |[]=>Nat.zero_le _
 |x::xs=>by have:=h x;have:=Xe h xs;rw [QQ];simp;omega
def MkP {α:Type}(Rep:α->List Value->List Qc->Prop)(l:List α)(ks:List Qc)(T sz n:Nat)(v:Value)(k:Int)(B:Nat)(w0:World)(rs:List Qc)(e:Ending)(w':World):Prop:=∃ C,e=.returned (.int .i64 k)/\LR Rep l C ks/\Mo B w0 (⟨T,sz,n,v,C⟩::rs) w'
def mkLim (K:Int)(x:Qq):Qq:=⟨(K),(K+1),((K+1+1)%3==0)⟩
def Qo (x:Qq):Nat:=3
def mkGrp (K:Int)(x:Grp):Grp:=⟨(K),(K+1)⟩
def Q8 (x:Grp):Nat:=2
theorem markLim_c (l:List Qq)(a:Option Addr)(c:Nat)(C:List Value)(r:Int){B w0}{rs:List Qc}{w}(h:Mo B w0 (⟨96,3,l.length,.slice a l.length c,C⟩::rs) w)(d:LR Gz l C [])(h0:0<=r)(h1:r+Qb Qo l<=1000000000) :
    Calls Tryz.prog 97 #[.slice a l.length c,.int .i64 r] w (MkP Gz (Q5 mkLim Qo r l) [] 96 3 l.length (.slice a l.length c) (r+(Qb Qo l:Nat)) B w0 rs):=by
 have H:=Hm h;have q:=Hm d;clear h d
 go_enter Tryz.func97,Tryz.ntmps97
 go_wp2_with fail
 go_loopw [1,5] (λkv iv wr=>∃ (X Y:List Qq) (C:List Value),l=X++Y/\kv=.int .i64 (r+(Qb Qo X:Nat))/\iv=.int .i64 (X.length:Int)/\LR Gz (Q5 mkLim Qo r X++Y) C []/\Mo B w0 (⟨96,3,l.length,.slice a l.length c,C⟩::rs) wr) (λ_ i _=>l.length-(intOf i).toNat)
 case atStart=>exact ⟨[],l,C,rfl,by simp [Qb],rfl,q.o,H.o⟩
 case round =>
  obtain ⟨X,Y,C,p,rfl,rfl,d,s⟩:=hrel;clear H q;have A:=Hm p;have f:l.length=X.length+Y.length:=by rw [p];simp
  have m:Qb Qo l=Qb Qo X+Qb Qo Y:=by rw [p,QL]
  clear p
  rcases Y with _|⟨x,Y⟩
  . have F:¬ (X.length:Int)<(l.length:Int):=by simp at f;omega
    have O:Hid (l=X):=by
     show _=_
     have:=A.o;simpa using this
    have HS:=Hm s;have q:=Hm d;clear s d f m
    go_wp2_with fail
    go_ret
    refine ⟨C,by rw [O.o];rfl,?_,HS.o⟩
    have:=q.o;rw [List.append_nil] at this;rw [O.o];exact this
  . have F:(X.length:Int)<(l.length:Int):=by simp at f;omega
    obtain ⟨c1,cx,c2,V,kx,k2,rfl,y,G,Z,L⟩:=LR.zip d;obtain ⟨rfl,rfl⟩:=Z;have z:V=[]/\k2=[]:=by simpa using y.symm
    obtain ⟨rfl,rfl⟩:=z;have k:c1.length=X.length*3:=by rw [LR.len (sz:=3) (by rintro x cs rs ⟨rfl,rfl⟩;rfl) G,QP]
    obtain ⟨g,cc,hv,-⟩:=QI (show World.ownsRow _ B 96 3 (.slice a l.length c) l.length _ from s.own.head) (by omega)
    injection hv with hv1 _ hv2
    subst hv1 hv2;have v:Qo x=3:=rfl;rw [QQ,v] at m;obtain ⟨b,n⟩:∃ b:Int,b=r+(Qb Qo X:Nat):=⟨_,rfl⟩;have J:0<=b:=by omega
    have I:b+3<=1000000000:=by omega
    have af:Qb Qo X ≥ X.length:=Xe (λx=>by simp [Qo];try omega) X;have aa:IntKind.i64.wrap ((X.length:Int)+1)=(X.length:Int)+1:=by rw [IntKind.wrap_i64];omega
    have D:=Hm n;rw [<- n];clear n y;have ad:IntKind.i64.wrap (b+1)=b+1:=by rw [IntKind.wrap_i64];omega
    have ac:IntKind.i64.wrap (b+1+1)=b+1+1:=by rw [IntKind.wrap_i64];omega
    have ab:IntKind.i64.wrap (b+1+1+1)=b+1+1+1:=by rw [IntKind.wrap_i64];omega
    clear f m v;obtain ⟨y0,U⟩:=s.cell (j:=X.length*3) (by omega) (Jp k rfl);have u:=s.set (X.length*3) (.int .i64 (b));rw [Gl k (by simp)] at u
    simp only [List.set_cons_zero,List.set_cons_succ] at u
    clear s;obtain ⟨y1,S⟩:=u.cell (j:=X.length*3+1) (by omega) (Qt k (j:=1) rfl);have t:=u.set (X.length*3+1) (.int .i64 (b+1));rw [Jr k (j:=1) (by simp)] at t
    simp only [List.set_cons_zero,List.set_cons_succ] at t
    clear u;obtain ⟨y2,R⟩:=t.cell (j:=X.length*3+2) (by omega) (Qt k (j:=2) rfl);have E:=t.set (X.length*3+2) (.bool ((b+1+1)%3==0));rw [Jr k (j:=2) (by simp)] at E
    simp only [List.set_cons_zero,List.set_cons_succ] at E
    clear t;have HF:=Hm E;have HX:=Hm G;have HY:=Hm L;clear E G L d
    go_wp2_with fail
    go_roundw
    case rel =>
     refine ⟨X++[x],Y,_,by rw [A.o];simp,?_,by rw [show (((X++[x]).length:Nat):Int)=(X.length:Int)+1 by simp],?_,HF.o⟩
     . rw [QR,D.o];rw [show Qo x=3 from rfl];congr 1;push_cast;omega
     . rw [JU,List.append_assoc];have M:=LR.app HX.o (LR.app (LR.one (show Gz (mkLim b x) [.int .i64 (b),.int .i64 (b+1),.bool ((b+1+1)%3==0)] [] from ⟨rfl,rfl⟩)) HY.o);rw [D.o] at M⊢
       exact M
    case measure =>
     have:X.length<l.length:=by omega
     simp [intOf];omega
theorem markGrp_c (l:List Grp)(a:Option Addr)(c:Nat)(C:List Value)(r:Int){B w0}{rs:List Qc}{w}(h:Mo B w0 (⟨173,2,l.length,.slice a l.length c,C⟩::rs) w)(b:LR RGrp l C [])(h0:0<=r)(h1:r+Qb Q8 l<=1000000000) :
    Calls Tryz.prog 174 #[.slice a l.length c,.int .i64 r] w (MkP RGrp (Q5 mkGrp Q8 r l) [] 173 2 l.length (.slice a l.length c) (r+(Qb Q8 l:Nat)) B w0 rs):=by
 have H:=Hm h;have q:=Hm b;clear h b
 go_enter Tryz.func174,Tryz.ntmps174
 go_wp2_with fail
 go_loopw [1,5] (λkv iv wr=>∃ (X Y:List Grp) (C:List Value),l=X++Y/\kv=.int .i64 (r+(Qb Q8 X:Nat))/\iv=.int .i64 (X.length:Int)/\LR RGrp (Q5 mkGrp Q8 r X++Y) C []/\Mo B w0 (⟨173,2,l.length,.slice a l.length c,C⟩::rs) wr) (λ_ i _=>l.length-(intOf i).toNat)
 case atStart=>exact ⟨[],l,C,rfl,by simp [Qb],rfl,q.o,H.o⟩
 case round =>
  obtain ⟨X,Y,C,p,rfl,rfl,b,s⟩:=hrel;clear H q;have z:=Hm p;have d:l.length=X.length+Y.length:=by rw [p];simp
  have k:Qb Q8 l=Qb Q8 X+Qb Q8 Y:=by rw [p,QL]
  clear p
  rcases Y with _|⟨x,Y⟩
  . have E:¬ (X.length:Int)<(l.length:Int):=by simp at d;omega
    have M:Hid (l=X):=by
     show _=_
     have:=z.o;simpa using this
    have HS:=Hm s;have q:=Hm b;clear s b d k
    go_wp2_with fail
    go_ret
    refine ⟨C,by rw [M.o];rfl,?_,HS.o⟩
    have:=q.o;rw [List.append_nil] at this;rw [M.o];exact this
  . have E:(X.length:Int)<(l.length:Int):=by simp at d;omega
    obtain ⟨c1,cx,c2,S,kx,k2,rfl,v,F,U,J⟩:=LR.zip b;obtain ⟨rfl,rfl⟩:=U;have y:S=[]/\k2=[]:=by simpa using v.symm
    obtain ⟨rfl,rfl⟩:=y;have n:c1.length=X.length*2:=by rw [LR.len (sz:=2) (by rintro x cs rs ⟨rfl,rfl⟩;rfl) F,QP]
    obtain ⟨g,cc,hv,-⟩:=QI (show World.ownsRow _ B 173 2 (.slice a l.length c) l.length _ from s.own.head) (by omega)
    injection hv with hv1 _ hv2
    subst hv1 hv2;have u:Q8 x=2:=rfl;rw [QQ,u] at k;obtain ⟨f,m⟩:∃ f:Int,f=r+(Qb Q8 X:Nat):=⟨_,rfl⟩;have I:0<=f:=by omega
    have G:f+2<=1000000000:=by omega
    have ac:Qb Q8 X ≥ X.length:=Xe (λx=>by simp [Q8];try omega) X;have V:IntKind.i64.wrap ((X.length:Int)+1)=(X.length:Int)+1:=by rw [IntKind.wrap_i64];omega
    have A:=Hm m;rw [<- m];clear m v;have aa:IntKind.i64.wrap (f+1)=f+1:=by rw [IntKind.wrap_i64];omega
    have Z:IntKind.i64.wrap (f+1+1)=f+1+1:=by rw [IntKind.wrap_i64];omega
    clear d k u;obtain ⟨y0,R⟩:=s.cell (j:=X.length*2) (by omega) (Jp n rfl);have t:=s.set (X.length*2) (.int .i64 (f));rw [Gl n (by simp)] at t
    simp only [List.set_cons_zero,List.set_cons_succ] at t
    clear s;obtain ⟨y1,O⟩:=t.cell (j:=X.length*2+1) (by omega) (Qt n (j:=1) rfl);have D:=t.set (X.length*2+1) (.int .i64 (f+1));rw [Jr n (j:=1) (by simp)] at D
    simp only [List.set_cons_zero,List.set_cons_succ] at D
    clear t;have HF:=Hm D;have HX:=Hm F;have HY:=Hm J;clear D F J b
    go_wp2_with fail
    go_roundw
    case rel =>
     refine ⟨X++[x],Y,_,by rw [z.o];simp,?_,by rw [show (((X++[x]).length:Nat):Int)=(X.length:Int)+1 by simp],?_,HF.o⟩
     . rw [QR,A.o];rw [show Q8 x=2 from rfl];congr 1;push_cast;omega
     . rw [JU,List.append_assoc];have L:=LR.app HX.o (LR.app (LR.one (show RGrp (mkGrp f x) [.int .i64 (f),.int .i64 (f+1)] [] from ⟨rfl,rfl⟩)) HY.o);rw [A.o] at L⊢
       exact L
    case measure =>
     have:X.length<l.length:=by omega
     simp [intOf];omega
def dgs (n:Int)(t:ByteArray):ByteArray:=if h:0<n then dgs (n / 10) (strOfNums [48+n%10]++t) else t
termination_by n.toNat
decreasing_by omega
def mtx (k:Int):ByteArray:=if k<=0 then ⟨#[109,48]⟩ else ⟨#[109]⟩++dgs k ⟨#[]⟩
theorem conv_one (W:World)(x:Int):(convert 22 9 (.slice (some ⟨W.heap.size,0,none⟩) 1 1)).run Tryz.prog (W.alloc (.cells #[.int .u8 x] 5))=.ok (.string (strOfNums [x])) (W.alloc (.cells #[.int .u8 x] 5)):=by
 refine run_convert_bytes_arg _ 22 5 Tryz.underlying22 Tryz.underlying5 W.heap.size 0 1 1 [x] rfl (λi hi=>?_) 9 Tryz.underlying9
 obtain rfl:i=0:=by omega
 exact Qw rfl rfl
theorem XQ (k:Int)(w:World)(h0:0<=k)(h1:k<=1000000000):Calls Tryz.prog 172 #[.int .i64 k] w λe w'=>e=.returned (.string (mtx k))/\Below w.heap.size w w':=by
 by_cases d:k<=0
 . have j:Hid (mtx k=⟨#[109,48]⟩):=by
     show _=_
     rw [mtx,if_pos d]
   go_enter Tryz.func172,Tryz.ntmps172
   go_wp2
   go_ret
   exact ⟨by rw [j.o];rfl,bF⟩
 . have j:Hid (mtx k=⟨#[109]⟩++dgs k ⟨#[]⟩):=by
     show _=_
     rw [mtx,if_neg d]
   go_enter Tryz.func172,Tryz.ntmps172
   go_wp2
   go_loopw [0,3] (λq s wr=>∃ (n:Int) (t:ByteArray),0<=n/\n+(t.size:Int)<=1000000000/\q=.int .i64 n/\s=.string t/\dgs k ⟨#[]⟩=dgs n t/\Below w.heap.size w wr) (λq _ _=>(intOf q).toNat)
   case atStart=>exact ⟨k,_,h0,by simpa [ByteArray.size] using h1,rfl,rfl,rfl,bF⟩
   case round =>
    obtain ⟨n,t,m,z,rfl,rfl,b,c⟩:=hrel;clear h0 h1 d
    by_cases p:0<n
    . have v:=conv_one wr
      have l:Hid (dgs k ⟨#[]⟩=dgs (n / 10) (strOfNums [48+n%10]++t)):=by
       show _=_
       rw [b,dgs,dif_pos p]
      have y:=Hm (c.alloc c.size (.cells #[.int .u8 (48+n%10)] 5));have f:0<=n / 10:=by omega
      have u:n / 10<n:=by omega
      have A:Int.tmod n 10=n%10:=Int.tmod_eq_emod_of_nonneg m;have B:Int.tdiv n 10=n / 10:=Int.tdiv_eq_ediv_of_nonneg m;clear c b;have a:(strOfNums [48+n%10]++t).size=t.size+1:=by simp [strOfNums_size,ByteArray.size_append];omega
      have r:¬ 9223372036854775807<(strOfNums [48+n%10]).size+t.size:=by rw [strOfNums_size];simp only [List.length_cons,List.length_nil];omega
      have g:=Hm a;clear a
      go_wp2
      go_roundw
      case rel=>exact ⟨n / 10,_,f,by rw [g.o];omega,rfl,rfl,l.o,y.o⟩
      case measure=>simp [intOf];omega
    . have l:Hid (mtx k=⟨#[109]⟩++t):=by
        show _=_
        rw [j.o,b,dgs,dif_neg p]
      clear b
      go_wp2
      go_ret
      exact ⟨by rw [l.o];rfl,c⟩
def mkExp (K:Int)(x:Exp):Exp:=⟨(mtx (K)),(K+1),(K+1+1)⟩
def Q4 (x:Exp):Nat:=3
def mkImp (K:Int)(x:Imp):Imp:=⟨(mtx (K)),(mtx (K+1)),(K+1+1),(K+1+1+1),⟨(K+1+1+1+1),(K+1+1+1+1+1),((K+1+1+1+1+1+1)%3==0)⟩,⟨(K+1+1+1+1+1+1+1),((K+1+1+1+1+1+1+1+1)%3==0)⟩⟩
def Qu (x:Imp):Nat:=9
theorem markExp_c (l:List Exp)(a:Option Addr)(c:Nat)(C:List Value)(r:Int){B w0}{rs:List Qc}{w}(h:Mo B w0 (⟨111,3,l.length,.slice a l.length c,C⟩::rs) w)(d:LR RExp l C [])(h0:0<=r)(h1:r+Qb Q4 l<=1000000000) :
    Calls Tryz.prog 99 #[.slice a l.length c,.int .i64 r] w (MkP RExp (Q5 mkExp Q4 r l) [] 111 3 l.length (.slice a l.length c) (r+(Qb Q4 l:Nat)) B w0 rs):=by
 have H:=Hm h;have q:=Hm d;clear h d
 go_enter Tryz.func99,Tryz.ntmps99
 go_wp2_with fail
 go_loopw [1,5] (λkv iv wr=>∃ (X Y:List Exp) (C:List Value),l=X++Y/\kv=.int .i64 (r+(Qb Q4 X:Nat))/\iv=.int .i64 (X.length:Int)/\LR RExp (Q5 mkExp Q4 r X++Y) C []/\Mo B w0 (⟨111,3,l.length,.slice a l.length c,C⟩::rs) wr) (λ_ i _=>l.length-(intOf i).toNat)
 case atStart=>exact ⟨[],l,C,rfl,by simp [Qb],rfl,q.o,H.o⟩
 case round =>
  obtain ⟨X,Y,C,p,rfl,rfl,d,y⟩:=hrel;clear H q;have E:=Hm p;have f:l.length=X.length+Y.length:=by rw [p];simp
  have m:Qb Q4 l=Qb Q4 X+Qb Q4 Y:=by rw [p,QL]
  clear p
  rcases Y with _|⟨x,Y⟩
  . have J:¬ (X.length:Int)<(l.length:Int):=by simp at f;omega
    have U:Hid (l=X):=by
     show _=_
     have:=E.o;simpa using this
    have HS:=Hm y;have q:=Hm d;clear y d f m
    go_wp2_with fail
    go_ret
    refine ⟨C,by rw [U.o];rfl,?_,HS.o⟩
    have:=q.o;rw [List.append_nil] at this;rw [U.o];exact this
  . have J:(X.length:Int)<(l.length:Int):=by simp at f;omega
    obtain ⟨c1,cx,c2,k1,kx,k2,rfl,z,L,hx,R⟩:=LR.zip d;obtain ⟨rfl,rfl⟩:=hx;have A:k1=[]/\k2=[]:=by simpa using z.symm
    obtain ⟨rfl,rfl⟩:=A;have k:c1.length=X.length*3:=by rw [LR.len (sz:=3) (by rintro x cs rs ⟨rfl,rfl⟩;rfl) L,QP]
    obtain ⟨g,cc,hv,-⟩:=QI (show World.ownsRow _ B 111 3 (.slice a l.length c) l.length _ from y.own.head) (by omega)
    injection hv with hv1 _ hv2
    subst hv1 hv2;have v:Q4 x=3:=rfl;rw [QQ,v] at m;obtain ⟨b,n⟩:∃ b:Int,b=r+(Qb Q4 X:Nat):=⟨_,rfl⟩;have O:0<=b:=by omega
    have M:b+3<=1000000000:=by omega
    have ai:Qb Q4 X ≥ X.length:=Xe (λx=>by simp [Q4];try omega) X;have ad:IntKind.i64.wrap ((X.length:Int)+1)=(X.length:Int)+1:=by rw [IntKind.wrap_i64];omega
    have G:=Hm n;rw [<- n];clear n z;have ag:IntKind.i64.wrap (b+1)=b+1:=by rw [IntKind.wrap_i64];omega
    have af:IntKind.i64.wrap (b+1+1)=b+1+1:=by rw [IntKind.wrap_i64];omega
    have ae:IntKind.i64.wrap (b+1+1+1)=b+1+1+1:=by rw [IntKind.wrap_i64];omega
    clear f m v;have F:=Hm y;clear y
    go_wp2_with fail
    refine (XQ (b) _ (by omega) (by omega)).mono ?_
    rintro e V0 ⟨rfl,D⟩;have s:=F.o.keep D;clear D F;obtain ⟨y0,aa⟩:=s.cell (j:=X.length*3) (by omega) (Jp k rfl);have u:=s.set (X.length*3) (.string (mtx (b)));rw [Gl k (by simp)] at u
    simp only [List.set_cons_zero,List.set_cons_succ] at u
    clear s;obtain ⟨y1,Z⟩:=u.cell (j:=X.length*3+1) (by omega) (Qt k (j:=1) rfl);have t:=u.set (X.length*3+1) (.int .i64 (b+1));rw [Jr k (j:=1) (by simp)] at t
    simp only [List.set_cons_zero,List.set_cons_succ] at t
    clear u;obtain ⟨y2,V⟩:=t.cell (j:=X.length*3+2) (by omega) (Qt k (j:=2) rfl);have I:=t.set (X.length*3+2) (.int .i64 (b+1+1));rw [Jr k (j:=2) (by simp)] at I
    simp only [List.set_cons_zero,List.set_cons_succ] at I
    clear t;have HF:=Hm I;have HX:=Hm L;have HY:=Hm R;clear I L R d
    go_wp2_with fail
    go_roundw
    case rel =>
     refine ⟨X++[x],Y,_,by rw [E.o];simp,?_,by rw [show (((X++[x]).length:Nat):Int)=(X.length:Int)+1 by simp],?_,HF.o⟩
     . rw [QR,G.o];rw [show Q4 x=3 from rfl];congr 1;push_cast;omega
     . rw [JU,List.append_assoc];have S:=LR.app HX.o (LR.app (LR.one (show RExp (mkExp b x) [.string (mtx (b)),.int .i64 (b+1),.int .i64 (b+1+1)] [] from ⟨rfl,rfl⟩)) HY.o);rw [G.o] at S⊢
       exact S
    case measure =>
     have:X.length<l.length:=by omega
     simp [intOf];omega
theorem Xi {α:Type}{mk:Int->α->α}{sz:α->Nat}:∀ (xs a:List α) (k:Int),Q5 mk sz k (xs++a)=Q5 mk sz k xs++Q5 mk sz (k+Qb sz xs) a
 |[],a,k=>by simp [Q5,Qb]
 |x::xs,a,k=>by
  rw [List.cons_append,Q5,Xi xs a,Q5,List.cons_append,QQ]
  congr 3
  push_cast;omega
theorem heldLim_c (l:List Qq)(a:Option Addr)(c:Nat)(C:List Value)(r:Int)(B:Nat)(w:World)(h:w.ownsRow B 96 3 (.slice a l.length c) l.length C)(f:LR Gz (Q5 mkLim Qo r l) C [])(h0:0<=r)(h1:r+Qb Qo l<=1000000000) :
    Calls Tryz.prog 107 #[.slice a l.length c,.int .i64 r] w λe w'=>e=.returned (.int .i64 (r+(Qb Qo l:Nat)))/\w=w':=by
 have H:=Hm h;have z:=Hm f;clear h f
 go_enter Tryz.func107,Tryz.ntmps107
 go_wp2_with fail
 go_loop [1,5] (λkv iv=>∃ (X Y:List Qq),l=X++Y/\kv=.int .i64 (r+(Qb Qo X:Nat))/\iv=.int .i64 (X.length:Int)) (λ_ i=>l.length-(intOf i).toNat)
 case atStart=>exact ⟨[],l,rfl,by simp [Qb],rfl⟩
 case round =>
  obtain ⟨X,Y,p,rfl,rfl⟩:=hrel;have s:=Hm p;have k:l.length=X.length+Y.length:=by rw [p];simp
  have q:Qb Qo l=Qb Qo X+Qb Qo Y:=by rw [p,QL]
  clear p
  rcases Y with _|⟨x,Y⟩
  . have y:¬ (X.length:Int)<(l.length:Int):=by simp at k;omega
    have U:Hid (l=X):=by
     show _=_
     have:=s.o;simpa using this
    clear k q
    go_wp2_with fail
    go_ret
    exact ⟨by rw [U.o];rfl,rfl⟩
  . have y:(X.length:Int)<(l.length:Int):=by simp at k;omega
    have f:=z.o;rw [s.o,Xi,Q5] at f;obtain ⟨c1,cx,c2,k1,kx,k2,t,v,F,G,R⟩:=LR.zip f;obtain ⟨m,rfl⟩:=G;have n:c1.length=X.length*3:=by rw [LR.len (sz:=3) (by rintro x cs rs ⟨rfl,rfl⟩;rfl) F,QP]
    obtain ⟨g,cc,O,-⟩:=QI H.o (by omega)
    injection O with hv1 _ hv2
    subst hv1 hv2;have u:Qo x=3:=rfl;rw [QQ,u] at q;obtain ⟨d,b⟩:∃ d:Int,d=r+(Qb Qo X:Nat):=⟨_,rfl⟩;have E:0<=d:=by omega
    have D:d+3<=1000000000:=by omega
    have S:Qb Qo X ≥ X.length:=Xe (λx=>by simp [Qo];try omega) X;have I:IntKind.i64.wrap ((X.length:Int)+1)=(X.length:Int)+1:=by rw [IntKind.wrap_i64];omega
    have A:=Hm b;rw [<- b] at m;rw [<- b];clear b v f F R;have M:IntKind.i64.wrap (d+1)=d+1:=by rw [IntKind.wrap_i64];omega
    have L:IntKind.i64.wrap (d+1+1)=d+1+1:=by rw [IntKind.wrap_i64];omega
    have J:IntKind.i64.wrap (d+1+1+1)=d+1+1+1:=by rw [IntKind.wrap_i64];omega
    have y0:w.cell? ⟨g,X.length*3,none⟩=some (.int .i64 (d)):=(World.ownsRow.cellAt H.o (X.length*3) (by omega)).trans (by rw [t,m];exact Jp n rfl);have Z:w.cell? ⟨g,X.length*3+1,none⟩=some (.int .i64 (d+1)):=(World.ownsRow.cellAt H.o (X.length*3+1) (by omega)).trans (by rw [t,m];exact Qt n (j:=1) rfl);have V:w.cell? ⟨g,X.length*3+2,none⟩=some (.bool ((d+1+1)%3==0)):=(World.ownsRow.cellAt H.o (X.length*3+2) (by omega)).trans (by rw [t,m];exact Qt n (j:=2) rfl);clear t m n
    go_wp2_with fail
    go_round
    case rel =>
     refine ⟨X++[x],Y,by rw [s.o];simp,?_,by rw [show (((X++[x]).length:Nat):Int)=(X.length:Int)+1 by simp]⟩
     rw [QR,A.o];rw [show Qo x=3 from rfl];congr 1;push_cast;omega
    case measure =>
     have:X.length<l.length:=by omega
     simp [intOf];omega
theorem heldGrp_c (l:List Grp)(a:Option Addr)(c:Nat)(C:List Value)(q:Int)(B:Nat)(w:World)(h:w.ownsRow B 173 2 (.slice a l.length c) l.length C)(d:LR RGrp (Q5 mkGrp Q8 q l) C [])(h0:0<=q)(h1:q+Qb Q8 l<=1000000000) :
    Calls Tryz.prog 176 #[.slice a l.length c,.int .i64 q] w λe w'=>e=.returned (.int .i64 (q+(Qb Q8 l:Nat)))/\w=w':=by
 have H:=Hm h;have z:=Hm d;clear h d
 go_enter Tryz.func176,Tryz.ntmps176
 go_wp2_with fail
 go_loop [1,5] (λkv iv=>∃ (X Y:List Grp),l=X++Y/\kv=.int .i64 (q+(Qb Q8 X:Nat))/\iv=.int .i64 (X.length:Int)) (λ_ i=>l.length-(intOf i).toNat)
 case atStart=>exact ⟨[],l,rfl,by simp [Qb],rfl⟩
 case round =>
  obtain ⟨X,Y,n,rfl,rfl⟩:=hrel;have s:=Hm n;have f:l.length=X.length+Y.length:=by rw [n];simp
  have p:Qb Q8 l=Qb Q8 X+Qb Q8 Y:=by rw [n,QL]
  clear n
  rcases Y with _|⟨x,Y⟩
  . have v:¬ (X.length:Int)<(l.length:Int):=by simp at f;omega
    have S:Hid (l=X):=by
     show _=_
     have:=s.o;simpa using this
    clear f p
    go_wp2_with fail
    go_ret
    exact ⟨by rw [S.o];rfl,rfl⟩
  . have v:(X.length:Int)<(l.length:Int):=by simp at f;omega
    have d:=z.o;rw [s.o,Xi,Q5] at d;obtain ⟨c1,cx,c2,k1,Z,k2,y,u,F,G,O⟩:=LR.zip d;obtain ⟨m,rfl⟩:=G;have r:c1.length=X.length*2:=by rw [LR.len (sz:=2) (by rintro x cs rs ⟨rfl,rfl⟩;rfl) F,QP]
    obtain ⟨g,cc,M,-⟩:=QI H.o (by omega)
    injection M with hv1 _ hv2
    subst hv1 hv2;have t:Q8 x=2:=rfl;rw [QQ,t] at p;obtain ⟨k,b⟩:∃ k:Int,k=q+(Qb Q8 X:Nat):=⟨_,rfl⟩;have E:0<=k:=by omega
    have D:k+2<=1000000000:=by omega
    have R:Qb Q8 X ≥ X.length:=Xe (λx=>by simp [Q8];try omega) X;have I:IntKind.i64.wrap ((X.length:Int)+1)=(X.length:Int)+1:=by rw [IntKind.wrap_i64];omega
    have A:=Hm b;rw [<- b] at m;rw [<- b];clear b u d F O;have L:IntKind.i64.wrap (k+1)=k+1:=by rw [IntKind.wrap_i64];omega
    have J:IntKind.i64.wrap (k+1+1)=k+1+1:=by rw [IntKind.wrap_i64];omega
    have V:w.cell? ⟨g,X.length*2,none⟩=some (.int .i64 (k)):=(World.ownsRow.cellAt H.o (X.length*2) (by omega)).trans (by rw [y,m];exact Jp r rfl);have U:w.cell? ⟨g,X.length*2+1,none⟩=some (.int .i64 (k+1)):=(World.ownsRow.cellAt H.o (X.length*2+1) (by omega)).trans (by rw [y,m];exact Qt r (j:=1) rfl);clear y m r
    go_wp2_with fail
    go_round
    case rel =>
     refine ⟨X++[x],Y,by rw [s.o];simp,?_,by rw [show (((X++[x]).length:Nat):Int)=(X.length:Int)+1 by simp]⟩
     rw [QR,A.o];rw [show Q8 x=2 from rfl];congr 1;push_cast;omega
    case measure =>
     have:X.length<l.length:=by omega
     simp [intOf];omega
theorem markImp_c (l:List Imp)(a:Option Addr)(c:Nat)(C:List Value)(A:Int){B w0}{rs:List Qc}{w}(h:Mo B w0 (⟨100,9,l.length,.slice a l.length c,C⟩::rs) w)(p:LR RImp l C [])(h0:0<=A)(h1:A+Qb Qu l<=1000000000) :
    Calls Tryz.prog 95 #[.slice a l.length c,.int .i64 A] w (MkP RImp (Q5 mkImp Qu A l) [] 100 9 l.length (.slice a l.length c) (A+(Qb Qu l:Nat)) B w0 rs):=by
 have H:=Hm h;have z:=Hm p;clear h p
 go_enter Tryz.func95,Tryz.ntmps95
 go_wp2_with fail
 go_loopw [1,5] (λkv iv wr=>∃ (X Y:List Imp) (C:List Value),l=X++Y/\kv=.int .i64 (A+(Qb Qu X:Nat))/\iv=.int .i64 (X.length:Int)/\LR RImp (Q5 mkImp Qu A X++Y) C []/\Mo B w0 (⟨100,9,l.length,.slice a l.length c,C⟩::rs) wr) (λ_ i _=>l.length-(intOf i).toNat)
 case atStart=>exact ⟨[],l,C,rfl,by simp [Qb],rfl,z.o,H.o⟩
 case round =>
  obtain ⟨X,Y,C,u,rfl,rfl,p,E⟩:=hrel;clear H z;have J:=Hm u;have q:l.length=X.length+Y.length:=by rw [u];simp
  have r:Qb Qu l=Qb Qu X+Qb Qu Y:=by rw [u,QL]
  clear u
  rcases Y with _|⟨x,Y⟩
  . have ac:¬ (X.length:Int)<(l.length:Int):=by simp at q;omega
    have HE:Hid (l=X):=by
     show _=_
     have:=J.o;simpa using this
    have f:=Hm E;have z:=Hm p;clear E p q r
    go_wp2_with fail
    go_ret
    refine ⟨C,by rw [HE.o];rfl,?_,f.o⟩
    have:=z.o;rw [List.append_nil] at this;rw [HE.o];exact this
  . have ac:(X.length:Int)<(l.length:Int):=by simp at q;omega
    obtain ⟨c1,cx,v,k1,kx,k2,rfl,F,hX,hx,hY⟩:=LR.zip p;obtain ⟨rfl,rfl⟩:=hx;have G:k1=[]/\k2=[]:=by simpa using F.symm
    obtain ⟨rfl,rfl⟩:=G;have d:c1.length=X.length*9:=by rw [LR.len (sz:=9) (by rintro x cs rs ⟨rfl,rfl⟩;rfl) hX,QP]
    obtain ⟨g,cc,hv,-⟩:=QI (show World.ownsRow _ B 100 9 (.slice a l.length c) l.length _ from E.own.head) (by omega)
    injection hv with hv1 _ hv2
    subst hv1 hv2;have D:Qu x=9:=rfl;rw [QQ,D] at r;obtain ⟨b,s⟩:∃ b:Int,b=A+(Qb Qu X:Nat):=⟨_,rfl⟩;have af:0<=b:=by omega
    have ae:b+9<=1000000000:=by omega
    have aq:Qb Qu X ≥ X.length:=Xe (λx=>by simp [Qu];try omega) X;have ao:IntKind.i64.wrap ((X.length:Int)+1)=(X.length:Int)+1:=by rw [IntKind.wrap_i64];omega
    have M:=Hm s;rw [<- s];clear s F;have ab:IntKind.i64.wrap (b+1)=b+1:=by rw [IntKind.wrap_i64];omega
    have aa:IntKind.i64.wrap (b+1+1)=b+1+1:=by rw [IntKind.wrap_i64];omega
    have Z:IntKind.i64.wrap (b+1+1+1)=b+1+1+1:=by rw [IntKind.wrap_i64];omega
    have V:IntKind.i64.wrap (b+1+1+1+1)=b+1+1+1+1:=by rw [IntKind.wrap_i64];omega
    have U:IntKind.i64.wrap (b+1+1+1+1+1)=b+1+1+1+1+1:=by rw [IntKind.wrap_i64];omega
    have S:IntKind.i64.wrap (b+1+1+1+1+1+1)=b+1+1+1+1+1+1:=by rw [IntKind.wrap_i64];omega
    have R:IntKind.i64.wrap (b+1+1+1+1+1+1+1)=b+1+1+1+1+1+1+1:=by rw [IntKind.wrap_i64];omega
    have O:IntKind.i64.wrap (b+1+1+1+1+1+1+1+1)=b+1+1+1+1+1+1+1+1:=by rw [IntKind.wrap_i64];omega
    clear q r D;have m:=E;clear E;clear ab;clear aa;clear Z;clear V;clear U;clear S;clear R;clear O;have L:=Hm m;clear m
    go_wp2_with fail
    refine (XQ (b) _ (by omega) (by omega)).mono ?_
    rintro e au ⟨rfl,I⟩;have m:=L.o.keep I;clear I L;obtain ⟨y,k⟩:=m.cell (j:=X.length*9) (by omega) (Jp d rfl);have t:=m.set (X.length*9) (.string (mtx (b)));rw [Gl d (by simp)] at t
    simp only [List.set_cons_zero,List.set_cons_succ] at t
    have f:=Hm t;clear t m
    go_upto_region 5 with fail
    refine Ql (λW=>Mo B w0 (⟨100,9,l.length,.slice (some ⟨g,0,none⟩) l.length c,c1++([.string (mtx (b)),.string x.nm,.int .i64 x.kind,.int .i64 x.ty,.int .i64 x.lim.min,.int .i64 x.lim.max,.bool x.lim.has,.int .i64 x.gl.ty,.bool x.gl.mu]++v)⟩::rs) W) f.o ?_
    rintro V0 m;clear f y k;have n:IntKind.i64.wrap (b+1)=b+1:=by rw [IntKind.wrap_i64];omega
    go_upto_region 6 with fail
    clear n;have L:=Hm m;clear m
    go_wp2_with fail
    refine (XQ (b+1) _ (by omega) (by omega)).mono ?_
    rintro e ar ⟨rfl,I⟩;have m:=L.o.keep I;clear I L;obtain ⟨y,k⟩:=m.cell (j:=X.length*9+1) (by omega) (Qt d (j:=1) rfl);have t:=m.set (X.length*9+1) (.string (mtx (b+1)));rw [Jr d (j:=1) (by simp)] at t
    simp only [List.set_cons_zero,List.set_cons_succ] at t
    have f:=Hm t;clear t m
    go_upto_region 7 with fail
    refine Ql (λW=>Mo B w0 (⟨100,9,l.length,.slice (some ⟨g,0,none⟩) l.length c,c1++([.string (mtx (b)),.string (mtx (b+1)),.int .i64 x.kind,.int .i64 x.ty,.int .i64 x.lim.min,.int .i64 x.lim.max,.bool x.lim.has,.int .i64 x.gl.ty,.bool x.gl.mu]++v)⟩::rs) W) f.o ?_
    rintro V1 m;clear f y k;have n:IntKind.i64.wrap (b+1+1)=b+1+1:=by rw [IntKind.wrap_i64];omega
    go_upto_region 8 with fail
    clear n;obtain ⟨y,k⟩:=m.cell (j:=X.length*9+2) (by omega) (Qt d (j:=2) rfl);have t:=m.set (X.length*9+2) (.int .i64 (b+1+1));rw [Jr d (j:=2) (by simp)] at t
    simp only [List.set_cons_zero,List.set_cons_succ] at t
    have f:=Hm t;clear t m
    go_upto_region 9 with fail
    refine Ql (λW=>Mo B w0 (⟨100,9,l.length,.slice (some ⟨g,0,none⟩) l.length c,c1++([.string (mtx (b)),.string (mtx (b+1)),.int .i64 (b+1+1),.int .i64 x.ty,.int .i64 x.lim.min,.int .i64 x.lim.max,.bool x.lim.has,.int .i64 x.gl.ty,.bool x.gl.mu]++v)⟩::rs) W) f.o ?_
    rintro V2 m;clear f y k;have n:IntKind.i64.wrap (b+1+1+1)=b+1+1+1:=by rw [IntKind.wrap_i64];omega
    go_upto_region 10 with fail
    clear n;obtain ⟨y,k⟩:=m.cell (j:=X.length*9+3) (by omega) (Qt d (j:=3) rfl);have t:=m.set (X.length*9+3) (.int .i64 (b+1+1+1));rw [Jr d (j:=3) (by simp)] at t
    simp only [List.set_cons_zero,List.set_cons_succ] at t
    have f:=Hm t;clear t m
    go_upto_region 11 with fail
    refine Ql (λW=>Mo B w0 (⟨100,9,l.length,.slice (some ⟨g,0,none⟩) l.length c,c1++([.string (mtx (b)),.string (mtx (b+1)),.int .i64 (b+1+1),.int .i64 (b+1+1+1),.int .i64 x.lim.min,.int .i64 x.lim.max,.bool x.lim.has,.int .i64 x.gl.ty,.bool x.gl.mu]++v)⟩::rs) W) f.o ?_
    rintro V3 m;clear f y k;have n:IntKind.i64.wrap (b+1+1+1+1)=b+1+1+1+1:=by rw [IntKind.wrap_i64];omega
    go_upto_region 12 with fail
    clear n;obtain ⟨y,k⟩:=m.cell (j:=X.length*9+4) (by omega) (Qt d (j:=4) rfl);have t:=m.set (X.length*9+4) (.int .i64 (b+1+1+1+1));rw [Jr d (j:=4) (by simp)] at t
    simp only [List.set_cons_zero,List.set_cons_succ] at t
    have f:=Hm t;clear t m
    go_upto_region 13 with fail
    refine Ql (λW=>Mo B w0 (⟨100,9,l.length,.slice (some ⟨g,0,none⟩) l.length c,c1++([.string (mtx (b)),.string (mtx (b+1)),.int .i64 (b+1+1),.int .i64 (b+1+1+1),.int .i64 (b+1+1+1+1),.int .i64 x.lim.max,.bool x.lim.has,.int .i64 x.gl.ty,.bool x.gl.mu]++v)⟩::rs) W) f.o ?_
    rintro V4 m;clear f y k;have n:IntKind.i64.wrap (b+1+1+1+1+1)=b+1+1+1+1+1:=by rw [IntKind.wrap_i64];omega
    go_upto_region 14 with fail
    clear n;obtain ⟨y,k⟩:=m.cell (j:=X.length*9+5) (by omega) (Qt d (j:=5) rfl);have t:=m.set (X.length*9+5) (.int .i64 (b+1+1+1+1+1));rw [Jr d (j:=5) (by simp)] at t
    simp only [List.set_cons_zero,List.set_cons_succ] at t
    have f:=Hm t;clear t m
    go_upto_region 15 with fail
    refine Ql (λW=>Mo B w0 (⟨100,9,l.length,.slice (some ⟨g,0,none⟩) l.length c,c1++([.string (mtx (b)),.string (mtx (b+1)),.int .i64 (b+1+1),.int .i64 (b+1+1+1),.int .i64 (b+1+1+1+1),.int .i64 (b+1+1+1+1+1),.bool x.lim.has,.int .i64 x.gl.ty,.bool x.gl.mu]++v)⟩::rs) W) f.o ?_
    rintro V5 m;clear f y k;have n:IntKind.i64.wrap (b+1+1+1+1+1+1)=b+1+1+1+1+1+1:=by rw [IntKind.wrap_i64];omega
    go_upto_region 16 with fail
    clear n;obtain ⟨y,k⟩:=m.cell (j:=X.length*9+6) (by omega) (Qt d (j:=6) rfl);have t:=m.set (X.length*9+6) (.bool ((b+1+1+1+1+1+1)%3==0));rw [Jr d (j:=6) (by simp)] at t
    simp only [List.set_cons_zero,List.set_cons_succ] at t
    have f:=Hm t;clear t m
    go_upto_region 17 with fail
    refine Ql (λW=>Mo B w0 (⟨100,9,l.length,.slice (some ⟨g,0,none⟩) l.length c,c1++([.string (mtx (b)),.string (mtx (b+1)),.int .i64 (b+1+1),.int .i64 (b+1+1+1),.int .i64 (b+1+1+1+1),.int .i64 (b+1+1+1+1+1),.bool ((b+1+1+1+1+1+1)%3==0),.int .i64 x.gl.ty,.bool x.gl.mu]++v)⟩::rs) W) f.o ?_
    rintro V6 m;clear f y k;have n:IntKind.i64.wrap (b+1+1+1+1+1+1+1)=b+1+1+1+1+1+1+1:=by rw [IntKind.wrap_i64];omega
    go_upto_region 18 with fail
    clear n;obtain ⟨y,k⟩:=m.cell (j:=X.length*9+7) (by omega) (Qt d (j:=7) rfl);have t:=m.set (X.length*9+7) (.int .i64 (b+1+1+1+1+1+1+1));rw [Jr d (j:=7) (by simp)] at t
    simp only [List.set_cons_zero,List.set_cons_succ] at t
    have f:=Hm t;clear t m
    go_upto_region 19 with fail
    refine Ql (λW=>Mo B w0 (⟨100,9,l.length,.slice (some ⟨g,0,none⟩) l.length c,c1++([.string (mtx (b)),.string (mtx (b+1)),.int .i64 (b+1+1),.int .i64 (b+1+1+1),.int .i64 (b+1+1+1+1),.int .i64 (b+1+1+1+1+1),.bool ((b+1+1+1+1+1+1)%3==0),.int .i64 (b+1+1+1+1+1+1+1),.bool x.gl.mu]++v)⟩::rs) W) f.o ?_
    rintro V7 m;clear f y k;have n:IntKind.i64.wrap (b+1+1+1+1+1+1+1+1)=b+1+1+1+1+1+1+1+1:=by rw [IntKind.wrap_i64];omega
    go_upto_region 20 with fail
    clear n;obtain ⟨y,k⟩:=m.cell (j:=X.length*9+8) (by omega) (Qt d (j:=8) rfl);have t:=m.set (X.length*9+8) (.bool ((b+1+1+1+1+1+1+1+1)%3==0));rw [Jr d (j:=8) (by simp)] at t
    simp only [List.set_cons_zero,List.set_cons_succ] at t
    have f:=Hm t;clear t m
    go_upto_region 21 with fail
    refine Ql (λW=>Mo B w0 (⟨100,9,l.length,.slice (some ⟨g,0,none⟩) l.length c,c1++([.string (mtx (b)),.string (mtx (b+1)),.int .i64 (b+1+1),.int .i64 (b+1+1+1),.int .i64 (b+1+1+1+1),.int .i64 (b+1+1+1+1+1),.bool ((b+1+1+1+1+1+1)%3==0),.int .i64 (b+1+1+1+1+1+1+1),.bool ((b+1+1+1+1+1+1+1+1)%3==0)]++v)⟩::rs) W) f.o ?_
    rintro V8 m;clear f y k;have n:IntKind.i64.wrap (b+1+1+1+1+1+1+1+1+1)=b+1+1+1+1+1+1+1+1+1:=by rw [IntKind.wrap_i64];omega
    go_upto_region 3 with fail
    clear n;have HF:=Hm m;have HX:=Hm hX;have HY:=Hm hY;clear m hX hY p
    go_wp2_with fail
    go_roundw
    case rel =>
     refine ⟨X++[x],Y,_,by rw [J.o];simp,?_,by rw [show (((X++[x]).length:Nat):Int)=(X.length:Int)+1 by simp],?_,HF.o⟩
     . rw [QR,M.o];rw [show Qu x=9 from rfl];congr 1;push_cast;omega
     . rw [JU,List.append_assoc];have h9:=LR.app HX.o (LR.app (LR.one (show RImp (mkImp b x) [.string (mtx (b)),.string (mtx (b+1)),.int .i64 (b+1+1),.int .i64 (b+1+1+1),.int .i64 (b+1+1+1+1),.int .i64 (b+1+1+1+1+1),.bool ((b+1+1+1+1+1+1)%3==0),.int .i64 (b+1+1+1+1+1+1+1),.bool ((b+1+1+1+1+1+1+1+1)%3==0)] [] from ⟨rfl,rfl⟩)) HY.o);rw [M.o] at h9⊢
       exact h9
    case measure =>
     have:X.length<l.length:=by omega
     simp [intOf];omega
end Go.Proofs.YtedcmcdbejjgcaaGreat.Ms
