import Derived.Test.YtedcmcdbejjgcaaGreatGaa
import Derived.Test.YtedcmcdbejjgcaaGreatGbw
set_option linter.all false
set_option maxHeartbeats 400000000
set_option maxRecDepth 100000
namespace Go.Proofs.YtedcmcdbejjgcaaGreat.Ms
open Go.RowKit Go.Sort
theorem markFT_c (l:List Q1)(a:Option Addr)(c:Nat)(C:List Value)(K:List Qc)(z:Int){B w0}{rs:List Qc}{w}(h:Mo B w0 (⟨92,2,l.length,.slice a l.length c,C⟩::(K++rs)) w)(p:LR RFT l C K)(hn:l.length<=1000000000)(h0:0<=z)(h1:z+Qb QT l<=1000000000) :
    Calls Tryz.prog 94 #[.slice a l.length c,.int .i64 z] w (MkQ RFT (Q5 mkFT QT z l) 92 2 l.length (.slice a l.length c) (z+(Qb QT l:Nat)) B w0 rs):=by
 have H:=Hm h;have v:=Hm p;clear h p
 go_enter Tryz.func94,Tryz.ntmps94
 go_wp2_with fail
 go_loopw [1,5] (λkv iv wr=>∃ (X Y:List Q1) (C:List Value) (K:List Qc),l=X++Y/\kv=.int .i64 (z+(Qb QT X:Nat))/\iv=.int .i64 (X.length:Int)/\LR RFT (Q5 mkFT QT z X++Y) C K/\Mo B w0 (⟨92,2,l.length,.slice a l.length c,C⟩::(K++rs)) wr) (λ_ i _=>l.length-(intOf i).toNat)
 case atStart=>exact ⟨[],l,C,K,rfl,by simp [Qb],rfl,v.o,H.o⟩
 case round =>
  obtain ⟨X,Y,C,K,u,rfl,rfl,p,D⟩:=hrel;clear H v;have L:=Hm u;have q:l.length=X.length+Y.length:=by rw [u];simp
  have s:Qb QT l=Qb QT X+Qb QT Y:=by rw [u,QL]
  clear u
  rcases Y with _|⟨x,Y⟩
  . have S:¬ (X.length:Int)<(l.length:Int):=by simp at q;omega
    have HE:Hid (l=X):=by
     show _=_
     have:=L.o;simpa using this
    have HS:=Hm D;have v:=Hm p;clear D p q s
    go_wp2_with fail
    go_ret
    refine ⟨C,K,by rw [HE.o];rfl,?_,HS.o⟩
    have:=v.o;rw [List.append_nil] at this;rw [HE.o];exact this
  . have S:(X.length:Int)<(l.length:Int):=by simp at q;omega
    obtain ⟨c1,cx,E,A,kx,k2,rfl,rfl,U,hx,hY⟩:=LR.zip p;obtain ⟨v0,v1,rfl,rfl⟩:=hx;have J:c1.length=X.length*2:=by rw [LR.len (sz:=2) len_RFT U,QP]
    obtain ⟨g,cc,hv,-⟩:=QI (show World.ownsRow _ B 92 2 (.slice a l.length c) l.length _ from D.own.head) (by omega)
    injection hv with hv1 _ hv2
    subst hv1 hv2;obtain ⟨k,d,rfl⟩:∃ a' d',v0=.slice a' x.ps.length d':=QJ (D.row (r:=⟨2,1,x.ps.length,v0,I x.ps⟩) (by simp [nR,bR]));obtain ⟨f,b,rfl⟩:∃ a' d',v1=.slice a' x.rs.length d':=QJ (D.row (r:=⟨2,1,x.rs.length,v1,I x.rs⟩) (by simp [nR,bR]));have G:QT x=0+List.length x.ps+List.length x.rs:=rfl;rw [QQ,G] at s;obtain ⟨n,t⟩:∃ n:Int,n=z+(Qb QT X:Nat):=⟨_,rfl⟩;have Z:0<=n:=by omega
    have V:n+0+(x.ps.length:Int)+(x.rs.length:Int)<=1000000000:=by omega
    have ad:IntKind.i64.wrap ((X.length:Int)+1)=(X.length:Int)+1:=by rw [IntKind.wrap_i64];omega
    have O:=Hm t;rw [<- t];clear t;clear q s G p;have HX:=Hm U;have HY:=Hm hY;clear U hY;have m:Mo B w0 (⟨92,2,l.length,.slice (some ⟨g,0,none⟩) l.length c,c1++([(.slice k x.ps.length d),(.slice f x.rs.length b)]++E)⟩::((A++([⟨2,1,x.ps.length,(.slice k x.ps.length d),I x.ps⟩,⟨2,1,x.rs.length,(.slice f x.rs.length b),I x.rs⟩]++k2))++rs)) wr:=D;clear D;obtain ⟨y,R⟩:=m.cell (j:=X.length*2) (by omega) (Jp J rfl);have M:=Hm (m.perm (pm_out (⟨92,2,l.length,.slice (some ⟨g,0,none⟩) l.length c,c1++([(.slice k x.ps.length d),(.slice f x.rs.length b)]++E)⟩) (⟨2,1,x.ps.length,(.slice k x.ps.length d),I x.ps⟩) A [] [] [⟨2,1,x.rs.length,(.slice f x.rs.length b),I x.rs⟩] k2 rs));clear m
    go_wp2_with fail
    refine (markI_c x.ps k d (n) M.o (by omega) (by omega)).mono ?_
    rintro e V0 ⟨rfl,F⟩;have m:Mo B w0 (⟨92,2,l.length,.slice (some ⟨g,0,none⟩) l.length c,c1++([(.slice k x.ps.length d),(.slice f x.rs.length b)]++E)⟩::((A++([⟨2,1,x.ps.length,(.slice k x.ps.length d),I (mkI (n) x.ps.length)⟩,⟨2,1,x.rs.length,(.slice f x.rs.length b),I x.rs⟩]++k2))++rs)) V0:=F.perm (pm_out (⟨92,2,l.length,.slice (some ⟨g,0,none⟩) l.length c,c1++([(.slice k x.ps.length d),(.slice f x.rs.length b)]++E)⟩) (⟨2,1,x.ps.length,(.slice k x.ps.length d),I (mkI (n) x.ps.length)⟩) A [] [] [⟨2,1,x.rs.length,(.slice f x.rs.length b),I x.rs⟩] k2 rs).symm;clear F M y R
    go_upto_region 5 with fail
    obtain ⟨y,R⟩:=m.cell (j:=X.length*2+1) (by omega) (Qt J (j:=1) rfl);have M:=Hm (m.perm (Xf (⟨92,2,l.length,.slice (some ⟨g,0,none⟩) l.length c,c1++([(.slice k x.ps.length d),(.slice f x.rs.length b)]++E)⟩) (⟨2,1,x.rs.length,(.slice f x.rs.length b),I x.rs⟩) A [⟨2,1,x.ps.length,(.slice k x.ps.length d),I (mkI (n) x.ps.length)⟩] [] k2 rs));clear m
    go_wp2_with fail
    refine (markI_c x.rs f b (n+(x.ps.length:Int)) M.o (by omega) (by omega)).mono ?_
    rintro e V1 ⟨rfl,F⟩;have m:Mo B w0 (⟨92,2,l.length,.slice (some ⟨g,0,none⟩) l.length c,c1++([(.slice k x.ps.length d),(.slice f x.rs.length b)]++E)⟩::((A++([⟨2,1,x.ps.length,(.slice k x.ps.length d),I (mkI (n) x.ps.length)⟩,⟨2,1,x.rs.length,(.slice f x.rs.length b),I (mkI (n+(x.ps.length:Int)) x.rs.length)⟩]++k2))++rs)) V1:=F.perm (Xf (⟨92,2,l.length,.slice (some ⟨g,0,none⟩) l.length c,c1++([(.slice k x.ps.length d),(.slice f x.rs.length b)]++E)⟩) (⟨2,1,x.rs.length,(.slice f x.rs.length b),I (mkI (n+(x.ps.length:Int)) x.rs.length)⟩) A [⟨2,1,x.ps.length,(.slice k x.ps.length d),I (mkI (n) x.ps.length)⟩] [] k2 rs).symm;clear F M y R
    go_upto_region 3 with fail
    have HF:=Hm m;clear m
    go_wp2_with fail
    go_roundw
    case rel =>
     refine ⟨X++[x],Y,_,_,by rw [L.o];simp,?_,by rw [show (((X++[x]).length:Nat):Int)=(X.length:Int)+1 by simp],?_,HF.o⟩
     . rw [QR,O.o];rw [show QT x=0+List.length x.ps+List.length x.rs from rfl];congr 1;push_cast;omega
     . rw [JU,List.append_assoc];have hr:RFT (mkFT n x) [(.slice k x.ps.length d),(.slice f x.rs.length b)] [⟨2,1,x.ps.length,(.slice k x.ps.length d),I (mkI (n) x.ps.length)⟩,⟨2,1,x.rs.length,(.slice f x.rs.length b),I (mkI (n+(x.ps.length:Int)) x.rs.length)⟩]:=⟨_,_,rfl,by simp [nR,XA,mkFT]⟩;have h9:=LR.app HX.o (LR.app (LR.one hr) HY.o);rw [<- O.o]
       exact h9
    case measure =>
     have:X.length<l.length:=by omega
     simp [intOf];omega
theorem markCus_c (l:List Cus)(a:Option Addr)(c:Nat)(C:List Value)(K:List Qc)(z:Int){B w0}{rs:List Qc}{w}(h:Mo B w0 (⟨72,3,l.length,.slice a l.length c,C⟩::(K++rs)) w)(d:LR RCus l C K)(hn:l.length<=1000000000)(h0:0<=z)(h1:z+Qb Ju l<=1000000000) :
    Calls Tryz.prog 103 #[.slice a l.length c,.int .i64 z] w (MkQ RCus (Q5 mkCus Ju z l) 72 3 l.length (.slice a l.length c) (z+(Qb Ju l:Nat)) B w0 rs):=by
 have H:=Hm h;have v:=Hm d;clear h d
 go_enter Tryz.func103,Tryz.ntmps103
 go_wp2_with fail
 go_loopw [1,5] (λkv iv wr=>∃ (X Y:List Cus) (C:List Value) (K:List Qc),l=X++Y/\kv=.int .i64 (z+(Qb Ju X:Nat))/\iv=.int .i64 (X.length:Int)/\LR RCus (Q5 mkCus Ju z X++Y) C K/\Mo B w0 (⟨72,3,l.length,.slice a l.length c,C⟩::(K++rs)) wr) (λ_ i _=>l.length-(intOf i).toNat)
 case atStart=>exact ⟨[],l,C,K,rfl,by simp [Qb],rfl,v.o,H.o⟩
 case round =>
  obtain ⟨X,Y,C,K,u,rfl,rfl,d,E⟩:=hrel;clear H v;have J:=Hm u;have n:l.length=X.length+Y.length:=by rw [u];simp
  have p:Qb Ju l=Qb Ju X+Qb Ju Y:=by rw [u,QL]
  clear u
  rcases Y with _|⟨x,Y⟩
  . have O:¬ (X.length:Int)<(l.length:Int):=by simp at n;omega
    have HE:Hid (l=X):=by
     show _=_
     have:=J.o;simpa using this
    have A:=Hm E;have v:=Hm d;clear E d n p
    go_wp2_with fail
    go_ret
    refine ⟨C,K,by rw [HE.o];rfl,?_,A.o⟩
    have:=v.o;rw [List.append_nil] at this;rw [HE.o];exact this
  . have O:(X.length:Int)<(l.length:Int):=by simp at n;omega
    obtain ⟨c1,cx,F,D,kx,k2,rfl,rfl,R,hx,hY⟩:=LR.zip d;obtain ⟨v2,rfl,rfl⟩:=hx;have s:c1.length=X.length*3:=by rw [LR.len (sz:=3) len_RCus R,QP]
    obtain ⟨g,cc,hv,-⟩:=QI (show World.ownsRow _ B 72 3 (.slice a l.length c) l.length _ from E.own.head) (by omega)
    injection hv with hv1 _ hv2
    subst hv1 hv2;obtain ⟨k,f,rfl⟩:∃ a' d',v2=.slice a' x.bs.length d':=QJ (E.row (r:=⟨5,1,x.bs.length,v2,U x.bs⟩) (by simp [nR,bR]));have I:Ju x=2+List.length x.bs:=rfl;rw [QQ,I] at p;obtain ⟨b,q⟩:∃ b:Int,b=z+(Qb Ju X:Nat):=⟨_,rfl⟩;have Z:0<=b:=by omega
    have V:b+2+(x.bs.length:Int)<=1000000000:=by omega
    have ag:IntKind.i64.wrap ((X.length:Int)+1)=(X.length:Int)+1:=by rw [IntKind.wrap_i64];omega
    have L:=Hm q;rw [<- q];clear q;clear n p I d;have HX:=Hm R;have HY:=Hm hY;clear R hY;have m:Mo B w0 (⟨72,3,l.length,.slice (some ⟨g,0,none⟩) l.length c,c1++([.int .i64 x.aft,.string x.nm,(.slice k x.bs.length f)]++F)⟩::((D++([⟨5,1,x.bs.length,(.slice k x.bs.length f),U x.bs⟩]++k2))++rs)) wr:=E;clear E;obtain ⟨y,G⟩:=m.cell (j:=X.length*3) (by omega) (Jp s rfl);have t:=m.set (X.length*3) (.int .i64 (b));rw [Gl s (by simp)] at t
    simp only [List.set_cons_zero,List.set_cons_succ] at t
    have A:=Hm t;clear t m
    go_upto_region 5 with fail
    refine Ql (λW=>Mo B w0 (⟨72,3,l.length,.slice (some ⟨g,0,none⟩) l.length c,c1++([.int .i64 (b),.string x.nm,(.slice k x.bs.length f)]++F)⟩::((D++([⟨5,1,x.bs.length,(.slice k x.bs.length f),U x.bs⟩]++k2))++rs)) W) A.o ?_
    rintro V0 m;clear A y G;have M:IntKind.i64.wrap (b+1)=b+1:=by rw [IntKind.wrap_i64];omega
    go_upto_region 6 with fail
    clear M;have HT:=Hm m;clear m
    go_wp2_with fail
    refine (XQ (b+1) _ (by omega) (by omega)).mono ?_
    rintro e ak ⟨rfl,hb⟩;have m:=HT.o.keep hb;clear hb HT;obtain ⟨y,G⟩:=m.cell (j:=X.length*3+1) (by omega) (Qt s (j:=1) rfl);have t:=m.set (X.length*3+1) (.string (mtx (b+1)));rw [Jr s (j:=1) (by simp)] at t
    simp only [List.set_cons_zero,List.set_cons_succ] at t
    have A:=Hm t;clear t m
    go_upto_region 7 with fail
    refine Ql (λW=>Mo B w0 (⟨72,3,l.length,.slice (some ⟨g,0,none⟩) l.length c,c1++([.int .i64 (b),.string (mtx (b+1)),(.slice k x.bs.length f)]++F)⟩::((D++([⟨5,1,x.bs.length,(.slice k x.bs.length f),U x.bs⟩]++k2))++rs)) W) A.o ?_
    rintro V1 m;clear A y G;have M:IntKind.i64.wrap (b+1+1)=b+1+1:=by rw [IntKind.wrap_i64];omega
    go_upto_region 8 with fail
    clear M;obtain ⟨y,G⟩:=m.cell (j:=X.length*3+2) (by omega) (Qt s (j:=2) rfl);have HP:=Hm (m.perm (Xf (⟨72,3,l.length,.slice (some ⟨g,0,none⟩) l.length c,c1++([.int .i64 (b),.string (mtx (b+1)),(.slice k x.bs.length f)]++F)⟩) (⟨5,1,x.bs.length,(.slice k x.bs.length f),U x.bs⟩) D [] [] k2 rs));clear m
    go_wp2_with fail
    refine (markB_c x.bs k f (b+1+1) HP.o (by omega) (by omega)).mono ?_
    rintro e V2 ⟨rfl,S⟩;have m:Mo B w0 (⟨72,3,l.length,.slice (some ⟨g,0,none⟩) l.length c,c1++([.int .i64 (b),.string (mtx (b+1)),(.slice k x.bs.length f)]++F)⟩::((D++([⟨5,1,x.bs.length,(.slice k x.bs.length f),U (mkB (b+1+1) x.bs.length)⟩]++k2))++rs)) V2:=S.perm (Xf (⟨72,3,l.length,.slice (some ⟨g,0,none⟩) l.length c,c1++([.int .i64 (b),.string (mtx (b+1)),(.slice k x.bs.length f)]++F)⟩) (⟨5,1,x.bs.length,(.slice k x.bs.length f),U (mkB (b+1+1) x.bs.length)⟩) D [] [] k2 rs).symm;clear S HP y G
    go_upto_region 3 with fail
    have HF:=Hm m;clear m
    go_wp2_with fail
    go_roundw
    case rel =>
     refine ⟨X++[x],Y,_,_,by rw [J.o];simp,?_,by rw [show (((X++[x]).length:Nat):Int)=(X.length:Int)+1 by simp],?_,HF.o⟩
     . rw [QR,L.o];rw [show Ju x=2+List.length x.bs from rfl];congr 1;push_cast;omega
     . rw [JU,List.append_assoc];have hr:RCus (mkCus b x) [.int .i64 (b),.string (mtx (b+1)),(.slice k x.bs.length f)] [⟨5,1,x.bs.length,(.slice k x.bs.length f),U (mkB (b+1+1) x.bs.length)⟩]:=⟨_,rfl,by simp [bR,mkB_len,mkCus]⟩;have h9:=LR.app HX.o (LR.app (LR.one hr) HY.o);rw [<- L.o]
       exact h9
    case measure =>
     have:X.length<l.length:=by omega
     simp [intOf];omega
theorem heldGlob_c (l:List Jv)(a:Option Addr)(c:Nat)(C:List Value)(K:List Qc)(q:Int)(B:Nat)(w:World)(h:w.ownsRow B 107 3 (.slice a l.length c) l.length C)(U:∀ r ∈ K,r.Ok B w)(k:LR X5 (Q5 mkGlob QG q l) C K)(hn:l.length<=1000000000)(h0:0<=q)(h1:q+Qb QG l<=1000000000) :
    Calls Tryz.prog 108 #[.slice a l.length c,.int .i64 q] w λe L=>e=.returned (.int .i64 (q+(Qb QG l:Nat)))/\w=L:=by
 have H:=Hm h;have HK:=Hm U;have I:=Hm k;clear h k U
 go_enter Tryz.func108,Tryz.ntmps108
 go_wp2_with fail
 go_loop [1,5] (λkv iv=>∃ (X Y:List Jv),l=X++Y/\kv=.int .i64 (q+(Qb QG X:Nat))/\iv=.int .i64 (X.length:Int)) (λ_ i=>l.length-(intOf i).toNat)
 case atStart=>exact ⟨[],l,rfl,by simp [Qb],rfl⟩
 case round =>
  obtain ⟨X,Y,p,rfl,rfl⟩:=hrel;have t:=Hm p;have d:l.length=X.length+Y.length:=by rw [p];simp
  have m:Qb QG l=Qb QG X+Qb QG Y:=by rw [p,QL]
  clear p
  rcases Y with _|⟨x,Y⟩
  . have A:¬ (X.length:Int)<(l.length:Int):=by simp at d;omega
    have HE:Hid (l=X):=by
     show _=_
     have:=t.o;simpa using this
    clear d m
    go_wp2_with fail
    go_ret
    exact ⟨by rw [HE.o];rfl,rfl⟩
  . have A:(X.length:Int)<(l.length:Int):=by simp at d;omega
    have k:=I.o;rw [t.o,Xi,Q5] at k;obtain ⟨c1,cx,c2,k1,kx,k2,y,s,S,M,hY⟩:=LR.zip k;have n:c1.length=X.length*3:=by rw [LR.len (sz:=3) len_RGlob S,QP]
    have u:QG x=2+Qb QO x.ini:=rfl;rw [QQ,u] at m;obtain ⟨b,f⟩:∃ b:Int,b=q+(Qb QG X:Nat):=⟨_,rfl⟩;have R:0<=b:=by omega
    have O:b+2+((Qb QO x.ini:Nat):Int)<=1000000000:=by omega
    have ac:IntKind.i64.wrap ((X.length:Int)+1)=(X.length:Int)+1:=by rw [IntKind.wrap_i64];omega
    have J:=Hm f;rw [<- f] at M;rw [<- f];obtain ⟨v2,rfl,D,z,V,rfl⟩:=M;clear f k S hY;obtain ⟨g,cc,hv,-⟩:=QI H.o (by omega)
    injection hv with hv1 _ hv2
    subst hv1 hv2;clear d m u;have v:Qc.Ok B w ⟨170,5,(Q5 mkIn QO (b+1+1) x.ini).length,v2,D⟩:=HK.o _ (by rw [s];exact mR (mL mS));rw [QP] at v;obtain ⟨a2,Z,rfl⟩:=QJ v;have E:=Hm v;clear v;have F:Hid (∀ r ∈ z,Qc.Ok B w r):=Hm (λr hr=>HK.o r (by rw [s];exact mR (mL (mC hr))));have G:Hid (LR RIn (Q5 mkIn QO (b+1+1) x.ini) D z):=Hm V;clear V;have y0:w.cell? ⟨g,X.length*3,none⟩=some (.int .i64 (b)):=(World.ownsRow.cellAt H.o (X.length*3) (by omega)).trans (by rw [y];exact Jp n rfl);have y1:w.cell? ⟨g,X.length*3+1,none⟩=some (.bool ((b+1)%3==0)):=(World.ownsRow.cellAt H.o (X.length*3+1) (by omega)).trans (by rw [y];exact Qt n (j:=1) rfl);have y2:w.cell? ⟨g,X.length*3+2,none⟩=some (.slice a2 x.ini.length Z):=(World.ownsRow.cellAt H.o (X.length*3+2) (by omega)).trans (by rw [y];exact Qt n (j:=2) rfl);clear y s n;have ae:IntKind.i64.wrap (b+1)=b+1:=by rw [IntKind.wrap_i64];omega
    have ad:IntKind.i64.wrap (b+1+1)=b+1+1:=by rw [IntKind.wrap_i64];omega
    go_wp2_with fail
    refine (heldIn_c x.ini a2 Z D z (b+1+1) B w E.o F.o G.o (by have:=Xe (sz:=QO) (λx=>by simp [QO];try omega) x.ini;omega) (by omega) (by omega)).mono ?_
    rintro e L ⟨rfl,rfl⟩;have ag:¬ b+1+1+((Qb QO x.ini:Nat):Int)<0:=by omega
    go_wp2_with fail
    go_round
    case rel =>
     refine ⟨X++[x],Y,by rw [t.o];simp,?_,by rw [show (((X++[x]).length:Nat):Int)=(X.length:Int)+1 by simp]⟩
     rw [QR,J.o];rw [show QG x=2+Qb QO x.ini from rfl];congr 1;push_cast;omega
    case measure =>
     have:X.length<l.length:=by omega
     simp [intOf];omega
end Go.Proofs.YtedcmcdbejjgcaaGreat.Ms
