import Derived.Test.YtedcmcdbejjgcaaGreatGaa
import Derived.Test.YtedcmcdbejjgcaaGreatGbw
set_option linter.all false
set_option maxHeartbeats 400000000
set_option maxRecDepth 100000
namespace Go.Proofs.YtedcmcdbejjgcaaGreat.Ms
open Go.RowKit Go.Sort
theorem markGlob_c (l:List Jv)(a:Option Addr)(c:Nat)(C:List Value)(K:List Qc)(D:Int){B w0}{rs:List Qc}{w}(h:Mo B w0 (⟨107,3,l.length,.slice a l.length c,C⟩::(K++rs)) w)(d:LR X5 l C K)(hn:l.length<=1000000000)(h0:0<=D)(h1:D+Qb QG l<=1000000000) :
    Calls Tryz.prog 98 #[.slice a l.length c,.int .i64 D] w (MkQ X5 (Q5 mkGlob QG D l) 107 3 l.length (.slice a l.length c) (D+(Qb QG l:Nat)) B w0 rs):=by
 have H:=Hm h;have A:=Hm d;clear h d
 go_enter Tryz.func98,Tryz.ntmps98
 go_wp2_with fail
 go_loopw [1,5] (λkv iv wr=>∃ (X Y:List Jv) (C:List Value) (K:List Qc),l=X++Y/\kv=.int .i64 (D+(Qb QG X:Nat))/\iv=.int .i64 (X.length:Int)/\LR X5 (Q5 mkGlob QG D X++Y) C K/\Mo B w0 (⟨107,3,l.length,.slice a l.length c,C⟩::(K++rs)) wr) (λ_ i _=>l.length-(intOf i).toNat)
 case atStart=>exact ⟨[],l,C,K,rfl,by simp [Qb],rfl,A.o,H.o⟩
 case round =>
  obtain ⟨X,Y,C,K,v,rfl,rfl,d,G⟩:=hrel;clear H A;have R:=Hm v;have n:l.length=X.length+Y.length:=by rw [v];simp
  have p:Qb QG l=Qb QG X+Qb QG Y:=by rw [v,QL]
  clear v
  rcases Y with _|⟨x,Y⟩
  . have Z:¬ (X.length:Int)<(l.length:Int):=by simp at n;omega
    have HE:Hid (l=X):=by
     show _=_
     have:=R.o;simpa using this
    have E:=Hm G;have A:=Hm d;clear G d n p
    go_wp2_with fail
    go_ret
    refine ⟨C,K,by rw [HE.o];rfl,?_,E.o⟩
    have:=A.o;rw [List.append_nil] at this;rw [HE.o];exact this
  . have Z:(X.length:Int)<(l.length:Int):=by simp at n;omega
    obtain ⟨c1,cx,I,F,kx,k2,rfl,rfl,hX,hx,hY⟩:=LR.zip d;obtain ⟨v2,rfl,O,U,hI,rfl⟩:=hx;have s:c1.length=X.length*3:=by rw [LR.len (sz:=3) len_RGlob hX,QP]
    obtain ⟨g,cc,hv,-⟩:=QI (show World.ownsRow _ B 107 3 (.slice a l.length c) l.length _ from G.own.head) (by omega)
    injection hv with hv1 _ hv2
    subst hv1 hv2;obtain ⟨k,f,rfl⟩:∃ a' d',v2=.slice a' x.ini.length d':=QJ (G.row (r:=⟨170,5,x.ini.length,v2,O⟩) (by simp [nR,bR]));have L:QG x=2+Qb QO x.ini:=rfl;rw [QQ,L] at p;obtain ⟨b,q⟩:∃ b:Int,b=D+(Qb QG X:Nat):=⟨_,rfl⟩;have af:0<=b:=by omega
    have ae:b+2+((Qb QO x.ini:Nat):Int)<=1000000000:=by omega
    have ao:IntKind.i64.wrap ((X.length:Int)+1)=(X.length:Int)+1:=by rw [IntKind.wrap_i64];omega
    have S:=Hm q;rw [<- q];clear q;clear n p L d;have HX:=Hm hX;have HY:=Hm hY;clear hX hY;have ab:=Hm hI;clear hI;have m:Mo B w0 (⟨107,3,l.length,.slice (some ⟨g,0,none⟩) l.length c,c1++([.int .i64 x.ty.ty,.bool x.ty.mu,(.slice k x.ini.length f)]++I)⟩::((F++((⟨170,5,x.ini.length,(.slice k x.ini.length f),O⟩::U)++k2))++rs)) wr:=G;clear G;obtain ⟨y,J⟩:=m.cell (j:=X.length*3) (by omega) (Jp s rfl);have t:=m.set (X.length*3) (.int .i64 (b));rw [Gl s (by simp)] at t
    simp only [List.set_cons_zero,List.set_cons_succ] at t
    have E:=Hm t;clear t m
    go_upto_region 5 with fail
    refine Ql (λW=>Mo B w0 (⟨107,3,l.length,.slice (some ⟨g,0,none⟩) l.length c,c1++([.int .i64 (b),.bool x.ty.mu,(.slice k x.ini.length f)]++I)⟩::((F++((⟨170,5,x.ini.length,(.slice k x.ini.length f),O⟩::U)++k2))++rs)) W) E.o ?_
    rintro V0 m;clear E y J;have V:IntKind.i64.wrap (b+1)=b+1:=by rw [IntKind.wrap_i64];omega
    go_upto_region 6 with fail
    clear V;obtain ⟨y,J⟩:=m.cell (j:=X.length*3+1) (by omega) (Qt s (j:=1) rfl);have t:=m.set (X.length*3+1) (.bool ((b+1)%3==0));rw [Jr s (j:=1) (by simp)] at t
    simp only [List.set_cons_zero,List.set_cons_succ] at t
    have E:=Hm t;clear t m
    go_upto_region 7 with fail
    refine Ql (λW=>Mo B w0 (⟨107,3,l.length,.slice (some ⟨g,0,none⟩) l.length c,c1++([.int .i64 (b),.bool ((b+1)%3==0),(.slice k x.ini.length f)]++I)⟩::((F++((⟨170,5,x.ini.length,(.slice k x.ini.length f),O⟩::U)++k2))++rs)) W) E.o ?_
    rintro V1 m;clear E y J;have V:IntKind.i64.wrap (b+1+1)=b+1+1:=by rw [IntKind.wrap_i64];omega
    go_upto_region 8 with fail
    clear V;obtain ⟨y,J⟩:=m.cell (j:=X.length*3+2) (by omega) (Qt s (j:=2) rfl);have HP:=Hm (m.perm (Xf (⟨107,3,l.length,.slice (some ⟨g,0,none⟩) l.length c,c1++([.int .i64 (b),.bool ((b+1)%3==0),(.slice k x.ini.length f)]++I)⟩) (⟨170,5,x.ini.length,(.slice k x.ini.length f),O⟩) F [] U k2 rs));clear m
    go_wp2_with fail
    refine (markIn_c x.ini k f _ _ (b+1+1) HP.o ab.o (by have:=Xe (sz:=QO) (λx=>by simp [QO];try omega) x.ini;omega) (by omega) (by omega)).mono ?_
    rintro e V2 ⟨z,u,rfl,M,mp⟩;have ac:=Hm M;clear M;have m:Mo B w0 (⟨107,3,l.length,.slice (some ⟨g,0,none⟩) l.length c,c1++([.int .i64 (b),.bool ((b+1)%3==0),(.slice k x.ini.length f)]++I)⟩::((F++((⟨170,5,x.ini.length,(.slice k x.ini.length f),z⟩::u)++k2))++rs)) V2:=mp.perm (Xf (⟨107,3,l.length,.slice (some ⟨g,0,none⟩) l.length c,c1++([.int .i64 (b),.bool ((b+1)%3==0),(.slice k x.ini.length f)]++I)⟩) (⟨170,5,x.ini.length,(.slice k x.ini.length f),z⟩) F [] u k2 rs).symm;clear mp HP y J
    go_upto_region 3 with fail
    have HF:=Hm m;clear m
    go_wp2_with fail
    go_roundw
    case rel =>
     refine ⟨X++[x],Y,_,_,by rw [R.o];simp,?_,by rw [show (((X++[x]).length:Nat):Int)=(X.length:Int)+1 by simp],?_,HF.o⟩
     . rw [QR,S.o];rw [show QG x=2+Qb QO x.ini from rfl];congr 1;push_cast;omega
     . rw [JU,List.append_assoc];have hr:X5 (mkGlob b x) [.int .i64 (b),.bool ((b+1)%3==0),(.slice k x.ini.length f)] (⟨170,5,x.ini.length,(.slice k x.ini.length f),z⟩::u):=⟨_,rfl,z,u,ac.o,by simp [QP,mkGlob]⟩;have h9:=LR.app HX.o (LR.app (LR.one hr) HY.o);rw [<- S.o]
       exact h9
    case measure =>
     have:X.length<l.length:=by omega
     simp [intOf];omega
theorem markCod_c (l:List Cod)(a:Option Addr)(c:Nat)(C:List Value)(K:List Qc)(D:Int){B w0}{rs:List Qc}{w}(h:Mo B w0 (⟨83,2,l.length,.slice a l.length c,C⟩::(K++rs)) w)(n:LR Oq l C K)(hn:l.length<=1000000000)(h0:0<=D)(h1:D+Qb Je l<=1000000000) :
    Calls Tryz.prog 101 #[.slice a l.length c,.int .i64 D] w (MkQ Oq (Q5 mkCod Je D l) 83 2 l.length (.slice a l.length c) (D+(Qb Je l:Nat)) B w0 rs):=by
 have H:=Hm h;have A:=Hm n;clear h n
 go_enter Tryz.func101,Tryz.ntmps101
 go_wp2_with fail
 go_loopw [1,5] (λkv iv wr=>∃ (X Y:List Cod) (C:List Value) (K:List Qc),l=X++Y/\kv=.int .i64 (D+(Qb Je X:Nat))/\iv=.int .i64 (X.length:Int)/\LR Oq (Q5 mkCod Je D X++Y) C K/\Mo B w0 (⟨83,2,l.length,.slice a l.length c,C⟩::(K++rs)) wr) (λ_ i _=>l.length-(intOf i).toNat)
 case atStart=>exact ⟨[],l,C,K,rfl,by simp [Qb],rfl,A.o,H.o⟩
 case round =>
  obtain ⟨X,Y,C,K,v,rfl,rfl,n,G⟩:=hrel;clear H A;have V:=Hm v;have q:l.length=X.length+Y.length:=by rw [v];simp
  have s:Qb Je l=Qb Je X+Qb Je Y:=by rw [v,QL]
  clear v
  rcases Y with _|⟨x,Y⟩
  . have ac:¬ (X.length:Int)<(l.length:Int):=by simp at q;omega
    have HE:Hid (l=X):=by
     show _=_
     have:=V.o;simpa using this
    have HS:=Hm G;have A:=Hm n;clear G n q s
    go_wp2_with fail
    go_ret
    refine ⟨C,K,by rw [HE.o];rfl,?_,HS.o⟩
    have:=A.o;rw [List.append_nil] at this;rw [HE.o];exact this
  . have ac:(X.length:Int)<(l.length:Int):=by simp at q;omega
    obtain ⟨c1,cx,I,F,kx,k2,rfl,rfl,hX,hx,hY⟩:=LR.zip n;obtain ⟨v0,cG,v1,r1,rfl,hG,⟨J,M,hI,rfl⟩,rfl⟩:=hx;have R:c1.length=X.length*2:=by rw [LR.len (sz:=2) len_RCod hX,QP]
    obtain ⟨g,cc,hv,-⟩:=QI (show World.ownsRow _ B 83 2 (.slice a l.length c) l.length _ from G.own.head) (by omega)
    injection hv with hv1 _ hv2
    subst hv1 hv2;obtain ⟨k,d,rfl⟩:∃ a' d',v0=.slice a' x.locs.length d':=QJ (G.row (r:=⟨173,2,x.locs.length,v0,cG⟩) (by simp [nR,bR]));obtain ⟨f,b,rfl⟩:∃ a' d',v1=.slice a' x.body.length d':=QJ (G.row (r:=⟨170,5,x.body.length,v1,J⟩) (by simp [nR,bR]));have O:Je x=0+Qb Q8 x.locs+Qb QO x.body:=rfl;rw [QQ,O] at s;obtain ⟨E,t⟩:∃ E:Int,E=D+(Qb Je X:Nat):=⟨_,rfl⟩;have ak:0<=E:=by omega
    have aj:E+0+((Qb Q8 x.locs:Nat):Int)+((Qb QO x.body:Nat):Int)<=1000000000:=by omega
    have av:IntKind.i64.wrap ((X.length:Int)+1)=(X.length:Int)+1:=by rw [IntKind.wrap_i64];omega
    have aa:=Hm t;rw [<- t];clear t;clear q s O n;have HX:=Hm hX;have HY:=Hm hY;clear hX hY;have af:=Hm hI;clear hI;have ag:=Hm hG;clear hG;have m:Mo B w0 (⟨83,2,l.length,.slice (some ⟨g,0,none⟩) l.length c,c1++([(.slice k x.locs.length d),(.slice f x.body.length b)]++I)⟩::((F++((⟨173,2,x.locs.length,(.slice k x.locs.length d),cG⟩::(⟨170,5,x.body.length,(.slice f x.body.length b),J⟩::M))++k2))++rs)) wr:=G;clear G;obtain ⟨y,yf⟩:=m.cell (j:=X.length*2) (by omega) (Jp R rfl);have Z:=Hm (m.perm (pm_out (⟨83,2,l.length,.slice (some ⟨g,0,none⟩) l.length c,c1++([(.slice k x.locs.length d),(.slice f x.body.length b)]++I)⟩) (⟨173,2,x.locs.length,(.slice k x.locs.length d),cG⟩) F [] [] (⟨170,5,x.body.length,(.slice f x.body.length b),J⟩::M) k2 rs));clear m
    go_wp2_with fail
    refine (markGrp_c x.locs k d _ (E) Z.o ag.o (by omega) (by omega)).mono ?_
    rintro e V0 ⟨p,rfl,U,L⟩;have ai:=Hm U;clear U;have m:Mo B w0 (⟨83,2,l.length,.slice (some ⟨g,0,none⟩) l.length c,c1++([(.slice k x.locs.length d),(.slice f x.body.length b)]++I)⟩::((F++((⟨173,2,x.locs.length,(.slice k x.locs.length d),p⟩::(⟨170,5,x.body.length,(.slice f x.body.length b),J⟩::M))++k2))++rs)) V0:=L.perm (pm_out (⟨83,2,l.length,.slice (some ⟨g,0,none⟩) l.length c,c1++([(.slice k x.locs.length d),(.slice f x.body.length b)]++I)⟩) (⟨173,2,x.locs.length,(.slice k x.locs.length d),p⟩) F [] [] (⟨170,5,x.body.length,(.slice f x.body.length b),J⟩::M) k2 rs).symm;clear L Z y yf
    go_upto_region 5 with fail
    obtain ⟨y,yf⟩:=m.cell (j:=X.length*2+1) (by omega) (Qt R (j:=1) rfl);have Z:=Hm (m.perm (Xf (⟨83,2,l.length,.slice (some ⟨g,0,none⟩) l.length c,c1++([(.slice k x.locs.length d),(.slice f x.body.length b)]++I)⟩) (⟨170,5,x.body.length,(.slice f x.body.length b),J⟩) F [⟨173,2,x.locs.length,(.slice k x.locs.length d),p⟩] M k2 rs));clear m
    go_wp2_with fail
    refine (markIn_c x.body f b _ _ (E+((Qb Q8 x.locs:Nat):Int)) Z.o af.o (by have:=Xe (sz:=QO) (λx=>by simp [QO];try omega) x.body;omega) (by omega) (by omega)).mono ?_
    rintro e V1 ⟨z,u,rfl,S,L⟩;have ah:=Hm S;clear S;have m:Mo B w0 (⟨83,2,l.length,.slice (some ⟨g,0,none⟩) l.length c,c1++([(.slice k x.locs.length d),(.slice f x.body.length b)]++I)⟩::((F++((⟨173,2,x.locs.length,(.slice k x.locs.length d),p⟩::(⟨170,5,x.body.length,(.slice f x.body.length b),z⟩::u))++k2))++rs)) V1:=L.perm (Xf (⟨83,2,l.length,.slice (some ⟨g,0,none⟩) l.length c,c1++([(.slice k x.locs.length d),(.slice f x.body.length b)]++I)⟩) (⟨170,5,x.body.length,(.slice f x.body.length b),z⟩) F [⟨173,2,x.locs.length,(.slice k x.locs.length d),p⟩] u k2 rs).symm;clear L Z y yf
    go_upto_region 3 with fail
    have HF:=Hm m;clear m
    go_wp2_with fail
    go_roundw
    case rel =>
     refine ⟨X++[x],Y,_,_,by rw [V.o];simp,?_,by rw [show (((X++[x]).length:Nat):Int)=(X.length:Int)+1 by simp],?_,HF.o⟩
     . rw [QR,aa.o];rw [show Je x=0+Qb Q8 x.locs+Qb QO x.body from rfl];congr 1;push_cast;omega
     . rw [JU,List.append_assoc];have hr:Oq (mkCod E x) [(.slice k x.locs.length d),(.slice f x.body.length b)] (⟨173,2,x.locs.length,(.slice k x.locs.length d),p⟩::(⟨170,5,x.body.length,(.slice f x.body.length b),z⟩::u)):=⟨_,p,_,_,rfl,ai.o,⟨z,u,ah.o,rfl⟩,by simp [QP,mkCod]⟩;have h9:=LR.app HX.o (LR.app (LR.one hr) HY.o);rw [<- aa.o]
       exact h9
    case measure =>
     have:X.length<l.length:=by omega
     simp [intOf];omega
theorem markY:(∀ (l:List Ele) (a:Option Addr) (c:Nat) (C:List Value) (K:List Qc) (u:Int) ⦃B:Nat⦄ ⦃v:World⦄ ⦃rs:List Qc⦄ ⦃w:World⦄ (h:Mo B v (⟨79,2,l.length,.slice a l.length c,C⟩::(K++rs)) w) (t:LR REle l C K) (hn:l.length<=1000000000) (h0:0<=u) (h1:u+Qb Ja l<=1000000000),Calls Tryz.prog 100 #[.slice a l.length c,.int .i64 u] w (MkQ REle (Q5 mkEle Ja u l) 79 2 l.length (.slice a l.length c) (u+(Qb Ja l:Nat)) B v rs))/\(∀ (l:List Dat) (a:Option Addr) (c:Nat) (C:List Value) (K:List Qc) (u:Int) ⦃B:Nat⦄ ⦃v:World⦄ ⦃rs:List Qc⦄ ⦃w:World⦄ (h:Mo B v (⟨85,2,l.length,.slice a l.length c,C⟩::(K++rs)) w) (t:LR RDat l C K) (hn:l.length<=1000000000) (h0:0<=u) (h1:u+Qb Jo l<=1000000000),Calls Tryz.prog 102 #[.slice a l.length c,.int .i64 u] w (MkQ RDat (Q5 mkDat Jo u l) 85 2 l.length (.slice a l.length c) (u+(Qb Jo l:Nat)) B v rs)):=by
 refine ⟨?c0,?c1⟩
 case' c0=>have f:=0
 case' c1=>have t1:=0
 all_goals
  intro l a c C K u B v rs w h t hn h0 h1
  have H:=Hm h;have L:=Hm t;clear h t
  first|(replace f:=f;go_enter Tryz.func100,Tryz.ntmps100)|(go_enter Tryz.func102,Tryz.ntmps102)
  go_wp2_with fail
  first|(replace f:=f;go_loopw [1,5] (λkv iv wr=>∃ (X Y:List Ele) (C:List Value) (K:List Qc),l=X++Y/\kv=.int .i64 (u+(Qb Ja X:Nat))/\iv=.int .i64 (X.length:Int)/\LR REle (Q5 mkEle Ja u X++Y) C K/\Mo B v (⟨79,2,l.length,.slice a l.length c,C⟩::(K++rs)) wr) (λ_ i _=>l.length-(intOf i).toNat))|(go_loopw [1,5] (λkv iv wr=>∃ (X Y:List Dat) (C:List Value) (K:List Qc),l=X++Y/\kv=.int .i64 (u+(Qb Jo X:Nat))/\iv=.int .i64 (X.length:Int)/\LR RDat (Q5 mkDat Jo u X++Y) C K/\Mo B v (⟨85,2,l.length,.slice a l.length c,C⟩::(K++rs)) wr) (λ_ i _=>l.length-(intOf i).toNat))
  case atStart=>exact ⟨[],l,C,K,rfl,by simp [Qb],rfl,L.o,H.o⟩
  case round =>
   obtain ⟨X,Y,C,K,G,rfl,rfl,t,J⟩:=hrel;clear H L;have ac:=Hm G;have D:l.length=X.length+Y.length:=by rw [G];simp
   first|(replace f:=f;have A:Qb Ja l=Qb Ja X+Qb Ja Y:=by rw [G,QL])|(have A:Qb Jo l=Qb Jo X+Qb Jo Y:=by rw [G,QL])
   clear G
   rcases Y with _|⟨x,Y⟩
   . have ah:¬ (X.length:Int)<(l.length:Int):=by simp at D;omega
     have HE:Hid (l=X):=by
      show _=_
      have:=ac.o;simpa using this
     have HS:=Hm J;have L:=Hm t;clear J t D A
     go_wp2_with fail
     go_ret
     refine ⟨C,K,by rw [HE.o];rfl,?_,HS.o⟩
     have:=L.o;rw [List.append_nil] at this;rw [HE.o];exact this
   . have ah:(X.length:Int)<(l.length:Int):=by simp at D;omega
     obtain ⟨c1,cx,F,z,kx,k2,rfl,rfl,hX,hx,hY⟩:=LR.zip t;obtain ⟨v0,v1,r1,rfl,⟨cI,kI,hI,rfl⟩,rfl⟩:=hx
     first|(replace f:=f;have S:c1.length=X.length*2:=by rw [LR.len (sz:=2) len_REle hX,QP])|(have S:c1.length=X.length*2:=by rw [LR.len (sz:=2) len_RDat hX,QP])
     first|(replace f:=f;obtain ⟨g,cc,hv,-⟩:=QI (show World.ownsRow _ B 79 2 (.slice a l.length c) l.length _ from J.own.head) (by omega))|(obtain ⟨g,cc,hv,-⟩:=QI (show World.ownsRow _ B 85 2 (.slice a l.length c) l.length _ from J.own.head) (by omega))
     injection hv with hv1 _ hv2
     subst hv1 hv2;obtain ⟨n,k,rfl⟩:∃ a' d',v0=.slice a' x.off.length d':=QJ (J.row (r:=⟨170,5,x.off.length,v0,cI⟩) (by simp [nR,bR]))
     first|(replace f:=f;obtain ⟨d,b,rfl⟩:∃ a' d',v1=.slice a' x.fs.length d':=QJ (J.row (r:=⟨2,1,x.fs.length,v1,I x.fs⟩) (by simp [nR,bR])))|(obtain ⟨d,b,rfl⟩:∃ a' d',v1=.slice a' x.bs.length d':=QJ (J.row (r:=⟨5,1,x.bs.length,v1,U x.bs⟩) (by simp [nR,bR])))
     first|(replace f:=f;have R:Ja x=0+Qb QO x.off+List.length x.fs:=rfl)|(have R:Jo x=0+Qb QO x.off+List.length x.bs:=rfl)
     rw [QQ,R] at A
     first|(replace f:=f;obtain ⟨s,E⟩:∃ s:Int,s=u+(Qb Ja X:Nat):=⟨_,rfl⟩)|(obtain ⟨s,E⟩:∃ s:Int,s=u+(Qb Jo X:Nat):=⟨_,rfl⟩)
     have ap:0<=s:=by omega
     first|(replace f:=f;have Z:s+0+((Qb QO x.off:Nat):Int)+(x.fs.length:Int)<=1000000000:=by omega)|(have Z:s+0+((Qb QO x.off:Nat):Int)+(x.bs.length:Int)<=1000000000:=by omega)
     have ay:IntKind.i64.wrap ((X.length:Int)+1)=(X.length:Int)+1:=by rw [IntKind.wrap_i64];omega
     have V:=Hm E;rw [<- E];clear E;clear D A R t;have HX:=Hm hX;have HY:=Hm hY;clear hX hY;have ai:=Hm hI;clear hI
     first|(replace f:=f;have m:Mo B v (⟨79,2,l.length,.slice (some ⟨g,0,none⟩) l.length c,c1++([(.slice n x.off.length k),(.slice d x.fs.length b)]++F)⟩::((z++(((⟨170,5,x.off.length,(.slice n x.off.length k),cI⟩::kI)++[⟨2,1,x.fs.length,(.slice d x.fs.length b),I x.fs⟩])++k2))++rs)) wr:=J)|(have m:Mo B v (⟨85,2,l.length,.slice (some ⟨g,0,none⟩) l.length c,c1++([(.slice n x.off.length k),(.slice d x.bs.length b)]++F)⟩::((z++(((⟨170,5,x.off.length,(.slice n x.off.length k),cI⟩::kI)++[⟨5,1,x.bs.length,(.slice d x.bs.length b),U x.bs⟩])++k2))++rs)) wr:=J)
     clear J;obtain ⟨y,yf⟩:=m.cell (j:=X.length*2) (by omega) (Jp S rfl)
     first|(replace f:=f;have M:=Hm (m.perm (pm_out (⟨79,2,l.length,.slice (some ⟨g,0,none⟩) l.length c,c1++([(.slice n x.off.length k),(.slice d x.fs.length b)]++F)⟩) (⟨170,5,x.off.length,(.slice n x.off.length k),cI⟩) z [] kI [⟨2,1,x.fs.length,(.slice d x.fs.length b),I x.fs⟩] k2 rs)))|(have M:=Hm (m.perm (pm_out (⟨85,2,l.length,.slice (some ⟨g,0,none⟩) l.length c,c1++([(.slice n x.off.length k),(.slice d x.bs.length b)]++F)⟩) (⟨170,5,x.off.length,(.slice n x.off.length k),cI⟩) z [] kI [⟨5,1,x.bs.length,(.slice d x.bs.length b),U x.bs⟩] k2 rs)))
     clear m
     go_wp2_with fail
     refine (markIn_c x.off n k _ _ (s) M.o ai.o (by have:=Xe (sz:=QO) (λx=>by simp [QO];try omega) x.off;omega) (by omega) (by omega)).mono ?_
     rintro e V0 ⟨q,p,rfl,aa,O⟩;have ad:=Hm aa;clear aa
     first|(replace f:=f;have m:Mo B v (⟨79,2,l.length,.slice (some ⟨g,0,none⟩) l.length c,c1++([(.slice n x.off.length k),(.slice d x.fs.length b)]++F)⟩::((z++(((⟨170,5,x.off.length,(.slice n x.off.length k),q⟩::p)++[⟨2,1,x.fs.length,(.slice d x.fs.length b),I x.fs⟩])++k2))++rs)) V0:=O.perm (pm_out (⟨79,2,l.length,.slice (some ⟨g,0,none⟩) l.length c,c1++([(.slice n x.off.length k),(.slice d x.fs.length b)]++F)⟩) (⟨170,5,x.off.length,(.slice n x.off.length k),q⟩) z [] p [⟨2,1,x.fs.length,(.slice d x.fs.length b),I x.fs⟩] k2 rs).symm)|(have m:Mo B v (⟨85,2,l.length,.slice (some ⟨g,0,none⟩) l.length c,c1++([(.slice n x.off.length k),(.slice d x.bs.length b)]++F)⟩::((z++(((⟨170,5,x.off.length,(.slice n x.off.length k),q⟩::p)++[⟨5,1,x.bs.length,(.slice d x.bs.length b),U x.bs⟩])++k2))++rs)) V0:=O.perm (pm_out (⟨85,2,l.length,.slice (some ⟨g,0,none⟩) l.length c,c1++([(.slice n x.off.length k),(.slice d x.bs.length b)]++F)⟩) (⟨170,5,x.off.length,(.slice n x.off.length k),q⟩) z [] p [⟨5,1,x.bs.length,(.slice d x.bs.length b),U x.bs⟩] k2 rs).symm)
     clear O M y yf
     go_upto_region 5 with fail
     obtain ⟨y,yf⟩:=m.cell (j:=X.length*2+1) (by omega) (Qt S (j:=1) rfl)
     first|(replace f:=f;have M:=Hm (m.perm (Xf (⟨79,2,l.length,.slice (some ⟨g,0,none⟩) l.length c,c1++([(.slice n x.off.length k),(.slice d x.fs.length b)]++F)⟩) (⟨2,1,x.fs.length,(.slice d x.fs.length b),I x.fs⟩) z (⟨170,5,x.off.length,(.slice n x.off.length k),q⟩::p) [] k2 rs)))|(have M:=Hm (m.perm (Xf (⟨85,2,l.length,.slice (some ⟨g,0,none⟩) l.length c,c1++([(.slice n x.off.length k),(.slice d x.bs.length b)]++F)⟩) (⟨5,1,x.bs.length,(.slice d x.bs.length b),U x.bs⟩) z (⟨170,5,x.off.length,(.slice n x.off.length k),q⟩::p) [] k2 rs)))
     clear m
     go_wp2_with fail
     first|(replace f:=f;refine (markI_c x.fs d b (s+((Qb QO x.off:Nat):Int)) M.o (by omega) (by omega)).mono ?_)|(refine (markB_c x.bs d b (s+((Qb QO x.off:Nat):Int)) M.o (by omega) (by omega)).mono ?_)
     rintro e V1 ⟨rfl,O⟩
     first|(replace f:=f;have m:Mo B v (⟨79,2,l.length,.slice (some ⟨g,0,none⟩) l.length c,c1++([(.slice n x.off.length k),(.slice d x.fs.length b)]++F)⟩::((z++(((⟨170,5,x.off.length,(.slice n x.off.length k),q⟩::p)++[⟨2,1,x.fs.length,(.slice d x.fs.length b),I (mkI (s+((Qb QO x.off:Nat):Int)) x.fs.length)⟩])++k2))++rs)) V1:=O.perm (Xf (⟨79,2,l.length,.slice (some ⟨g,0,none⟩) l.length c,c1++([(.slice n x.off.length k),(.slice d x.fs.length b)]++F)⟩) (⟨2,1,x.fs.length,(.slice d x.fs.length b),I (mkI (s+((Qb QO x.off:Nat):Int)) x.fs.length)⟩) z (⟨170,5,x.off.length,(.slice n x.off.length k),q⟩::p) [] k2 rs).symm)|(have m:Mo B v (⟨85,2,l.length,.slice (some ⟨g,0,none⟩) l.length c,c1++([(.slice n x.off.length k),(.slice d x.bs.length b)]++F)⟩::((z++(((⟨170,5,x.off.length,(.slice n x.off.length k),q⟩::p)++[⟨5,1,x.bs.length,(.slice d x.bs.length b),U (mkB (s+((Qb QO x.off:Nat):Int)) x.bs.length)⟩])++k2))++rs)) V1:=O.perm (Xf (⟨85,2,l.length,.slice (some ⟨g,0,none⟩) l.length c,c1++([(.slice n x.off.length k),(.slice d x.bs.length b)]++F)⟩) (⟨5,1,x.bs.length,(.slice d x.bs.length b),U (mkB (s+((Qb QO x.off:Nat):Int)) x.bs.length)⟩) z (⟨170,5,x.off.length,(.slice n x.off.length k),q⟩::p) [] k2 rs).symm)
     clear O M y yf
     go_upto_region 3 with fail
     have HF:=Hm m;clear m
     go_wp2_with fail
     go_roundw
     case rel =>
      refine ⟨X++[x],Y,_,_,by rw [ac.o];simp,?_,by rw [show (((X++[x]).length:Nat):Int)=(X.length:Int)+1 by simp],?_,HF.o⟩
      . first|(replace f:=f;rw [QR,V.o];rw [show Ja x=0+Qb QO x.off+List.length x.fs from rfl];congr 1;push_cast;omega)|(rw [QR,V.o];rw [show Jo x=0+Qb QO x.off+List.length x.bs from rfl];congr 1;push_cast;omega)
      . rw [JU,List.append_assoc]
        first|(replace f:=f;have hr:REle (mkEle s x) [(.slice n x.off.length k),(.slice d x.fs.length b)] ((⟨170,5,x.off.length,(.slice n x.off.length k),q⟩::p)++[⟨2,1,x.fs.length,(.slice d x.fs.length b),I (mkI (s+((Qb QO x.off:Nat):Int)) x.fs.length)⟩]):=⟨_,_,_,rfl,⟨q,p,ad.o,rfl⟩,by simp [nR,XA,QP,mkEle]⟩)|(have hr:RDat (mkDat s x) [(.slice n x.off.length k),(.slice d x.bs.length b)] ((⟨170,5,x.off.length,(.slice n x.off.length k),q⟩::p)++[⟨5,1,x.bs.length,(.slice d x.bs.length b),U (mkB (s+((Qb QO x.off:Nat):Int)) x.bs.length)⟩]):=⟨_,_,_,rfl,⟨q,p,ad.o,rfl⟩,by simp [bR,mkB_len,QP,mkDat]⟩)
        have h9:=LR.app HX.o (LR.app (LR.one hr) HY.o);rw [<- V.o]
        exact h9
     case measure =>
      have:X.length<l.length:=by omega
      simp [intOf];omega
def markEle_c:=markY.1
def markDat_c:=markY.2
end Go.Proofs.YtedcmcdbejjgcaaGreat.Ms
