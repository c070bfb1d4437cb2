import Derived.Test.YtedcmcdbejjgcaaGreatGaa
import Derived.Test.YtedcmcdbejjgcaaGreatGbd
import Derived.Test.YtedcmcdbejjgcaaGreatGap
import Derived.Maps.AppendAt
import Derived.Test.YtedcmcdbejjgcaaGreatGbc
set_option linter.all false
set_option maxHeartbeats 400000000
set_option maxRecDepth 100000
namespace Go.Proofs.YtedcmcdbejjgcaaGreat.Ms
open Go.RowKit Go.Sort
theorem uf_le:∀ (cs:List Int) (l:Nat) (a b:Int) (p:Nat),uf l a b p cs<=p+cs.length:=by
 intro cs
 induction cs with
 |nil=>intro l a b p;cases l<;>simp [uf]<;>omega
 |cons c cs ih =>
  intro l a b p
  cases l with
  |zero =>
   simp only [uf]
   split
   · simp;omega
   . have:=ih (ldN c).toNat (XT c) (XU c) (p+1)
     simp at this⊢;omega
  |succ l =>
   simp only [uf]
   split
   · simp;omega
   . have:=ih l 128 191 (p+1)
     simp at this⊢;omega
theorem allB_snoc {acc}{y:Int}(h:Qm acc)(h0:0<=y)(h1:y<=255):Qm (acc++[y]):=λi=>by
 by_cases a:i<acc.length
 . have:(acc++[y]).getD i 0=acc.getD i 0:=by simp [List.getD,List.getElem?_append_left a]
   rw [this];exact h i
 . by_cases b:i=acc.length
   . subst b
     have:(acc++[y]).getD acc.length 0=y:=by simp [List.getD]
     rw [this];exact ⟨h0,h1⟩
   . have:(acc++[y]).getD i 0=0:=by simp [List.getD,List.getElem?_eq_none (show (acc++[y]).length<=i by simp;omega)]
     rw [this];omega
theorem allB_drop {l}(h:Qm l)(n:Nat):Qm (l.drop n):=λi=>by
 have:(l.drop n).getD i 0=l.getD (n+i) 0:=by simp [List.getD]
 rw [this];exact h (n+i)
theorem take_snoc (bs:List Int)(p1 k:Nat)(h:p1+k<bs.length):(bs.drop p1).take k++[bs.getD (p1+k) 0]=(bs.drop p1).take (k+1):=by
 rw [List.take_succ]
 congr 1
 simp [List.getD,List.getElem?_eq_getElem h]
theorem drop_sub (bs:List Int)(p1 a k:Nat)(h:a<=k):((bs.drop p1).take k).drop a=(bs.drop (p1+a)).take (p1+k-(p1+a)):=by
 rw [List.drop_take,List.drop_drop]
 congr 1
 omega
theorem nz_size' (bs:List Int)(E:Int)(p:Nat):(Jl bs E p).nz:=Qk (Q9 _ _ _ _) λn p1=>nz_if (nz_bad _ _ (by decide)) (XZ _ _)
def isStr (u:Value):Prop:=∃ b:ByteArray,u=.string b
theorem oneU1 (x:Int):∀ u ∈ [Value.int .u8 x],u.oneCell'=true:=by
 intro u a;simp at a;subst a;rfl
theorem QI {W:World}{B e sz n:Nat}{v:Value}{xs:List Value}(h:W.ownsRow B e sz v n xs)(j:0<n):∃ g c,v=.slice (some ⟨g,0,none⟩) n c/\n<=c:=by
 rcases h.2 with ⟨h0,k⟩|⟨g,a,f,b,_,_,d,_⟩
 . omega
 . exact ⟨g,a,b,d⟩
theorem nilRowB {B w0 s ba bc bs p er at_ K bx rs w}(h:Sd B w0 s ba bc bs p er at_ K bx rs w):Sd B w0 s ba bc bs p er at_ K bx (bR (.slice (some ⟨w.heap.size,0,none⟩) 0 0) []::rs) (w.alloc (.cells #[] 5)) :=
 h.new (bF.alloc lR _) (World.ownsRow_lit w #[] 0 lR (by decide) rfl)
theorem row_has {W:World}{B:Nat}{la:Option Addr}{lc:Nat}{l:List Int}(h:(bR (.slice la l.length lc) l).Ok B W):By.Has W la l:=by
 by_cases d:l=[]
 . exact .inl d
 . rcases h.2 with ⟨h0,f⟩|⟨g,b,j,c,_⟩
   . exact .inl (List.length_eq_zero_iff.1 f)
   . have a:Value.slice la l.length lc=.slice (some ⟨g,0,none⟩) l.length b:=c
     injection a with e1 e2 e3
     subst e1 e3
     refine .inr ⟨g,0,rfl,λi hi=>?_⟩
     have:=World.ownsRow.cellAt (show W.ownsRow B 5 1 (.slice (some ⟨g,0,none⟩) l.length lc) l.length (U l) from h) i (by omega)
     rw [Nat.zero_add,this]
     simp [U,List.getD,hi]
theorem row_from {W:World}{B g c a:Nat}{l:List Int}(h:(bR (.slice (some ⟨g,0,none⟩) l.length c) l).Ok B W)(f:a<=l.length):HasB W (some ⟨g,a,none⟩) (l.drop a):=by
 by_cases d:l.drop a=[]
 . exact .inl d
 . refine .inr ⟨g,a,rfl,λi hi=>?_⟩
   have b:a+i<l.length:=by simp at hi;omega
   have:=World.ownsRow.cellAt (show W.ownsRow B 5 1 (.slice (some ⟨g,0,none⟩) l.length c) l.length (U l) from h) (a+i) (by omega)
   rw [this]
   simp [U,List.getD,b]
theorem nameE {B w0 s ba bc bs p er at_ K bx rs w}(h:Sd B w0 s ba bc bs p er at_ K bx rs w)(d:er≠0):Calls Tryz.prog 218 #[.pointer (some ⟨s,0,none⟩)] w λe w'=>(∃ b,e=.returned (.string b))/\Sd B w0 s ba bc bs p er at_ K bx rs w':=by
 have l:=Hm (sizeE h d);have k:=Hm (λx=>Xm 23 0 0 x h d);have g:=nilRowB h;obtain ⟨z,r,j,c3⟩:=g.c3n d;have f:=λW=>GX (W:=W) (a:=some ⟨w.heap.size,0,none⟩) (xs:=[]) (c:=0) (.inl rfl)
 simp only [List.length_nil] at f
 have m:=Hm g.drop;clear h g
 go_enter Tryz.func218,Tryz.ntmps218
 go_wp2_with fail
 refine (l.o).mono ?_
 rintro e q ⟨rfl,rfl⟩
 go_wp2_with fail
 refine (k.o _).mono ?_
 rintro e n ⟨rfl,rfl⟩
 go_wp2_with fail
 refine wp_loop_rounds 1 ?_
 rw [rounds_succ]
 go_wp2_with fail
 go_ret
 exact ⟨⟨_,rfl⟩,m.o⟩
theorem nameD {B w0 s ba bc bs p K bx rs w}(h:Sd B w0 s ba bc bs p 0 0 K bx rs w)(b3:bc.en≠0)(hK:K<=1099511627776)(hA:Qm bs)(hl:bs.length<=1099511627776):Calls Tryz.prog 218 #[.pointer (some ⟨s,0,none⟩)] w (SdP (Xa bs bc.E p) (λv=>.string v) isStr B w0 s ba bc bs (K+1) bx rs):=by
 obtain ⟨i0,hi,ah,ag,af⟩:=info_parts Tryz.info5;have KS:=Hm (sizeDD h b3 hA hl);clear h;unfold Xa
 rcases V:Jl bs bc.E p with ⟨er,a⟩|⟨n,d⟩
 . have aj:=nz_size' bs bc.E p er a V;rw [V] at KS;clear V
   show Calls _ _ _ _ (SdP (.bad er a:Rs ByteArray) _ _ _ _ _ _ _ _ _ _ _)
   go_enter Tryz.func218,Tryz.ntmps218
   go_wp2_with fail
   refine (KS.o).mono ?_
   rintro e w2 ⟨u,q,rfl,⟨v,rfl⟩,F⟩;have KT:=Hm (λx=>Xm 23 0 0 x F aj);have h1:=nilRowB F;obtain ⟨z,hz,cj,c3⟩:=h1.c3n aj;have b4:=λW=>GX (W:=W) (a:=some ⟨w2.heap.size,0,none⟩) (xs:=[]) (c:=0) (.inl rfl)
   simp only [List.length_nil] at b4
   have H1:=Hm (h1.drop.err aj (K+1));clear F h1 KS
   go_wp2_with fail
   refine (KT.o _).mono ?_
   rintro e w3 ⟨rfl,rfl⟩
   by_cases hv:0<v
   . go_wp2_with fail
     refine wp_loop_rounds 1 ?_
     rw [rounds_succ]
     go_wp2_with fail
     go_ret
     exact ⟨_,_,rfl,⟨_,rfl⟩,H1.o⟩
   . have ck:decide (0<v)=false:=decide_eq_false hv
     go_wp2_with fail
     refine wp_loop_rounds 1 ?_
     rw [rounds_succ]
     go_wp2_with fail
     go_ret
     exact ⟨_,_,rfl,⟨_,rfl⟩,H1.o⟩
 have b5:=GH hA V;obtain ⟨N,rfl⟩:=Int.eq_ofNat_of_zero_le b5.1;rw [V] at KS;clear V
 show Calls _ _ _ _ (SdP ((Jn bs N d d).bind λ_ p2=>.ok (strOfNums ((bs.drop d).take (p2-d))) p2) _ _ _ _ _ _ _ _ _ _ _)
 go_enter Tryz.func218,Tryz.ntmps218
 go_wp2_with fail
 refine (KS.o).mono ?_
 rintro e w2 ⟨rfl,F⟩;have H2:=Hm F;clear F KS
 go_wp2_with fail
 refine (Xx 23 0 0 _ H2.o hK).mono ?_
 rintro e w3 ⟨rfl,F⟩;have h3:=nilRowB F;have H3:=Hm h3;clear F h3 H2
 go_wp2_with fail
 go_loopw [4,5,6] (λo f i wr=>∃ (k g:Nat) (b:List Int) (S:Option Addr) (R:Nat),k<=N/\i=.int .i64 (k:Int)/\f=.int .i64 (g:Int)/\o=.slice S b.length R/\g<=b.length/\b.length<=bs.length+1/\Qm b/\((b=(bs.drop d).take k/\b.length=k/\Jn bs N d d=Jn bs (N-k) (d+g) (d+k)/\Sd B w0 s ba bc bs (d+k) 0 0 (K+1) bx (bR (.slice S b.length R) b::rs) wr)\/(∃ er a q,er≠0/\Jn bs N d d=.bad er a/\Sd B w0 s ba bc bs q er a (K+1) bx (bR (.slice S b.length R) b::rs) wr))) (λ_ _ i _=>N-(intOf i).toNat)
 case atStart=>exact ⟨0,0,[],_,_,Nat.zero_le _,rfl,rfl,rfl,by simp,by simp,λi=>by simp,.inl ⟨by simp,rfl,rfl,H3.o⟩⟩
 case round =>
  obtain ⟨k,g,b,S,R,hk,rfl,rfl,rfl,hwl,co,bn,ap⟩:=hrel;clear H3
  rcases ap with ⟨O,L,V,F⟩|⟨er,a,q,aj,V,F⟩
  . have cl:=F.le;have c3:=F.c3;have c1:=F.c1;have HS:=Hm F;have KQ:=Hm (byteD F hl)
    by_cases cn:k<N
    . have az:(k:Int)<(N:Int):=by omega
      have ap:N-k=(N-(k+1))+1:=by omega
      rw [ap] at V
      simp only [Jn] at V
      by_cases ai:bs.length<=d+k
      . have HX:Hid (Jn bs N d d=.bad 2 bs.length):=by show _=_;rw [V];unfold Qx;rw [if_pos ai];rfl
        rw [show Qx bs (d+k)=.bad 2 bs.length by unfold Qx;rw [if_pos ai]] at KQ;clear V ap F ai O;obtain ⟨C,Y⟩:∃ C,uf 0 0 0 0 ((b++[0]).drop g)=C:=⟨_,rfl⟩;have a6:=uf_ge 0 0 0 0 ((b++[0]).drop g);have ac:=uf_le ((b++[0]).drop g) 0 0 0 0;rw [Y] at a6 ac;have b7:C<=(b.length:Int)+1-g:=by simp at ac;omega
        have bv:IntKind.i64.wrap ((b.length:Int)+1-(g:Int))=(b.length:Int)+1-g:=by rw [IntKind.wrap_i64];omega
        have b6:(g:Int)<=(b.length:Int)+1:=by omega
        have D:=allB_snoc (y:=0) bn (by first|decide|exact ao.1) (by first|decide|exact ao.2)
        have ad:Hid (∀ W r j,(bR (.slice (some ⟨r,0,none⟩) (b.length+1) j) (b++[0])).Ok B W->Calls Tryz.prog 127 #[.slice (some ⟨r,g,none⟩) (b.length+1-g) (j-g)] W λe w'=>e=.returned (.int .i64 C)/\W=w'):=λW r j hr=>by
         have h1:(bR (.slice (some ⟨r,0,none⟩) (b++[0]).length j) (b++[0])).Ok B W:=by simpa using hr
         have h2:=specUtf8_any (some ⟨r,g,none⟩) (j-g) ((b++[0]).drop g) W (by simp;omega) (row_from h1 (by simp;omega)) (allB_drop D g);rw [Y,show (List.drop g (b++([0]:List Int))).length=b.length+1-g by simp] at h2
         exact h2
        clear Y ac;have t:=Hm L;clear L;have ab:C=-1\/(0<=C/\C<(b.length:Int)+1-g)\/(0<=C/\C=(b.length:Int)+1-g):=by omega
        rcases ab with hf|hf|hf
        . subst hf
          go_wp2_with (first
           |(go_at_call 73;refine (KQ.o).mono ?_;rintro e X ⟨u,q',rfl,rfl,l⟩;have M:=Hm l;clear l KQ)
           |(at_builtin;refine wpList_append_own_at _ rfl _ _ 22 rfl B 5 i0 (.int .u8 0) 1 1 Tryz.underlying22 hi ah ag af rfl (by decide) (.slice S b.length R) b.length (U b) rfl (World.ownsRow.alloc (show World.ownsRow X B 5 1 (.slice S b.length R) b.length (U b) from M.o.row mS) _) ⟨X.heap.size,0,none⟩ 1 1 [.int .u8 0] rfl rfl (cell_one_new _ _ _) (oneU1 _) (by unfold maxLen;omega) (by omega) (by have:=M.o.hB;simp;omega) ?_;intro v6 w6 H Z J m;obtain ⟨r,j,I,au⟩:=QI H (by omega);subst I;have A:=Hm (M.o.push (r':=bR (.slice (some ⟨r,0,none⟩) (b.length+1) j) (b++[0])) (bF.alloc lR _) Z (by have:=H;simpa [Qc.Ok,bR,U] using this) m);clear H Z J m;have ar:¬ j=g:=(by omega);have av:(b.length:Int)+1<=(j:Int):=(by omega);have e1:=A.o.c1)
           |(go_at_call 127;refine (ad.o w6 r j (A.o.row mS)).mono ?_;rintro e w7 ⟨rfl,rfl⟩)
           | (go_at_call 74;refine (liftE A.o (fun v hv=>fail_se s ba _ bs q' 2 bs.length 9 _ w6 hv (by decide))).mono ?_;rintro e w8 ⟨rfl,rfl⟩))
          go_roundw
          case rel=>exact ⟨k+1,b.length+1,b++[0],some ⟨r,0,none⟩,j,by omega,by go_num,by first|rfl|go_num,by simp,by simp;try omega,by have:=t.o;simp;omega,D,.inr ⟨2,bs.length,q',by decide,HX.o,by simpa using A.o⟩⟩
          case measure=>simp [intOf];omega
        . have q1:¬ C<0:=by omega
          have q3:decide (C<0)=false:=decide_eq_false q1;obtain ⟨a5,a4⟩:=hf
          go_wp2_with (first
           |(go_at_call 73;refine (KQ.o).mono ?_;rintro e X ⟨u,q',rfl,rfl,l⟩;have M:=Hm l;clear l KQ)
           |(at_builtin;refine wpList_append_own_at _ rfl _ _ 22 rfl B 5 i0 (.int .u8 0) 1 1 Tryz.underlying22 hi ah ag af rfl (by decide) (.slice S b.length R) b.length (U b) rfl (World.ownsRow.alloc (show World.ownsRow X B 5 1 (.slice S b.length R) b.length (U b) from M.o.row mS) _) ⟨X.heap.size,0,none⟩ 1 1 [.int .u8 0] rfl rfl (cell_one_new _ _ _) (oneU1 _) (by unfold maxLen;omega) (by omega) (by have:=M.o.hB;simp;omega) ?_;intro v6 w6 H Z J m;obtain ⟨r,j,I,au⟩:=QI H (by omega);subst I;have A:=Hm (M.o.push (r':=bR (.slice (some ⟨r,0,none⟩) (b.length+1) j) (b++[0])) (bF.alloc lR _) Z (by have:=H;simpa [Qc.Ok,bR,U] using this) m);clear H Z J m;have ar:¬ j=g:=(by omega);have av:(b.length:Int)+1<=(j:Int):=(by omega);have e1:=A.o.c1)
           |(go_at_call 127;refine (ad.o w6 r j (A.o.row mS)).mono ?_;rintro e w7 ⟨rfl,rfl⟩)
           | (go_at_call 74;refine (liftE A.o (fun v hv=>fail_se s ba _ bs q' 2 bs.length 9 _ w6 hv (by decide))).mono ?_;rintro e w8 ⟨rfl,rfl⟩))
          go_roundw
          case rel=>exact ⟨k+1,g,b++[0],some ⟨r,0,none⟩,j,by omega,by go_num,by first|rfl|go_num,by simp,by simp;try omega,by have:=t.o;simp;omega,D,.inr ⟨2,bs.length,q',by decide,HX.o,by simpa using A.o⟩⟩
          case measure=>simp [intOf];omega
        . have q1:¬ C<0:=by omega
          have q4:¬ C<(b.length:Int)+1-g:=by omega
          have q3:decide (C<0)=false:=decide_eq_false q1;obtain ⟨a5,a4⟩:=hf
          go_wp2_with (first
           |(go_at_call 73;refine (KQ.o).mono ?_;rintro e X ⟨u,q',rfl,rfl,l⟩;have M:=Hm l;clear l KQ)
           |(at_builtin;refine wpList_append_own_at _ rfl _ _ 22 rfl B 5 i0 (.int .u8 0) 1 1 Tryz.underlying22 hi ah ag af rfl (by decide) (.slice S b.length R) b.length (U b) rfl (World.ownsRow.alloc (show World.ownsRow X B 5 1 (.slice S b.length R) b.length (U b) from M.o.row mS) _) ⟨X.heap.size,0,none⟩ 1 1 [.int .u8 0] rfl rfl (cell_one_new _ _ _) (oneU1 _) (by unfold maxLen;omega) (by omega) (by have:=M.o.hB;simp;omega) ?_;intro v6 w6 H Z J m;obtain ⟨r,j,I,au⟩:=QI H (by omega);subst I;have A:=Hm (M.o.push (r':=bR (.slice (some ⟨r,0,none⟩) (b.length+1) j) (b++[0])) (bF.alloc lR _) Z (by have:=H;simpa [Qc.Ok,bR,U] using this) m);clear H Z J m;have ar:¬ j=g:=(by omega);have av:(b.length:Int)+1<=(j:Int):=(by omega);have e1:=A.o.c1)
           |(go_at_call 127;refine (ad.o w6 r j (A.o.row mS)).mono ?_;rintro e w7 ⟨rfl,rfl⟩)
           | (go_at_call 74;refine (liftE A.o (fun v hv=>fail_se s ba _ bs q' 2 bs.length 9 _ w6 hv (by decide))).mono ?_;rintro e w8 ⟨rfl,rfl⟩))
          go_roundw
          case rel=>exact ⟨k+1,g,b++[0],some ⟨r,0,none⟩,j,by omega,by go_num,by first|rfl|go_num,by simp,by simp;try omega,by have:=t.o;simp;omega,D,.inr ⟨2,bs.length,q',by decide,HX.o,by simpa using A.o⟩⟩
          case measure=>simp [intOf];omega
      have bm:d+k<bs.length:=by omega
      obtain ⟨y,hy⟩:∃ y,bs.getD (d+k) 0=y:=⟨_,rfl⟩;have ao:=hA (d+k);rw [hy] at ao;rw [show Qx bs (d+k)=.ok y (d+k+1) by unfold Qx;rw [if_neg ai,hy]] at KQ;have aw:Hid (b++[y]=(bs.drop d).take (k+1)):=by show _=_;rw [O,<- hy];exact take_snoc bs d k bm
      obtain ⟨C,Y⟩:∃ C,uf 0 0 0 0 ((b++[y]).drop g)=C:=⟨_,rfl⟩;have a6:=uf_ge 0 0 0 0 ((b++[y]).drop g);have ac:=uf_le ((b++[y]).drop g) 0 0 0 0;rw [Y] at a6 ac;have b7:C<=(b.length:Int)+1-g:=by simp at ac;omega
      have bv:IntKind.i64.wrap ((b.length:Int)+1-(g:Int))=(b.length:Int)+1-g:=by rw [IntKind.wrap_i64];omega
      have b6:(g:Int)<=(b.length:Int)+1:=by omega
      have D:=allB_snoc (y:=y) bn (by first|decide|exact ao.1) (by first|decide|exact ao.2)
      have ad:Hid (∀ W r j,(bR (.slice (some ⟨r,0,none⟩) (b.length+1) j) (b++[y])).Ok B W->Calls Tryz.prog 127 #[.slice (some ⟨r,g,none⟩) (b.length+1-g) (j-g)] W λe w'=>e=.returned (.int .i64 C)/\W=w'):=λW r j hr=>by
       have h1:(bR (.slice (some ⟨r,0,none⟩) (b++[y]).length j) (b++[y])).Ok B W:=by simpa using hr
       have h2:=specUtf8_any (some ⟨r,g,none⟩) (j-g) ((b++[y]).drop g) W (by simp;omega) (row_from h1 (by simp;omega)) (allB_drop D g);rw [Y,show ((b++[y]).drop g).length=b.length+1-g by simp] at h2
       exact h2
      have HN:Hid (Jn bs N d d=if C=-1 then Jn bs (N-(k+1)) (d+k+1) (d+k+1) else if C=(b.length:Int)+1-g then Jn bs (N-(k+1)) (d+g) (d+k+1) else .bad 9 (d+k+1:Nat)):=by
       show _=_
       rw [V];unfold Qx;rw [if_neg ai]
       simp only [Rs.bind]
       have e1:(bs.drop (d+g)).take (d+k+1-(d+g))=(b++[y]).drop g:=by
        rw [aw.o,drop_sub bs d g (k+1) (by omega)];rfl
       rw [e1,Y];have e2:(((d+k+1:Nat):Int)-((d+g:Nat):Int))=(b.length:Int)+1-g:=by omega
       rw [e2]
      clear Y ac V ap F ai O hy;have t:=Hm L;clear L;have ab:C=-1\/(0<=C/\C<(b.length:Int)+1-g)\/(0<=C/\C=(b.length:Int)+1-g):=by omega
      rcases ab with hf|hf|hf
      . subst hf;have HX:Hid (Jn bs N d d=Jn bs (N-(k+1)) (d+(b.length+1)) (d+(k+1))):=by show _=_;rw [HN.o,if_pos rfl,t.o];rfl
        clear HN
        go_wp2_with (first
         |(go_at_call 73;refine (KQ.o).mono ?_;rintro e X ⟨rfl,l⟩;have M:=Hm l;clear l KQ)
         |(at_builtin;refine wpList_append_own_at _ rfl _ _ 22 rfl B 5 i0 (.int .u8 0) 1 1 Tryz.underlying22 hi ah ag af rfl (by decide) (.slice S b.length R) b.length (U b) rfl (World.ownsRow.alloc (show World.ownsRow X B 5 1 (.slice S b.length R) b.length (U b) from M.o.row mS) _) ⟨X.heap.size,0,none⟩ 1 1 [.int .u8 y] rfl rfl (cell_one_new _ _ _) (oneU1 _) (by unfold maxLen;omega) (by omega) (by have:=M.o.hB;simp;omega) ?_;intro v6 w6 H Z J m;obtain ⟨r,j,I,au⟩:=QI H (by omega);subst I;have A:=Hm (M.o.push (r':=bR (.slice (some ⟨r,0,none⟩) (b.length+1) j) (b++[y])) (bF.alloc lR _) Z (by have:=H;simpa [Qc.Ok,bR,U] using this) m);clear H Z J m;have ar:¬ j=g:=(by omega);have av:(b.length:Int)+1<=(j:Int):=(by omega);have e3:=A.o.c3;have e1:=A.o.c1)
         |(go_at_call 127;refine (ad.o w6 r j (A.o.row mS)).mono ?_;rintro e w7 ⟨rfl,rfl⟩)
         | (go_at_call 74;refine (Gv 9 ((d+k+1:Nat):Int) A.o (by decide)).mono ?_;rintro e w8 ⟨rfl,G⟩;have H8:=Hm G;clear G))
        go_roundw
        case rel=>exact ⟨k+1,b.length+1,b++[y],some ⟨r,0,none⟩,j,by omega,by go_num,by first|rfl|go_num,by simp,by simp;try omega,by have:=t.o;simp;omega,D,.inl ⟨aw.o,by have:=t.o;simp;omega,HX.o,by have:=A.o;rw [show d+(k+1)=d+k+1 by omega];simpa using this⟩⟩
        case measure=>simp [intOf];omega
      . have q1:¬ C<0:=by omega
        have q3:decide (C<0)=false:=decide_eq_false q1;obtain ⟨a5,a4⟩:=hf;have HX:Hid (Jn bs N d d=.bad 9 (d+k+1:Nat)):=by show _=_;rw [HN.o,if_neg (by omega),if_neg (by omega)]
        clear HN
        go_wp2_with (first
         |(go_at_call 73;refine (KQ.o).mono ?_;rintro e X ⟨rfl,l⟩;have M:=Hm l;clear l KQ)
         |(at_builtin;refine wpList_append_own_at _ rfl _ _ 22 rfl B 5 i0 (.int .u8 0) 1 1 Tryz.underlying22 hi ah ag af rfl (by decide) (.slice S b.length R) b.length (U b) rfl (World.ownsRow.alloc (show World.ownsRow X B 5 1 (.slice S b.length R) b.length (U b) from M.o.row mS) _) ⟨X.heap.size,0,none⟩ 1 1 [.int .u8 y] rfl rfl (cell_one_new _ _ _) (oneU1 _) (by unfold maxLen;omega) (by omega) (by have:=M.o.hB;simp;omega) ?_;intro v6 w6 H Z J m;obtain ⟨r,j,I,au⟩:=QI H (by omega);subst I;have A:=Hm (M.o.push (r':=bR (.slice (some ⟨r,0,none⟩) (b.length+1) j) (b++[y])) (bF.alloc lR _) Z (by have:=H;simpa [Qc.Ok,bR,U] using this) m);clear H Z J m;have ar:¬ j=g:=(by omega);have av:(b.length:Int)+1<=(j:Int):=(by omega);have e3:=A.o.c3;have e1:=A.o.c1)
         |(go_at_call 127;refine (ad.o w6 r j (A.o.row mS)).mono ?_;rintro e w7 ⟨rfl,rfl⟩)
         | (go_at_call 74;refine (Gv 9 ((d+k+1:Nat):Int) A.o (by decide)).mono ?_;rintro e w8 ⟨rfl,G⟩;have H8:=Hm G;clear G))
        go_roundw
        case rel=>exact ⟨k+1,g,b++[y],some ⟨r,0,none⟩,j,by omega,by go_num,by first|rfl|go_num,by simp,by simp;try omega,by have:=t.o;simp;omega,D,.inr ⟨9,_,_,by decide,HX.o,by simpa using H8.o⟩⟩
        case measure=>simp [intOf];omega
      . have q1:¬ C<0:=by omega
        have q4:¬ C<(b.length:Int)+1-g:=by omega
        have q3:decide (C<0)=false:=decide_eq_false q1;obtain ⟨a5,a4⟩:=hf;have HX:Hid (Jn bs N d d=Jn bs (N-(k+1)) (d+g) (d+(k+1))):=by show _=_;rw [HN.o,if_neg (by omega),if_pos (by omega)];rfl
        clear HN
        go_wp2_with (first
         |(go_at_call 73;refine (KQ.o).mono ?_;rintro e X ⟨rfl,l⟩;have M:=Hm l;clear l KQ)
         |(at_builtin;refine wpList_append_own_at _ rfl _ _ 22 rfl B 5 i0 (.int .u8 0) 1 1 Tryz.underlying22 hi ah ag af rfl (by decide) (.slice S b.length R) b.length (U b) rfl (World.ownsRow.alloc (show World.ownsRow X B 5 1 (.slice S b.length R) b.length (U b) from M.o.row mS) _) ⟨X.heap.size,0,none⟩ 1 1 [.int .u8 y] rfl rfl (cell_one_new _ _ _) (oneU1 _) (by unfold maxLen;omega) (by omega) (by have:=M.o.hB;simp;omega) ?_;intro v6 w6 H Z J m;obtain ⟨r,j,I,au⟩:=QI H (by omega);subst I;have A:=Hm (M.o.push (r':=bR (.slice (some ⟨r,0,none⟩) (b.length+1) j) (b++[y])) (bF.alloc lR _) Z (by have:=H;simpa [Qc.Ok,bR,U] using this) m);clear H Z J m;have ar:¬ j=g:=(by omega);have av:(b.length:Int)+1<=(j:Int):=(by omega);have e3:=A.o.c3;have e1:=A.o.c1)
         |(go_at_call 127;refine (ad.o w6 r j (A.o.row mS)).mono ?_;rintro e w7 ⟨rfl,rfl⟩)
         | (go_at_call 74;refine (Gv 9 ((d+k+1:Nat):Int) A.o (by decide)).mono ?_;rintro e w8 ⟨rfl,G⟩;have H8:=Hm G;clear G))
        go_roundw
        case rel=>exact ⟨k+1,g,b++[y],some ⟨r,0,none⟩,j,by omega,by go_num,by first|rfl|go_num,by simp,by simp;try omega,by have:=t.o;simp;omega,D,.inl ⟨aw.o,by have:=t.o;simp;omega,HX.o,by have:=A.o;rw [show d+(k+1)=d+k+1 by omega];simpa using this⟩⟩
        case measure=>simp [intOf];omega
    . have b2:k=N:=by omega
      subst b2;have az:¬ (k:Int)<(k:Int):=by omega
      have bz:decide ((k:Int)<(k:Int))=false:=decide_eq_false az;have a0:Jn bs k d d=if d+g<d+k then .bad 9 (d+k:Nat) else .ok () (d+k):=by rw [V,Nat.sub_self];rfl
      have aw:=Hm O;have t:=Hm L
      by_cases bk:g<b.length
      . have bw:(g:Int)<(b.length:Int):=by omega
        have HX:Hid (Jn bs k d d=.bad 9 (d+k:Nat)):=by show _=_;rw [a0,if_pos (by omega)]
        have KF:=Hm (Gv 9 ((d+k:Nat):Int) F (by decide));clear V a0 F O KQ L
        go_wp2_with fail
        refine (KF.o).mono ?_
        rintro e w8 ⟨rfl,G⟩;have a2:=GX (W:=w8) (a:=S) (xs:=b) (c:=R) (row_has (G.row mS));have H8:=Hm G.drop;clear G
        go_wp2_with fail
        go_ret
        rw [HX.o]
        exact ⟨_,_,rfl,⟨_,rfl⟩,H8.o⟩
      . have bw:¬ (g:Int)<(b.length:Int):=by omega
        have HX:Hid (Jn bs k d d=.ok () (d+k)):=by show _=_;rw [a0,if_neg (by omega)]
        have a2:=GX (W:=wr) (a:=S) (xs:=b) (c:=R) (row_has (F.row mS));clear V a0 F O KQ L
        go_wp2_with fail
        go_ret
        rw [HX.o]
        refine ⟨?_,HS.o.drop⟩
        show Ending.returned _=Ending.returned _
        rw [show d+k-d=k by omega,<- aw.o]
        rfl
  . obtain ⟨zz,ci,ca,c3⟩:=F.c3n aj;have HD:Hid (Jn bs N d d=.bad er a):=V;have a2:=GX (W:=wr) (a:=S) (xs:=b) (c:=R) (row_has (F.row mS));have c1:=F.c1;have KF:=Hm (λx=>liftE F (λv hv=>fail_se s ba _ bs q er a 9 x wr hv aj));have HS:=Hm F.drop;clear V F
    by_cases az:(k:Int)<(N:Int)
    . by_cases bk:(g:Int)<(b.length:Int)
      . go_wp2_with fail
        refine (KF.o _).mono ?_
        rintro e w8 ⟨rfl,rfl⟩
        go_wp2_with fail
        go_ret
        rw [HD.o]
        exact ⟨_,_,rfl,⟨_,rfl⟩,HS.o⟩
      . go_wp2_with fail
        go_ret
        rw [HD.o]
        exact ⟨_,_,rfl,⟨_,rfl⟩,HS.o⟩
    . have bz:decide ((k:Int)<(N:Int))=false:=decide_eq_false az
      by_cases bk:(g:Int)<(b.length:Int)
      . go_wp2_with fail
        refine (KF.o _).mono ?_
        rintro e w8 ⟨rfl,rfl⟩
        go_wp2_with fail
        go_ret
        rw [HD.o]
        exact ⟨_,_,rfl,⟨_,rfl⟩,HS.o⟩
      . go_wp2_with fail
        go_ret
        rw [HD.o]
        exact ⟨_,_,rfl,⟨_,rfl⟩,HS.o⟩
theorem sins_3 (g bp:Int){B w0 s ba bc bs p K bx rs w}(hf:QM (Qr g)=3)(h:Sd B w0 s ba bc bs p 0 0 K bx rs w)(hK:K<=1099511627776)(hA:Qm bs)(hl:bs.length<=1099511627776) :
    Calls Tryz.prog 278 #[.pointer (some ⟨s,0,none⟩),.int .i64 g,.int .i64 bp] w (SiD (JQ 3 g bs p) B w0 s ba bc bs K bx rs):=by
 have HF:=Hm (X7 g);rw [hf] at HF;obtain ⟨W,hW⟩:∃ W,W=(w.alloc (.cells #[.int .i64 0,.int .i64 0,.int .i64 0,.int .u64 0,.slice none 0 0] 170)).alloc (.cells #[.int .i64 g,.int .i64 0,.int .i64 0,.int .u64 0,.slice none 0 0] 170):=⟨_,rfl⟩;have h0:=two_boxes g h;rw [<- hW] at h0;have HW:=Hm hW;have H0:=Hm h0;clear hf hW h0 h;obtain ⟨i0,hi,a0,az,ay⟩:=info_parts Tryz.info2;have Y:Hid (JQ 3 g bs p=(vecM bs p).bind λl p1=>(Qy false 32 bs p1).bind λa p2=>.ok ⟨g,a,0,0,l⟩ p2):=rfl;have KN:=Hm (λV q K' bx' rs' (hV:Sd B w0 s ba bc bs q 0 0 K' bx' rs' V)=>lift hV (λv hv=>u32_sc s ba _ bs q V hv hA hl));have KE:=Hm (λV q er a K' bx' rs' (hV:Sd B w0 s ba bc bs q er a K' bx' rs' V) (d:er≠0)=>liftE hV (λv hv=>u32_se s ba _ bs q er a V hv d));have aw:=Hm (λq=>Q9 false 32 bs q)
 cases hM1:Qy false 32 bs p with
 |bad er a =>
  have d:=aw.o p er a hM1;have HD:Hid (JQ 3 g bs p=.bad er a):=by show _=_;rw [Y.o];simp only [vecM,hM1,Rs.bind]
  have K1:=Hm (KN.o _ _ _ _ _ H0.o);rw [hM1] at K1;clear hM1 Y KN aw
  go_enter Tryz.func278,Tryz.ntmps278
  go_wp2_with fail
  rw [<- HW.o]
  refine (HF.o _).mono ?_
  rintro e w2 ⟨rfl,rfl⟩;clear HF HW
  go_wp2_with fail
  refine (K1.o).mono ?_
  rintro e w3 ⟨u,q,rfl,⟨v0,rfl⟩,r⟩;have j:=Hm r;have H4:=Hm (r.set0 1 (.int .i64 0));have KT:=Hm (λx=>Xm 22 0 0 x r d);have E:=Hm (KE.o _ _ _ _ _ _ _ r d);obtain ⟨zz,bj,ax,e3⟩:=r.c3n d;clear r H0 K1 KE;have X:=j.o.b0.2.1 0 _ rfl;have ao:=j.o.b0.2.2 0;have L:=j.o.b1.2.1 0 _ rfl;have ag:=j.o.b1.2.2 0;have U:=j.o.b0.2.1 1 _ rfl;have ak:=j.o.b0.2.2 1;have J:=j.o.b1.2.1 1 _ rfl;have af:=j.o.b1.2.2 1;have S:=j.o.b0.2.1 2 _ rfl;have aj:=j.o.b0.2.2 2;have H:=j.o.b1.2.1 2 _ rfl;have ae:=j.o.b1.2.2 2;have R:=j.o.b0.2.1 3 _ rfl;have ai:=j.o.b0.2.2 3;have z3:=j.o.b1.2.1 3 _ rfl;have ad:=j.o.b1.2.2 3;have O:=j.o.b0.2.1 4 _ rfl;have ah:=j.o.b0.2.2 4;have G:=j.o.b1.2.1 4 _ rfl;have ac:=j.o.b1.2.2 4
  go_wp2_with fail
  refine (KT.o _).mono ?_
  rintro e w4 ⟨rfl,rfl⟩
  by_cases bk:0<v0
  . go_wp2_with fail
    refine wp_loop_rounds 1 ?_
    rw [rounds_succ]
    go_wp2_with fail
    refine (E.o).mono ?_
    rintro e A ⟨rfl,rfl⟩
    go_wp2_with fail
    exact bodyPost_ret (v:=inV (⟨g,0,0,0,[]⟩:In) none 0) (by simp [results,Tryz.results278,go_sem,X,U,S,R,O,L,J,H,z3,G]) rfl (by
     rw [HD.o]
     exact ⟨_,_,_,rfl,d,_,(H4.o.fin5).err d _⟩
    )
  . have cd:decide (0<v0)=false:=decide_eq_false bk
    go_wp2_with fail
    refine wp_loop_rounds 1 ?_
    rw [rounds_succ]
    go_wp2_with fail
    refine (E.o).mono ?_
    rintro e A ⟨rfl,rfl⟩
    go_wp2_with fail
    exact bodyPost_ret (v:=inV (⟨g,0,0,0,[]⟩:In) none 0) (by simp [results,Tryz.results278,go_sem,X,U,S,R,O,L,J,H,z3,G]) rfl (by
     rw [HD.o]
     exact ⟨_,_,_,rfl,d,_,(H4.o.fin5).err d _⟩
    )
 |ok n p1 =>
  obtain ⟨a2,cc⟩:=Jq hA hM1;obtain ⟨N,rfl⟩:=Int.eq_ofNat_of_zero_le a2;have a5:Hid (vecM bs p=GP bs N [] p1):=by show _=_;simp only [vecM,hM1,Rs.bind,Int.toNat_natCast]
  have K1:=Hm (KN.o _ _ _ _ _ H0.o);rw [hM1] at K1;clear hM1 a2
  go_enter Tryz.func278,Tryz.ntmps278
  go_wp2_with fail
  rw [<- HW.o]
  refine (HF.o _).mono ?_
  rintro e w2 ⟨rfl,rfl⟩;clear HF HW
  go_wp2_with fail
  refine (K1.o).mono ?_
  rintro e w3 ⟨rfl,r⟩;have j:=Hm r;clear r K1 H0
  go_wp2_with fail
  refine (Xx 22 0 0 _ j.o hK).mono ?_
  rintro e w4 ⟨rfl,a1⟩;have H4:=Hm (a1.nilRow (T:=2) (sz:=1));clear a1 j
  go_wp2_with fail
  go_loopw [10] (λi wr=>∃ (k:Nat) (b:List Int) (z:Option Addr) (y:Nat),k<=N/\i=.int .i64 (k:Int)/\b.length<=bs.length+1/\((∃ q,GP bs N [] p1=GP bs (N-k) b q/\b.length<=q/\Sd B w0 s ba bc bs q 0 0 (K+1) ((w.heap.size+1,[.int .i64 g,.int .i64 0,.int .i64 0,.int .u64 0,.slice z b.length y])::(w.heap.size,[.int .i64 0,.int .i64 0,.int .i64 0,.int .u64 0,.slice none 0 0])::bx) (nR (.slice z b.length y) b::rs) wr)\/(∃ er a q,er≠0/\GP bs N [] p1=.bad er a/\Sd B w0 s ba bc bs q er a (K+1) ((w.heap.size+1,[.int .i64 g,.int .i64 0,.int .i64 0,.int .u64 0,.slice z b.length y])::(w.heap.size,[.int .i64 0,.int .i64 0,.int .i64 0,.int .u64 0,.slice none 0 0])::bx) (nR (.slice z b.length y) b::rs) wr))) (λi _=>N-(intOf i).toNat)
  case atStart=>exact ⟨0,[],none,0,Nat.zero_le _,rfl,by simp,.inl ⟨p1,rfl,by simp,H4.o⟩⟩
  case round =>
   obtain ⟨k,b,z,y,hk,rfl,cf,bm⟩:=hrel;clear H4
   rcases bm with ⟨q,hM,ce,F⟩|⟨er,a,q,d,hM,F⟩
   . have b9:=F.le;have c3:=F.c3;have HM:=Hm hM;have KQ:=Hm (KN.o _ _ _ _ _ F);have m:=aw.o q;have C:=λv q2=>Xo (s:=false) (B:=32) (bs:=bs) (p:=q) (p1:=q2) (v:=v) (by omega);clear F hM
     by_cases bn:k<N
     . have au:(k:Int)<(N:Int):=by omega
       have a6:Hid (GP bs N [] p1=(Qy false 32 bs q).bind λv q2=>GP bs (N-(k+1)) (b++[v]) q2):=by show _=_;rw [HM.o,show N-k=(N-(k+1))+1 by omega];rfl
       clear HM;generalize Qy false 32 bs q=M at *
       cases M with
       |bad er a =>
        have d:=m er a rfl;clear m C
        go_wp2_with (first
         |(go_at_call 145;refine (KQ.o).mono ?_;rintro e A ⟨u,q',rfl,⟨v0,rfl⟩,f⟩;have c:=Hm f;have x4:=f.b0.2.1 4 _ rfl;clear f KQ)
         | (at_builtin;refine wpList_append_own_at _ rfl _ _ 25 rfl B 2 i0 (.int .i64 0) 1 8 Tryz.underlying25 hi a0 az ay rfl (by decide) (.slice z b.length y) b.length (I b) rfl (World.ownsRow.alloc (show World.ownsRow A B 2 1 (.slice z b.length y) b.length (I b) from c.o.row mS) _) ⟨A.heap.size,0,none⟩ 1 1 [.int .i64 v0] rfl rfl (cell_one_new _ _ _) (oneI _) (by unfold maxLen;omega) (by omega) (by have:=c.o.hB;simp;omega) ?_;intro v6 w6 o6 g6 ar D;obtain ⟨va,vc,rfl⟩:=QZ o6;have t:=Hm (c.o.push (r':=nR (.slice va (b.length+1) vc) (b++[v0])) (bF.alloc lR _) g6 (by have:=o6;simpa [Qc.Ok,nR,I] using this) D);have H7:=Hm (t.o.set0 4 (.slice va (b.length+1) vc));have x4:=t.o.b0.2.1 4 _ rfl;have bg:=t.o.b0.2.2 4;clear o6 g6 ar D))
        go_roundw
        case rel=>exact ⟨k+1,b++[v0],va,vc,by omega,by go_num,by simp;omega,.inr ⟨er,a,q',d,by rw [a6.o];rfl,by simpa using H7.o⟩⟩
        case measure=>simp [intOf];omega
       |ok v q2 =>
        have cb:=C v q2 rfl;clear m C
        go_wp2_with (first
         |(go_at_call 145;refine (KQ.o).mono ?_;rintro e A ⟨rfl,f⟩;have ca:=f.le;have c:=Hm f;have x4:=f.b0.2.1 4 _ rfl;clear f KQ)
         | (at_builtin;refine wpList_append_own_at _ rfl _ _ 25 rfl B 2 i0 (.int .i64 0) 1 8 Tryz.underlying25 hi a0 az ay rfl (by decide) (.slice z b.length y) b.length (I b) rfl (World.ownsRow.alloc (show World.ownsRow A B 2 1 (.slice z b.length y) b.length (I b) from c.o.row mS) _) ⟨A.heap.size,0,none⟩ 1 1 [.int .i64 v] rfl rfl (cell_one_new _ _ _) (oneI _) (by unfold maxLen;omega) (by omega) (by have:=c.o.hB;simp;omega) ?_;intro v6 w6 o6 g6 ar D;obtain ⟨va,vc,rfl⟩:=QZ o6;have t:=Hm (c.o.push (r':=nR (.slice va (b.length+1) vc) (b++[v])) (bF.alloc lR _) g6 (by have:=o6;simpa [Qc.Ok,nR,I] using this) D);have H7:=Hm (t.o.set0 4 (.slice va (b.length+1) vc));have x4:=t.o.b0.2.1 4 _ rfl;have bg:=t.o.b0.2.2 4;clear o6 g6 ar D))
        go_roundw
        case rel=>exact ⟨k+1,b++[v],va,vc,by omega,by go_num,by simp;omega,.inl ⟨q2,by rw [a6.o];rfl,by simp;omega,by simpa using H7.o⟩⟩
        case measure=>simp [intOf];omega
     . have au:¬ (k:Int)<(N:Int):=by omega
       have HV:Hid (vecM bs p=.ok b q):=by show _=_;rw [a5.o,HM.o,show N-k=0 by omega];rfl
       have Z:Hid (JQ 3 g bs p=(Qy false 32 bs q).bind λa p2=>.ok ⟨g,a,0,0,b⟩ p2):=by show _=_;rw [Y.o,HV.o];rfl
       clear HM HV;generalize Qy false 32 bs q=M at *
       cases M with
       |bad er a =>
        have d:=m er a rfl;have HD:Hid (JQ 3 g bs p=.bad er a):=Z.o;clear m C Z
        go_wp2_with (go_at_call 145;refine (KQ.o).mono ?_;rintro e A ⟨u,q',rfl,⟨v0,rfl⟩,f⟩;have c:=Hm f;have t:=Hm (f.set0 1 (.int .i64 v0));clear f KQ;have X:=c.o.b0.2.1 0 _ rfl;have ao:=c.o.b0.2.2 0;have L:=c.o.b1.2.1 0 _ rfl;have ag:=c.o.b1.2.2 0;have U:=c.o.b0.2.1 1 _ rfl;have ak:=c.o.b0.2.2 1;have J:=c.o.b1.2.1 1 _ rfl;have af:=c.o.b1.2.2 1;have S:=c.o.b0.2.1 2 _ rfl;have aj:=c.o.b0.2.2 2;have H:=c.o.b1.2.1 2 _ rfl;have ae:=c.o.b1.2.2 2;have R:=c.o.b0.2.1 3 _ rfl;have ai:=c.o.b0.2.2 3;have z3:=c.o.b1.2.1 3 _ rfl;have ad:=c.o.b1.2.2 3;have O:=c.o.b0.2.1 4 _ rfl;have ah:=c.o.b0.2.2 4;have G:=c.o.b1.2.1 4 _ rfl;have ac:=c.o.b1.2.2 4)
        exact bodyPost_ret (v:=inV (⟨g,v0,0,0,b⟩:In) z y) (by simp [results,Tryz.results278,go_sem,X,U,S,R,O,L,J,H,z3,G]) rfl (by
         rw [HD.o]
         exact ⟨_,_,_,rfl,d,_,((t.o.fin5).drop).err d _⟩
        )
       |ok v q2 =>
        have HD:Hid (JQ 3 g bs p=.ok ⟨g,v,0,0,b⟩ q2):=Z.o;clear m C Z
        go_wp2_with (go_at_call 145;refine (KQ.o).mono ?_;rintro e A ⟨rfl,f⟩;have c:=Hm f;have t:=Hm (f.set0 1 (.int .i64 v));clear f KQ;have X:=c.o.b0.2.1 0 _ rfl;have ao:=c.o.b0.2.2 0;have L:=c.o.b1.2.1 0 _ rfl;have ag:=c.o.b1.2.2 0;have U:=c.o.b0.2.1 1 _ rfl;have ak:=c.o.b0.2.2 1;have J:=c.o.b1.2.1 1 _ rfl;have af:=c.o.b1.2.2 1;have S:=c.o.b0.2.1 2 _ rfl;have aj:=c.o.b0.2.2 2;have H:=c.o.b1.2.1 2 _ rfl;have ae:=c.o.b1.2.2 2;have R:=c.o.b0.2.1 3 _ rfl;have ai:=c.o.b0.2.2 3;have z3:=c.o.b1.2.1 3 _ rfl;have ad:=c.o.b1.2.2 3;have O:=c.o.b0.2.1 4 _ rfl;have ah:=c.o.b0.2.2 4;have G:=c.o.b1.2.1 4 _ rfl;have ac:=c.o.b1.2.2 4)
        exact bodyPost_ret (v:=inV (⟨g,v,0,0,b⟩:In) z y) (by simp [results,Tryz.results278,go_sem,X,U,S,R,O,L,J,H,z3,G]) rfl (by
         rw [HD.o]
         exact ⟨_,_,_,rfl,rfl,t.o.fin5⟩
        )
   . obtain ⟨zz,bj,ax,c3⟩:=F.c3n d;have HD:Hid (JQ 3 g bs p=.bad er a):=by show _=_;rw [Y.o,a5.o,hM];rfl
     have E:=Hm (KE.o _ _ _ _ _ _ _ F d);have c:=Hm F;have t:=Hm (F.set0 1 (.int .i64 0));clear hM F;have X:=c.o.b0.2.1 0 _ rfl;have ao:=c.o.b0.2.2 0;have L:=c.o.b1.2.1 0 _ rfl;have ag:=c.o.b1.2.2 0;have U:=c.o.b0.2.1 1 _ rfl;have ak:=c.o.b0.2.2 1;have J:=c.o.b1.2.1 1 _ rfl;have af:=c.o.b1.2.2 1;have S:=c.o.b0.2.1 2 _ rfl;have aj:=c.o.b0.2.2 2;have H:=c.o.b1.2.1 2 _ rfl;have ae:=c.o.b1.2.2 2;have R:=c.o.b0.2.1 3 _ rfl;have ai:=c.o.b0.2.2 3;have z3:=c.o.b1.2.1 3 _ rfl;have ad:=c.o.b1.2.2 3;have O:=c.o.b0.2.1 4 _ rfl;have ah:=c.o.b0.2.2 4;have G:=c.o.b1.2.1 4 _ rfl;have ac:=c.o.b1.2.2 4
     by_cases bn:k<N
     . have au:(k:Int)<(N:Int):=by omega
       go_wp2_with (go_at_call 145;refine (E.o).mono ?_;rintro e A ⟨rfl,rfl⟩)
       exact bodyPost_ret (v:=inV (⟨g,0,0,0,b⟩:In) z y) (by simp [results,Tryz.results278,go_sem,X,U,S,R,O,L,J,H,z3,G]) rfl (by
        rw [HD.o]
        exact ⟨_,_,_,rfl,d,_,((t.o.fin5).drop).err d _⟩
       )
     . have au:¬ (k:Int)<(N:Int):=by omega
       go_wp2_with (go_at_call 145;refine (E.o).mono ?_;rintro e A ⟨rfl,rfl⟩)
       exact bodyPost_ret (v:=inV (⟨g,0,0,0,b⟩:In) z y) (by simp [results,Tryz.results278,go_sem,X,U,S,R,O,L,J,H,z3,G]) rfl (by
        rw [HD.o]
        exact ⟨_,_,_,rfl,d,_,((t.o.fin5).drop).err d _⟩
       )
theorem sins_c (b a:Int){B w0 s ba bc bs p K bx rs w}(f:0<=QM (Qr b))(h:Sd B w0 s ba bc bs p 0 0 K bx rs w)(d:K<=1099511627776)(c:Qm bs)(hl:bs.length<=1099511627776) :
    Calls Tryz.prog 278 #[.pointer (some ⟨s,0,none⟩),.int .i64 b,.int .i64 a] w (SiD (JQ (QM (Qr b)) b bs p) B w0 s ba bc bs K bx rs):=by
 rcases form_range b with e|e|e|e|e|e|e|e|e|e|e|e
 . omega
 . rw [e];exact liftI h (λv hv=>sinr_0 s ba _ bs p b a w e hv c hl)
 . rw [e];exact sins_1 b a e h d c hl
 . rw [e];exact liftI h (λv hv=>sinr_2 s ba _ bs p b a w e hv c hl)
 . rw [e];exact sins_3 b a e h d c hl
 . rw [e];exact liftI h (λv hv=>sinr_4 s ba _ bs p b a w e hv c hl)
 . rw [e];exact liftI h (λv hv=>sinr_5 s ba _ bs p b a w e hv c hl)
 . rw [e];exact liftI h (λv hv=>sinr_6 s ba _ bs p b a w e hv c hl)
 . rw [e];exact liftI h (λv hv=>sinr_7 s ba _ bs p b a w e hv c hl)
 . rw [e];exact liftI h (λv hv=>sinr_8 s ba _ bs p b a w e hv c hl)
 . rw [e];exact liftI h (λv hv=>sinr_9 s ba _ bs p b a w e hv c hl)
 . rw [e];exact liftI h (λv hv=>sinr_10 s ba _ bs p b a w e hv c hl)
end Go.Proofs.YtedcmcdbejjgcaaGreat.Ms
