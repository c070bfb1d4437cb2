import Derived.Test.YtedcmcdbejjgcaaGreatGaa
import Derived.Test.YtedcmcdbejjgcaaGreatGbc
import Derived.Test.YtedcmcdbejjgcaaGreatGay
import Derived.Maps.AppendAt
set_option linter.all false
set_option maxHeartbeats 400000000
set_option maxRecDepth 100000
namespace Go.Proofs.YtedcmcdbejjgcaaGreat.Ms
open Go.RowKit Go.Sort
theorem Gp (f:Int->Bool)(bs:List Int)(p:Nat):(Qz f bs p).nz:=Qk (Xg _ _) λx p1=>nz_if (XZ _ _) (nz_bad _ _ (by decide))
def isLm (u:Value):Prop:=∃ (a b:Int) (c:Bool),u=.agg #[.int .i64 a,.int .i64 b,.bool c]
def isGt (u:Value):Prop:=∃ (a:Int) (c:Bool),u=.agg #[.int .i64 a,.bool c]
theorem oneD (a b:Int)(h0:0<=a)(h1:b<=255){B w0 s ba bc bs p K bx rs w}(h:Sd B w0 s ba bc bs p 0 0 K bx rs w)(c:Qm bs)(hl:bs.length<=1099511627776):Calls Tryz.prog 219 #[.pointer (some ⟨s,0,none⟩),.int .u8 a,.int .u8 b] w (SdP (Qz (JP a b) bs p) (λv=>.int .i64 v) (isO a b) B w0 s ba bc bs K bx rs):=lift h (λv hv=>one_sc a b h0 h1 s ba _ bs p w hv c hl)
theorem oneE (a b:Int){B w0 s ba bc bs p er at_ K bx rs w}(h:Sd B w0 s ba bc bs p er at_ K bx rs w)(c:er≠0):Calls Tryz.prog 219 #[.pointer (some ⟨s,0,none⟩),.int .u8 a,.int .u8 b] w λe w'=>e=.returned (.int .i64 0)/\w=w':=liftE h (λv hv=>one_se a b s ba _ bs p er at_ w hv c)
theorem u32D {B w0 s ba bc bs p K bx rs w}(h:Sd B w0 s ba bc bs p 0 0 K bx rs w)(a:Qm bs)(hl:bs.length<=1099511627776):Calls Tryz.prog 145 #[.pointer (some ⟨s,0,none⟩)] w (SdP (QK bs p) (λv=>.int .i64 v) isI B w0 s ba bc bs K bx rs):=lift h (λv hv=>u32_sc s ba _ bs p w hv a hl)
theorem u32E {B w0 s ba bc bs p er at_ K bx rs w}(h:Sd B w0 s ba bc bs p er at_ K bx rs w)(a:er≠0):Calls Tryz.prog 145 #[.pointer (some ⟨s,0,none⟩)] w λe w'=>e=.returned (.int .i64 0)/\w=w':=liftE h (λv hv=>u32_se s ba _ bs p er at_ w hv a)
theorem byteD {B w0 s ba bc bs p K bx rs w}(h:Sd B w0 s ba bc bs p 0 0 K bx rs w)(hl:bs.length<=1099511627776):Calls Tryz.prog 73 #[.pointer (some ⟨s,0,none⟩)] w (SdP (Qx bs p) (λv=>.int .u8 v) isB B w0 s ba bc bs K bx rs):=lift h (λv hv=>byte_sc s ba _ bs p w hv hl)
theorem byteE {B w0 s ba bc bs p er at_ K bx rs w}(h:Sd B w0 s ba bc bs p er at_ K bx rs w)(a:er≠0):Calls Tryz.prog 73 #[.pointer (some ⟨s,0,none⟩)] w λe w'=>e=.returned (.int .u8 0)/\w=w':=liftE h (λv hv=>byte_se s ba _ bs p er at_ w hv a)
theorem sizeDD {B w0 s ba bc bs p K bx rs w}(h:Sd B w0 s ba bc bs p 0 0 K bx rs w)(a:bc.en≠0)(b:Qm bs)(hl:bs.length<=1099511627776):Calls Tryz.prog 277 #[.pointer (some ⟨s,0,none⟩)] w (SdP (Jl bs bc.E p) (λv=>.int .i64 v) isI B w0 s ba bc bs K bx rs):=lift h (λv hv=>size_sc s ba _ bs p w hv a b hl)
theorem sizeE {B w0 s ba bc bs p er at_ K bx rs w}(h:Sd B w0 s ba bc bs p er at_ K bx rs w)(a:er≠0):Calls Tryz.prog 277 #[.pointer (some ⟨s,0,none⟩)] w λe w'=>e=.returned (.int .i64 0)/\w=w':=liftE h (λv hv=>size_se s ba _ bs p er at_ w hv a)
theorem not_one {v:Int}(h:v=0\/JP 0 1 v=false):(v==1)=false:=by
 rcases h with rfl|h
 . rfl
 . by_cases e:v=1
   . subst e;cases h
   . simpa using e
theorem fin3 {B w0 s ba bc bs p er at_ K rs V}{a:Nat × List Value}{g:Nat}{xs:List Value}{l:List (Nat × List Value)}{v0 v1 v2:Value}(h:Sd B w0 s ba bc bs p er at_ K (a::(g,xs)::l) rs V):Sd B w0 s ba bc bs p er at_ K l rs (((V.setCell ⟨g,0,none⟩ v0).setCell ⟨g,1,none⟩ v1).setCell ⟨g,2,none⟩ v2) :=
 (((h.set1 0 v0).set1 1 v1).set1 2 v2).unbox.unbox
theorem limBox {B w0 s ba bc bs p er at_ K bx rs w}(h:Sd B w0 s ba bc bs p er at_ K bx rs w):Sd B w0 s ba bc bs p er at_ K ((w.heap.size+1,[.int .i64 0,.int .i64 0,.bool false])::(w.heap.size,[.int .i64 0,.int .i64 0,.bool false])::bx) rs ((w.alloc (.cells #[.int .i64 0,.int .i64 0,.bool false] 96)).alloc (.cells #[.int .i64 0,.int .i64 0,.bool false] 96)):=by
 have a:=(h.box (t:=96) (xs:=[.int .i64 0,.int .i64 0,.bool false])).box (t:=96) (xs:=[.int .i64 0,.int .i64 0,.bool false])
 simpa using a
theorem limE {B w0 s ba bc bs p er at_ K bx rs w}(h:Sd B w0 s ba bc bs p er at_ K bx rs w)(c:er≠0):Calls Tryz.prog 222 #[.pointer (some ⟨s,0,none⟩)] w λe w'=>e=.returned (.agg #[.int .i64 0,.int .i64 0,.bool false])/\Sd B w0 s ba bc bs p er at_ K bx rs w':=by
 obtain ⟨W,b⟩:∃ W,W=(w.alloc (.cells #[.int .i64 0,.int .i64 0,.bool false] 96)).alloc (.cells #[.int .i64 0,.int .i64 0,.bool false] 96):=⟨_,rfl⟩;have h0:=limBox h;rw [<- b] at h0;have y:=Hm b;have a:=Hm h0;clear b h0 h;have u:=Hm (oneE 0 1 a.o c);have t:=Hm (u32E a.o c);have r:=a.o.b0.2.1 0 _ rfl;have m:=a.o.b0.2.2 0;have q:=a.o.b0.2.1 1 _ rfl;have n:=a.o.b0.2.1 2 _ rfl;have l:=a.o.b1.2.1 0 _ rfl;have g:=a.o.b1.2.2 0;have k:=a.o.b1.2.1 1 _ rfl;have f:=a.o.b1.2.2 1;have j:=a.o.b1.2.1 2 _ rfl;have d:=a.o.b1.2.2 2
 go_enter Tryz.func222,Tryz.ntmps222
 go_wp2_with fail
 rw [<- y.o]
 refine (u.o).mono ?_
 rintro e A ⟨rfl,rfl⟩
 go_wp2_with fail
 refine (t.o).mono ?_
 rintro e z ⟨rfl,rfl⟩
 go_wp2_with fail
 exact bodyPost_ret (v:=.agg #[.int .i64 0,.int .i64 0,.bool false]) (by simp [results,Tryz.results222,go_sem,r,q,n,l,k,j]) rfl (by
  exact ⟨rfl,fin3 (a.o.set0 0 (.int .i64 0))⟩)
theorem only_in {f:Int->Bool}{bs:List Int}{p p1:Nat}{x:Int}(h:Qz f bs p=.ok x p1):f x=true:=by
 unfold Qz at h
 cases hX:Qx bs p with
 |bad er a=>rw [hX] at h;cases h
 |ok y q =>
  rw [hX] at h
  simp only [Rs.bind] at h
  split at h
  · cases h;assumption
  . cases h
theorem limD {B w0 s ba bc bs p K bx rs w}(h:Sd B w0 s ba bc bs p 0 0 K bx rs w)(L:Qm bs)(hl:bs.length<=1099511627776):Calls Tryz.prog 222 #[.pointer (some ⟨s,0,none⟩)] w (SdP (XR bs p) (λl=>.agg #[.int .i64 l.min,.int .i64 l.max,.bool l.has]) isLm B w0 s ba bc bs K bx rs):=by
 obtain ⟨W,hW⟩:∃ W,W=(w.alloc (.cells #[.int .i64 0,.int .i64 0,.bool false] 96)).alloc (.cells #[.int .i64 0,.int .i64 0,.bool false] 96):=⟨_,rfl⟩;have h0:=limBox h;rw [<- hW] at h0;have U:=Hm hW;have S:=Hm h0;clear hW h0 h;have E:=Hm (oneD 0 1 (by decide) (by decide) S.o L hl);have HN:=Hm (λq=>Q9 false 32 bs q);unfold XR flagM;rw [fl_rng]
 rcases hX:Qz (JP 0 1) bs p with ⟨er,a⟩|⟨x,Z⟩
 . have H:=Gp (JP 0 1) bs p er a hX;rw [hX] at E;clear hX
   go_enter Tryz.func222,Tryz.ntmps222
   go_wp2_with fail
   rw [<- U.o]
   refine (E.o).mono ?_
   rintro e X ⟨u,q,rfl,⟨v,rfl,hv⟩,c⟩;have af:=not_one hv;have f:=Hm (u32E c H);have F:=Hm c;clear c E hv S;have D:=F.o.b0.2.1 0 _ rfl;have r:=F.o.b0.2.2 0;have C:=F.o.b0.2.1 1 _ rfl;have n:=F.o.b0.2.2 1;have A:=F.o.b0.2.1 2 _ rfl;have m:=F.o.b0.2.2 2;have z:=F.o.b1.2.1 0 _ rfl;have k:=F.o.b1.2.2 0;have y:=F.o.b1.2.1 1 _ rfl;have j:=F.o.b1.2.2 1;have t:=F.o.b1.2.1 2 _ rfl;have g:=F.o.b1.2.2 2
   go_wp2_with fail
   refine (f.o).mono ?_
   rintro e V ⟨rfl,rfl⟩
   go_wp2_with fail
   exact bodyPost_ret (v:=.agg #[.int .i64 0,.int .i64 0,.bool false]) (by simp [results,Tryz.results222,go_sem,D,C,A,z,y,t]) rfl (by
    exact ⟨_,_,rfl,⟨_,_,_,rfl⟩,fin3 (F.o.set0 0 (.int .i64 0))⟩)
 have J:x=0\/x=1:=by
  have:=only_in hX
  simp [JP] at this;omega
 rw [hX] at E
 show Calls _ _ _ _ (SdP ((QK bs Z).bind λG M=>if decide (x=1) then (QK bs M).bind λO Y=>.ok (⟨G,O,true⟩:Qq) Y else .ok (⟨G,0,false⟩:Qq) M) _ _ _ _ _ _ _ _ _ _ _)
 clear hX
 rcases hY:QK bs Z with ⟨er,a⟩|⟨G,M⟩
 . have H:=HN.o Z er a hY
   show Calls _ _ _ _ (SdP (.bad er a:Rs Qq) _ _ _ _ _ _ _ _ _ _ _)
   rcases J with rfl|rfl
   . go_enter Tryz.func222,Tryz.ntmps222
     go_wp2_with fail
     rw [<- U.o]
     refine (E.o).mono ?_
     rintro e X ⟨rfl,c⟩;have f:=Hm (u32D c L hl);rw [hY] at f;clear c E S hY
     go_wp2_with fail
     refine (f.o).mono ?_
     rintro e V ⟨u,q,rfl,⟨v,rfl⟩,c⟩;have b:=Hm c;have I:=Hm (c.set0 0 (.int .i64 v));clear c f;have D:=b.o.b0.2.1 0 _ rfl;have r:=b.o.b0.2.2 0;have C:=b.o.b0.2.1 1 _ rfl;have n:=b.o.b0.2.2 1;have A:=b.o.b0.2.1 2 _ rfl;have m:=b.o.b0.2.2 2;have z:=b.o.b1.2.1 0 _ rfl;have k:=b.o.b1.2.2 0;have y:=b.o.b1.2.1 1 _ rfl;have j:=b.o.b1.2.2 1;have t:=b.o.b1.2.1 2 _ rfl;have g:=b.o.b1.2.2 2
     go_wp2_with fail
     exact bodyPost_ret (v:=.agg #[.int .i64 v,.int .i64 0,.bool false]) (by simp [results,Tryz.results222,go_sem,D,C,A,z,y,t]) rfl (by
      exact ⟨_,_,rfl,⟨_,_,_,rfl⟩,fin3 I.o⟩)
   . go_enter Tryz.func222,Tryz.ntmps222
     go_wp2_with fail
     rw [<- U.o]
     refine (E.o).mono ?_
     rintro e X ⟨rfl,c⟩;have f:=Hm (u32D c L hl);rw [hY] at f;clear c E S hY
     go_wp2_with fail
     refine (f.o).mono ?_
     rintro e V ⟨u,q,rfl,⟨v,rfl⟩,c⟩;have b:=Hm c;have I:=Hm (c.set0 0 (.int .i64 v));clear c f;have D:=b.o.b0.2.1 0 _ rfl;have r:=b.o.b0.2.2 0;have C:=b.o.b0.2.1 1 _ rfl;have n:=b.o.b0.2.2 1;have A:=b.o.b0.2.1 2 _ rfl;have m:=b.o.b0.2.2 2;have z:=b.o.b1.2.1 0 _ rfl;have k:=b.o.b1.2.2 0;have y:=b.o.b1.2.1 1 _ rfl;have j:=b.o.b1.2.2 1;have t:=b.o.b1.2.1 2 _ rfl;have g:=b.o.b1.2.2 2;have d:=Hm (I.o.set0 2 (.bool true));have KE:=Hm (u32E d.o H)
     go_wp2_with fail
     refine (KE.o).mono ?_
     rintro e w3 ⟨rfl,rfl⟩
     go_wp2_with fail
     exact bodyPost_ret (v:=.agg #[.int .i64 v,.int .i64 0,.bool true]) (by simp [results,Tryz.results222,go_sem,D,C,A,z,y,t]) rfl (by
      exact ⟨_,_,rfl,⟨_,_,_,rfl⟩,fin3 (d.o.set0 1 (.int .i64 0))⟩)
 rcases J with rfl|rfl
 . show Calls _ _ _ _ (SdP (.ok (⟨G,0,false⟩:Qq) M) _ _ _ _ _ _ _ _ _ _ _)
   go_enter Tryz.func222,Tryz.ntmps222
   go_wp2_with fail
   rw [<- U.o]
   refine (E.o).mono ?_
   rintro e X ⟨rfl,c⟩;have f:=Hm (u32D c L hl);rw [hY] at f;clear c E S hY
   go_wp2_with fail
   refine (f.o).mono ?_
   rintro e V ⟨rfl,c⟩;have b:=Hm c;have I:=Hm (c.set0 0 (.int .i64 G));clear c f;have D:=b.o.b0.2.1 0 _ rfl;have r:=b.o.b0.2.2 0;have C:=b.o.b0.2.1 1 _ rfl;have n:=b.o.b0.2.2 1;have A:=b.o.b0.2.1 2 _ rfl;have m:=b.o.b0.2.2 2;have z:=b.o.b1.2.1 0 _ rfl;have k:=b.o.b1.2.2 0;have y:=b.o.b1.2.1 1 _ rfl;have j:=b.o.b1.2.2 1;have t:=b.o.b1.2.1 2 _ rfl;have g:=b.o.b1.2.2 2
   go_wp2_with fail
   exact bodyPost_ret (v:=.agg #[.int .i64 G,.int .i64 0,.bool false]) (by simp [results,Tryz.results222,go_sem,D,C,A,z,y,t]) rfl (by
    exact ⟨rfl,fin3 I.o⟩)
 . show Calls _ _ _ _ (SdP ((QK bs M).bind λO Y=>.ok (⟨G,O,true⟩:Qq) Y) _ _ _ _ _ _ _ _ _ _ _)
   rcases hZ:QK bs M with ⟨er,a⟩|⟨O,Y⟩
   . have H:=HN.o M er a hZ
     show Calls _ _ _ _ (SdP (.bad er a:Rs Qq) _ _ _ _ _ _ _ _ _ _ _)
     go_enter Tryz.func222,Tryz.ntmps222
     go_wp2_with fail
     rw [<- U.o]
     refine (E.o).mono ?_
     rintro e X ⟨rfl,c⟩;have f:=Hm (u32D c L hl);rw [hY] at f;clear c E S hY
     go_wp2_with fail
     refine (f.o).mono ?_
     rintro e V ⟨rfl,c⟩;have b:=Hm c;have I:=Hm ((c.set0 0 (.int .i64 G)).set0 2 (.bool true));have R:=Hm (u32D I.o L hl);rw [hZ] at R;clear c f hZ;have D:=b.o.b0.2.1 0 _ rfl;have r:=b.o.b0.2.2 0;have C:=b.o.b0.2.1 1 _ rfl;have n:=b.o.b0.2.2 1;have A:=b.o.b0.2.1 2 _ rfl;have m:=b.o.b0.2.2 2;have z:=b.o.b1.2.1 0 _ rfl;have k:=b.o.b1.2.2 0;have y:=b.o.b1.2.1 1 _ rfl;have j:=b.o.b1.2.2 1;have t:=b.o.b1.2.1 2 _ rfl;have g:=b.o.b1.2.2 2
     go_wp2_with fail
     refine (R.o).mono ?_
     rintro e w3 ⟨u,q,rfl,⟨v,rfl⟩,c⟩;clear D r C n A m z k y j t g;have d:=Hm c;have H5:=Hm (c.set0 1 (.int .i64 v));clear c R b;have D:=d.o.b0.2.1 0 _ rfl;have r:=d.o.b0.2.2 0;have C:=d.o.b0.2.1 1 _ rfl;have n:=d.o.b0.2.2 1;have A:=d.o.b0.2.1 2 _ rfl;have m:=d.o.b0.2.2 2;have z:=d.o.b1.2.1 0 _ rfl;have k:=d.o.b1.2.2 0;have y:=d.o.b1.2.1 1 _ rfl;have j:=d.o.b1.2.2 1;have t:=d.o.b1.2.1 2 _ rfl;have g:=d.o.b1.2.2 2
     go_wp2_with fail
     exact bodyPost_ret (v:=.agg #[.int .i64 G,.int .i64 v,.bool true]) (by simp [results,Tryz.results222,go_sem,D,C,A,z,y,t]) rfl (by
      exact ⟨_,_,rfl,⟨_,_,_,rfl⟩,fin3 H5.o⟩)
   . show Calls _ _ _ _ (SdP (.ok (⟨G,O,true⟩:Qq) Y) _ _ _ _ _ _ _ _ _ _ _)
     go_enter Tryz.func222,Tryz.ntmps222
     go_wp2_with fail
     rw [<- U.o]
     refine (E.o).mono ?_
     rintro e X ⟨rfl,c⟩;have f:=Hm (u32D c L hl);rw [hY] at f;clear c E S hY
     go_wp2_with fail
     refine (f.o).mono ?_
     rintro e V ⟨rfl,c⟩;have b:=Hm c;have I:=Hm ((c.set0 0 (.int .i64 G)).set0 2 (.bool true));have R:=Hm (u32D I.o L hl);rw [hZ] at R;clear c f hZ;have D:=b.o.b0.2.1 0 _ rfl;have r:=b.o.b0.2.2 0;have C:=b.o.b0.2.1 1 _ rfl;have n:=b.o.b0.2.2 1;have A:=b.o.b0.2.1 2 _ rfl;have m:=b.o.b0.2.2 2;have z:=b.o.b1.2.1 0 _ rfl;have k:=b.o.b1.2.2 0;have y:=b.o.b1.2.1 1 _ rfl;have j:=b.o.b1.2.2 1;have t:=b.o.b1.2.1 2 _ rfl;have g:=b.o.b1.2.2 2
     go_wp2_with fail
     refine (R.o).mono ?_
     rintro e w3 ⟨rfl,c⟩;clear D r C n A m z k y j t g;have d:=Hm c;have H5:=Hm (c.set0 1 (.int .i64 O));clear c R b;have D:=d.o.b0.2.1 0 _ rfl;have r:=d.o.b0.2.2 0;have C:=d.o.b0.2.1 1 _ rfl;have n:=d.o.b0.2.2 1;have A:=d.o.b0.2.1 2 _ rfl;have m:=d.o.b0.2.2 2;have z:=d.o.b1.2.1 0 _ rfl;have k:=d.o.b1.2.2 0;have y:=d.o.b1.2.1 1 _ rfl;have j:=d.o.b1.2.2 1;have t:=d.o.b1.2.1 2 _ rfl;have g:=d.o.b1.2.2 2
     go_wp2_with fail
     exact bodyPost_ret (v:=.agg #[.int .i64 G,.int .i64 O,.bool true]) (by simp [results,Tryz.results222,go_sem,D,C,A,z,y,t]) rfl (by
      exact ⟨rfl,fin3 H5.o⟩)
theorem fin2 {B w0 s ba bc bs p er at_ K rs V}{g:Nat}{xs:List Value}{l:List (Nat × List Value)}{v0 v1:Value}(h:Sd B w0 s ba bc bs p er at_ K ((g,xs)::l) rs V):Sd B w0 s ba bc bs p er at_ K l rs ((V.setCell ⟨g,0,none⟩ v0).setCell ⟨g,1,none⟩ v1) :=
 ((h.set0 0 v0).set0 1 v1).unbox
theorem gtyE {B w0 s ba bc bs p er at_ K bx rs w}(h:Sd B w0 s ba bc bs p er at_ K bx rs w)(c:er≠0):Calls Tryz.prog 223 #[.pointer (some ⟨s,0,none⟩)] w λe w'=>e=.returned (.agg #[.int .i64 0,.bool false])/\Sd B w0 s ba bc bs p er at_ K bx rs w':=by
 obtain ⟨W,b⟩:∃ W,W=w.alloc (.cells #[.int .i64 0,.bool false] 98):=⟨_,rfl⟩;have h0:=h.box (t:=98) (xs:=[.int .i64 0,.bool false]);rw [show w.alloc (.cells (List.toArray [.int .i64 0,.bool false]) 98)=W from b.symm] at h0;have m:=Hm b;have a:=Hm h0;clear b h0 h;have l:=Hm (oneE 124 127 a.o c);have k:=Hm (oneE 0 1 a.o c);have j:=a.o.b0.2.1 0 _ rfl;have f:=a.o.b0.2.2 0;have g:=a.o.b0.2.1 1 _ rfl;have d:=a.o.b0.2.2 1
 go_enter Tryz.func223,Tryz.ntmps223
 go_wp2_with fail
 rw [<- m.o]
 refine (l.o).mono ?_
 rintro e q ⟨rfl,rfl⟩
 go_wp2_with fail
 refine (k.o).mono ?_
 rintro e n ⟨rfl,rfl⟩
 go_wp2_with fail
 exact bodyPost_ret (v:=.agg #[.int .i64 0,.bool false]) (by simp [results,Tryz.results223,go_sem,j,g]) rfl (by
  exact ⟨rfl,fin2 a.o⟩)
theorem gtyD {B w0 s ba bc bs p K bx rs w}(h:Sd B w0 s ba bc bs p 0 0 K bx rs w)(G:Qm bs)(hl:bs.length<=1099511627776):Calls Tryz.prog 223 #[.pointer (some ⟨s,0,none⟩)] w (SdP (gtyM bs p) (λg=>.agg #[.int .i64 g.ty,.bool g.mu]) isGt B w0 s ba bc bs K bx rs):=by
 obtain ⟨W,F⟩:∃ W,W=w.alloc (.cells #[.int .i64 0,.bool false] 98):=⟨_,rfl⟩;have h0:=h.box (t:=98) (xs:=[.int .i64 0,.bool false]);rw [show w.alloc (.cells (List.toArray [.int .i64 0,.bool false]) 98)=W from F.symm] at h0;have H:=Hm F;have D:=Hm h0;clear F h0 h;have f:=Hm (oneD 124 127 (by decide) (by decide) D.o G hl);unfold gtyM flagM;rw [fl_rng,ty_rng]
 rcases hX:Qz (JP 124 127) bs p with ⟨er,a⟩|⟨x,E⟩
 . have z:=Gp _ bs p er a hX;rw [hX] at f;clear hX
   go_enter Tryz.func223,Tryz.ntmps223
   go_wp2_with fail
   rw [<- H.o]
   refine (f.o).mono ?_
   rintro e J ⟨u,q,rfl,⟨v,rfl,C⟩,b⟩;have d:=Hm (oneE 0 1 b z);have A:=Hm b;clear b f C D;have n:=A.o.b0.2.1 0 _ rfl;have k:=A.o.b0.2.2 0;have l:=A.o.b0.2.1 1 _ rfl;have j:=A.o.b0.2.2 1
   go_wp2_with fail
   refine (d.o).mono ?_
   rintro e I ⟨rfl,rfl⟩
   go_wp2_with fail
   exact bodyPost_ret (v:=.agg #[.int .i64 v,.bool false]) (by simp [results,Tryz.results223,go_sem,n,l]) rfl (by
    exact ⟨_,_,rfl,⟨_,_,rfl⟩,fin2 A.o⟩)
 rw [hX] at f;clear hX
 show Calls _ _ _ _ (SdP (((Qz (JP 0 1) bs E).bind λy r=>Rs.ok (decide (y=1)) r).bind λm r=>.ok (⟨x,m⟩:JX) r) _ _ _ _ _ _ _ _ _ _ _)
 rcases hY:Qz (JP 0 1) bs E with ⟨er,a⟩|⟨y,r⟩
 . have z:=Gp _ bs E er a hY
   show Calls _ _ _ _ (SdP (.bad er a:Rs JX) _ _ _ _ _ _ _ _ _ _ _)
   go_enter Tryz.func223,Tryz.ntmps223
   go_wp2_with fail
   rw [<- H.o]
   refine (f.o).mono ?_
   rintro e J ⟨rfl,b⟩;have d:=Hm (oneD 0 1 (by decide) (by decide) b G hl);rw [hY] at d;clear b f D hY
   go_wp2_with fail
   refine (d.o).mono ?_
   rintro e I ⟨u,q,rfl,⟨v,rfl,C⟩,b⟩;have L:=not_one C;have c:=Hm b;clear b d C;have n:=c.o.b0.2.1 0 _ rfl;have k:=c.o.b0.2.2 0;have l:=c.o.b0.2.1 1 _ rfl;have j:=c.o.b0.2.2 1
   go_wp2_with fail
   exact bodyPost_ret (v:=.agg #[.int .i64 x,.bool false]) (by simp [results,Tryz.results223,go_sem,n,l]) rfl (by
    exact ⟨_,_,rfl,⟨_,_,rfl⟩,fin2 c.o⟩)
 . show Calls _ _ _ _ (SdP (.ok (⟨x,decide (y=1)⟩:JX) r) _ _ _ _ _ _ _ _ _ _ _)
   go_enter Tryz.func223,Tryz.ntmps223
   go_wp2_with fail
   rw [<- H.o]
   refine (f.o).mono ?_
   rintro e J ⟨rfl,b⟩;have d:=Hm (oneD 0 1 (by decide) (by decide) b G hl);rw [hY] at d;clear b f D hY
   go_wp2_with fail
   refine (d.o).mono ?_
   rintro e I ⟨rfl,b⟩;have c:=Hm b;clear b d;have n:=c.o.b0.2.1 0 _ rfl;have k:=c.o.b0.2.2 0;have l:=c.o.b0.2.1 1 _ rfl;have j:=c.o.b0.2.2 1
   go_wp2_with fail
   exact bodyPost_ret (v:=.agg #[.int .i64 x,.bool (decide (y=1))]) (by simp [results,Tryz.results223,go_sem,n,l] <;> rfl) rfl (by
    exact ⟨rfl,fin2 c.o⟩)
def typM (most:Int)(bs:List Int)(p:Nat):Rs (List Int):=(QK bs p).bind λn p1=>if most<n then .bad 8 p1 else Q7 (Qz tyB bs) n.toNat [] p1
def SlD (M:Rs (List Int))(B:Nat)(w0:World)(s:Nat)(ba:Option Addr)(bc:Bd)(bs:List Int)(K:Nat)(bx:List (Nat × List Value))(rs:List Qc)(e:Ending)(w':World):Prop :=
 match M with
 |.bad er a=>∃ la lc l p',e=.returned (.slice la l.length lc)/\Sd B w0 s ba bc bs p' er a K bx (nR (.slice la l.length lc) l::rs) w'
 |.ok l p'=>∃ la lc,e=.returned (.slice la l.length lc)/\Sd B w0 s ba bc bs p' 0 0 K bx (nR (.slice la l.length lc) l::rs) w'
theorem nilRow' {B w0 s ba bc bs p er at_ K bx rs w}(h:Sd B w0 s ba bc bs p er at_ K bx rs w):Sd B w0 s ba bc bs p er at_ K bx (nR (.slice (some ⟨w.heap.size,0,none⟩) 0 0) []::rs) (w.alloc (.cells #[] 2)) :=
 h.new (bF.alloc lR _) (World.ownsRow_lit w #[] 0 lR (by decide) rfl)
theorem typE (a:Int){B w0 s ba bc bs p er at_ K bx rs w}(h:Sd B w0 s ba bc bs p er at_ K bx rs w)(c:er≠0):Calls Tryz.prog 220 #[.pointer (some ⟨s,0,none⟩),.int .i64 a] w (SlD (.bad er at_) B w0 s ba bc bs K bx rs):=by
 have b:=nilRow' h;have f:=Hm (u32E b c);obtain ⟨z,k,d,c3⟩:=b.c3n c;have g:=Hm b;clear h b
 go_enter Tryz.func220,Tryz.ntmps220
 go_wp2_with fail
 refine (f.o).mono ?_
 rintro e j ⟨rfl,rfl⟩
 go_wp2_with fail
 refine wp_loop_rounds 1 ?_
 rw [rounds_succ]
 go_wp2_with fail
 go_ret
 exact ⟨_,_,[],_,rfl,g.o⟩
theorem typD (d:Int)(a2:0<=d){B w0 s ba bc bs p K bx rs w}(h:Sd B w0 s ba bc bs p 0 0 K bx rs w)(hA:Qm bs)(hl:bs.length<=1099511627776):Calls Tryz.prog 220 #[.pointer (some ⟨s,0,none⟩),.int .i64 d] w (SlD (typM d bs p) B w0 s ba bc bs K bx rs):=by
 obtain ⟨i0,hi,O,M,L⟩:=info_parts Tryz.info2;have h1:=nilRow' h;have y:=Hm (u32D h1 hA hl);have ad:=Hm (λq=>Gp tyB bs q);clear h h1;unfold typM
 rcases hX:QK bs p with ⟨er,a⟩|⟨n,g⟩
 . have j:=Q9 false 32 bs p er a hX;rw [hX] at y;clear hX
   show Calls _ _ _ _ (SlD (.bad er a) _ _ _ _ _ _ _ _ _)
   go_enter Tryz.func220,Tryz.ntmps220
   go_wp2_with fail
   refine (y.o).mono ?_
   rintro e w2 ⟨u,q,rfl,⟨v,rfl⟩,c⟩;obtain ⟨z,hz,Y,c3⟩:=c.c3n j;have U:=Hm c;clear c y
   by_cases hv:0<v
   . go_wp2_with fail
     refine wp_loop_rounds 1 ?_
     rw [rounds_succ]
     go_wp2_with fail
     go_ret
     exact ⟨_,_,[],_,rfl,U.o⟩
   . have aw:decide (0<v)=false:=decide_eq_false hv
     go_wp2_with fail
     refine wp_loop_rounds 1 ?_
     rw [rounds_succ]
     go_wp2_with fail
     go_ret
     exact ⟨_,_,[],_,rfl,U.o⟩
 have ab:=Jq hA hX;rw [hX] at y;clear hX
 by_cases R:d<n
 . show Calls _ _ _ _ (SlD (if d<n then .bad 8 g else Q7 (Qz tyB bs) n.toNat [] g) _ _ _ _ _ _ _ _ _)
   rw [if_pos R];have a1:0<n:=by omega
   go_enter Tryz.func220,Tryz.ntmps220
   go_wp2_with fail
   refine (y.o).mono ?_
   rintro e w2 ⟨rfl,c⟩;have c3:=c.c3;have c1:=c.c1;have KF:=Hm (Gv 8 (g:Int) c (by decide));clear c y
   go_wp2_with fail
   refine (KF.o).mono ?_
   rintro e w3 ⟨rfl,c⟩;obtain ⟨z,hz,Y,d3⟩:=c.c3n (by decide);have H3:=Hm c;clear c KF
   go_wp2_with fail
   refine wp_loop_rounds 1 ?_
   rw [rounds_succ]
   go_wp2_with fail
   go_ret
   exact ⟨_,_,[],_,rfl,H3.o⟩
 show Calls _ _ _ _ (SlD (if d<n then .bad 8 g else Q7 (Qz tyB bs) n.toNat [] g) _ _ _ _ _ _ _ _ _)
 rw [if_neg R];obtain ⟨N,rfl⟩:=Int.eq_ofNat_of_zero_le ab.1;rw [Int.toNat_natCast]
 go_enter Tryz.func220,Tryz.ntmps220
 go_wp2_with fail
 refine (y.o).mono ?_
 rintro e w2 ⟨rfl,c⟩;have c3:=c.c3;have U:=Hm c;clear c y
 go_wp2_with fail
 go_loopw [5,7] (λo i wr=>∃ (k:Nat) (b:List Int) (t:Option Addr) (r:Nat),k<=N/\i=.int .i64 (k:Int)/\o=.slice t b.length r/\b.length<=bs.length+1/\((∃ q,Q7 (Qz tyB bs) N [] g=Q7 (Qz tyB bs) (N-k) b q/\b.length<=q/\Sd B w0 s ba bc bs q 0 0 K bx (nR (.slice t b.length r) b::rs) wr)\/(∃ er a q,er≠0/\Q7 (Qz tyB bs) N [] g=.bad er a/\Sd B w0 s ba bc bs q er a K bx (nR (.slice t b.length r) b::rs) wr))) (λ_ i _=>N-(intOf i).toNat)
 case atStart=>exact ⟨0,[],_,_,Nat.zero_le _,rfl,rfl,by simp,.inl ⟨g,rfl,by simp,U.o⟩⟩
 case round =>
  obtain ⟨k,b,t,r,hk,rfl,rfl,a4,Z⟩:=hrel;clear U c3
  rcases Z with ⟨q,F,a3,c⟩|⟨er,a,q,j,F,c⟩
  . have ay:=c.le;have c3:=c.c3;have X:=Hm c;have A:=Hm (oneD 124 127 (by decide) (by decide) c hA hl);rw [<- ty_rng] at A;clear c
    by_cases aa:k<N
    . have E:(k:Int)<(N:Int):=by omega
      have m:Hid (Q7 (Qz tyB bs) N [] g=(Qz tyB bs q).bind λv V=>Q7 (Qz tyB bs) (N-(k+1)) (b++[v]) V):=by show _=_;rw [F,show N-k=(N-(k+1))+1 by omega];rfl
      clear F
      rcases hY:Qz tyB bs q with ⟨er,a⟩|⟨v,V⟩
      . have j:=ad.o q er a hY;rw [hY] at A m;clear hY
        go_wp2_with (first
         |(go_at_call 219;refine (A.o).mono ?_;rintro e H ⟨u,q',rfl,⟨v0,rfl,_⟩,f⟩;have G:=Hm f;clear f A)
         | (at_builtin;refine wpList_append_own_at _ rfl _ _ 25 rfl B 2 i0 (.int .i64 0) 1 8 Tryz.underlying25 hi O M L rfl (by decide) (.slice t b.length r) b.length (I b) rfl (World.ownsRow.alloc (show World.ownsRow H B 2 1 (.slice t b.length r) b.length (I b) from G.o.row mS) _) ⟨H.heap.size,0,none⟩ 1 1 [.int .i64 v0] rfl rfl (cell_one_new _ _ _) (oneI _) (by unfold maxLen;omega) (by omega) (by have:=G.o.hB;simp;omega) ?_;intro v6 w6 C S D l;obtain ⟨va,J,rfl⟩:=QZ C;have H6:=Hm (G.o.push (r':=nR (.slice va (b.length+1) J) (b++[v0])) (bF.alloc lR _) S (by have:=C;simpa [Qc.Ok,nR,I] using this) l);clear C S D l))
        go_roundw
        case rel=>exact ⟨k+1,b++[v0],va,J,by omega,by go_num,by simp,by simp;omega,.inr ⟨er,a,q',j,m.o,by simpa using H6.o⟩⟩
        case measure=>simp [intOf];omega
      . have a0:=X8 tyB bs q v V hY;rw [hY] at A m;clear hY
        go_wp2_with (first
         |(go_at_call 219;refine (A.o).mono ?_;rintro e H ⟨rfl,f⟩;have az:=f.le;have G:=Hm f;clear f A)
         | (at_builtin;refine wpList_append_own_at _ rfl _ _ 25 rfl B 2 i0 (.int .i64 0) 1 8 Tryz.underlying25 hi O M L rfl (by decide) (.slice t b.length r) b.length (I b) rfl (World.ownsRow.alloc (show World.ownsRow H B 2 1 (.slice t b.length r) b.length (I b) from G.o.row mS) _) ⟨H.heap.size,0,none⟩ 1 1 [.int .i64 v] rfl rfl (cell_one_new _ _ _) (oneI _) (by unfold maxLen;omega) (by omega) (by have:=G.o.hB;simp;omega) ?_;intro v6 w6 C S D l;obtain ⟨va,J,rfl⟩:=QZ C;have H6:=Hm (G.o.push (r':=nR (.slice va (b.length+1) J) (b++[v])) (bF.alloc lR _) S (by have:=C;simpa [Qc.Ok,nR,I] using this) l);clear C S D l))
        go_roundw
        case rel=>exact ⟨k+1,b++[v],va,J,by omega,by go_num,by simp,by simp;omega,.inl ⟨V,m.o,by simp;omega,by simpa using H6.o⟩⟩
        case measure=>simp [intOf];omega
    . have E:¬ (k:Int)<(N:Int):=by omega
      have HV:Hid (Q7 (Qz tyB bs) N [] g=.ok b q):=by show _=_;rw [F,show N-k=0 by omega];rfl
      clear F A
      go_wp2_with fail
      go_ret
      rw [HV.o]
      exact ⟨_,_,rfl,X.o⟩
  . obtain ⟨zz,au,ah,c3⟩:=c.c3n j;have HD:Hid (Q7 (Qz tyB bs) N [] g=.bad er a):=F;have X:=Hm c;clear F c
    by_cases aa:k<N
    . have E:(k:Int)<(N:Int):=by omega
      go_wp2_with fail
      go_ret
      rw [HD.o]
      exact ⟨_,_,b,_,rfl,X.o⟩
    . have E:¬ (k:Int)<(N:Int):=by omega
      go_wp2_with fail
      go_ret
      rw [HD.o]
      exact ⟨_,_,b,_,rfl,X.o⟩
end Go.Proofs.YtedcmcdbejjgcaaGreat.Ms
