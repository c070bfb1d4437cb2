import Derived.Test.YtedcmcdbejjgcaaGreatGaa
import Derived.Test.YtedcmcdbejjgcaaGreatGba
import Derived.Test.YtedcmcdbejjgcaaGreatGbb
import Derived.Test.YtedcmcdbejjgcaaGreatGaz
import Derived.Test.YtedcmcdbejjgcaaGreatGay
import Derived.Test.YtedcmcdbejjgcaaGreatGaq
set_option linter.all false
set_option maxHeartbeats 400000000
set_option maxRecDepth 100000
namespace Go.Proofs.YtedcmcdbejjgcaaGreat.Ms
open Go.RowKit Go.Sort
def SiD (M:Rs In)(B:Nat)(w0:World)(s:Nat)(ba:Option Addr)(bc:Bd)(bs:List Int)(K:Nat)(bx:List (Nat × List Value))(rs:List Qc)(e:Ending)(w':World):Prop :=
 ∃ x la lc,e=.returned (inV x la lc)/\(match M with
  |.bad er a=>er≠0/\∃ p',Sd B w0 s ba bc bs p' er a K bx rs w'
  | .ok x' p'=>x=x'/\Sd B w0 s ba bc bs p' 0 0 (K+1) bx (nR (.slice la x.l.length lc) x.l::rs) w')
theorem liftI {M:Rs In}{P:Program}{F:FuncId}{args:Array Value}{B:Nat}{f:World}{s:Nat}{b:Option Addr}{bc:Bd}{bs:List Int}{p:Nat}{K:Nat}{q:List (Nat × List Value)}{rs:List Qc}{w:World}
    (h:Sd B f s b bc bs p 0 0 K q rs w) (A:∀ v,Sr w s b { bc with ev:=v } bs p 0 0->Calls P F args w (SiP M w s b { bc with ev:=v } bs)):Calls P F args w (SiD M B f s b bc bs K q rs):=by
 obtain ⟨v,n,I,d,H,G,E,D⟩:=h.ex
 refine (A v d).mono ?_
 rintro e C ⟨o,x,k,j,z,m⟩
 refine ⟨x,k,j,z,?_⟩
 cases M with
 |bad er a=>obtain ⟨y,g,c⟩:=m;exact ⟨y,g,h.step (v:=v) (λv' hv'=>by rw [d.ev] at hv';cases hv';exact c) o⟩
 |ok x' g=>obtain ⟨t,u,c⟩:=m;exact ⟨t,(h.stepNew (r:=nR (.slice k x.l.length j) x.l) (λv' hv'=>by rw [d.ev] at hv';cases hv';exact c) o u).more (λ_=>by omega)⟩
theorem two_boxes {B w0 s ba bc bs p K bx rs w}(a:Int)(h:Sd B w0 s ba bc bs p 0 0 K bx rs w):Sd B w0 s ba bc bs p 0 0 K ((w.heap.size+1,[.int .i64 a,.int .i64 0,.int .i64 0,.int .u64 0,.slice none 0 0])::(w.heap.size,[.int .i64 0,.int .i64 0,.int .i64 0,.int .u64 0,.slice none 0 0])::bx) rs ((w.alloc (.cells #[.int .i64 0,.int .i64 0,.int .i64 0,.int .u64 0,.slice none 0 0] 170)).alloc (.cells #[.int .i64 a,.int .i64 0,.int .i64 0,.int .u64 0,.slice none 0 0] 170)):=by
 have b:=(h.box (t:=170) (xs:=[.int .i64 0,.int .i64 0,.int .i64 0,.int .u64 0,.slice none 0 0])).box (t:=170) (xs:=[.int .i64 a,.int .i64 0,.int .i64 0,.int .u64 0,.slice none 0 0])
 simpa using b
theorem Gv (er at_:Int){B w0 s ba bc bs p K bx rs w}(h:Sd B w0 s ba bc bs p 0 0 K bx rs w)(d:er≠2):Calls Tryz.prog 74 #[.pointer (some ⟨s,0,none⟩),.int .i64 er,.int .i64 at_] w λe a=>e=.returned (.tuple #[])/\Sd B w0 s ba bc bs p er at_ K bx rs a:=by
 obtain ⟨v,n,o,b,m,l,k,j⟩:=h.ex
 refine (JT s ba _ bs p er at_ w b d).mono ?_
 rintro e a ⟨g,c,f⟩
 exact ⟨g,h.step (v:=v) (λv' hv'=>by rw [b.ev] at hv';cases hv';exact c) f⟩
theorem sins_1 (S aq:Int){B w0 s ba bc bs p K bx rs w}(hf:QM (Qr S)=1)(h:Sd B w0 s ba bc bs p 0 0 K bx rs w)(hK:K<=1099511627776)(hA:Qm bs)(hl:bs.length<=1099511627776) :
    Calls Tryz.prog 278 #[.pointer (some ⟨s,0,none⟩),.int .i64 S,.int .i64 aq] w (SiD (JQ 1 S bs p) B w0 s ba bc bs K bx rs):=by
 have X:=Hm (X7 S);rw [hf] at X;obtain ⟨W,hW⟩:∃ W,W=(w.alloc (.cells #[.int .i64 0,.int .i64 0,.int .i64 0,.int .u64 0,.slice none 0 0] 170)).alloc (.cells #[.int .i64 S,.int .i64 0,.int .i64 0,.int .u64 0,.slice none 0 0] 170):=⟨_,rfl⟩;have h0:=two_boxes S h;rw [<- hW] at h0;have Z:=Hm hW;have H0:=Hm h0;clear hf hW h0 h;have ad:=λv p1=>Xn (p:=p) (p1:=p1) (v:=v) hA;have ab:=Xg bs p;have Y:=Hm (λV K' bx' rs' (hV:Sd B w0 s ba bc bs p 0 0 K' bx' rs' V)=>lift hV (λv hv=>byte_sc s ba _ bs p V hv hl))
 show Calls _ _ _ _ (SiD (((Qx bs p).bind λx p1=>if (decide (x=64) || tyB x) then .ok x p1 else .bad 8 p1).bind λa p1=>.ok ⟨S,a,0,0,[]⟩ p1) _ _ _ _ _ _ _ _ _)
 generalize Qx bs p=M at *
 cases M with
 |bad er a =>
  have ac:=ab er a rfl;clear ab ad
  go_enter Tryz.func278,Tryz.ntmps278
  go_wp2_with fail
  rw [<- Z.o]
  refine (X.o _).mono ?_
  rintro e w2 ⟨rfl,rfl⟩;clear X Z
  go_wp2_with fail
  refine (Xx 21 0 0 _ H0.o hK).mono ?_
  rintro e w3 ⟨rfl,A⟩;have b:=Hm A;clear A H0;have R:=b.o.b0.2.1 0 _ rfl;have z:=b.o.b0.2.2 0;have H:=b.o.b1.2.1 0 _ rfl;have m:=b.o.b1.2.2 0;have O:=b.o.b0.2.1 1 _ rfl;have y:=b.o.b0.2.2 1;have G:=b.o.b1.2.1 1 _ rfl;have l:=b.o.b1.2.2 1;have L:=b.o.b0.2.1 2 _ rfl;have t:=b.o.b0.2.2 2;have F:=b.o.b1.2.1 2 _ rfl;have k:=b.o.b1.2.2 2;have J:=b.o.b0.2.1 3 _ rfl;have r:=b.o.b0.2.2 3;have z3:=b.o.b1.2.1 3 _ rfl;have j:=b.o.b1.2.2 3;have I:=b.o.b0.2.1 4 _ rfl;have n:=b.o.b0.2.2 4;have E:=b.o.b1.2.1 4 _ rfl;have g:=b.o.b1.2.2 4
  go_wp2_with fail
  refine (Y.o _ _ _ _ b.o).mono ?_
  rintro e w4 ⟨u,q,rfl,rfl,f⟩;clear R z H m O y G l L t F k J r z3 j I n E g;have d:=Hm f;have D:=Hm (f.set0 1 (.int .i64 0));clear f b Y;have R:=d.o.b0.2.1 0 _ rfl;have z:=d.o.b0.2.2 0;have H:=d.o.b1.2.1 0 _ rfl;have m:=d.o.b1.2.2 0;have O:=d.o.b0.2.1 1 _ rfl;have y:=d.o.b0.2.2 1;have G:=d.o.b1.2.1 1 _ rfl;have l:=d.o.b1.2.2 1;have L:=d.o.b0.2.1 2 _ rfl;have t:=d.o.b0.2.2 2;have F:=d.o.b1.2.1 2 _ rfl;have k:=d.o.b1.2.2 2;have J:=d.o.b0.2.1 3 _ rfl;have r:=d.o.b0.2.2 3;have z3:=d.o.b1.2.1 3 _ rfl;have j:=d.o.b1.2.2 3;have I:=d.o.b0.2.1 4 _ rfl;have n:=d.o.b0.2.2 4;have E:=d.o.b1.2.1 4 _ rfl;have g:=d.o.b1.2.2 4;obtain ⟨az,a1,av,g3⟩:=D.o.c3n ac
  go_wp2_with fail
  exact bodyPost_ret (v:=inV (⟨S,0,0,0,[]⟩:In) none 0) (by simp [results,Tryz.results278,go_sem,R,O,L,J,I,H,G,F,z3,E]) rfl (by
   exact ⟨_,_,_,rfl,ac,_,(D.o.fin5).err ac _⟩
  )
 |ok c p1 =>
  obtain ⟨a3,a2⟩:=ad c p1 rfl;have KY:=Hm (ty_c c);clear ab ad
  show Calls _ _ _ _ (SiD ((if (decide (c=64) || tyB c) then Rs.ok c p1 else .bad 8 p1).bind λa p1=>.ok ⟨S,a,0,0,[]⟩ p1) _ _ _ _ _ _ _ _ _)
  by_cases U:c=64
  . subst U
    show Calls _ _ _ _ (SiD (.ok ⟨S,64,0,0,[]⟩ p1) _ _ _ _ _ _ _ _ _)
    go_enter Tryz.func278,Tryz.ntmps278
    go_wp2_with fail
    rw [<- Z.o]
    refine (X.o _).mono ?_
    rintro e w2 ⟨rfl,rfl⟩;clear X Z
    go_wp2_with fail
    refine (Xx 21 0 0 _ H0.o hK).mono ?_
    rintro e w3 ⟨rfl,A⟩;have b:=Hm A;clear A H0;have R:=b.o.b0.2.1 0 _ rfl;have z:=b.o.b0.2.2 0;have H:=b.o.b1.2.1 0 _ rfl;have m:=b.o.b1.2.2 0;have O:=b.o.b0.2.1 1 _ rfl;have y:=b.o.b0.2.2 1;have G:=b.o.b1.2.1 1 _ rfl;have l:=b.o.b1.2.2 1;have L:=b.o.b0.2.1 2 _ rfl;have t:=b.o.b0.2.2 2;have F:=b.o.b1.2.1 2 _ rfl;have k:=b.o.b1.2.2 2;have J:=b.o.b0.2.1 3 _ rfl;have r:=b.o.b0.2.2 3;have z3:=b.o.b1.2.1 3 _ rfl;have j:=b.o.b1.2.2 3;have I:=b.o.b0.2.1 4 _ rfl;have n:=b.o.b0.2.2 4;have E:=b.o.b1.2.1 4 _ rfl;have g:=b.o.b1.2.2 4
    go_wp2_with fail
    refine (Y.o _ _ _ _ b.o).mono ?_
    rintro e w4 ⟨rfl,f⟩;clear R z H m O y G l L t F k J r z3 j I n E g;have d:=Hm f;have D:=Hm (f.set0 1 (.int .i64 64));clear f b Y;have R:=d.o.b0.2.1 0 _ rfl;have z:=d.o.b0.2.2 0;have H:=d.o.b1.2.1 0 _ rfl;have m:=d.o.b1.2.2 0;have O:=d.o.b0.2.1 1 _ rfl;have y:=d.o.b0.2.2 1;have G:=d.o.b1.2.1 1 _ rfl;have l:=d.o.b1.2.2 1;have L:=d.o.b0.2.1 2 _ rfl;have t:=d.o.b0.2.2 2;have F:=d.o.b1.2.1 2 _ rfl;have k:=d.o.b1.2.2 2;have J:=d.o.b0.2.1 3 _ rfl;have r:=d.o.b0.2.2 3;have z3:=d.o.b1.2.1 3 _ rfl;have j:=d.o.b1.2.2 3;have I:=d.o.b0.2.1 4 _ rfl;have n:=d.o.b0.2.2 4;have E:=d.o.b1.2.1 4 _ rfl;have g:=d.o.b1.2.2 4;have x0:=D.o.b0.2.1 0 _ rfl;have x1:=D.o.b0.2.1 1 _ rfl;have g1:=D.o.c1;have g3:=D.o.c3
    go_wp2_with fail
    exact bodyPost_ret (v:=inV (⟨S,64,0,0,[]⟩:In) none 0) (by simp [results,Tryz.results278,go_sem,R,O,L,J,I,H,G,F,z3,E]) rfl (by
     exact ⟨_,_,_,rfl,rfl,(D.o.fin5).nilRow⟩
    )
  . have ax:(c==64)=false:=by simpa using U
    have ao:(c != 64)=true:=by simpa using U
    cases hty:tyB c
    . rw [hty] at KY
      show Calls _ _ _ _ (SiD ((if (decide (c=64) || false)=true then Rs.ok c p1 else .bad 8 p1).bind λa p1=>.ok ⟨S,a,0,0,[]⟩ p1) _ _ _ _ _ _ _ _ _)
      rw [if_neg (by simpa using U)]
      show Calls _ _ _ _ (SiD (.bad 8 p1) _ _ _ _ _ _ _ _ _)
      go_enter Tryz.func278,Tryz.ntmps278
      go_wp2_with fail
      rw [<- Z.o]
      refine (X.o _).mono ?_
      rintro e w2 ⟨rfl,rfl⟩;clear X Z
      go_wp2_with fail
      refine (Xx 21 0 0 _ H0.o hK).mono ?_
      rintro e w3 ⟨rfl,A⟩;have b:=Hm A;clear A H0;have R:=b.o.b0.2.1 0 _ rfl;have z:=b.o.b0.2.2 0;have H:=b.o.b1.2.1 0 _ rfl;have m:=b.o.b1.2.2 0;have O:=b.o.b0.2.1 1 _ rfl;have y:=b.o.b0.2.2 1;have G:=b.o.b1.2.1 1 _ rfl;have l:=b.o.b1.2.2 1;have L:=b.o.b0.2.1 2 _ rfl;have t:=b.o.b0.2.2 2;have F:=b.o.b1.2.1 2 _ rfl;have k:=b.o.b1.2.2 2;have J:=b.o.b0.2.1 3 _ rfl;have r:=b.o.b0.2.2 3;have z3:=b.o.b1.2.1 3 _ rfl;have j:=b.o.b1.2.2 3;have I:=b.o.b0.2.1 4 _ rfl;have n:=b.o.b0.2.2 4;have E:=b.o.b1.2.1 4 _ rfl;have g:=b.o.b1.2.2 4
      go_wp2_with fail
      refine (Y.o _ _ _ _ b.o).mono ?_
      rintro e w4 ⟨rfl,f⟩;clear R z H m O y G l L t F k J r z3 j I n E g;have d:=Hm f;have D:=Hm (f.set0 1 (.int .i64 c));clear f b Y;have R:=d.o.b0.2.1 0 _ rfl;have z:=d.o.b0.2.2 0;have H:=d.o.b1.2.1 0 _ rfl;have m:=d.o.b1.2.2 0;have O:=d.o.b0.2.1 1 _ rfl;have y:=d.o.b0.2.2 1;have G:=d.o.b1.2.1 1 _ rfl;have l:=d.o.b1.2.2 1;have L:=d.o.b0.2.1 2 _ rfl;have t:=d.o.b0.2.2 2;have F:=d.o.b1.2.1 2 _ rfl;have k:=d.o.b1.2.2 2;have J:=d.o.b0.2.1 3 _ rfl;have r:=d.o.b0.2.2 3;have z3:=d.o.b1.2.1 3 _ rfl;have j:=d.o.b1.2.2 3;have I:=d.o.b0.2.1 4 _ rfl;have n:=d.o.b0.2.2 4;have E:=d.o.b1.2.1 4 _ rfl;have g:=d.o.b1.2.2 4;have x0:=D.o.b0.2.1 0 _ rfl;have x1:=D.o.b0.2.1 1 _ rfl;have g1:=D.o.c1;have g3:=D.o.c3;have KF:=Hm (λV K' bx' rs' (hV:Sd B w0 s ba bc bs p1 0 0 K' bx' rs' V)=>Gv 8 (p1:Int) hV (by decide))
      go_wp2_with (first
       |(go_at_call 124;refine (KY.o _).mono ?_;rintro e w5 ⟨rfl,rfl⟩)
       | (go_at_call 74;refine (KF.o _ _ _ _ D.o).mono ?_;rintro e w6 ⟨rfl,ae⟩;have C:=Hm ae;clear ae R z H m O y G l L t F k J r z3 j I n E g;have R:=C.o.b0.2.1 0 _ rfl;have z:=C.o.b0.2.2 0;have H:=C.o.b1.2.1 0 _ rfl;have m:=C.o.b1.2.2 0;have O:=C.o.b0.2.1 1 _ rfl;have y:=C.o.b0.2.2 1;have G:=C.o.b1.2.1 1 _ rfl;have l:=C.o.b1.2.2 1;have L:=C.o.b0.2.1 2 _ rfl;have t:=C.o.b0.2.2 2;have F:=C.o.b1.2.1 2 _ rfl;have k:=C.o.b1.2.2 2;have J:=C.o.b0.2.1 3 _ rfl;have r:=C.o.b0.2.2 3;have z3:=C.o.b1.2.1 3 _ rfl;have j:=C.o.b1.2.2 3;have I:=C.o.b0.2.1 4 _ rfl;have n:=C.o.b0.2.2 4;have E:=C.o.b1.2.1 4 _ rfl;have g:=C.o.b1.2.2 4))
      exact bodyPost_ret (v:=inV (⟨S,c,0,0,[]⟩:In) none 0) (by simp [results,Tryz.results278,go_sem,R,O,L,J,I,H,G,F,z3,E]) rfl (by
       exact ⟨_,_,_,rfl,by decide,_,(C.o.fin5).err (by decide) _⟩
      )
    . rw [hty] at KY
      show Calls _ _ _ _ (SiD ((if (decide (c=64) || true)=true then Rs.ok c p1 else .bad 8 p1).bind λa p1=>.ok ⟨S,a,0,0,[]⟩ p1) _ _ _ _ _ _ _ _ _)
      rw [if_pos (by simp)]
      show Calls _ _ _ _ (SiD (.ok ⟨S,c,0,0,[]⟩ p1) _ _ _ _ _ _ _ _ _)
      go_enter Tryz.func278,Tryz.ntmps278
      go_wp2_with fail
      rw [<- Z.o]
      refine (X.o _).mono ?_
      rintro e w2 ⟨rfl,rfl⟩;clear X Z
      go_wp2_with fail
      refine (Xx 21 0 0 _ H0.o hK).mono ?_
      rintro e w3 ⟨rfl,A⟩;have b:=Hm A;clear A H0;have R:=b.o.b0.2.1 0 _ rfl;have z:=b.o.b0.2.2 0;have H:=b.o.b1.2.1 0 _ rfl;have m:=b.o.b1.2.2 0;have O:=b.o.b0.2.1 1 _ rfl;have y:=b.o.b0.2.2 1;have G:=b.o.b1.2.1 1 _ rfl;have l:=b.o.b1.2.2 1;have L:=b.o.b0.2.1 2 _ rfl;have t:=b.o.b0.2.2 2;have F:=b.o.b1.2.1 2 _ rfl;have k:=b.o.b1.2.2 2;have J:=b.o.b0.2.1 3 _ rfl;have r:=b.o.b0.2.2 3;have z3:=b.o.b1.2.1 3 _ rfl;have j:=b.o.b1.2.2 3;have I:=b.o.b0.2.1 4 _ rfl;have n:=b.o.b0.2.2 4;have E:=b.o.b1.2.1 4 _ rfl;have g:=b.o.b1.2.2 4
      go_wp2_with fail
      refine (Y.o _ _ _ _ b.o).mono ?_
      rintro e w4 ⟨rfl,f⟩;clear R z H m O y G l L t F k J r z3 j I n E g;have d:=Hm f;have D:=Hm (f.set0 1 (.int .i64 c));clear f b Y;have R:=d.o.b0.2.1 0 _ rfl;have z:=d.o.b0.2.2 0;have H:=d.o.b1.2.1 0 _ rfl;have m:=d.o.b1.2.2 0;have O:=d.o.b0.2.1 1 _ rfl;have y:=d.o.b0.2.2 1;have G:=d.o.b1.2.1 1 _ rfl;have l:=d.o.b1.2.2 1;have L:=d.o.b0.2.1 2 _ rfl;have t:=d.o.b0.2.2 2;have F:=d.o.b1.2.1 2 _ rfl;have k:=d.o.b1.2.2 2;have J:=d.o.b0.2.1 3 _ rfl;have r:=d.o.b0.2.2 3;have z3:=d.o.b1.2.1 3 _ rfl;have j:=d.o.b1.2.2 3;have I:=d.o.b0.2.1 4 _ rfl;have n:=d.o.b0.2.2 4;have E:=d.o.b1.2.1 4 _ rfl;have g:=d.o.b1.2.2 4;have x0:=D.o.b0.2.1 0 _ rfl;have x1:=D.o.b0.2.1 1 _ rfl;have g1:=D.o.c1;have g3:=D.o.c3
      go_wp2_with (go_at_call 124;refine (KY.o _).mono ?_;rintro e w5 ⟨rfl,rfl⟩)
      exact bodyPost_ret (v:=inV (⟨S,c,0,0,[]⟩:In) none 0) (by simp [results,Tryz.results278,go_sem,R,O,L,J,I,H,G,F,z3,E]) rfl (by
       exact ⟨_,_,_,rfl,rfl,(D.o.fin5).nilRow⟩
      )
theorem size_se (s ba bc bs p er at_ w)(h:Sr w s ba bc bs p er at_)(a:er≠0) :
    Calls Tryz.prog 277 #[.pointer (some ⟨s,0,none⟩)] w λe w'=>e=.returned (.int .i64 0)/\w=w':=by
 have K:=Hm (u32_se s ba bc bs p er at_ w h a);obtain ⟨z3,c,b,c3⟩:=h.c3n a;clear h a
 go_enter Tryz.func277,Tryz.ntmps277
 go_wp2_with fail
 refine (K.o).mono ?_
 rintro e d ⟨rfl,rfl⟩
 go_wp2_with fail
 go_ret
 exact ⟨rfl,rfl⟩
theorem size_sc (s ba bc bs p w)(h:Sr w s ba bc bs p 0 0)(t:bc.en≠0)(G:Qm bs)(hl:bs.length<=1099511627776) :
    Calls Tryz.prog 277 #[.pointer (some ⟨s,0,none⟩)] w (SpP (Jl bs bc.E p) (λv=>.int .i64 v) isI w s ba bc bs):=by
 have K:=Hm (u32_sc s ba bc bs p w h G hl);have d:=Q9 false 32 bs p;unfold Jl QK
 cases hM:Qy false 32 bs p with
 |bad er a =>
  have r:=d er a hM;rw [hM] at K;clear h hM d
  go_enter Tryz.func277,Tryz.ntmps277
  go_wp2_with fail
  refine (K.o).mono ?_
  rintro e f ⟨c,u,I,rfl,⟨v,rfl⟩,b⟩;have q:=Hm c;have m:=Hm b;obtain ⟨z3,F,A,B⟩:=b.c3n r;clear c b K
  go_wp2_with fail
  go_ret
  exact ⟨q.o,_,_,rfl,⟨_,rfl⟩,m.o⟩
 |ok n p1 =>
  rw [hM] at K
  show Calls _ _ _ _ (SpP (if bc.E-p1<n then .bad 6 p1 else .ok n p1) _ _ _ _ _ _ _)
  have C:Hid (bc.left p1=bc.E-p1):=by show _=_;unfold Bd.left;rw [if_neg t]
  clear h hM d
  by_cases j:bc.E-p1<n
  . rw [if_pos j]
    go_enter Tryz.func277,Tryz.ntmps277
    go_wp2_with fail
    refine (K.o).mono ?_
    rintro e f ⟨c,rfl,b⟩;have l:=Hm (left_sc s ba bc bs p1 0 0 f b);rw [C.o] at l;have B:=b.c3;have J:=b.c1;have q:=Hm c;have m:=Hm b;clear c b K
    go_wp2_with (first
     |(go_at_call 144;refine (l.o).mono ?_;rintro e D ⟨rfl,k2,rfl⟩)
     | (go_at_call 74;refine (JT s ba bc bs p1 6 p1 _ (m.o.drewN _) (by decide)).mono ?_;rintro e H ⟨rfl,g,k⟩;have y:=Hm g;have z:=Hm (Qa q.o (Qa (Q2 (World.grownBy.refl f (some s)) _) k));clear g k))
    go_ret
    exact ⟨z.o,_,_,rfl,⟨_,rfl⟩,y.o⟩
  . rw [if_neg j]
    go_enter Tryz.func277,Tryz.ntmps277
    go_wp2_with fail
    refine (K.o).mono ?_
    rintro e f ⟨c,rfl,b⟩;have l:=Hm (left_sc s ba bc bs p1 0 0 f b);rw [C.o] at l;have B:=b.c3;have q:=Hm c;have m:=Hm b;clear c b K
    go_wp2_with (go_at_call 144;refine (l.o).mono ?_;rintro e D ⟨rfl,k2,rfl⟩)
    go_ret
    exact ⟨Qa q.o (Q2 (World.grownBy.refl f (some s)) _),rfl,m.o.drewN _⟩
theorem fl_rng:flB=JP 0 1:=by funext x;unfold flB JP;rw [Bool.eq_iff_iff];simp;try omega
theorem ty_rng:tyB=JP 124 127:=by funext x;unfold tyB JP;rw [Bool.eq_iff_iff];simp;try omega
theorem kd_rng:GU=JP 0 3:=by funext x;unfold GU JP;rw [Bool.eq_iff_iff];simp;try omega
end Go.Proofs.YtedcmcdbejjgcaaGreat.Ms
namespace Go.Proofs.YtedcmcdbejjgcaaGreat
open Go.RowKit Go.Sort
theorem Sm.re {B w0 q ba bc bc' bs bs' p p' rs}{V V':World}(h:Sm B w0 q ba bc bs p rs V)(hg:V.grownBy V' (some q))(hr:Rd V' q ba bc' bs' p')(c:bc'.fs=bc.fs):Sm B w0 q ba bc' bs' p' rs V' :=
 ⟨hr,h.b.by h.sz hg,h.o.grown hg (λk e hk=>by cases e;exact h.qn hk),λa e hx=>h.by_ a e (by rw [<- c];exact hx),h.qB,Nat.le_trans h.sz hg.size⟩
theorem wsec_c (s:FuncId)(hF:∀ xs w,(callFunc s xs).run Tryz.prog w=.ok (.enter s xs) w)(k G:Int)(m:Mod)(L:List (List Qc))(B w0 q ba bc bs p w)(h:Sm B w0 q ba bc bs p L.flatten w)(Y:MB m p)(hA:Qm bs)(hl:bs.length<=1099511627776)(hE:bc.E<=9223372036854775807)
    (hK:∀ (g:Bf) (f:List Int) (p':Nat) (V:World),Sm B w0 q ba g f p' L.flatten V->g.rest=bc.rest->Qm f->f.length<=1099511627776->g.E<=9223372036854775807->MB m p'->Calls Tryz.prog s #[.pointer (some ⟨q,0,none⟩)] V (SeP (Jk k G m f g.E p') B w0 q ba g f)) :
    Calls Tryz.prog 82 #[.pointer (some ⟨q,0,none⟩),.func (.func s) #[.pointer (some ⟨q,0,none⟩)] #[]] w (SeP (QU (Jk k G m) bs bc.E p) B w0 q ba bc bs):=by
 have HA:=Hm hA;have I:=Hm h;have aj:=Hm Y;have d:=Hm h.r.win;have D:=h.r.e0;have K:=Hm (size_c q ba bc bs p w h.r hA hl hE);have HK:=Hm hK;clear h hA Y hK;unfold QU
 go_enter Tryz.func82,Tryz.ntmps82
 go_wp2_with fail
 refine (K.o).mono ?_
 rintro e w1 ⟨hg,j⟩
 rcases hM:Jl bs bc.E p with ⟨er,at_⟩|⟨n,a⟩
 . rw [hM] at j;subst j
   refine ⟨rfl,?_⟩
   simp only [hM,Rs.bind]
   exact ⟨rfl,I.o.bl hg⟩
 have t:=Hm hM;have ae:=GH HA.o hM;have a1:=size_le hM;have a0:p+1<=a:=Of bs bc.E p n a hM;obtain ⟨n,rfl⟩:=Int.eq_ofNat_of_zero_le ae.1;rw [hM] at j;obtain ⟨rfl,z⟩:=j;have ar:=z.le;have e1:=z.c1;have e2:=z.c2;have ef:=z.fz 2;have hw:IntKind.i64.wrap ((a:Int)+n)=(a:Int)+n:=by rw [IntKind.wrap_i64];omega
 have HO:=Hm ((I.o.step hg z I.o.lt).re (Qp w1 q 2 (.int .i64 ((a:Int)+n))) (z.open_ n (by omega)) rfl);have KB:=Hm (HK.o _ _ _ _ HO.o rfl (Gh HA.o _) (by simp;omega) (by show (a:Int)+n<=_;omega) (aj.o.up (by omega)));clear hg z hM K
 go_wp2_with fail
 refine (KB.o).mono ?_
 rintro e O j
 rcases hM:Jk k G m (bs.take (a+n)) ((a:Int)+n) a with ⟨er,at_⟩|⟨x,c⟩
 . rw [show (bc.win_ ((a:Int)+n)).E=(a:Int)+n from rfl,hM] at j;obtain ⟨rfl,F⟩:=j
   refine ⟨rfl,?_⟩
   rw [flt_win d.o D (by omega)]
   simp only [t.o,Rs.bind,Int.toNat_natCast,hM]
   by_cases h2:er=2
   . simp only [if_pos h2]
     by_cases h3:a+n<bs.length
     . simp only [if_pos h3];exact ⟨rfl,F⟩
     . simp only [if_neg h3];exact ⟨rfl,F⟩
   . simp only [if_neg h2];exact ⟨rfl,F⟩
 rw [show (bc.win_ ((a:Int)+n)).E=(a:Int)+n from rfl,hM] at j;have M:=Hm hM;obtain ⟨rest,L',rfl,X,aa,Z,v,y⟩:=j;have b:=y.r;have f1:=b.c1;have f2:O.cell? ⟨q,2,none⟩=some (.int .i64 ((a:Int)+n)):=b.c2;have ff:=b.fz 2;have u:c<=(bs.take (a+n)).length:=b.le;have A:c<=a+n/\c<=bs.length:=by simp at u;omega
 have H:=Hm y;have J:Hid (Rd O q ba (({ bc with rest:=rest }:Bf).win_ ((a:Int)+n)) (bs.take (a+n)) c):=b;have ai:=Hm X;have ap:=Hm aa;have ao:=Hm Z;have ab:=Hm v;clear y b hM X aa Z v KB u
 by_cases C:c<a+n
 . have S:(c:Int)<(a:Int)+n:=by omega
   by_cases U:bs.length<=c
   . have KT:=Hm (λm=>XP q ba (({ bc with rest:=rest }:Bf).win_ ((a:Int)+n)) (bs.take (a+n)) c (O.drewN m) (J.o.drewN m) (by simp;omega))
     go_wp2_with fail
     go_quiet (fail)
     go_wp2_with fail
     refine (KT.o _).mono ?_
     rintro e w4 ⟨rfl,l⟩
     refine ⟨rfl,?_⟩
     simp only [t.o,Rs.bind,Int.toNat_natCast,M.o,if_pos C,if_pos U]
     refine ⟨?_,H.o.bl (Qa (Q2 (World.grownBy.refl _ _) _) l)⟩
     rw [show (({ bc with rest:=rest }:Bf).win_ ((a:Int)+n)).flt 2 (bs.take (a+n)).length=bc.flt 2 bs.length from (flt_win (bc:={ bc with rest:=rest }) d.o D (by omega)).trans (by rw [if_pos rfl,if_neg (by omega)];rfl)]
   . have KT:=Hm (λm=>GG q ba (({ bc with rest:=rest }:Bf).win_ ((a:Int)+n)) (bs.take (a+n)) c (O.drewN m) (J.o.drewN m) (by simp;omega) (by simp;omega))
     go_wp2_with fail
     go_quiet (fail)
     go_wp2_with fail
     refine (KT.o _).mono ?_
     rintro e w4 ⟨rfl,R,l⟩;have KF:=Hm (JE q 6 ((c+1:Nat):Int) w4 R.c1);have ak:=Hm (H.o.bl (Qa (Q2 (World.grownBy.refl _ _) _) l));clear R l KT
     go_wp2_with fail
     refine (KF.o).mono ?_
     rintro e w5 ⟨rfl,rfl⟩
     refine ⟨rfl,?_⟩
     simp only [t.o,Rs.bind,Int.toNat_natCast,M.o,if_pos C,if_neg U]
     exact ⟨rfl,ak.o⟩
 . have S:(a:Int)+n<=(c:Int):=by omega
   have af:a+n<=c:=by omega
   clear C;have HS:=Hm (λm=>H.o.re (Qa (Q2 (World.grownBy.refl O (some q)) m) (Qp _ q 2 (.int .i64 bc.E))) (Rd.shut (bc:={ bc with rest:=rest }) (J.o.drewN m) d.o D A.2) rfl)
   go_wp2_with fail
   go_quiet (fail)
   go_wp2_with fail
   go_end0
   simp only [t.o,Rs.bind,Int.toNat_natCast,M.o,if_neg (Nat.not_lt.2 af)]
   exact ⟨rest,L',rfl,ai.o,ap.o,ao.o,ab.o,HS.o _⟩
theorem reGlob_c (x:Jv)(k:Option Addr)(c1:Nat)(a:Option Addr)(b:Nat)(w:World)(A:Jv.Is 0 w x k)(m:Jv.Is 0 w x a)(hl:Jv.LB 1048576 x) :
    Calls Tryz.prog 166 #[.agg #[.int .i64 x.ty.ty,.bool x.ty.mu,.slice k x.ini.length c1],.agg #[.int .i64 x.ty.ty,.bool x.ty.mu,.slice a x.ini.length b]] w λe w'=>e=.returned (.bool true)/\Below w.heap.size w w':=by
 have C:=hl;have r:=A;clear A;have E:=Hm r;clear r;have l:=m;clear m;have q:=Hm l;clear l;have B:Hid (Bk ((w.alloc (.cells #[.int .i64 x.ty.ty,.bool x.ty.mu,.slice k x.ini.length c1] 107)).alloc (.cells #[.int .i64 x.ty.ty,.bool x.ty.mu,.slice a x.ini.length b] 107)) w.heap.size [.int .i64 x.ty.ty,.bool x.ty.mu,.slice k x.ini.length c1]/\Bk ((w.alloc (.cells #[.int .i64 x.ty.ty,.bool x.ty.mu,.slice k x.ini.length c1] 107)).alloc (.cells #[.int .i64 x.ty.ty,.bool x.ty.mu,.slice a x.ini.length b] 107)) (w.heap.size+1) [.int .i64 x.ty.ty,.bool x.ty.mu,.slice a x.ini.length b]/\Below w.heap.size w ((w.alloc (.cells #[.int .i64 x.ty.ty,.bool x.ty.mu,.slice k x.ini.length c1] 107)).alloc (.cells #[.int .i64 x.ty.ty,.bool x.ty.mu,.slice a x.ini.length b] 107))):=two w [.int .i64 x.ty.ty,.bool x.ty.mu,.slice k x.ini.length c1] [.int .i64 x.ty.ty,.bool x.ty.mu,.slice a x.ini.length b] 107 107
 go_enter Tryz.func166,Tryz.ntmps166
 go_upto_region 1 with fail
 refine Ql (λW=>Bk W w.heap.size [.int .i64 x.ty.ty,.bool x.ty.mu,.slice k x.ini.length c1]/\Bk W (w.heap.size+1) [.int .i64 x.ty.ty,.bool x.ty.mu,.slice a x.ini.length b]/\Below w.heap.size w W) B.o ?_
 rintro W ⟨d,c,f⟩;clear B;have u:=d.2.1 0 _ rfl;have z:=c.2.1 0 _ rfl;have t:=d.2.1 1 _ rfl;have y:=c.2.1 1 _ rfl;have s:=d.2.1 2 _ rfl;have v:=c.2.1 2 _ rfl;have p:=Hm (reGType_c x.ty W trivial trivial trivial)
 go_wp2_with fail
 refine p.o.mono ?_
 rintro e D ⟨rfl,j⟩;have d:=d.keep j;have c:=c.keep j;have f:=f.trans (j.mono f.size);clear p j;have u:=d.2.1 0 _ rfl;have z:=c.2.1 0 _ rfl;have t:=d.2.1 1 _ rfl;have y:=c.2.1 1 _ rfl;have s:=d.2.1 2 _ rfl;have v:=c.2.1 2 _ rfl;have n:=Hm (reIns_c k a c1 b x.ini D C (E.o.up (Qh f)) (q.o.up (Qh f)))
 go_wp2_with fail
 refine n.o.mono ?_
 rintro e G ⟨rfl,g⟩;have d:=d.keep g;have c:=c.keep g;have f:=f.trans (g.mono f.size);clear n g;have u:=d.2.1 0 _ rfl;have z:=c.2.1 0 _ rfl;have t:=d.2.1 1 _ rfl;have y:=c.2.1 1 _ rfl;have s:=d.2.1 2 _ rfl;have v:=c.2.1 2 _ rfl;have F:=Hm f;clear f d c
 go_wp2
 go_ret
 exact ⟨rfl,F.o⟩
theorem reGlobs_c (a Y:Option Addr)(c c':Nat)(xs:List Jv)(w:World)(hl:xs.length<=1048576/\∀ i,i<xs.length->Jv.LB 1048576 (xs.getD i Jv.z))(h:Jv.Ls 0 w a xs)(O:Jv.Ls 0 w Y xs) :
    Calls Tryz.prog 88 #[.slice a xs.length c,.slice Y xs.length c'] w λe w'=>e=.returned (.bool true)/\Below w.heap.size w w':=by
 obtain ⟨hn,hl⟩:=hl;have H1:=Hm h;have H2:=Hm O;have H3:=Hm hl;clear h O hl
 go_enter Tryz.func88,Tryz.ntmps88
 go_wp2
 go_loopw [5] (λi wr=>∃ k:Nat,k<=xs.length/\i=.int .i64 k/\Below w.heap.size w wr) (λi _=>xs.length-(intOf i).toNat)
 case atStart=>exact ⟨0,Nat.zero_le _,rfl,bF⟩
 case round =>
  obtain ⟨k,hk,rfl,n⟩:=hrel
  by_cases f:k<xs.length
  . have ad:(k:Int)<(xs.length:Int):=by omega
    rcases H1.o.up (Qh n) with B|⟨b,o,ea,_,M⟩
    . subst B;simp at f
    rcases H2.o.up (Qh n) with B|⟨b',o',ea',_,m⟩
    . subst B;simp at f
    have S:=M k f;have R:=m k f;have hl:=H3.o k f;subst ea ea';generalize xs.getD k Jv.z=x at S R hl;obtain ⟨X,c1,⟨G,F,E⟩,L⟩:=S;obtain ⟨r,q,⟨J,I,H⟩,l⟩:=R;have u:=cell_regrown G;have A:=cell_regrown J;have t:=cell_regrown F;have y:=cell_regrown I;have s:=cell_regrown E;have v:=cell_regrown H;have V:∀ d os,Calls Tryz.prog 166 #[.agg #[.int .i64 x.ty.ty,.bool x.ty.mu,.slice X x.ini.length c1],.agg #[.int .i64 x.ty.ty,.bool x.ty.mu,.slice r x.ini.length q]] (grow (redrawn wr d) os) λe w''=>e=.returned (.bool true)/\∃ p:Regrown,w''=grow (redrawn wr p.d) p.os:=λd os=>Calls.regrown_of (reGlob_c x X c1 r q _ (L.up (Qh (below_regrown wr d os))) (l.up (Qh (below_regrown wr d os))) hl);have Z:=Hm n;have HE:=Hm V;clear n M m L l hl H1 H2 H3 V G J F I E H
    go_wp2
    refine wp_region_quiet_below (by kernel_rfl) (by kernel_rfl) ?_
    repeat (quiet_step (exact HE.o _ _))
    refine wpQuiet_nil ?_
    intro _ D
    obtain ⟨⟨U,g⟩,j⟩:=D;subst j;have C:=Z.o.trans ((below_regrown wr U g).mono Z.o.size);clear u A t y s v;generalize grow (redrawn wr U) g=w5 at *
    show Exit.then _ _ Exit.normal _ w5
    go_wp2
    go_roundw
    case rel=>exact ⟨k+1,by omega,by go_num,C⟩
    case measure=>simp [intOf];omega
  . go_wp2
    go_ret
    exact ⟨rfl,n⟩
theorem reEle_c (x:Ele)(n:Option Addr)(c1:Nat)(m:Option Addr)(c2:Nat)(b:Option Addr)(d:Nat)(a:Option Addr)(c:Nat)(w:World)(J:Ele.Is 0 w x n m)(u:Ele.Is 0 w x b a)(hl:Ele.LB 1048576 x) :
    Calls Tryz.prog 168 #[.agg #[.slice n x.off.length c1,.slice m x.fs.length c2],.agg #[.slice b x.off.length d,.slice a x.fs.length c]] w λe w'=>e=.returned (.bool true)/\Below w.heap.size w w':=by
 obtain ⟨I,l1⟩:=hl;obtain ⟨B,A⟩:=J;have O:=Hm B;have M:=Hm A;clear B A;obtain ⟨q,p⟩:=u;have z:=Hm q;have y:=Hm p;clear q p;have G:Hid (Bk ((w.alloc (.cells #[.slice n x.off.length c1,.slice m x.fs.length c2] 79)).alloc (.cells #[.slice b x.off.length d,.slice a x.fs.length c] 79)) w.heap.size [.slice n x.off.length c1,.slice m x.fs.length c2]/\Bk ((w.alloc (.cells #[.slice n x.off.length c1,.slice m x.fs.length c2] 79)).alloc (.cells #[.slice b x.off.length d,.slice a x.fs.length c] 79)) (w.heap.size+1) [.slice b x.off.length d,.slice a x.fs.length c]/\Below w.heap.size w ((w.alloc (.cells #[.slice n x.off.length c1,.slice m x.fs.length c2] 79)).alloc (.cells #[.slice b x.off.length d,.slice a x.fs.length c] 79))):=two w [.slice n x.off.length c1,.slice m x.fs.length c2] [.slice b x.off.length d,.slice a x.fs.length c] 79 79
 go_enter Tryz.func168,Tryz.ntmps168
 go_upto_region 1 with fail
 refine Ql (λW=>Bk W w.heap.size [.slice n x.off.length c1,.slice m x.fs.length c2]/\Bk W (w.heap.size+1) [.slice b x.off.length d,.slice a x.fs.length c]/\Below w.heap.size w W) G.o ?_
 rintro W ⟨j,g,f⟩;clear G;have D:=j.2.1 0 _ rfl;have F:=g.2.1 0 _ rfl;have C:=j.2.1 1 _ rfl;have E:=g.2.1 1 _ rfl;have t:=Hm (reIns_c n b c1 d x.off W I (O.o.up (Qh f)) (z.o.up (Qh f)))
 go_wp2_with fail
 refine t.o.mono ?_
 rintro e v ⟨rfl,l⟩;have j:=j.keep l;have g:=g.keep l;have f:=f.trans (l.mono f.size);clear t l;have D:=j.2.1 0 _ rfl;have F:=g.2.1 0 _ rfl;have C:=j.2.1 1 _ rfl;have E:=g.2.1 1 _ rfl;have s:=Hm (eq_any m a c2 c x.fs v (by omega) (M.o.up (Qh f)).has (y.o.up (Qh f)).has)
 go_wp2_with fail
 refine s.o.mono ?_
 rintro e L ⟨rfl,H,r⟩;have k:Below v.heap.size v L:=by rw [r];exact J6 bF _
 clear r;have j:=j.keep k;have g:=g.keep k;have f:=f.trans (k.mono f.size);clear s k;have D:=j.2.1 0 _ rfl;have F:=g.2.1 0 _ rfl;have C:=j.2.1 1 _ rfl;have E:=g.2.1 1 _ rfl;have R:=Hm f;clear f j g
 go_wp2
 go_ret
 exact ⟨rfl,R.o⟩
theorem reCod_c (x:Cod)(n:Option Addr)(c1:Nat)(m:Option Addr)(c2:Nat)(b:Option Addr)(d:Nat)(a:Option Addr)(c:Nat)(w:World)(G:Cod.Is 0 w x n m)(t:Cod.Is 0 w x b a)(hl:Cod.LB 1048576 x) :
    Calls Tryz.prog 169 #[.agg #[.slice n x.locs.length c1,.slice m x.body.length c2],.agg #[.slice b x.locs.length d,.slice a x.body.length c]] w λe w'=>e=.returned (.bool true)/\Below w.heap.size w w':=by
 obtain ⟨F,l1⟩:=hl;obtain ⟨z,y⟩:=G;have J:=Hm z;have I:=Hm y;clear z y;obtain ⟨q,p⟩:=t;have v:=Hm q;have u:=Hm p;clear q p;have E:Hid (Bk ((w.alloc (.cells #[.slice n x.locs.length c1,.slice m x.body.length c2] 83)).alloc (.cells #[.slice b x.locs.length d,.slice a x.body.length c] 83)) w.heap.size [.slice n x.locs.length c1,.slice m x.body.length c2]/\Bk ((w.alloc (.cells #[.slice n x.locs.length c1,.slice m x.body.length c2] 83)).alloc (.cells #[.slice b x.locs.length d,.slice a x.body.length c] 83)) (w.heap.size+1) [.slice b x.locs.length d,.slice a x.body.length c]/\Below w.heap.size w ((w.alloc (.cells #[.slice n x.locs.length c1,.slice m x.body.length c2] 83)).alloc (.cells #[.slice b x.locs.length d,.slice a x.body.length c] 83))):=two w [.slice n x.locs.length c1,.slice m x.body.length c2] [.slice b x.locs.length d,.slice a x.body.length c] 83 83
 go_enter Tryz.func169,Tryz.ntmps169
 go_upto_region 1 with fail
 refine Ql (λW=>Bk W w.heap.size [.slice n x.locs.length c1,.slice m x.body.length c2]/\Bk W (w.heap.size+1) [.slice b x.locs.length d,.slice a x.body.length c]/\Below w.heap.size w W) E.o ?_
 rintro W ⟨j,g,f⟩;clear E;have B:=j.2.1 0 _ rfl;have D:=g.2.1 0 _ rfl;have A:=j.2.1 1 _ rfl;have C:=g.2.1 1 _ rfl;have s:=Hm (reGrps_c n b c1 d x.locs W F (J.o.up (Qh f)) (v.o.up (Qh f)))
 go_wp2_with fail
 refine s.o.mono ?_
 rintro e H ⟨rfl,l⟩;have j:=j.keep l;have g:=g.keep l;have f:=f.trans (l.mono f.size);clear s l;have B:=j.2.1 0 _ rfl;have D:=g.2.1 0 _ rfl;have A:=j.2.1 1 _ rfl;have C:=g.2.1 1 _ rfl;have r:=Hm (reIns_c m a c2 c x.body H l1 (I.o.up (Qh f)) (u.o.up (Qh f)))
 go_wp2_with fail
 refine r.o.mono ?_
 rintro e M ⟨rfl,k⟩;have j:=j.keep k;have g:=g.keep k;have f:=f.trans (k.mono f.size);clear r k;have B:=j.2.1 0 _ rfl;have D:=g.2.1 0 _ rfl;have A:=j.2.1 1 _ rfl;have C:=g.2.1 1 _ rfl;have L:=Hm f;clear f j g
 go_wp2
 go_ret
 exact ⟨rfl,L.o⟩
theorem reDat_c (x:Dat)(n:Option Addr)(c1:Nat)(m:Option Addr)(c2:Nat)(b:Option Addr)(d:Nat)(a:Option Addr)(c:Nat)(w:World)(J:Dat.Is 0 w x n m)(u:Dat.Is 0 w x b a)(hl:Dat.LB 1048576 x) :
    Calls Tryz.prog 170 #[.agg #[.slice n x.off.length c1,.slice m x.bs.length c2],.agg #[.slice b x.off.length d,.slice a x.bs.length c]] w λe w'=>e=.returned (.bool true)/\Below w.heap.size w w':=by
 obtain ⟨I,l1⟩:=hl;obtain ⟨B,A⟩:=J;have O:=Hm B;have M:=Hm A;clear B A;obtain ⟨q,p⟩:=u;have z:=Hm q;have y:=Hm p;clear q p;have G:Hid (Bk ((w.alloc (.cells #[.slice n x.off.length c1,.slice m x.bs.length c2] 85)).alloc (.cells #[.slice b x.off.length d,.slice a x.bs.length c] 85)) w.heap.size [.slice n x.off.length c1,.slice m x.bs.length c2]/\Bk ((w.alloc (.cells #[.slice n x.off.length c1,.slice m x.bs.length c2] 85)).alloc (.cells #[.slice b x.off.length d,.slice a x.bs.length c] 85)) (w.heap.size+1) [.slice b x.off.length d,.slice a x.bs.length c]/\Below w.heap.size w ((w.alloc (.cells #[.slice n x.off.length c1,.slice m x.bs.length c2] 85)).alloc (.cells #[.slice b x.off.length d,.slice a x.bs.length c] 85))):=two w [.slice n x.off.length c1,.slice m x.bs.length c2] [.slice b x.off.length d,.slice a x.bs.length c] 85 85
 go_enter Tryz.func170,Tryz.ntmps170
 go_upto_region 1 with fail
 refine Ql (λW=>Bk W w.heap.size [.slice n x.off.length c1,.slice m x.bs.length c2]/\Bk W (w.heap.size+1) [.slice b x.off.length d,.slice a x.bs.length c]/\Below w.heap.size w W) G.o ?_
 rintro W ⟨j,g,f⟩;clear G;have D:=j.2.1 0 _ rfl;have F:=g.2.1 0 _ rfl;have C:=j.2.1 1 _ rfl;have E:=g.2.1 1 _ rfl;have t:=Hm (reIns_c n b c1 d x.off W I (O.o.up (Qh f)) (z.o.up (Qh f)))
 go_wp2_with fail
 refine t.o.mono ?_
 rintro e v ⟨rfl,l⟩;have j:=j.keep l;have g:=g.keep l;have f:=f.trans (l.mono f.size);clear t l;have D:=j.2.1 0 _ rfl;have F:=g.2.1 0 _ rfl;have C:=j.2.1 1 _ rfl;have E:=g.2.1 1 _ rfl;have s:=Hm (eqB_any m a c2 c x.bs v (by omega) (M.o.up (Qh f)) (y.o.up (Qh f)))
 go_wp2_with fail
 refine s.o.mono ?_
 rintro e L ⟨rfl,H,r⟩;have k:Below v.heap.size v L:=by rw [r];exact J6 bF _
 clear r;have j:=j.keep k;have g:=g.keep k;have f:=f.trans (k.mono f.size);clear s k;have D:=j.2.1 0 _ rfl;have F:=g.2.1 0 _ rfl;have C:=j.2.1 1 _ rfl;have E:=g.2.1 1 _ rfl;have R:=Hm f;clear f j g
 go_wp2
 go_ret
 exact ⟨rfl,R.o⟩
theorem reLs:(∀ (a q:Option Addr) (c t:Nat) (xs:List Ele) (w:World) (hl:xs.length<=1048576/\∀ i,i<xs.length->Ele.LB 1048576 (xs.getD i Ele.z)) (h:Ele.Ls 0 w a xs) (D:Ele.Ls 0 w q xs),Calls Tryz.prog 90 #[.slice a xs.length c,.slice q xs.length t] w λe w'=>e=.returned (.bool true)/\Below w.heap.size w w')/\(∀ (a q:Option Addr) (c t:Nat) (xs:List Cod) (w:World) (hl:xs.length<=1048576/\∀ i,i<xs.length->Cod.LB 1048576 (xs.getD i Cod.z)) (h:Cod.Ls 0 w a xs) (D:Cod.Ls 0 w q xs),Calls Tryz.prog 91 #[.slice a xs.length c,.slice q xs.length t] w λe w'=>e=.returned (.bool true)/\Below w.heap.size w w')/\(∀ (a q:Option Addr) (c t:Nat) (xs:List Dat) (w:World) (hl:xs.length<=1048576/\∀ i,i<xs.length->Dat.LB 1048576 (xs.getD i Dat.z)) (h:Dat.Ls 0 w a xs) (D:Dat.Ls 0 w q xs),Calls Tryz.prog 92 #[.slice a xs.length c,.slice q xs.length t] w λe w'=>e=.returned (.bool true)/\Below w.heap.size w w'):=by
 refine ⟨?c0,?c1,?c2⟩
 case' c0=>have s:=0
 case' c1=>have r:=0
 case' c2=>have t2:=0
 all_goals
  intro a q c t xs w hl h D
  obtain ⟨hn,hl⟩:=hl;have H1:=Hm h;have H2:=Hm D;have H3:=Hm hl;clear h D hl
  first|(replace s:=s;go_enter Tryz.func90,Tryz.ntmps90)|(replace r:=r;go_enter Tryz.func91,Tryz.ntmps91)|(go_enter Tryz.func92,Tryz.ntmps92)
  go_wp2
  go_loopw [5] (λi wr=>∃ k:Nat,k<=xs.length/\i=.int .i64 k/\Below w.heap.size w wr) (λi _=>xs.length-(intOf i).toNat)
  case atStart=>exact ⟨0,Nat.zero_le _,rfl,bF⟩
  case round =>
   obtain ⟨k,hk,rfl,C⟩:=hrel
   by_cases m:k<xs.length
   . have af:(k:Int)<(xs.length:Int):=by omega
     rcases H1.o.up (Qh C) with O|⟨b,o,ea,_,Z⟩
     . subst O;simp at m
     rcases H2.o.up (Qh C) with O|⟨b',o',ea',_,B⟩
     . subst O;simp at m
     have G:=Z k m;have F:=B k m;have hl:=H3.o k m;subst ea ea'
     first|(replace s:=s;generalize xs.getD k Ele.z=x at G F hl)|(replace r:=r;generalize xs.getD k Cod.z=x at G F hl)|(generalize xs.getD k Dat.z=x at G F hl)
     obtain ⟨v,c1,u,c2,⟨V,U⟩,E⟩:=G;obtain ⟨l,g,j,f,⟨Y,X⟩,n⟩:=F;have J:=cell_regrown V;have M:=cell_regrown Y;have I:=cell_regrown U;have L:=cell_regrown X
     first|(replace s:=s;have H:∀ d os,Calls Tryz.prog 168 #[.agg #[.slice v x.off.length c1,.slice u x.fs.length c2],.agg #[.slice l x.off.length g,.slice j x.fs.length f]] (grow (redrawn wr d) os) λe w''=>e=.returned (.bool true)/\∃ p:Regrown,w''=grow (redrawn wr p.d) p.os:=λd os=>Calls.regrown_of (reEle_c x v c1 u c2 l g j f _ (E.up (Qh (below_regrown wr d os))) (n.up (Qh (below_regrown wr d os))) hl))|(replace r:=r;have H:∀ d os,Calls Tryz.prog 169 #[.agg #[.slice v x.locs.length c1,.slice u x.body.length c2],.agg #[.slice l x.locs.length g,.slice j x.body.length f]] (grow (redrawn wr d) os) λe w''=>e=.returned (.bool true)/\∃ p:Regrown,w''=grow (redrawn wr p.d) p.os:=λd os=>Calls.regrown_of (reCod_c x v c1 u c2 l g j f _ (E.up (Qh (below_regrown wr d os))) (n.up (Qh (below_regrown wr d os))) hl))|(have H:∀ d os,Calls Tryz.prog 170 #[.agg #[.slice v x.off.length c1,.slice u x.bs.length c2],.agg #[.slice l x.off.length g,.slice j x.bs.length f]] (grow (redrawn wr d) os) λe w''=>e=.returned (.bool true)/\∃ p:Regrown,w''=grow (redrawn wr p.d) p.os:=λd os=>Calls.regrown_of (reDat_c x v c1 u c2 l g j f _ (E.up (Qh (below_regrown wr d os))) (n.up (Qh (below_regrown wr d os))) hl))
     have HB:=Hm C;have HE:=Hm H;clear C Z B E n hl H1 H2 H3 H V Y U X
     go_wp2
     refine wp_region_quiet_below (by kernel_rfl) (by kernel_rfl) ?_
     repeat (quiet_step (exact HE.o _ _))
     refine wpQuiet_nil ?_
     intro _ S
     obtain ⟨⟨dq,y⟩,A⟩:=S;subst A;have R:=HB.o.trans ((below_regrown wr dq y).mono HB.o.size);clear J M I L;generalize grow (redrawn wr dq) y=w5 at *
     show Exit.then _ _ Exit.normal _ w5
     go_wp2
     go_roundw
     case rel=>exact ⟨k+1,by omega,by go_num,R⟩
     case measure=>simp [intOf];omega
   . go_wp2
     go_ret
     exact ⟨rfl,C⟩
def reEles_c:=reLs.1
def reCods_c:=reLs.2.1
def reDats_c:=reLs.2.2
theorem reCus_c (x:Cus)(g:Option Addr)(c1:Nat)(a:Option Addr)(b:Nat)(w:World)(r:Cus.Is 0 w x g)(m:Cus.Is 0 w x a)(hl:Cus.LB 1048576 x) :
    Calls Tryz.prog 171 #[.agg #[.int .i64 x.aft,.string x.nm,.slice g x.bs.length c1],.agg #[.int .i64 x.aft,.string x.nm,.slice a x.bs.length b]] w λe w'=>e=.returned (.bool true)/\Below w.heap.size w w':=by
 obtain ⟨l1,F⟩:=hl;have q:=r;clear r;have D:=Hm q;clear q;have k:=m;clear m;have p:=Hm k;clear k;have s:Hid (Bk ((w.alloc (.cells #[.int .i64 x.aft,.string x.nm,.slice g x.bs.length c1] 72)).alloc (.cells #[.int .i64 x.aft,.string x.nm,.slice a x.bs.length b] 72)) w.heap.size [.int .i64 x.aft,.string x.nm,.slice g x.bs.length c1]/\Bk ((w.alloc (.cells #[.int .i64 x.aft,.string x.nm,.slice g x.bs.length c1] 72)).alloc (.cells #[.int .i64 x.aft,.string x.nm,.slice a x.bs.length b] 72)) (w.heap.size+1) [.int .i64 x.aft,.string x.nm,.slice a x.bs.length b]/\Below w.heap.size w ((w.alloc (.cells #[.int .i64 x.aft,.string x.nm,.slice g x.bs.length c1] 72)).alloc (.cells #[.int .i64 x.aft,.string x.nm,.slice a x.bs.length b] 72))):=two w [.int .i64 x.aft,.string x.nm,.slice g x.bs.length c1] [.int .i64 x.aft,.string x.nm,.slice a x.bs.length b] 72 72
 go_enter Tryz.func171,Tryz.ntmps171
 go_upto_region 1 with fail
 refine Ql (λW=>Bk W w.heap.size [.int .i64 x.aft,.string x.nm,.slice g x.bs.length c1]/\Bk W (w.heap.size+1) [.int .i64 x.aft,.string x.nm,.slice a x.bs.length b]/\Below w.heap.size w W) s.o ?_
 rintro W ⟨f,d,j⟩;clear s;have v:=f.2.1 0 _ rfl;have A:=d.2.1 0 _ rfl;have u:=f.2.1 1 _ rfl;have z:=d.2.1 1 _ rfl;have t:=f.2.1 2 _ rfl;have y:=d.2.1 2 _ rfl;have n:=Hm (eqB_any g a c1 b x.bs W (by omega) (D.o.up (Qh j)) (p.o.up (Qh j)))
 go_wp2_with fail
 refine n.o.mono ?_
 rintro e C ⟨rfl,B,l⟩;have c:Below W.heap.size W C:=by rw [l];exact J6 bF _
 clear l;have f:=f.keep c;have d:=d.keep c;have j:=j.trans (c.mono j.size);clear n c;have v:=f.2.1 0 _ rfl;have A:=d.2.1 0 _ rfl;have u:=f.2.1 1 _ rfl;have z:=d.2.1 1 _ rfl;have t:=f.2.1 2 _ rfl;have y:=d.2.1 2 _ rfl;have E:=Hm j;clear j f d
 go_wp2
 go_ret
 exact ⟨rfl,E.o⟩
theorem reCuss_c (a Y:Option Addr)(c c':Nat)(xs:List Cus)(w:World)(hl:xs.length<=1048576/\∀ i,i<xs.length->Cus.LB 1048576 (xs.getD i Cus.z))(h:Cus.Ls 0 w a xs)(O:Cus.Ls 0 w Y xs) :
    Calls Tryz.prog 93 #[.slice a xs.length c,.slice Y xs.length c'] w λe w'=>e=.returned (.bool true)/\Below w.heap.size w w':=by
 obtain ⟨hn,hl⟩:=hl;have H1:=Hm h;have H2:=Hm O;have H3:=Hm hl;clear h O hl
 go_enter Tryz.func93,Tryz.ntmps93
 go_wp2
 go_loopw [5] (λi wr=>∃ k:Nat,k<=xs.length/\i=.int .i64 k/\Below w.heap.size w wr) (λi _=>xs.length-(intOf i).toNat)
 case atStart=>exact ⟨0,Nat.zero_le _,rfl,bF⟩
 case round =>
  obtain ⟨k,hk,rfl,n⟩:=hrel
  by_cases f:k<xs.length
  . have ad:(k:Int)<(xs.length:Int):=by omega
    rcases H1.o.up (Qh n) with B|⟨b,o,ea,_,M⟩
    . subst B;simp at f
    rcases H2.o.up (Qh n) with B|⟨b',o',ea',_,m⟩
    . subst B;simp at f
    have S:=M k f;have R:=m k f;have hl:=H3.o k f;subst ea ea';generalize xs.getD k Cus.z=x at S R hl;obtain ⟨X,c1,⟨G,F,E⟩,L⟩:=S;obtain ⟨r,q,⟨J,I,H⟩,l⟩:=R;have u:=cell_regrown G;have A:=cell_regrown J;have t:=cell_regrown F;have y:=cell_regrown I;have s:=cell_regrown E;have v:=cell_regrown H;have V:∀ d os,Calls Tryz.prog 171 #[.agg #[.int .i64 x.aft,.string x.nm,.slice X x.bs.length c1],.agg #[.int .i64 x.aft,.string x.nm,.slice r x.bs.length q]] (grow (redrawn wr d) os) λe w''=>e=.returned (.bool true)/\∃ p:Regrown,w''=grow (redrawn wr p.d) p.os:=λd os=>Calls.regrown_of (reCus_c x X c1 r q _ (L.up (Qh (below_regrown wr d os))) (l.up (Qh (below_regrown wr d os))) hl);have Z:=Hm n;have HE:=Hm V;clear n M m L l hl H1 H2 H3 V G J F I E H
    go_wp2
    refine wp_region_quiet_below (by kernel_rfl) (by kernel_rfl) ?_
    repeat (quiet_step (exact HE.o _ _))
    refine wpQuiet_nil ?_
    intro _ D
    obtain ⟨⟨U,g⟩,j⟩:=D;subst j;have C:=Z.o.trans ((below_regrown wr U g).mono Z.o.size);clear u A t y s v;generalize grow (redrawn wr U) g=w5 at *
    show Exit.then _ _ Exit.normal _ w5
    go_wp2
    go_roundw
    case rel=>exact ⟨k+1,by omega,by go_num,C⟩
    case measure=>simp [intOf];omega
  . go_wp2
    go_ret
    exact ⟨rfl,n⟩
end Go.Proofs.YtedcmcdbejjgcaaGreat
