import Derived.Test.YtaccbbndmmhenaaGreatDoorGap
set_option linter.all false
set_option maxHeartbeats 400000000
set_option maxRecDepth 100000
namespace Go.Proofs
open Value renaming int->U,slice->S,bool->G,string->Xs,agg->Ag
open IntKind renaming i64->O
open Ending renaming returned->Z
open Obj renaming cells->Fc
open Go renaming World->J,Calls->Ec
open Tryz renaming prog->Q
open Tryz
open RowKit.Below renaming refl->Ly
open Nat renaming le_succ->Mk
open Bool renaming and_eq_true->Kf
namespace YtaccbbndmmhenaaGreatDoor
open Go.RowKit Go.Sort
attribute [-go_sem] run_eql_struct
theorem Bk.drew {W g cs}(h:Bk W g cs):Bk W.drew g cs:=h
theorem XA {x:Imp}(h:¬XS x=true):QO x=false:=by simp[QO,h]
theorem iimp0 (x:Imp)(w:J)(hl:Imp.LB 1048576 x)(M:x.kind=0):Ec Q 113 #[Ag #[Xs x.mod,Xs x.nm,U O x.kind,U O x.ty,U O x.lim.min,U O x.lim.max,G x.lim.has,U O x.gl.ty,G x.gl.mu]] w λe w'=>e=Z (G (QO x))/\Below w.heap.size w w':=by
 obtain⟨l0,l1⟩:=hl;have KK:=Hm M;clear M;go_enter func113,ntmps113;go_upto_region 1 with fail
 refine Qp (λW=>Bk W w.heap.size [Xs x.mod,Xs x.nm,U O x.kind,U O x.ty,U O x.lim.min,U O x.lim.max,G x.lim.has,U O x.gl.ty,G x.gl.mu]/\Below w.heap.size w W/\W.heap.size=w.heap.size+1) ⟨Bk.new,bFz.alloc lRz _,by simp⟩ ?_;rintro W ⟨a,c,hs⟩;have t:=a.2.1 0 _ rfl;have s:=a.2.1 1 _ rfl;have r:=a.2.1 2 _ rfl;have q:=a.2.1 3 _ rfl;have p:=a.2.1 4 _ rfl;have n:=a.2.1 5 _ rfl;have m:=a.2.1 6 _ rfl;have l:=a.2.1 7 _ rfl;have k:=a.2.1 8 _ rfl;go_region
 go_upto_region 2 with fail
 refine Qp (λV=>Bk V w.heap.size [Xs x.mod,Xs x.nm,U O x.kind,U O x.ty,U O x.lim.min,U O x.lim.max,G x.lim.has,U O x.gl.ty,G x.gl.mu]/\Bk V (w.heap.size+1) [Xs x.mod,Xs x.nm,U O x.kind,U O x.ty,U O x.lim.min,U O x.lim.max,G x.lim.has,U O x.gl.ty,G x.gl.mu]/\Below w.heap.size w V) ⟨Bk.drew a.past,by rw[<- hs];exact Bk.drew Bk.new,c.trans ((((Ly _ W).alloc lRz _).drew).mono c.size)⟩ ?_;clear a c hs t s r q p n m l k;rintro V ⟨a,b,c⟩;have t:=a.2.1 0 _ rfl;have s:=a.2.1 1 _ rfl;have r:=a.2.1 2 _ rfl;have q:=a.2.1 3 _ rfl;have p:=a.2.1 4 _ rfl;have n:=a.2.1 5 _ rfl;have m:=a.2.1 6 _ rfl;have l:=a.2.1 7 _ rfl;have k:=a.2.1 8 _ rfl;have L:=b.2.1 3 _ rfl;have I:=b.2.1 4 _ rfl;have H:=b.2.1 5 _ rfl;have F:=b.2.1 6 _ rfl;have E:=b.2.1 7 _ rfl;have D:=b.2.1 8 _ rfl;have EL:=eqLimZ x.lim;have EG:=eqGtyZ x.gl;generalize y:limZ x.lim=z1 at EL;generalize v:gtZ x.gl=z2 at EG;have M:=KK.o;have Y:=Hm (Jw (XR x.ty V));generalize u:QB x.ty=z3 at Y;have B:Hid (XS x=(z3&&z1&&z2)):=by simp[Hid,impK0 M,y,v,u]
 clear y v u;go_wp2_with fail
 refine Y.o.mono ?_;rintro e V1 ⟨rfl,R⟩;have a:=a.keep R;have b:=b.keep R;have c:=c.trans (R.mono c.size);clear R Y t s r q p n m l k L I H F E D;have ne:w.heap.size+1≠w.heap.size:=by omega
 have t:=a.2.1 0 _ rfl;have s:=a.2.1 1 _ rfl;have r:=a.2.1 2 _ rfl;have q:=a.2.1 3 _ rfl;have p:=a.2.1 4 _ rfl;have n:=a.2.1 5 _ rfl;have m:=a.2.1 6 _ rfl;have l:=a.2.1 7 _ rfl;have k:=a.2.1 8 _ rfl;have L:=b.2.1 3 _ rfl;have I:=b.2.1 4 _ rfl;have H:=b.2.1 5 _ rfl;have F:=b.2.1 6 _ rfl;have E:=b.2.1 7 _ rfl;have D:=b.2.1 8 _ rfl;have fz:∀j,V1.frozen? ⟨w.heap.size+1,j,none⟩=false:=b.2.2;go_upto_region 10 with fail
 refine Qp (λV'=>Bk V' w.heap.size [Xs x.mod,Xs x.nm,U O x.kind,U O x.ty,U O x.lim.min,U O x.lim.max,G x.lim.has,U O x.gl.ty,G x.gl.mu]/\Bk V' (w.heap.size+1) [Xs x.mod,Xs x.nm,U O x.kind,U O 0,U O x.lim.min,U O x.lim.max,G x.lim.has,U O x.gl.ty,G x.gl.mu]/\Below w.heap.size w V') ⟨(a.other ne),b.set,(c.setCell (Mk _) _)⟩ ?_;clear a b c fz t s r q p n m l k L I H F E D;rintro V ⟨a,b,c⟩;have t:=a.2.1 0 _ rfl;have s:=a.2.1 1 _ rfl;have r:=a.2.1 2 _ rfl;have q:=a.2.1 3 _ rfl;have p:=a.2.1 4 _ rfl;have n:=a.2.1 5 _ rfl;have m:=a.2.1 6 _ rfl;have l:=a.2.1 7 _ rfl;have k:=a.2.1 8 _ rfl;have L:=b.2.1 3 _ rfl;have I:=b.2.1 4 _ rfl;have H:=b.2.1 5 _ rfl;have F:=b.2.1 6 _ rfl;have E:=b.2.1 7 _ rfl;have D:=b.2.1 8 _ rfl;by_cases d:(z1&&z2&&z3)=true
 . (have B:Hid (XS x=true):=by rw[Hid,B.o];revert d;cases z1<;>cases z2<;>cases z3<;>simp);simp only[Kf]at d;obtain⟨⟨rfl,rfl⟩,rfl⟩:=d;clear b;have g:=Hm (JI x.mod V l0);generalize z:Q2 x.mod=t0 at g;cases t0
   . (go_wp2_with fail);refine g.o.mono ?_;rintro e W1 ⟨rfl,f⟩;have c:=c.trans (f.mono c.size);clear f a;go_wp2;go_ret;exact⟨by simp[QO,z],c⟩
   (go_wp2_with fail);refine g.o.mono ?_;rintro e W1 ⟨rfl,f⟩;have a:=a.keep f;have c:=c.trans (f.mono c.size);clear f g;have t:=a.2.1 0 _ rfl;have s:=a.2.1 1 _ rfl;have r:=a.2.1 2 _ rfl;have q:=a.2.1 3 _ rfl;have p:=a.2.1 4 _ rfl;have n:=a.2.1 5 _ rfl;have m:=a.2.1 6 _ rfl;have l:=a.2.1 7 _ rfl;have k:=a.2.1 8 _ rfl;have C:=Hm (JI x.nm W1 l1);generalize X:Q2 x.nm=t1 at C
   cases t1 <;>
   . go_wp2_with fail
     refine C.o.mono ?_
     rintro e W2 ⟨rfl,A⟩;have c:=c.trans (A.mono c.size);clear A a
     go_wp2
     go_ret
     exact⟨by simp[QO,z,X,B.o],c⟩
 have aa:Hid (QO x=false):=XA (by rw[B.o];revert d;cases z1<;>cases z2<;>cases z3<;>simp);clear B a b;cases z1<;>cases z2<;>cases z3<;>first
 |(exact absurd rfl d)
 | (
  clear d
  go_wp2
  go_ret
  exact⟨by rw[aa.o];rfl,c⟩)
theorem iimp1 (x:Imp)(w:J)(hl:Imp.LB 1048576 x)(R:x.kind=1):Ec Q 113 #[Ag #[Xs x.mod,Xs x.nm,U O x.kind,U O x.ty,U O x.lim.min,U O x.lim.max,G x.lim.has,U O x.gl.ty,G x.gl.mu]] w λe w'=>e=Z (G (QO x))/\Below w.heap.size w w':=by
 obtain⟨l0,l1⟩:=hl;have KK:=Hm R;clear R;go_enter func113,ntmps113;go_upto_region 1 with fail
 refine Qp (λW=>Bk W w.heap.size [Xs x.mod,Xs x.nm,U O x.kind,U O x.ty,U O x.lim.min,U O x.lim.max,G x.lim.has,U O x.gl.ty,G x.gl.mu]/\Below w.heap.size w W/\W.heap.size=w.heap.size+1) ⟨Bk.new,bFz.alloc lRz _,by simp⟩ ?_;rintro W ⟨a,c,hs⟩;have u:=a.2.1 0 _ rfl;have t:=a.2.1 1 _ rfl;have s:=a.2.1 2 _ rfl;have r:=a.2.1 3 _ rfl;have q:=a.2.1 4 _ rfl;have p:=a.2.1 5 _ rfl;have n:=a.2.1 6 _ rfl;have m:=a.2.1 7 _ rfl;have l:=a.2.1 8 _ rfl;go_region
 go_upto_region 2 with fail
 refine Qp (λV=>Bk V w.heap.size [Xs x.mod,Xs x.nm,U O x.kind,U O x.ty,U O x.lim.min,U O x.lim.max,G x.lim.has,U O x.gl.ty,G x.gl.mu]/\Bk V (w.heap.size+1) [Xs x.mod,Xs x.nm,U O x.kind,U O x.ty,U O x.lim.min,U O x.lim.max,G x.lim.has,U O x.gl.ty,G x.gl.mu]/\Below w.heap.size w V) ⟨Bk.drew a.past,by rw[<- hs];exact Bk.drew Bk.new,c.trans ((((Ly _ W).alloc lRz _).drew).mono c.size)⟩ ?_;clear a c hs u t s r q p n m l;rintro V ⟨a,b,c⟩;have u:=a.2.1 0 _ rfl;have t:=a.2.1 1 _ rfl;have s:=a.2.1 2 _ rfl;have r:=a.2.1 3 _ rfl;have q:=a.2.1 4 _ rfl;have p:=a.2.1 5 _ rfl;have n:=a.2.1 6 _ rfl;have m:=a.2.1 7 _ rfl;have l:=a.2.1 8 _ rfl;have M:=b.2.1 3 _ rfl;have L:=b.2.1 4 _ rfl;have I:=b.2.1 5 _ rfl;have H:=b.2.1 6 _ rfl;have F:=b.2.1 7 _ rfl;have E:=b.2.1 8 _ rfl;have EL:=eqLimZ x.lim;have EG:=eqGtyZ x.gl;have ak:∀w,(binOp .eql 144 (Ag #[U O 0,U O 0,G false]) (Ag #[U O 0,U O 0,G false])).run Q w=.ok (G true) w:=λw=>eqLim w 0 0 false;generalize A:limZ x.lim=z1 at EL;generalize z:gtZ x.gl=z2 at EG;have R:=KK.o;have HK:=Hm (ilim_c x.lim V);generalize y:Jl x.lim=z3 at HK;have g:Hid (XS x=(x.ty==0&&z3&&z2)):=by simp[Hid,impK1 (.inl R),A,z,y]
 clear A z y;go_wp2_with fail
 refine HK.o.mono ?_;rintro e V1 ⟨rfl,X⟩;have a:=a.keep X;have b:=b.keep X;have c:=c.trans (X.mono c.size);clear X HK u t s r q p n m l M L I H F E;have ne:w.heap.size+1≠w.heap.size:=by omega
 have u:=a.2.1 0 _ rfl;have t:=a.2.1 1 _ rfl;have s:=a.2.1 2 _ rfl;have r:=a.2.1 3 _ rfl;have q:=a.2.1 4 _ rfl;have p:=a.2.1 5 _ rfl;have n:=a.2.1 6 _ rfl;have m:=a.2.1 7 _ rfl;have l:=a.2.1 8 _ rfl;have M:=b.2.1 3 _ rfl;have L:=b.2.1 4 _ rfl;have I:=b.2.1 5 _ rfl;have H:=b.2.1 6 _ rfl;have F:=b.2.1 7 _ rfl;have E:=b.2.1 8 _ rfl;have fz:∀j,V1.frozen? ⟨w.heap.size+1,j,none⟩=false:=b.2.2;go_upto_region 10 with fail
 refine Qp (λV'=>Bk V' w.heap.size [Xs x.mod,Xs x.nm,U O x.kind,U O x.ty,U O x.lim.min,U O x.lim.max,G x.lim.has,U O x.gl.ty,G x.gl.mu]/\Bk V' (w.heap.size+1) [Xs x.mod,Xs x.nm,U O x.kind,U O x.ty,U O 0,U O 0,G false,U O x.gl.ty,G x.gl.mu]/\Below w.heap.size w V') ⟨(((a.other ne).other ne).other ne),b.set.set.set,(((c.setCell (Mk _) _).setCell (Mk _) _).setCell (Mk _) _)⟩ ?_;clear a b c fz u t s r q p n m l M L I H F E;rintro V ⟨a,b,c⟩;have u:=a.2.1 0 _ rfl;have t:=a.2.1 1 _ rfl;have s:=a.2.1 2 _ rfl;have r:=a.2.1 3 _ rfl;have q:=a.2.1 4 _ rfl;have p:=a.2.1 5 _ rfl;have n:=a.2.1 6 _ rfl;have m:=a.2.1 7 _ rfl;have l:=a.2.1 8 _ rfl;have M:=b.2.1 3 _ rfl;have L:=b.2.1 4 _ rfl;have I:=b.2.1 5 _ rfl;have H:=b.2.1 6 _ rfl;have F:=b.2.1 7 _ rfl;have E:=b.2.1 8 _ rfl;by_cases ht:x.ty=0
 case neg=>
  have v:Hid (QO x=false):=XA (by rw[g.o];simp[ht]);clear g a b
  cases z3 <;>
  . go_wp2
    go_ret
    exact⟨by rw[v.o];rfl,c⟩
 have g:Hid (XS x=(z3&&z2)):=by rw[Hid,g.o];simp[ht]
 by_cases d:(z2&&z3)=true
 . (have g:Hid (XS x=true):=by rw[Hid,g.o];revert d;cases z2<;>cases z3<;>simp);simp only[Kf]at d;obtain⟨rfl,rfl⟩:=d;clear b;have k:=Hm (JI x.mod V l0);generalize B:Q2 x.mod=t0 at k;cases t0
   . (go_wp2_with fail);refine k.o.mono ?_;rintro e W1 ⟨rfl,f⟩;have c:=c.trans (f.mono c.size);clear f a;go_wp2;go_ret;exact⟨by simp[QO,B],c⟩
   (go_wp2_with fail);refine k.o.mono ?_;rintro e W1 ⟨rfl,f⟩;have a:=a.keep f;have c:=c.trans (f.mono c.size);clear f k;have u:=a.2.1 0 _ rfl;have t:=a.2.1 1 _ rfl;have s:=a.2.1 2 _ rfl;have r:=a.2.1 3 _ rfl;have q:=a.2.1 4 _ rfl;have p:=a.2.1 5 _ rfl;have n:=a.2.1 6 _ rfl;have m:=a.2.1 7 _ rfl;have l:=a.2.1 8 _ rfl;have D:=Hm (JI x.nm W1 l1);generalize Y:Q2 x.nm=t1 at D
   cases t1 <;>
   . go_wp2_with fail
     refine D.o.mono ?_
     rintro e W2 ⟨rfl,C⟩;have c:=c.trans (C.mono c.size);clear C a
     go_wp2
     go_ret
     exact⟨by simp[QO,B,Y,g.o],c⟩
 have v:Hid (QO x=false):=XA (by rw[g.o];revert d;cases z2<;>cases z3<;>simp);clear g a b;cases z2<;>cases z3<;>first
 |(exact absurd rfl d)
 | (
  clear d
  go_wp2
  go_ret
  exact⟨by rw[v.o];rfl,c⟩)
theorem iimp2 (x:Imp)(w:J)(hl:Imp.LB 1048576 x)(R:x.kind=2):Ec Q 113 #[Ag #[Xs x.mod,Xs x.nm,U O x.kind,U O x.ty,U O x.lim.min,U O x.lim.max,G x.lim.has,U O x.gl.ty,G x.gl.mu]] w λe w'=>e=Z (G (QO x))/\Below w.heap.size w w':=by
 obtain⟨l0,l1⟩:=hl;have KK:=Hm R;clear R;go_enter func113,ntmps113;go_upto_region 1 with fail
 refine Qp (λW=>Bk W w.heap.size [Xs x.mod,Xs x.nm,U O x.kind,U O x.ty,U O x.lim.min,U O x.lim.max,G x.lim.has,U O x.gl.ty,G x.gl.mu]/\Below w.heap.size w W/\W.heap.size=w.heap.size+1) ⟨Bk.new,bFz.alloc lRz _,by simp⟩ ?_;rintro W ⟨a,c,hs⟩;have u:=a.2.1 0 _ rfl;have t:=a.2.1 1 _ rfl;have s:=a.2.1 2 _ rfl;have r:=a.2.1 3 _ rfl;have q:=a.2.1 4 _ rfl;have p:=a.2.1 5 _ rfl;have n:=a.2.1 6 _ rfl;have m:=a.2.1 7 _ rfl;have l:=a.2.1 8 _ rfl;go_region
 go_upto_region 2 with fail
 refine Qp (λV=>Bk V w.heap.size [Xs x.mod,Xs x.nm,U O x.kind,U O x.ty,U O x.lim.min,U O x.lim.max,G x.lim.has,U O x.gl.ty,G x.gl.mu]/\Bk V (w.heap.size+1) [Xs x.mod,Xs x.nm,U O x.kind,U O x.ty,U O x.lim.min,U O x.lim.max,G x.lim.has,U O x.gl.ty,G x.gl.mu]/\Below w.heap.size w V) ⟨Bk.drew a.past,by rw[<- hs];exact Bk.drew Bk.new,c.trans ((((Ly _ W).alloc lRz _).drew).mono c.size)⟩ ?_;clear a c hs u t s r q p n m l;rintro V ⟨a,b,c⟩;have u:=a.2.1 0 _ rfl;have t:=a.2.1 1 _ rfl;have s:=a.2.1 2 _ rfl;have r:=a.2.1 3 _ rfl;have q:=a.2.1 4 _ rfl;have p:=a.2.1 5 _ rfl;have n:=a.2.1 6 _ rfl;have m:=a.2.1 7 _ rfl;have l:=a.2.1 8 _ rfl;have M:=b.2.1 3 _ rfl;have L:=b.2.1 4 _ rfl;have I:=b.2.1 5 _ rfl;have H:=b.2.1 6 _ rfl;have F:=b.2.1 7 _ rfl;have E:=b.2.1 8 _ rfl;have EL:=eqLimZ x.lim;have EG:=eqGtyZ x.gl;have ak:∀w,(binOp .eql 144 (Ag #[U O 0,U O 0,G false]) (Ag #[U O 0,U O 0,G false])).run Q w=.ok (G true) w:=λw=>eqLim w 0 0 false;generalize A:limZ x.lim=z1 at EL;generalize z:gtZ x.gl=z2 at EG;have R:=KK.o;have HK:=Hm (ilim_c x.lim V);generalize y:Jl x.lim=z3 at HK;have g:Hid (XS x=(x.ty==0&&z3&&z2)):=by simp[Hid,impK1 (.inr R),A,z,y]
 clear A z y;go_wp2_with fail
 refine HK.o.mono ?_;rintro e V1 ⟨rfl,X⟩;have a:=a.keep X;have b:=b.keep X;have c:=c.trans (X.mono c.size);clear X HK u t s r q p n m l M L I H F E;have ne:w.heap.size+1≠w.heap.size:=by omega
 have u:=a.2.1 0 _ rfl;have t:=a.2.1 1 _ rfl;have s:=a.2.1 2 _ rfl;have r:=a.2.1 3 _ rfl;have q:=a.2.1 4 _ rfl;have p:=a.2.1 5 _ rfl;have n:=a.2.1 6 _ rfl;have m:=a.2.1 7 _ rfl;have l:=a.2.1 8 _ rfl;have M:=b.2.1 3 _ rfl;have L:=b.2.1 4 _ rfl;have I:=b.2.1 5 _ rfl;have H:=b.2.1 6 _ rfl;have F:=b.2.1 7 _ rfl;have E:=b.2.1 8 _ rfl;have fz:∀j,V1.frozen? ⟨w.heap.size+1,j,none⟩=false:=b.2.2;go_upto_region 10 with fail
 refine Qp (λV'=>Bk V' w.heap.size [Xs x.mod,Xs x.nm,U O x.kind,U O x.ty,U O x.lim.min,U O x.lim.max,G x.lim.has,U O x.gl.ty,G x.gl.mu]/\Bk V' (w.heap.size+1) [Xs x.mod,Xs x.nm,U O x.kind,U O x.ty,U O 0,U O 0,G false,U O x.gl.ty,G x.gl.mu]/\Below w.heap.size w V') ⟨(((a.other ne).other ne).other ne),b.set.set.set,(((c.setCell (Mk _) _).setCell (Mk _) _).setCell (Mk _) _)⟩ ?_;clear a b c fz u t s r q p n m l M L I H F E;rintro V ⟨a,b,c⟩;have u:=a.2.1 0 _ rfl;have t:=a.2.1 1 _ rfl;have s:=a.2.1 2 _ rfl;have r:=a.2.1 3 _ rfl;have q:=a.2.1 4 _ rfl;have p:=a.2.1 5 _ rfl;have n:=a.2.1 6 _ rfl;have m:=a.2.1 7 _ rfl;have l:=a.2.1 8 _ rfl;have M:=b.2.1 3 _ rfl;have L:=b.2.1 4 _ rfl;have I:=b.2.1 5 _ rfl;have H:=b.2.1 6 _ rfl;have F:=b.2.1 7 _ rfl;have E:=b.2.1 8 _ rfl;by_cases ht:x.ty=0
 case neg=>
  have v:Hid (QO x=false):=XA (by rw[g.o];simp[ht]);clear g a b
  cases z3 <;>
  . go_wp2
    go_ret
    exact⟨by rw[v.o];rfl,c⟩
 have g:Hid (XS x=(z3&&z2)):=by rw[Hid,g.o];simp[ht]
 by_cases d:(z2&&z3)=true
 . (have g:Hid (XS x=true):=by rw[Hid,g.o];revert d;cases z2<;>cases z3<;>simp);simp only[Kf]at d;obtain⟨rfl,rfl⟩:=d;clear b;have k:=Hm (JI x.mod V l0);generalize B:Q2 x.mod=t0 at k;cases t0
   . (go_wp2_with fail);refine k.o.mono ?_;rintro e W1 ⟨rfl,f⟩;have c:=c.trans (f.mono c.size);clear f a;go_wp2;go_ret;exact⟨by simp[QO,B],c⟩
   (go_wp2_with fail);refine k.o.mono ?_;rintro e W1 ⟨rfl,f⟩;have a:=a.keep f;have c:=c.trans (f.mono c.size);clear f k;have u:=a.2.1 0 _ rfl;have t:=a.2.1 1 _ rfl;have s:=a.2.1 2 _ rfl;have r:=a.2.1 3 _ rfl;have q:=a.2.1 4 _ rfl;have p:=a.2.1 5 _ rfl;have n:=a.2.1 6 _ rfl;have m:=a.2.1 7 _ rfl;have l:=a.2.1 8 _ rfl;have D:=Hm (JI x.nm W1 l1);generalize Y:Q2 x.nm=t1 at D
   cases t1 <;>
   . go_wp2_with fail
     refine D.o.mono ?_
     rintro e W2 ⟨rfl,C⟩;have c:=c.trans (C.mono c.size);clear C a
     go_wp2
     go_ret
     exact⟨by simp[QO,B,Y,g.o],c⟩
 have v:Hid (QO x=false):=XA (by rw[g.o];revert d;cases z2<;>cases z3<;>simp);clear g a b;cases z2<;>cases z3<;>first
 |(exact absurd rfl d)
 | (
  clear d
  go_wp2
  go_ret
  exact⟨by rw[v.o];rfl,c⟩)
theorem iimp3 (x:Imp)(w:J)(hl:Imp.LB 1048576 x)(R:x.kind=3):Ec Q 113 #[Ag #[Xs x.mod,Xs x.nm,U O x.kind,U O x.ty,U O x.lim.min,U O x.lim.max,G x.lim.has,U O x.gl.ty,G x.gl.mu]] w λe w'=>e=Z (G (QO x))/\Below w.heap.size w w':=by
 obtain⟨l0,l1⟩:=hl;have KK:=Hm R;clear R;go_enter func113,ntmps113;go_upto_region 1 with fail
 refine Qp (λW=>Bk W w.heap.size [Xs x.mod,Xs x.nm,U O x.kind,U O x.ty,U O x.lim.min,U O x.lim.max,G x.lim.has,U O x.gl.ty,G x.gl.mu]/\Below w.heap.size w W/\W.heap.size=w.heap.size+1) ⟨Bk.new,bFz.alloc lRz _,by simp⟩ ?_;rintro W ⟨a,c,hs⟩;have u:=a.2.1 0 _ rfl;have t:=a.2.1 1 _ rfl;have s:=a.2.1 2 _ rfl;have r:=a.2.1 3 _ rfl;have q:=a.2.1 4 _ rfl;have p:=a.2.1 5 _ rfl;have n:=a.2.1 6 _ rfl;have m:=a.2.1 7 _ rfl;have l:=a.2.1 8 _ rfl;go_region
 go_upto_region 2 with fail
 refine Qp (λV=>Bk V w.heap.size [Xs x.mod,Xs x.nm,U O x.kind,U O x.ty,U O x.lim.min,U O x.lim.max,G x.lim.has,U O x.gl.ty,G x.gl.mu]/\Bk V (w.heap.size+1) [Xs x.mod,Xs x.nm,U O x.kind,U O x.ty,U O x.lim.min,U O x.lim.max,G x.lim.has,U O x.gl.ty,G x.gl.mu]/\Below w.heap.size w V) ⟨Bk.drew a.past,by rw[<- hs];exact Bk.drew Bk.new,c.trans ((((Ly _ W).alloc lRz _).drew).mono c.size)⟩ ?_;clear a c hs u t s r q p n m l;rintro V ⟨a,b,c⟩;have u:=a.2.1 0 _ rfl;have t:=a.2.1 1 _ rfl;have s:=a.2.1 2 _ rfl;have r:=a.2.1 3 _ rfl;have q:=a.2.1 4 _ rfl;have p:=a.2.1 5 _ rfl;have n:=a.2.1 6 _ rfl;have m:=a.2.1 7 _ rfl;have l:=a.2.1 8 _ rfl;have M:=b.2.1 3 _ rfl;have L:=b.2.1 4 _ rfl;have I:=b.2.1 5 _ rfl;have H:=b.2.1 6 _ rfl;have F:=b.2.1 7 _ rfl;have E:=b.2.1 8 _ rfl;have EL:=eqLimZ x.lim;have EG:=eqGtyZ x.gl;have ao:∀w,(binOp .eql 145 (Ag #[U O 0,G false]) (Ag #[U O 0,G false])).run Q w=.ok (G true) w:=λw=>eqGty w 0 false;generalize A:limZ x.lim=z1 at EL;generalize z:gtZ x.gl=z2 at EG;have R:=KK.o;have HK:=Hm (igt_c x.gl V);generalize y:tyB x.gl.ty=z3 at HK;have g:Hid (XS x=(x.ty==0&&z1&&z3)):=by simp[Hid,impK3 R,A,z,y]
 clear A z y;go_wp2_with fail
 refine HK.o.mono ?_;rintro e V1 ⟨rfl,X⟩;have a:=a.keep X;have b:=b.keep X;have c:=c.trans (X.mono c.size);clear X HK u t s r q p n m l M L I H F E;have ne:w.heap.size+1≠w.heap.size:=by omega
 have u:=a.2.1 0 _ rfl;have t:=a.2.1 1 _ rfl;have s:=a.2.1 2 _ rfl;have r:=a.2.1 3 _ rfl;have q:=a.2.1 4 _ rfl;have p:=a.2.1 5 _ rfl;have n:=a.2.1 6 _ rfl;have m:=a.2.1 7 _ rfl;have l:=a.2.1 8 _ rfl;have M:=b.2.1 3 _ rfl;have L:=b.2.1 4 _ rfl;have I:=b.2.1 5 _ rfl;have H:=b.2.1 6 _ rfl;have F:=b.2.1 7 _ rfl;have E:=b.2.1 8 _ rfl;have fz:∀j,V1.frozen? ⟨w.heap.size+1,j,none⟩=false:=b.2.2;go_upto_region 10 with fail
 refine Qp (λV'=>Bk V' w.heap.size [Xs x.mod,Xs x.nm,U O x.kind,U O x.ty,U O x.lim.min,U O x.lim.max,G x.lim.has,U O x.gl.ty,G x.gl.mu]/\Bk V' (w.heap.size+1) [Xs x.mod,Xs x.nm,U O x.kind,U O x.ty,U O x.lim.min,U O x.lim.max,G x.lim.has,U O 0,G false]/\Below w.heap.size w V') ⟨((a.other ne).other ne),b.set.set,((c.setCell (Mk _) _).setCell (Mk _) _)⟩ ?_;clear a b c fz u t s r q p n m l M L I H F E;rintro V ⟨a,b,c⟩;have u:=a.2.1 0 _ rfl;have t:=a.2.1 1 _ rfl;have s:=a.2.1 2 _ rfl;have r:=a.2.1 3 _ rfl;have q:=a.2.1 4 _ rfl;have p:=a.2.1 5 _ rfl;have n:=a.2.1 6 _ rfl;have m:=a.2.1 7 _ rfl;have l:=a.2.1 8 _ rfl;have M:=b.2.1 3 _ rfl;have L:=b.2.1 4 _ rfl;have I:=b.2.1 5 _ rfl;have H:=b.2.1 6 _ rfl;have F:=b.2.1 7 _ rfl;have E:=b.2.1 8 _ rfl;by_cases ht:x.ty=0
 case neg=>
  have v:Hid (QO x=false):=XA (by rw[g.o];simp[ht]);clear g a b
  cases z3 <;>
  . go_wp2
    go_ret
    exact⟨by rw[v.o];rfl,c⟩
 have g:Hid (XS x=(z1&&z3)):=by rw[Hid,g.o];simp[ht]
 by_cases d:(z1&&z3)=true
 . (have g:Hid (XS x=true):=by rw[Hid,g.o];revert d;cases z1<;>cases z3<;>simp);simp only[Kf]at d;obtain⟨rfl,rfl⟩:=d;clear b;have k:=Hm (JI x.mod V l0);generalize B:Q2 x.mod=t0 at k;cases t0
   . (go_wp2_with fail);refine k.o.mono ?_;rintro e W1 ⟨rfl,f⟩;have c:=c.trans (f.mono c.size);clear f a;go_wp2;go_ret;exact⟨by simp[QO,B],c⟩
   (go_wp2_with fail);refine k.o.mono ?_;rintro e W1 ⟨rfl,f⟩;have a:=a.keep f;have c:=c.trans (f.mono c.size);clear f k;have u:=a.2.1 0 _ rfl;have t:=a.2.1 1 _ rfl;have s:=a.2.1 2 _ rfl;have r:=a.2.1 3 _ rfl;have q:=a.2.1 4 _ rfl;have p:=a.2.1 5 _ rfl;have n:=a.2.1 6 _ rfl;have m:=a.2.1 7 _ rfl;have l:=a.2.1 8 _ rfl;have D:=Hm (JI x.nm W1 l1);generalize Y:Q2 x.nm=t1 at D
   cases t1 <;>
   . go_wp2_with fail
     refine D.o.mono ?_
     rintro e W2 ⟨rfl,C⟩;have c:=c.trans (C.mono c.size);clear C a
     go_wp2
     go_ret
     exact⟨by simp[QO,B,Y,g.o],c⟩
 have v:Hid (QO x=false):=XA (by rw[g.o];revert d;cases z1<;>cases z3<;>simp);clear g a b;cases z1<;>cases z3<;>first
 |(exact absurd rfl d)
 | (
  clear d
  go_wp2
  go_ret
  exact⟨by rw[v.o];rfl,c⟩)
theorem iimp4 (x:Imp)(w:J)(A:Imp.LB 1048576 x)(d:¬x.kind=0/\¬x.kind=1/\¬x.kind=2/\¬x.kind=3):Ec Q 113 #[Ag #[Xs x.mod,Xs x.nm,U O x.kind,U O x.ty,U O x.lim.min,U O x.lim.max,G x.lim.has,U O x.gl.ty,G x.gl.mu]] w λe w'=>e=Z (G (QO x))/\Below w.heap.size w w':=by
 obtain⟨X,R⟩:=A;have B:=Hm d;clear d;go_enter func113,ntmps113;go_upto_region 1 with fail
 refine Qp (λW=>Bk W w.heap.size [Xs x.mod,Xs x.nm,U O x.kind,U O x.ty,U O x.lim.min,U O x.lim.max,G x.lim.has,U O x.gl.ty,G x.gl.mu]/\Below w.heap.size w W/\W.heap.size=w.heap.size+1) ⟨Bk.new,bFz.alloc lRz _,by simp⟩ ?_;rintro W ⟨a,c,u⟩;have t:=a.2.1 0 _ rfl;have s:=a.2.1 1 _ rfl;have r:=a.2.1 2 _ rfl;have q:=a.2.1 3 _ rfl;have p:=a.2.1 4 _ rfl;have n:=a.2.1 5 _ rfl;have m:=a.2.1 6 _ rfl;have l:=a.2.1 7 _ rfl;have k:=a.2.1 8 _ rfl;go_region
 go_upto_region 2 with fail
 refine Qp (λV=>Bk V w.heap.size [Xs x.mod,Xs x.nm,U O x.kind,U O x.ty,U O x.lim.min,U O x.lim.max,G x.lim.has,U O x.gl.ty,G x.gl.mu]/\Bk V (w.heap.size+1) [Xs x.mod,Xs x.nm,U O x.kind,U O x.ty,U O x.lim.min,U O x.lim.max,G x.lim.has,U O x.gl.ty,G x.gl.mu]/\Below w.heap.size w V) ⟨Bk.drew a.past,by rw[<- u];exact Bk.drew Bk.new,c.trans ((((Ly _ W).alloc lRz _).drew).mono c.size)⟩ ?_;clear a c u t s r q p n m l k;rintro V ⟨a,b,c⟩;have t:=a.2.1 0 _ rfl;have s:=a.2.1 1 _ rfl;have r:=a.2.1 2 _ rfl;have q:=a.2.1 3 _ rfl;have p:=a.2.1 4 _ rfl;have n:=a.2.1 5 _ rfl;have m:=a.2.1 6 _ rfl;have l:=a.2.1 7 _ rfl;have k:=a.2.1 8 _ rfl;have M:=b.2.1 3 _ rfl;have L:=b.2.1 4 _ rfl;have I:=b.2.1 5 _ rfl;have H:=b.2.1 6 _ rfl;have F:=b.2.1 7 _ rfl;have E:=b.2.1 8 _ rfl;have C:=eqLimZ x.lim;have D:=eqGtyZ x.gl;generalize g:limZ x.lim=z1 at C;generalize f:gtZ x.gl=z2 at D;obtain⟨d,z,y,v⟩:=B.o;have j:Hid (QO x=false):=XA (by rw[impK4 d z y v];simp);clear g f a b
 by_cases Y:x.ty=0<;>cases z1<;>cases z2 <;>
 . go_wp2
   go_ret
   exact⟨by rw[j.o];rfl,c⟩
theorem iimp_c (x:Imp)(w:J)(g:Imp.Is 0 w x)(a:Imp.LB 1048576 x):Ec Q 113 #[Ag #[Xs x.mod,Xs x.nm,U O x.kind,U O x.ty,U O x.lim.min,U O x.lim.max,G x.lim.has,U O x.gl.ty,G x.gl.mu]] w λe w'=>e=Z (G (QO x))/\Below w.heap.size w w':=by
 by_cases f:x.kind=0
 . exact iimp0 x w a f
 by_cases d:x.kind=1
 . exact iimp1 x w a d
 by_cases c:x.kind=2
 . exact iimp2 x w a c
 by_cases b:x.kind=3
 . exact iimp3 x w a b
 exact iimp4 x w a ⟨f,d,c,b⟩
end YtaccbbndmmhenaaGreatDoor
namespace YtaccbbndmmhenaaGreatDoor
open Go.RowKit
theorem strNew (w:J)(L:List ByteArray)(t:TypeId):Below w.heap.size w (w.alloc (Fc (L.map Value.string).toArray t))/\∀i s,L[i]?=some s->(w.alloc (Fc (L.map Value.string).toArray t)).cell? ⟨w.heap.size,i,none⟩=some (.string s) :=
 ⟨bFz.alloc lRz _,λi s h=>Qf rfl (by simp[h])⟩
def LNames:List ByteArray:=[⟨#[117,110,114,101,97,99,104,97,98,108,101]⟩,⟨#[110,111,112]⟩,⟨#[98,108,111,99,107]⟩,⟨#[108,111,111,112]⟩,⟨#[105,102]⟩,⟨#[101,108,115,101]⟩,⟨#[]⟩,⟨#[]⟩,⟨#[]⟩,⟨#[]⟩,⟨#[]⟩,⟨#[101,110,100]⟩,⟨#[98,114]⟩,⟨#[98,114,95,105,102]⟩,⟨#[98,114,95,116,97,98,108,101]⟩,⟨#[114,101,116,117,114,110]⟩,⟨#[99,97,108,108]⟩,⟨#[99,97,108,108,95,105,110,100,105,114,101,99,116]⟩,⟨#[]⟩,⟨#[]⟩,⟨#[]⟩,⟨#[]⟩,⟨#[]⟩,⟨#[]⟩,⟨#[]⟩,⟨#[]⟩,⟨#[100,114,111,112]⟩,⟨#[115,101,108,101,99,116]⟩,⟨#[]⟩,⟨#[]⟩,⟨#[]⟩,⟨#[]⟩,⟨#[108,111,99,97,108,46,103,101,116]⟩,⟨#[108,111,99,97,108,46,115,101,116]⟩,⟨#[108,111,99,97,108,46,116,101,101]⟩,⟨#[103,108,111,98,97,108,46,103,101,116]⟩,⟨#[103,108,111,98,97,108,46,115,101,116]⟩,⟨#[]⟩,⟨#[]⟩,⟨#[]⟩,⟨#[105,51,50,46,108,111,97,100]⟩,⟨#[105,54,52,46,108,111,97,100]⟩,⟨#[102,51,50,46,108,111,97,100]⟩,⟨#[102,54,52,46,108,111,97,100]⟩,⟨#[105,51,50,46,108,111,97,100,56,95,115]⟩,⟨#[105,51,50,46,108,111,97,100,56,95,117]⟩,⟨#[105,51,50,46,108,111,97,100,49,54,95,115]⟩,⟨#[105,51,50,46,108,111,97,100,49,54,95,117]⟩,⟨#[105,54,52,46,108,111,97,100,56,95,115]⟩,⟨#[105,54,52,46,108,111,97,100,56,95,117]⟩,⟨#[105,54,52,46,108,111,97,100,49,54,95,115]⟩,⟨#[105,54,52,46,108,111,97,100,49,54,95,117]⟩,⟨#[105,54,52,46,108,111,97,100,51,50,95,115]⟩,⟨#[105,54,52,46,108,111,97,100,51,50,95,117]⟩,⟨#[105,51,50,46,115,116,111,114,101]⟩,⟨#[105,54,52,46,115,116,111,114,101]⟩,⟨#[102,51,50,46,115,116,111,114,101]⟩,⟨#[102,54,52,46,115,116,111,114,101]⟩,⟨#[105,51,50,46,115,116,111,114,101,56]⟩,⟨#[105,51,50,46,115,116,111,114,101,49,54]⟩,⟨#[105,54,52,46,115,116,111,114,101,56]⟩,⟨#[105,54,52,46,115,116,111,114,101,49,54]⟩,⟨#[105,54,52,46,115,116,111,114,101,51,50]⟩,⟨#[109,101,109,111,114,121,46,115,105,122,101]⟩,⟨#[109,101,109,111,114,121,46,103,114,111,119]⟩,⟨#[105,51,50,46,99,111,110,115,116]⟩,⟨#[105,54,52,46,99,111,110,115,116]⟩,⟨#[102,51,50,46,99,111,110,115,116]⟩,⟨#[102,54,52,46,99,111,110,115,116]⟩]
theorem lNames_c (w:J):Ec Q 209 #[] w λe w'=>∃g,e=Z (S (some ⟨g,0,none⟩) 69 69)/\Below w.heap.size w w'/\∀i s,LNames[i]?=some s->w'.cell? ⟨g,i,none⟩=some (.string s):=by
 go_enter func209,ntmps209;go_wp2;go_ret;exact⟨_,rfl,strNew w LNames 9⟩
def X6:List ByteArray:=[⟨#[101,113]⟩,⟨#[110,101]⟩,⟨#[108,116,95,115]⟩,⟨#[108,116,95,117]⟩,⟨#[103,116,95,115]⟩,⟨#[103,116,95,117]⟩,⟨#[108,101,95,115]⟩,⟨#[108,101,95,117]⟩,⟨#[103,101,95,115]⟩,⟨#[103,101,95,117]⟩]
theorem lTests_c (w:J):Ec Q 210 #[] w λe w'=>∃g,e=Z (S (some ⟨g,0,none⟩) 10 10)/\Below w.heap.size w w'/\∀i s,X6[i]?=some s->w'.cell? ⟨g,i,none⟩=some (.string s):=by
 go_enter func210,ntmps210;go_wp2;go_ret;exact⟨_,rfl,strNew w X6 9⟩
def LInts:List ByteArray:=[⟨#[99,108,122]⟩,⟨#[99,116,122]⟩,⟨#[112,111,112,99,110,116]⟩,⟨#[97,100,100]⟩,⟨#[115,117,98]⟩,⟨#[109,117,108]⟩,⟨#[100,105,118,95,115]⟩,⟨#[100,105,118,95,117]⟩,⟨#[114,101,109,95,115]⟩,⟨#[114,101,109,95,117]⟩,⟨#[97,110,100]⟩,⟨#[111,114]⟩,⟨#[120,111,114]⟩,⟨#[115,104,108]⟩,⟨#[115,104,114,95,115]⟩,⟨#[115,104,114,95,117]⟩,⟨#[114,111,116,108]⟩,⟨#[114,111,116,114]⟩]
theorem lInts_c (w:J):Ec Q 211 #[] w λe w'=>∃g,e=Z (S (some ⟨g,0,none⟩) 18 18)/\Below w.heap.size w w'/\∀i s,LInts[i]?=some s->w'.cell? ⟨g,i,none⟩=some (.string s):=by
 go_enter func211,ntmps211;go_wp2;go_ret;exact⟨_,rfl,strNew w LInts 9⟩
def Xy:List ByteArray:=[⟨#[97,98,115]⟩,⟨#[110,101,103]⟩,⟨#[99,101,105,108]⟩,⟨#[102,108,111,111,114]⟩,⟨#[116,114,117,110,99]⟩,⟨#[110,101,97,114,101,115,116]⟩,⟨#[115,113,114,116]⟩,⟨#[97,100,100]⟩,⟨#[115,117,98]⟩,⟨#[109,117,108]⟩,⟨#[100,105,118]⟩,⟨#[109,105,110]⟩,⟨#[109,97,120]⟩,⟨#[99,111,112,121,115,105,103,110]⟩]
theorem lFloats_c (w:J):Ec Q 212 #[] w λe w'=>∃g,e=Z (S (some ⟨g,0,none⟩) 14 14)/\Below w.heap.size w w'/\∀i s,Xy[i]?=some s->w'.cell? ⟨g,i,none⟩=some (.string s):=by
 go_enter func212,ntmps212;go_wp2;go_ret;exact⟨_,rfl,strNew w Xy 9⟩
def LConv:List ByteArray:=[⟨#[105,51,50,46,119,114,97,112,95,105,54,52]⟩,⟨#[105,51,50,46,116,114,117,110,99,95,102,51,50,95,115]⟩,⟨#[105,51,50,46,116,114,117,110,99,95,102,51,50,95,117]⟩,⟨#[105,51,50,46,116,114,117,110,99,95,102,54,52,95,115]⟩,⟨#[105,51,50,46,116,114,117,110,99,95,102,54,52,95,117]⟩,⟨#[105,54,52,46,101,120,116,101,110,100,95,105,51,50,95,115]⟩,⟨#[105,54,52,46,101,120,116,101,110,100,95,105,51,50,95,117]⟩,⟨#[105,54,52,46,116,114,117,110,99,95,102,51,50,95,115]⟩,⟨#[105,54,52,46,116,114,117,110,99,95,102,51,50,95,117]⟩,⟨#[105,54,52,46,116,114,117,110,99,95,102,54,52,95,115]⟩,⟨#[105,54,52,46,116,114,117,110,99,95,102,54,52,95,117]⟩,⟨#[102,51,50,46,99,111,110,118,101,114,116,95,105,51,50,95,115]⟩,⟨#[102,51,50,46,99,111,110,118,101,114,116,95,105,51,50,95,117]⟩,⟨#[102,51,50,46,99,111,110,118,101,114,116,95,105,54,52,95,115]⟩,⟨#[102,51,50,46,99,111,110,118,101,114,116,95,105,54,52,95,117]⟩,⟨#[102,51,50,46,100,101,109,111,116,101,95,102,54,52]⟩,⟨#[102,54,52,46,99,111,110,118,101,114,116,95,105,51,50,95,115]⟩,⟨#[102,54,52,46,99,111,110,118,101,114,116,95,105,51,50,95,117]⟩,⟨#[102,54,52,46,99,111,110,118,101,114,116,95,105,54,52,95,115]⟩,⟨#[102,54,52,46,99,111,110,118,101,114,116,95,105,54,52,95,117]⟩,⟨#[102,54,52,46,112,114,111,109,111,116,101,95,102,51,50]⟩,⟨#[105,51,50,46,114,101,105,110,116,101,114,112,114,101,116,95,102,51,50]⟩,⟨#[105,54,52,46,114,101,105,110,116,101,114,112,114,101,116,95,102,54,52]⟩,⟨#[102,51,50,46,114,101,105,110,116,101,114,112,114,101,116,95,105,51,50]⟩,⟨#[102,54,52,46,114,101,105,110,116,101,114,112,114,101,116,95,105,54,52]⟩]
theorem lConv_c (w:J):Ec Q 213 #[] w λe w'=>∃g,e=Z (S (some ⟨g,0,none⟩) 25 25)/\Below w.heap.size w w'/\∀i s,LConv[i]?=some s->w'.cell? ⟨g,i,none⟩=some (.string s):=by
 go_enter func213,ntmps213;go_wp2;go_ret;exact⟨_,rfl,strNew w LConv 9⟩
def LT6:List ByteArray:=[⟨#[101,113]⟩,⟨#[110,101]⟩,⟨#[108,116]⟩,⟨#[103,116]⟩,⟨#[108,101]⟩,⟨#[103,101]⟩]
