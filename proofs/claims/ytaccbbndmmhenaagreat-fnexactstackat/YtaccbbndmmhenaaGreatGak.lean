import Derived.Test.YtaccbbndmmhenaaGreatGah
set_option linter.all false
set_option maxHeartbeats 400000000
set_option maxRecDepth 100000
namespace Go.Proofs
open Value renaming int->U,slice->S,bool->G,string->Xs,agg->Ag
open IntKind renaming i64->O
open Ending renaming returned->Z
open Obj renaming cells->Fc
open Go renaming World->J,Calls->Ec,Value->Vu,Addr->Ad
open Go.RowKit renaming Below->Bw
open Tryz renaming prog->Q
open Tryz
open Nat renaming le_succ->Hx,zero_le->Kw,add_assoc->Ey
open Bool renaming and_eq_true->Ky,true_and->Tk,not_eq_true->Mn,false_and->Ly
open List renaming getD->Kx,drop_length->Mm,length->N
open World renaming cell?_alloc_past->Lj,drewN->Az
namespace YtaccbbndmmhenaaGreat
open Go.RowKit Go.Sort
variable {x:Imp}
def limZ (l:Qd):Bool:=l.min==0&&(l.max==0&&l.has==false)
def gtZ (g:Qx):Bool:=g.ty==0&&g.mu==false
def XW (x:Imp):Bool:=if x.kind=0 then Qz x.ty&&limZ x.lim&&gtZ x.gl else if x.kind=1\/x.kind=2 then x.ty==0&&Jn x.lim&&gtZ x.gl else if x.kind=3 then x.ty==0&&limZ x.lim&&tyB x.gl.ty else false
def QP (x:Imp):Bool:=Q3 x.mod&&Q3 x.nm&&XW x
theorem impK0 (h:x.kind=0):XW x=(Qz x.ty&&limZ x.lim&&gtZ x.gl):=by simp[XW,h]
theorem impK1 (h:x.kind=1\/x.kind=2):XW x=(x.ty==0&&Jn x.lim&&gtZ x.gl):=by
 have:¬x.kind=0:=by omega
 simp[XW,h,this]
theorem impK3 (h:x.kind=3):XW x=(x.ty==0&&limZ x.lim&&tyB x.gl.ty):=by simp[XW,h]
theorem impK4 (d:¬x.kind=0)(c:¬x.kind=1)(b:¬x.kind=2)(a:¬x.kind=3):XW x=false:=by simp[XW,d,c,b,a]
theorem eqLimZ (l:Qd)(w:J):(binOp .eql 175 (Ag #[U O l.min,U O l.max,G l.has]) (Ag #[U O 0,U O 0,G false])).run Q w=.ok (G (limZ l)) w:=eqLim w _ _ _
theorem eqGtyZ (g:Qx)(w:J):(binOp .eql 176 (Ag #[U O g.ty,G g.mu]) (Ag #[U O 0,G false])).run Q w=.ok (G (gtZ g)) w:=eqGty w _ _
attribute [-go_sem] run_eql_struct
theorem simp_c (x:Imp)(w:J)(hI:Imp.Is 0 w x)(Y:Imp.LB 1048576 x):Ec Q 184 #[Ag #[Xs x.mod,Xs x.nm,U O x.kind,U O x.ty,U O x.lim.min,U O x.lim.max,G x.lim.has,U O x.gl.ty,G x.gl.mu]] w λe w'=>e=Z (G (QP x))/\Bw w.heap.size w w':=by
 obtain⟨V,R⟩:=Y;go_enter func184,ntmps184;go_upto_region 1 with fail
 refine Qj (λW=>Bk W w.heap.size [Xs x.mod,Xs x.nm,U O x.kind,U O x.ty,U O x.lim.min,U O x.lim.max,G x.lim.has,U O x.gl.ty,G x.gl.mu]/\Bw w.heap.size w W) ⟨Bk.new,bFz.alloc lRz _⟩ ?_;rintro W ⟨a,b⟩;have F:=a.2.1 0 _ rfl;have E:=a.2.1 1 _ rfl;have D:=a.2.1 2 _ rfl;have C:=a.2.1 3 _ rfl;have B:=a.2.1 4 _ rfl;have A:=a.2.1 5 _ rfl;have z:=a.2.1 6 _ rfl;have y:=a.2.1 7 _ rfl;have v:=a.2.1 8 _ rfl;have r:=Hm (sname_ok x.mod W V);generalize c:Q3 x.mod=t0 at r;cases t0
 . (go_wp2_with fail);refine r.o.mono ?_;rintro e L ⟨rfl,m⟩;have b:=b.trans (m.mono b.size);clear m a;go_wp2;go_ret;exact⟨by simp[QP,c],b⟩
 go_wp2_with fail
 refine r.o.mono ?_;rintro e L ⟨rfl,m⟩;have a:=a.keep m;have b:=b.trans (m.mono b.size);clear m r;have F:=a.2.1 0 _ rfl;have E:=a.2.1 1 _ rfl;have D:=a.2.1 2 _ rfl;have C:=a.2.1 3 _ rfl;have B:=a.2.1 4 _ rfl;have A:=a.2.1 5 _ rfl;have z:=a.2.1 6 _ rfl;have y:=a.2.1 7 _ rfl;have v:=a.2.1 8 _ rfl;have q:=Hm (sname_ok x.nm L R);generalize f:Q3 x.nm=t1 at q;cases t1
 . (go_wp2_with fail);refine q.o.mono ?_;rintro e u ⟨rfl,l⟩;have b:=b.trans (l.mono b.size);clear l a;go_wp2;go_ret;exact⟨by simp[QP,c,f],b⟩
 go_wp2_with fail
 refine q.o.mono ?_;rintro e u ⟨rfl,l⟩;have a:=a.keep l;have b:=b.trans (l.mono b.size);clear l q;have F:=a.2.1 0 _ rfl;have E:=a.2.1 1 _ rfl;have D:=a.2.1 2 _ rfl;have C:=a.2.1 3 _ rfl;have B:=a.2.1 4 _ rfl;have A:=a.2.1 5 _ rfl;have z:=a.2.1 6 _ rfl;have y:=a.2.1 7 _ rfl;have v:=a.2.1 8 _ rfl;have EL:=eqLimZ x.lim;have EG:=eqGtyZ x.gl;generalize k:limZ x.lim=z1 at EL;generalize j:gtZ x.gl=z2 at EG;by_cases I:x.kind=0
 . have p:=Hm (Ga x.ty u);generalize d:Qz x.ty=z3 at p;(have g:Hid (QP x=(z3&&z1&&z2)):=by simp[Hid,QP,c,f,impK0 I,k,j,d]);clear k j d c f a
   cases z1<;>cases z2<;>cases z3 <;>
   . go_wp2_with (refine p.o.mono ?_;rintro e M ⟨rfl,rfl⟩)
     go_ret
     exact⟨by rw[g.o];rfl,b⟩
 by_cases n:x.kind=1\/x.kind=2
 . have p:=Hm (slim_c x.lim u);generalize d:Jn x.lim=z3 at p;(have g:Hid (QP x=(x.ty==0&&z3&&z2)):=by simp[Hid,QP,c,f,impK1 n,j,d]);clear k j d c f;by_cases t:x.ty=0
   . have g:Hid (QP x=(z3&&z2)):=by rw[Hid,g.o];simp[t]
     rcases n with n|n<;>cases z2<;>cases z3 <;>
     . go_wp2_with fail
       refine p.o.mono ?_
       rintro e W3 ⟨rfl,s⟩;have b:=b.trans (s.mono b.size);clear s a
       go_wp2
       go_ret
       exact⟨by rw[g.o];rfl,b⟩
   (have g:Hid (QP x=false):=by rw[Hid,g.o];simp[t]);clear p a
   rcases n with n|n <;>
   . go_wp2
     go_ret
     exact⟨by rw[g.o];rfl,b⟩
 obtain⟨n,X⟩:¬x.kind=1/\¬x.kind=2:=⟨λh=>n (.inl h),λh=>n (.inr h)⟩;by_cases H:x.kind=3
 . have p:=Hm (ty_c x.gl.ty u);generalize d:tyB x.gl.ty=z3 at p;(have g:Hid (QP x=(x.ty==0&&z1&&z3)):=by simp[Hid,QP,c,f,impK3 H,k,d]);clear k j d c f a;by_cases t:x.ty=0
   . have g:Hid (QP x=(z1&&z3)):=by rw[Hid,g.o];simp[t]
     cases z1<;>cases z3 <;>
     . go_wp2_with (refine p.o.mono ?_;rintro e M ⟨rfl,rfl⟩)
       go_ret
       exact⟨by rw[g.o];rfl,b⟩
   (have g:Hid (QP x=false):=by rw[Hid,g.o];simp[t]);clear p;go_wp2;go_ret;exact⟨by rw[g.o];rfl,b⟩
 have g:Hid (QP x=false):=by simp[Hid,QP,impK4 I n X H]
 clear k j c f a;go_wp2;go_ret;exact⟨by rw[g.o];rfl,b⟩
end YtaccbbndmmhenaaGreat
namespace YtaccbbndmmhenaaGreat
open Go.RowKit Go.Sort
attribute [-go_sem] run_eql_struct
theorem Bk.drew {W g cs}(h:Bk W g cs):Bk W.drew g cs:=h
theorem XF {x:Imp}(h:¬XW x=true):QP x=false:=by simp[QP,h]
theorem iimp0 (x:Imp)(w:J)(hl:Imp.LB 1048576 x)(M:x.kind=0):Ec Q 154 #[Ag #[Xs x.mod,Xs x.nm,U O x.kind,U O x.ty,U O x.lim.min,U O x.lim.max,G x.lim.has,U O x.gl.ty,G x.gl.mu]] w λe w'=>e=Z (G (QP x))/\Bw w.heap.size w w':=by
 obtain⟨l0,l1⟩:=hl;have KK:=Hm M;clear M;go_enter func154,ntmps154;go_upto_region 1 with fail
 refine Qj (λW=>Bk W w.heap.size [Xs x.mod,Xs x.nm,U O x.kind,U O x.ty,U O x.lim.min,U O x.lim.max,G x.lim.has,U O x.gl.ty,G x.gl.mu]/\Bw w.heap.size w W/\W.heap.size=w.heap.size+1) ⟨Bk.new,bFz.alloc lRz _,by simp⟩ ?_;rintro W ⟨a,c,hs⟩;have t:=a.2.1 0 _ rfl;have s:=a.2.1 1 _ rfl;have r:=a.2.1 2 _ rfl;have q:=a.2.1 3 _ rfl;have p:=a.2.1 4 _ rfl;have n:=a.2.1 5 _ rfl;have m:=a.2.1 6 _ rfl;have l:=a.2.1 7 _ rfl;have k:=a.2.1 8 _ rfl;go_region
 go_upto_region 2 with fail
 refine Qj (λV=>Bk V w.heap.size [Xs x.mod,Xs x.nm,U O x.kind,U O x.ty,U O x.lim.min,U O x.lim.max,G x.lim.has,U O x.gl.ty,G x.gl.mu]/\Bk V (w.heap.size+1) [Xs x.mod,Xs x.nm,U O x.kind,U O x.ty,U O x.lim.min,U O x.lim.max,G x.lim.has,U O x.gl.ty,G x.gl.mu]/\Bw w.heap.size w V) ⟨Bk.drew a.past,by rw[<- hs];exact Bk.drew Bk.new,c.trans ((((Below.refl _ W).alloc lRz _).drew).mono c.size)⟩ ?_;clear a c hs t s r q p n m l k;rintro V ⟨a,b,c⟩;have t:=a.2.1 0 _ rfl;have s:=a.2.1 1 _ rfl;have r:=a.2.1 2 _ rfl;have q:=a.2.1 3 _ rfl;have p:=a.2.1 4 _ rfl;have n:=a.2.1 5 _ rfl;have m:=a.2.1 6 _ rfl;have l:=a.2.1 7 _ rfl;have k:=a.2.1 8 _ rfl;have L:=b.2.1 3 _ rfl;have I:=b.2.1 4 _ rfl;have H:=b.2.1 5 _ rfl;have F:=b.2.1 6 _ rfl;have E:=b.2.1 7 _ rfl;have D:=b.2.1 8 _ rfl;have EL:=eqLimZ x.lim;have EG:=eqGtyZ x.gl;generalize y:limZ x.lim=z1 at EL;generalize v:gtZ x.gl=z2 at EG;have M:=KK.o;have Y:=Hm (Jw (XV x.ty V));generalize u:Qz x.ty=z3 at Y;have B:Hid (XW x=(z3&&z1&&z2)):=by simp[Hid,impK0 M,y,v,u]
 clear y v u;go_wp2_with fail
 refine Y.o.mono ?_;rintro e V1 ⟨rfl,R⟩;have a:=a.keep R;have b:=b.keep R;have c:=c.trans (R.mono c.size);clear R Y t s r q p n m l k L I H F E D;have ne:w.heap.size+1≠w.heap.size:=by omega
 have t:=a.2.1 0 _ rfl;have s:=a.2.1 1 _ rfl;have r:=a.2.1 2 _ rfl;have q:=a.2.1 3 _ rfl;have p:=a.2.1 4 _ rfl;have n:=a.2.1 5 _ rfl;have m:=a.2.1 6 _ rfl;have l:=a.2.1 7 _ rfl;have k:=a.2.1 8 _ rfl;have L:=b.2.1 3 _ rfl;have I:=b.2.1 4 _ rfl;have H:=b.2.1 5 _ rfl;have F:=b.2.1 6 _ rfl;have E:=b.2.1 7 _ rfl;have D:=b.2.1 8 _ rfl;have fz:∀j,V1.frozen? ⟨w.heap.size+1,j,none⟩=false:=b.2.2;go_upto_region 10 with fail
 refine Qj (λV'=>Bk V' w.heap.size [Xs x.mod,Xs x.nm,U O x.kind,U O x.ty,U O x.lim.min,U O x.lim.max,G x.lim.has,U O x.gl.ty,G x.gl.mu]/\Bk V' (w.heap.size+1) [Xs x.mod,Xs x.nm,U O x.kind,U O 0,U O x.lim.min,U O x.lim.max,G x.lim.has,U O x.gl.ty,G x.gl.mu]/\Bw w.heap.size w V') ⟨(a.other ne),b.set,(c.setCell (Hx _) _)⟩ ?_;clear a b c fz t s r q p n m l k L I H F E D;rintro V ⟨a,b,c⟩;have t:=a.2.1 0 _ rfl;have s:=a.2.1 1 _ rfl;have r:=a.2.1 2 _ rfl;have q:=a.2.1 3 _ rfl;have p:=a.2.1 4 _ rfl;have n:=a.2.1 5 _ rfl;have m:=a.2.1 6 _ rfl;have l:=a.2.1 7 _ rfl;have k:=a.2.1 8 _ rfl;have L:=b.2.1 3 _ rfl;have I:=b.2.1 4 _ rfl;have H:=b.2.1 5 _ rfl;have F:=b.2.1 6 _ rfl;have E:=b.2.1 7 _ rfl;have D:=b.2.1 8 _ rfl;by_cases d:(z1&&z2&&z3)=true
 . (have B:Hid (XW x=true):=by rw[Hid,B.o];revert d;cases z1<;>cases z2<;>cases z3<;>simp);simp only[Ky]at d;obtain⟨⟨rfl,rfl⟩,rfl⟩:=d;clear b;have g:=Hm (JJ x.mod V l0);generalize z:Q3 x.mod=t0 at g;cases t0
   . (go_wp2_with fail);refine g.o.mono ?_;rintro e W1 ⟨rfl,f⟩;have c:=c.trans (f.mono c.size);clear f a;go_wp2;go_ret;exact⟨by simp[QP,z],c⟩
   (go_wp2_with fail);refine g.o.mono ?_;rintro e W1 ⟨rfl,f⟩;have a:=a.keep f;have c:=c.trans (f.mono c.size);clear f g;have t:=a.2.1 0 _ rfl;have s:=a.2.1 1 _ rfl;have r:=a.2.1 2 _ rfl;have q:=a.2.1 3 _ rfl;have p:=a.2.1 4 _ rfl;have n:=a.2.1 5 _ rfl;have m:=a.2.1 6 _ rfl;have l:=a.2.1 7 _ rfl;have k:=a.2.1 8 _ rfl;have C:=Hm (JJ x.nm W1 l1);generalize X:Q3 x.nm=t1 at C
   cases t1 <;>
   . go_wp2_with fail
     refine C.o.mono ?_
     rintro e W2 ⟨rfl,A⟩;have c:=c.trans (A.mono c.size);clear A a
     go_wp2
     go_ret
     exact⟨by simp[QP,z,X,B.o],c⟩
 have aa:Hid (QP x=false):=XF (by rw[B.o];revert d;cases z1<;>cases z2<;>cases z3<;>simp);clear B a b;cases z1<;>cases z2<;>cases z3<;>first
 |(exact absurd rfl d)
 | (
  clear d
  go_wp2
  go_ret
  exact⟨by rw[aa.o];rfl,c⟩)
theorem iimp1 (x:Imp)(w:J)(hl:Imp.LB 1048576 x)(R:x.kind=1):Ec Q 154 #[Ag #[Xs x.mod,Xs x.nm,U O x.kind,U O x.ty,U O x.lim.min,U O x.lim.max,G x.lim.has,U O x.gl.ty,G x.gl.mu]] w λe w'=>e=Z (G (QP x))/\Bw w.heap.size w w':=by
 obtain⟨l0,l1⟩:=hl;have KK:=Hm R;clear R;go_enter func154,ntmps154;go_upto_region 1 with fail
 refine Qj (λW=>Bk W w.heap.size [Xs x.mod,Xs x.nm,U O x.kind,U O x.ty,U O x.lim.min,U O x.lim.max,G x.lim.has,U O x.gl.ty,G x.gl.mu]/\Bw w.heap.size w W/\W.heap.size=w.heap.size+1) ⟨Bk.new,bFz.alloc lRz _,by simp⟩ ?_;rintro W ⟨a,c,hs⟩;have u:=a.2.1 0 _ rfl;have t:=a.2.1 1 _ rfl;have s:=a.2.1 2 _ rfl;have r:=a.2.1 3 _ rfl;have q:=a.2.1 4 _ rfl;have p:=a.2.1 5 _ rfl;have n:=a.2.1 6 _ rfl;have m:=a.2.1 7 _ rfl;have l:=a.2.1 8 _ rfl;go_region
 go_upto_region 2 with fail
 refine Qj (λV=>Bk V w.heap.size [Xs x.mod,Xs x.nm,U O x.kind,U O x.ty,U O x.lim.min,U O x.lim.max,G x.lim.has,U O x.gl.ty,G x.gl.mu]/\Bk V (w.heap.size+1) [Xs x.mod,Xs x.nm,U O x.kind,U O x.ty,U O x.lim.min,U O x.lim.max,G x.lim.has,U O x.gl.ty,G x.gl.mu]/\Bw w.heap.size w V) ⟨Bk.drew a.past,by rw[<- hs];exact Bk.drew Bk.new,c.trans ((((Below.refl _ W).alloc lRz _).drew).mono c.size)⟩ ?_;clear a c hs u t s r q p n m l;rintro V ⟨a,b,c⟩;have u:=a.2.1 0 _ rfl;have t:=a.2.1 1 _ rfl;have s:=a.2.1 2 _ rfl;have r:=a.2.1 3 _ rfl;have q:=a.2.1 4 _ rfl;have p:=a.2.1 5 _ rfl;have n:=a.2.1 6 _ rfl;have m:=a.2.1 7 _ rfl;have l:=a.2.1 8 _ rfl;have M:=b.2.1 3 _ rfl;have L:=b.2.1 4 _ rfl;have I:=b.2.1 5 _ rfl;have H:=b.2.1 6 _ rfl;have F:=b.2.1 7 _ rfl;have E:=b.2.1 8 _ rfl;have EL:=eqLimZ x.lim;have EG:=eqGtyZ x.gl;have ao:∀w,(binOp .eql 175 (Ag #[U O 0,U O 0,G false]) (Ag #[U O 0,U O 0,G false])).run Q w=.ok (G true) w:=λw=>eqLim w 0 0 false;generalize A:limZ x.lim=z1 at EL;generalize z:gtZ x.gl=z2 at EG;have R:=KK.o;have HK:=Hm (ilim_c x.lim V);generalize y:Jn x.lim=z3 at HK;have g:Hid (XW x=(x.ty==0&&z3&&z2)):=by simp[Hid,impK1 (.inl R),A,z,y]
 clear A z y;go_wp2_with fail
 refine HK.o.mono ?_;rintro e V1 ⟨rfl,X⟩;have a:=a.keep X;have b:=b.keep X;have c:=c.trans (X.mono c.size);clear X HK u t s r q p n m l M L I H F E;have Y:w.heap.size+1≠w.heap.size:=by omega
 have u:=a.2.1 0 _ rfl;have t:=a.2.1 1 _ rfl;have s:=a.2.1 2 _ rfl;have r:=a.2.1 3 _ rfl;have q:=a.2.1 4 _ rfl;have p:=a.2.1 5 _ rfl;have n:=a.2.1 6 _ rfl;have m:=a.2.1 7 _ rfl;have l:=a.2.1 8 _ rfl;have M:=b.2.1 3 _ rfl;have L:=b.2.1 4 _ rfl;have I:=b.2.1 5 _ rfl;have H:=b.2.1 6 _ rfl;have F:=b.2.1 7 _ rfl;have E:=b.2.1 8 _ rfl;have fz:∀j,V1.frozen? ⟨w.heap.size+1,j,none⟩=false:=b.2.2;go_upto_region 10 with fail
 refine Qj (λV'=>Bk V' w.heap.size [Xs x.mod,Xs x.nm,U O x.kind,U O x.ty,U O x.lim.min,U O x.lim.max,G x.lim.has,U O x.gl.ty,G x.gl.mu]/\Bk V' (w.heap.size+1) [Xs x.mod,Xs x.nm,U O x.kind,U O x.ty,U O 0,U O 0,G false,U O x.gl.ty,G x.gl.mu]/\Bw w.heap.size w V') ⟨(((a.other Y).other Y).other Y),b.set.set.set,(((c.setCell (Hx _) _).setCell (Hx _) _).setCell (Hx _) _)⟩ ?_;clear a b c fz u t s r q p n m l M L I H F E;rintro V ⟨a,b,c⟩;have u:=a.2.1 0 _ rfl;have t:=a.2.1 1 _ rfl;have s:=a.2.1 2 _ rfl;have r:=a.2.1 3 _ rfl;have q:=a.2.1 4 _ rfl;have p:=a.2.1 5 _ rfl;have n:=a.2.1 6 _ rfl;have m:=a.2.1 7 _ rfl;have l:=a.2.1 8 _ rfl;have M:=b.2.1 3 _ rfl;have L:=b.2.1 4 _ rfl;have I:=b.2.1 5 _ rfl;have H:=b.2.1 6 _ rfl;have F:=b.2.1 7 _ rfl;have E:=b.2.1 8 _ rfl;by_cases ht:x.ty=0
 case neg=>
  have v:Hid (QP x=false):=XF (by rw[g.o];simp[ht]);clear g a b
  cases z3 <;>
  . go_wp2
    go_ret
    exact⟨by rw[v.o];rfl,c⟩
 have g:Hid (XW x=(z3&&z2)):=by rw[Hid,g.o];simp[ht]
 by_cases d:(z2&&z3)=true
 . (have g:Hid (XW x=true):=by rw[Hid,g.o];revert d;cases z2<;>cases z3<;>simp);simp only[Ky]at d;obtain⟨rfl,rfl⟩:=d;clear b;have k:=Hm (JJ x.mod V l0);generalize B:Q3 x.mod=t0 at k;cases t0
   . (go_wp2_with fail);refine k.o.mono ?_;rintro e W1 ⟨rfl,f⟩;have c:=c.trans (f.mono c.size);clear f a;go_wp2;go_ret;exact⟨by simp[QP,B],c⟩
   (go_wp2_with fail);refine k.o.mono ?_;rintro e W1 ⟨rfl,f⟩;have a:=a.keep f;have c:=c.trans (f.mono c.size);clear f k;have u:=a.2.1 0 _ rfl;have t:=a.2.1 1 _ rfl;have s:=a.2.1 2 _ rfl;have r:=a.2.1 3 _ rfl;have q:=a.2.1 4 _ rfl;have p:=a.2.1 5 _ rfl;have n:=a.2.1 6 _ rfl;have m:=a.2.1 7 _ rfl;have l:=a.2.1 8 _ rfl;have D:=Hm (JJ x.nm W1 l1);generalize aa:Q3 x.nm=t1 at D
   cases t1 <;>
   . go_wp2_with fail
     refine D.o.mono ?_
     rintro e W2 ⟨rfl,C⟩;have c:=c.trans (C.mono c.size);clear C a
     go_wp2
     go_ret
     exact⟨by simp[QP,B,aa,g.o],c⟩
 have v:Hid (QP x=false):=XF (by rw[g.o];revert d;cases z2<;>cases z3<;>simp);clear g a b;cases z2<;>cases z3<;>first
 |(exact absurd rfl d)
 | (
  clear d
  go_wp2
  go_ret
  exact⟨by rw[v.o];rfl,c⟩)
theorem iimp2 (x:Imp)(w:J)(hl:Imp.LB 1048576 x)(R:x.kind=2):Ec Q 154 #[Ag #[Xs x.mod,Xs x.nm,U O x.kind,U O x.ty,U O x.lim.min,U O x.lim.max,G x.lim.has,U O x.gl.ty,G x.gl.mu]] w λe w'=>e=Z (G (QP x))/\Bw w.heap.size w w':=by
 obtain⟨l0,l1⟩:=hl;have KK:=Hm R;clear R;go_enter func154,ntmps154;go_upto_region 1 with fail
 refine Qj (λW=>Bk W w.heap.size [Xs x.mod,Xs x.nm,U O x.kind,U O x.ty,U O x.lim.min,U O x.lim.max,G x.lim.has,U O x.gl.ty,G x.gl.mu]/\Bw w.heap.size w W/\W.heap.size=w.heap.size+1) ⟨Bk.new,bFz.alloc lRz _,by simp⟩ ?_;rintro W ⟨a,c,hs⟩;have u:=a.2.1 0 _ rfl;have t:=a.2.1 1 _ rfl;have s:=a.2.1 2 _ rfl;have r:=a.2.1 3 _ rfl;have q:=a.2.1 4 _ rfl;have p:=a.2.1 5 _ rfl;have n:=a.2.1 6 _ rfl;have m:=a.2.1 7 _ rfl;have l:=a.2.1 8 _ rfl;go_region
 go_upto_region 2 with fail
 refine Qj (λV=>Bk V w.heap.size [Xs x.mod,Xs x.nm,U O x.kind,U O x.ty,U O x.lim.min,U O x.lim.max,G x.lim.has,U O x.gl.ty,G x.gl.mu]/\Bk V (w.heap.size+1) [Xs x.mod,Xs x.nm,U O x.kind,U O x.ty,U O x.lim.min,U O x.lim.max,G x.lim.has,U O x.gl.ty,G x.gl.mu]/\Bw w.heap.size w V) ⟨Bk.drew a.past,by rw[<- hs];exact Bk.drew Bk.new,c.trans ((((Below.refl _ W).alloc lRz _).drew).mono c.size)⟩ ?_;clear a c hs u t s r q p n m l;rintro V ⟨a,b,c⟩;have u:=a.2.1 0 _ rfl;have t:=a.2.1 1 _ rfl;have s:=a.2.1 2 _ rfl;have r:=a.2.1 3 _ rfl;have q:=a.2.1 4 _ rfl;have p:=a.2.1 5 _ rfl;have n:=a.2.1 6 _ rfl;have m:=a.2.1 7 _ rfl;have l:=a.2.1 8 _ rfl;have M:=b.2.1 3 _ rfl;have L:=b.2.1 4 _ rfl;have I:=b.2.1 5 _ rfl;have H:=b.2.1 6 _ rfl;have F:=b.2.1 7 _ rfl;have E:=b.2.1 8 _ rfl;have EL:=eqLimZ x.lim;have EG:=eqGtyZ x.gl;have ao:∀w,(binOp .eql 175 (Ag #[U O 0,U O 0,G false]) (Ag #[U O 0,U O 0,G false])).run Q w=.ok (G true) w:=λw=>eqLim w 0 0 false;generalize A:limZ x.lim=z1 at EL;generalize z:gtZ x.gl=z2 at EG;have R:=KK.o;have HK:=Hm (ilim_c x.lim V);generalize y:Jn x.lim=z3 at HK;have g:Hid (XW x=(x.ty==0&&z3&&z2)):=by simp[Hid,impK1 (.inr R),A,z,y]
 clear A z y;go_wp2_with fail
 refine HK.o.mono ?_;rintro e V1 ⟨rfl,X⟩;have a:=a.keep X;have b:=b.keep X;have c:=c.trans (X.mono c.size);clear X HK u t s r q p n m l M L I H F E;have Y:w.heap.size+1≠w.heap.size:=by omega
 have u:=a.2.1 0 _ rfl;have t:=a.2.1 1 _ rfl;have s:=a.2.1 2 _ rfl;have r:=a.2.1 3 _ rfl;have q:=a.2.1 4 _ rfl;have p:=a.2.1 5 _ rfl;have n:=a.2.1 6 _ rfl;have m:=a.2.1 7 _ rfl;have l:=a.2.1 8 _ rfl;have M:=b.2.1 3 _ rfl;have L:=b.2.1 4 _ rfl;have I:=b.2.1 5 _ rfl;have H:=b.2.1 6 _ rfl;have F:=b.2.1 7 _ rfl;have E:=b.2.1 8 _ rfl;have fz:∀j,V1.frozen? ⟨w.heap.size+1,j,none⟩=false:=b.2.2;go_upto_region 10 with fail
 refine Qj (λV'=>Bk V' w.heap.size [Xs x.mod,Xs x.nm,U O x.kind,U O x.ty,U O x.lim.min,U O x.lim.max,G x.lim.has,U O x.gl.ty,G x.gl.mu]/\Bk V' (w.heap.size+1) [Xs x.mod,Xs x.nm,U O x.kind,U O x.ty,U O 0,U O 0,G false,U O x.gl.ty,G x.gl.mu]/\Bw w.heap.size w V') ⟨(((a.other Y).other Y).other Y),b.set.set.set,(((c.setCell (Hx _) _).setCell (Hx _) _).setCell (Hx _) _)⟩ ?_;clear a b c fz u t s r q p n m l M L I H F E;rintro V ⟨a,b,c⟩;have u:=a.2.1 0 _ rfl;have t:=a.2.1 1 _ rfl;have s:=a.2.1 2 _ rfl;have r:=a.2.1 3 _ rfl;have q:=a.2.1 4 _ rfl;have p:=a.2.1 5 _ rfl;have n:=a.2.1 6 _ rfl;have m:=a.2.1 7 _ rfl;have l:=a.2.1 8 _ rfl;have M:=b.2.1 3 _ rfl;have L:=b.2.1 4 _ rfl;have I:=b.2.1 5 _ rfl;have H:=b.2.1 6 _ rfl;have F:=b.2.1 7 _ rfl;have E:=b.2.1 8 _ rfl;by_cases ht:x.ty=0
 case neg=>
  have v:Hid (QP x=false):=XF (by rw[g.o];simp[ht]);clear g a b
  cases z3 <;>
  . go_wp2
    go_ret
    exact⟨by rw[v.o];rfl,c⟩
 have g:Hid (XW x=(z3&&z2)):=by rw[Hid,g.o];simp[ht]
 by_cases d:(z2&&z3)=true
 . (have g:Hid (XW x=true):=by rw[Hid,g.o];revert d;cases z2<;>cases z3<;>simp);simp only[Ky]at d;obtain⟨rfl,rfl⟩:=d;clear b;have k:=Hm (JJ x.mod V l0);generalize B:Q3 x.mod=t0 at k;cases t0
   . (go_wp2_with fail);refine k.o.mono ?_;rintro e W1 ⟨rfl,f⟩;have c:=c.trans (f.mono c.size);clear f a;go_wp2;go_ret;exact⟨by simp[QP,B],c⟩
   (go_wp2_with fail);refine k.o.mono ?_;rintro e W1 ⟨rfl,f⟩;have a:=a.keep f;have c:=c.trans (f.mono c.size);clear f k;have u:=a.2.1 0 _ rfl;have t:=a.2.1 1 _ rfl;have s:=a.2.1 2 _ rfl;have r:=a.2.1 3 _ rfl;have q:=a.2.1 4 _ rfl;have p:=a.2.1 5 _ rfl;have n:=a.2.1 6 _ rfl;have m:=a.2.1 7 _ rfl;have l:=a.2.1 8 _ rfl;have D:=Hm (JJ x.nm W1 l1);generalize aa:Q3 x.nm=t1 at D
   cases t1 <;>
   . go_wp2_with fail
     refine D.o.mono ?_
     rintro e W2 ⟨rfl,C⟩;have c:=c.trans (C.mono c.size);clear C a
     go_wp2
     go_ret
     exact⟨by simp[QP,B,aa,g.o],c⟩
 have v:Hid (QP x=false):=XF (by rw[g.o];revert d;cases z2<;>cases z3<;>simp);clear g a b;cases z2<;>cases z3<;>first
 |(exact absurd rfl d)
 | (
  clear d
  go_wp2
  go_ret
  exact⟨by rw[v.o];rfl,c⟩)
theorem iimp3 (x:Imp)(w:J)(hl:Imp.LB 1048576 x)(R:x.kind=3):Ec Q 154 #[Ag #[Xs x.mod,Xs x.nm,U O x.kind,U O x.ty,U O x.lim.min,U O x.lim.max,G x.lim.has,U O x.gl.ty,G x.gl.mu]] w λe w'=>e=Z (G (QP x))/\Bw w.heap.size w w':=by
 obtain⟨l0,l1⟩:=hl;have KK:=Hm R;clear R;go_enter func154,ntmps154;go_upto_region 1 with fail
 refine Qj (λW=>Bk W w.heap.size [Xs x.mod,Xs x.nm,U O x.kind,U O x.ty,U O x.lim.min,U O x.lim.max,G x.lim.has,U O x.gl.ty,G x.gl.mu]/\Bw w.heap.size w W/\W.heap.size=w.heap.size+1) ⟨Bk.new,bFz.alloc lRz _,by simp⟩ ?_;rintro W ⟨a,c,hs⟩;have u:=a.2.1 0 _ rfl;have t:=a.2.1 1 _ rfl;have s:=a.2.1 2 _ rfl;have r:=a.2.1 3 _ rfl;have q:=a.2.1 4 _ rfl;have p:=a.2.1 5 _ rfl;have n:=a.2.1 6 _ rfl;have m:=a.2.1 7 _ rfl;have l:=a.2.1 8 _ rfl;go_region
 go_upto_region 2 with fail
 refine Qj (λV=>Bk V w.heap.size [Xs x.mod,Xs x.nm,U O x.kind,U O x.ty,U O x.lim.min,U O x.lim.max,G x.lim.has,U O x.gl.ty,G x.gl.mu]/\Bk V (w.heap.size+1) [Xs x.mod,Xs x.nm,U O x.kind,U O x.ty,U O x.lim.min,U O x.lim.max,G x.lim.has,U O x.gl.ty,G x.gl.mu]/\Bw w.heap.size w V) ⟨Bk.drew a.past,by rw[<- hs];exact Bk.drew Bk.new,c.trans ((((Below.refl _ W).alloc lRz _).drew).mono c.size)⟩ ?_;clear a c hs u t s r q p n m l;rintro V ⟨a,b,c⟩;have u:=a.2.1 0 _ rfl;have t:=a.2.1 1 _ rfl;have s:=a.2.1 2 _ rfl;have r:=a.2.1 3 _ rfl;have q:=a.2.1 4 _ rfl;have p:=a.2.1 5 _ rfl;have n:=a.2.1 6 _ rfl;have m:=a.2.1 7 _ rfl;have l:=a.2.1 8 _ rfl;have M:=b.2.1 3 _ rfl;have L:=b.2.1 4 _ rfl;have I:=b.2.1 5 _ rfl;have H:=b.2.1 6 _ rfl;have F:=b.2.1 7 _ rfl;have E:=b.2.1 8 _ rfl;have EL:=eqLimZ x.lim;have EG:=eqGtyZ x.gl;have ap:∀w,(binOp .eql 176 (Ag #[U O 0,G false]) (Ag #[U O 0,G false])).run Q w=.ok (G true) w:=λw=>eqGty w 0 false;generalize A:limZ x.lim=z1 at EL;generalize z:gtZ x.gl=z2 at EG;have R:=KK.o;have HK:=Hm (igt_c x.gl V);generalize y:tyB x.gl.ty=z3 at HK;have g:Hid (XW x=(x.ty==0&&z1&&z3)):=by simp[Hid,impK3 R,A,z,y]
 clear A z y;go_wp2_with fail
 refine HK.o.mono ?_;rintro e V1 ⟨rfl,X⟩;have a:=a.keep X;have b:=b.keep X;have c:=c.trans (X.mono c.size);clear X HK u t s r q p n m l M L I H F E;have ne:w.heap.size+1≠w.heap.size:=by omega
 have u:=a.2.1 0 _ rfl;have t:=a.2.1 1 _ rfl;have s:=a.2.1 2 _ rfl;have r:=a.2.1 3 _ rfl;have q:=a.2.1 4 _ rfl;have p:=a.2.1 5 _ rfl;have n:=a.2.1 6 _ rfl;have m:=a.2.1 7 _ rfl;have l:=a.2.1 8 _ rfl;have M:=b.2.1 3 _ rfl;have L:=b.2.1 4 _ rfl;have I:=b.2.1 5 _ rfl;have H:=b.2.1 6 _ rfl;have F:=b.2.1 7 _ rfl;have E:=b.2.1 8 _ rfl;have fz:∀j,V1.frozen? ⟨w.heap.size+1,j,none⟩=false:=b.2.2;go_upto_region 10 with fail
 refine Qj (λV'=>Bk V' w.heap.size [Xs x.mod,Xs x.nm,U O x.kind,U O x.ty,U O x.lim.min,U O x.lim.max,G x.lim.has,U O x.gl.ty,G x.gl.mu]/\Bk V' (w.heap.size+1) [Xs x.mod,Xs x.nm,U O x.kind,U O x.ty,U O x.lim.min,U O x.lim.max,G x.lim.has,U O 0,G false]/\Bw w.heap.size w V') ⟨((a.other ne).other ne),b.set.set,((c.setCell (Hx _) _).setCell (Hx _) _)⟩ ?_;clear a b c fz u t s r q p n m l M L I H F E;rintro V ⟨a,b,c⟩;have u:=a.2.1 0 _ rfl;have t:=a.2.1 1 _ rfl;have s:=a.2.1 2 _ rfl;have r:=a.2.1 3 _ rfl;have q:=a.2.1 4 _ rfl;have p:=a.2.1 5 _ rfl;have n:=a.2.1 6 _ rfl;have m:=a.2.1 7 _ rfl;have l:=a.2.1 8 _ rfl;have M:=b.2.1 3 _ rfl;have L:=b.2.1 4 _ rfl;have I:=b.2.1 5 _ rfl;have H:=b.2.1 6 _ rfl;have F:=b.2.1 7 _ rfl;have E:=b.2.1 8 _ rfl;by_cases ht:x.ty=0
 case neg=>
  have v:Hid (QP x=false):=XF (by rw[g.o];simp[ht]);clear g a b
  cases z3 <;>
  . go_wp2
    go_ret
    exact⟨by rw[v.o];rfl,c⟩
 have g:Hid (XW x=(z1&&z3)):=by rw[Hid,g.o];simp[ht]
 by_cases d:(z1&&z3)=true
 . (have g:Hid (XW x=true):=by rw[Hid,g.o];revert d;cases z1<;>cases z3<;>simp);simp only[Ky]at d;obtain⟨rfl,rfl⟩:=d;clear b;have k:=Hm (JJ x.mod V l0);generalize B:Q3 x.mod=t0 at k;cases t0
   . (go_wp2_with fail);refine k.o.mono ?_;rintro e W1 ⟨rfl,f⟩;have c:=c.trans (f.mono c.size);clear f a;go_wp2;go_ret;exact⟨by simp[QP,B],c⟩
   (go_wp2_with fail);refine k.o.mono ?_;rintro e W1 ⟨rfl,f⟩;have a:=a.keep f;have c:=c.trans (f.mono c.size);clear f k;have u:=a.2.1 0 _ rfl;have t:=a.2.1 1 _ rfl;have s:=a.2.1 2 _ rfl;have r:=a.2.1 3 _ rfl;have q:=a.2.1 4 _ rfl;have p:=a.2.1 5 _ rfl;have n:=a.2.1 6 _ rfl;have m:=a.2.1 7 _ rfl;have l:=a.2.1 8 _ rfl;have D:=Hm (JJ x.nm W1 l1);generalize Y:Q3 x.nm=t1 at D
   cases t1 <;>
   . go_wp2_with fail
     refine D.o.mono ?_
     rintro e W2 ⟨rfl,C⟩;have c:=c.trans (C.mono c.size);clear C a
     go_wp2
     go_ret
     exact⟨by simp[QP,B,Y,g.o],c⟩
 have v:Hid (QP x=false):=XF (by rw[g.o];revert d;cases z1<;>cases z3<;>simp);clear g a b;cases z1<;>cases z3<;>first
 |(exact absurd rfl d)
 | (
  clear d
  go_wp2
  go_ret
  exact⟨by rw[v.o];rfl,c⟩)
theorem iimp4 (x:Imp)(w:J)(A:Imp.LB 1048576 x)(d:¬x.kind=0/\¬x.kind=1/\¬x.kind=2/\¬x.kind=3):Ec Q 154 #[Ag #[Xs x.mod,Xs x.nm,U O x.kind,U O x.ty,U O x.lim.min,U O x.lim.max,G x.lim.has,U O x.gl.ty,G x.gl.mu]] w λe w'=>e=Z (G (QP x))/\Bw w.heap.size w w':=by
 obtain⟨X,R⟩:=A;have B:=Hm d;clear d;go_enter func154,ntmps154;go_upto_region 1 with fail
 refine Qj (λW=>Bk W w.heap.size [Xs x.mod,Xs x.nm,U O x.kind,U O x.ty,U O x.lim.min,U O x.lim.max,G x.lim.has,U O x.gl.ty,G x.gl.mu]/\Bw w.heap.size w W/\W.heap.size=w.heap.size+1) ⟨Bk.new,bFz.alloc lRz _,by simp⟩ ?_;rintro W ⟨a,c,u⟩;have t:=a.2.1 0 _ rfl;have s:=a.2.1 1 _ rfl;have r:=a.2.1 2 _ rfl;have q:=a.2.1 3 _ rfl;have p:=a.2.1 4 _ rfl;have n:=a.2.1 5 _ rfl;have m:=a.2.1 6 _ rfl;have l:=a.2.1 7 _ rfl;have k:=a.2.1 8 _ rfl;go_region
 go_upto_region 2 with fail
 refine Qj (λV=>Bk V w.heap.size [Xs x.mod,Xs x.nm,U O x.kind,U O x.ty,U O x.lim.min,U O x.lim.max,G x.lim.has,U O x.gl.ty,G x.gl.mu]/\Bk V (w.heap.size+1) [Xs x.mod,Xs x.nm,U O x.kind,U O x.ty,U O x.lim.min,U O x.lim.max,G x.lim.has,U O x.gl.ty,G x.gl.mu]/\Bw w.heap.size w V) ⟨Bk.drew a.past,by rw[<- u];exact Bk.drew Bk.new,c.trans ((((Below.refl _ W).alloc lRz _).drew).mono c.size)⟩ ?_;clear a c u t s r q p n m l k;rintro V ⟨a,b,c⟩;have t:=a.2.1 0 _ rfl;have s:=a.2.1 1 _ rfl;have r:=a.2.1 2 _ rfl;have q:=a.2.1 3 _ rfl;have p:=a.2.1 4 _ rfl;have n:=a.2.1 5 _ rfl;have m:=a.2.1 6 _ rfl;have l:=a.2.1 7 _ rfl;have k:=a.2.1 8 _ rfl;have M:=b.2.1 3 _ rfl;have L:=b.2.1 4 _ rfl;have I:=b.2.1 5 _ rfl;have H:=b.2.1 6 _ rfl;have F:=b.2.1 7 _ rfl;have E:=b.2.1 8 _ rfl;have C:=eqLimZ x.lim;have D:=eqGtyZ x.gl;generalize g:limZ x.lim=z1 at C;generalize f:gtZ x.gl=z2 at D;obtain⟨d,z,y,v⟩:=B.o;have j:Hid (QP x=false):=XF (by rw[impK4 d z y v];simp);clear g f a b
 by_cases Y:x.ty=0<;>cases z1<;>cases z2 <;>
 . go_wp2
   go_ret
   exact⟨by rw[j.o];rfl,c⟩
theorem iimp_c (x:Imp)(w:J)(g:Imp.Is 0 w x)(a:Imp.LB 1048576 x):Ec Q 154 #[Ag #[Xs x.mod,Xs x.nm,U O x.kind,U O x.ty,U O x.lim.min,U O x.lim.max,G x.lim.has,U O x.gl.ty,G x.gl.mu]] w λe w'=>e=Z (G (QP x))/\Bw w.heap.size w w':=by
 by_cases f:x.kind=0
 . exact iimp0 x w a f
 by_cases d:x.kind=1
 . exact iimp1 x w a d
 by_cases c:x.kind=2
 . exact iimp2 x w a c
 by_cases b:x.kind=3
 . exact iimp3 x w a b
 exact iimp4 x w a ⟨f,d,c,b⟩
end YtaccbbndmmhenaaGreat
namespace YtaccbbndmmhenaaGreat
open Go.RowKit Go.Sort
def XE:List Grp->Int->Bool
 |[],_=>true
 |g::gs,n=>grpB g&&Qz (n+g.n)&&XE gs (n+g.n)
def Jl (c:Cod):Bool:=XE c.gq 0&&QF c.body
theorem locs_at (l:List Grp)(k:Nat)(n:Int)(h:k<N l):XE (l.drop k) n=(grpB (l.getD k Grp.z)&&Qz (n+(l.getD k Grp.z).n)&&XE (l.drop (k+1)) (n+(l.getD k Grp.z).n)):=by
 rw[List.drop_eq_getElem_cons h];simp[XE,Kx,List.getElem?_eq_getElem h]
theorem u32_r {n:Int}(h:Qz n=true):0<=n/\n<4294967296:=by
 simp[Qz]at h;omega
theorem igs_c (x:Cod)(F:Option Ad)(c1:Nat)(a2:Option Ad)(w:J)(X:Cod.Is 0 w x F a2)(R:Cod.LB 1048576 x):Ec Q 207 #[S F (N x.gq) c1] w λe w'=>e=Z (G (XE x.gq 0))/\Bw w.heap.size w w':=by
 obtain⟨⟨l0,_⟩,L⟩:=R;obtain⟨C,I⟩:=X;have R1:=Hm C;clear C I L;go_enter func207,ntmps207;go_wp2_with fail
 go_loopw [3,8] (λs i wr=>∃(k:Nat) (n:Int),k<=N x.gq/\i=U O k/\s=U O n/\0<=n/\n<4294967296/\XE (x.gq.drop k) n=XE x.gq 0/\Bw w.heap.size w wr) (λ_ i _=>N x.gq-(intOf i).toNat)
 case atStart=>exact⟨0,0,Kw _,rfl,rfl,by omega,by omega,rfl,bFz⟩
 obtain⟨k,n,hk,rfl,rfl,n0,n1,A,d⟩:=hrel;by_cases j:k<N x.gq
 . (have V:(k:Int)<(N x.gq:Int):=by omega);rcases R1.o.up (up_below d)with M|⟨b,o,Y,_,D⟩
   . rw[M]at j;simp at j
   have v:=D k j;subst Y;have f:=Hm (A.symm.trans (locs_at x.gq k n j));generalize x.gq.getD k Grp.z=g at v f;obtain⟨⟨g0,g1⟩,_⟩:=v;have q:=Hm d;clear A D d;have E:Bw wr.heap.size wr (wr.alloc (Fc #[U O g.n,U O g.ty] 172)):=bFz.alloc lRz _;have t:=Hm E;clear E;have y:=Hm (igrp_c g (wr.alloc (Fc #[U O g.n,U O g.ty] 172)));by_cases l:grpB g=true
   . rw[l]at y;obtain⟨e0,e1⟩:=u32_r (by have:=l;simp[grpB]at this;exact this.1:Qz g.n=true);rw[l,Tk]at f;have u:=λW=>Jw (XV (n+g.n) W);have u:=Hm u;by_cases m:Qz (n+g.n)=true
     . rw[m]at u;rw[m,Tk]at f;obtain⟨s0,s1⟩:=u32_r m;clear l m;(go_wp2_with fail);refine y.o.mono ?_;rintro e B ⟨rfl,a⟩;have r:=Hm (t.o.trans (a.mono (by simp)));clear a;(go_wp2_with fail);refine(u.o _).mono ?_;rintro e H ⟨rfl,c⟩;have p:=r.o.trans (c.mono r.o.size);have d:=q.o.trans (p.mono q.o.size);clear r p c;go_wp2;(go_roundw);(case rel=>exact⟨k+1,n+g.n,by omega,by go_num,rfl,by omega,by omega,f.o.symm,d⟩);case measure=>simp[intOf];omega
     simp only[Mn]at m;rw[m]at u;rw[m,Ly]at f;clear l m;(go_wp2_with fail);refine y.o.mono ?_;rintro e B ⟨rfl,a⟩;have r:=Hm (t.o.trans (a.mono (by simp)));clear a;(go_wp2_with fail);refine(u.o _).mono ?_;rintro e H ⟨rfl,c⟩;have p:=r.o.trans (c.mono r.o.size);have d:=q.o.trans (p.mono q.o.size);clear r p c;go_wp2;go_ret;exact⟨by rw[f.o];rfl,d⟩
   simp only[Mn]at l;rw[l]at y;rw[l,Ly,Ly]at f;clear l;(go_wp2_with fail);refine y.o.mono ?_;rintro e B ⟨rfl,a⟩;have p:=t.o.trans (a.mono (by simp));have d:=q.o.trans (p.mono q.o.size);clear p a;go_wp2;go_ret;exact⟨by rw[f.o];rfl,d⟩
 have e:k=N x.gq:=by omega
 subst e;have f:Hid (XE x.gq 0=true):=by show _=_;rw[<- A,Mm];rfl
 have q:=Hm d;clear A d;go_wp2;go_ret;exact⟨by rw[f.o];rfl,q.o⟩
theorem icod_c (x:Cod)(g:Option Ad)(c1:Nat)(d:Option Ad)(c2:Nat)(w:J)(m:Cod.Is 0 w x g d)(r:Cod.LB 1048576 x)(hp:QV x.body):Ec Q 167 #[Ag #[S g (N x.gq) c1,S d (N x.body) c2]] w λe w'=>e=Z (G (Jl x))/\Bw w.heap.size w w':=by
 have s:=Hm (λ(W:J) (h:Cod.Is 0 W x g d)=>igs_c x g c1 d W h r);obtain⟨⟨D,_⟩,q⟩:=r;have HI:=Hm (λ(W:J) (b:Bw w.heap.size w W)=>Cod.Is.up m (up_below b));have u:=Hm m.2;have v:=Hm q;have y:=Hm hp;clear m q hp;go_enter func167,ntmps167;go_upto_region 1 with fail
 refine Qj (λW=>Bk W w.heap.size [S g (N x.gq) c1,S d (N x.body) c2]/\Bw w.heap.size w W) ⟨Bk.new,bFz.alloc lRz _⟩ ?_;rintro W ⟨n,b⟩;have t:=n.2.1 0 _ rfl;have A:=Hm n;have k:=Hm b;have c:=Hm (s.o W (HI.o W b));clear n b s;cases hM:XE x.gq 0
 . (have p:Hid (Jl x=false):=by show _=_;simp[Jl,hM]);rw[hM]at c;clear hM;(go_wp2_with fail);refine c.o.mono ?_;rintro e l ⟨rfl,a⟩;have b:=k.o.trans (a.mono k.o.size);clear a;go_wp2;go_ret;exact⟨by rw[p.o];rfl,b⟩
 have p:Hid (Jl x=QF x.body):=by show _=_;simp[Jl,hM]
 rw[hM]at c;clear hM;go_wp2_with fail
 refine c.o.mono ?_;rintro e l ⟨rfl,a⟩;have b:=k.o.trans (a.mono k.o.size);have C:l.cell? ⟨w.heap.size,1,none⟩=some (S d (N x.body) c2):=(A.o.keep a).2.1 1 _ rfl;have z:=Hm (clo d c2 x.body l v.o y.o (u.o.up (up_below b)));have j:=Hm b;clear a b t;go_wp2_with fail
 refine z.o.mono ?_;rintro e B ⟨rfl,f⟩;have b:=j.o.trans (f.mono j.o.size);clear f;go_wp2;go_ret;exact⟨by rw[p.o];rfl,b⟩
theorem scod_c (x:Cod)(C:Option Ad)(c1:Nat)(A:Option Ad)(c2:Nat)(w:J)(X:Cod.Is 0 w x C A)(R:Cod.LB 1048576 x)(hp:QV x.body):Ec Q 128 #[Ag #[S C (N x.gq) c1,S A (N x.body) c2]] w λe w'=>e=Z (G (Jl x))/\Bw w.heap.size w w':=by
 obtain⟨⟨l0,_⟩,I⟩:=R;obtain⟨E,D⟩:=X;have R1:=Hm E;have R2:=Hm D;have L1:=Hm I;have HP:=Hm hp;clear E D I hp;go_enter func128,ntmps128;go_upto_region 1 with fail
 refine Qj (λW=>Bk W w.heap.size [S C (N x.gq) c1,S A (N x.body) c2]/\Bw w.heap.size w W) ⟨Bk.new,bFz.alloc lRz _⟩ ?_;rintro W ⟨f,c⟩;have H:=f.2.1 0 _ rfl;have F:=f.2.1 1 _ rfl;go_wp2_with fail
 go_loopw [3,4] (λs i wr=>∃(k:Nat) (n:Int),k<=N x.gq/\i=U O k/\s=U O n/\0<=n/\n<4294967296/\XE (x.gq.drop k) n=XE x.gq 0/\Bk wr w.heap.size [S C (N x.gq) c1,S A (N x.body) c2]/\Bw w.heap.size w wr) (λ_ i _=>N x.gq-(intOf i).toNat)
 case atStart=>exact⟨0,0,Kw _,rfl,rfl,by omega,by omega,rfl,f,c⟩
 clear f c H F;obtain⟨k,n,hk,rfl,rfl,n0,n1,B,f,c⟩:=hrel;have H:=f.2.1 0 _ rfl;have F:=f.2.1 1 _ rfl;by_cases j:k<N x.gq
 . (have V:(k:Int)<(N x.gq:Int):=by omega);rcases R1.o.up (up_below c)with M|⟨b,o,Y,_,L⟩
   . rw[M]at j;simp at j
   have v:=L k j;subst Y;have a:=Hm (B.symm.trans (locs_at x.gq k n j));generalize x.gq.getD k Grp.z=g at v a;obtain⟨⟨g0,g1⟩,_⟩:=v;have q:=Hm c;have BB:=Hm f;clear B L c f;have u:=Hm (Ga g.n wr);have t:=Hm (ty_c g.ty wr);have r:=Hm (Ga (n+g.n) wr);rw[show grpB g=(Qz g.n&&tyB g.ty)from rfl]at a;by_cases d:Qz g.n=true
   . rw[d]at u;rw[d,Tk]at a;obtain⟨e0,e1⟩:=u32_r d;by_cases p:tyB g.ty=true
     . rw[p]at t;rw[p,Tk]at a;by_cases m:Qz (n+g.n)=true
       . rw[m]at r;rw[m,Tk]at a;obtain⟨s0,s1⟩:=u32_r m;clear d m p;(go_wp2_with (first|(refine u.o.mono ?_;rintro e l ⟨rfl,rfl⟩)|(refine t.o.mono ?_;rintro e l ⟨rfl,rfl⟩)|(refine r.o.mono ?_;rintro e l ⟨rfl,rfl⟩)));(go_roundw);(case rel=>exact⟨k+1,n+g.n,by omega,by go_num,rfl,by omega,by omega,a.o.symm,BB.o,q.o⟩);case measure=>simp[intOf];omega
       simp only[Mn]at m;rw[m]at r;rw[m,Ly]at a;clear d m p;(go_wp2_with (first|(refine u.o.mono ?_;rintro e l ⟨rfl,rfl⟩)|(refine t.o.mono ?_;rintro e l ⟨rfl,rfl⟩)|(refine r.o.mono ?_;rintro e l ⟨rfl,rfl⟩)));go_ret;exact⟨by rw[Jl,a.o];rfl,q.o⟩
     simp only[Mn]at p;rw[p]at t;rw[p,Ly,Ly]at a;clear d p r;(go_wp2_with (first|(refine u.o.mono ?_;rintro e l ⟨rfl,rfl⟩)|(refine t.o.mono ?_;rintro e l ⟨rfl,rfl⟩)));go_ret;exact⟨by rw[Jl,a.o];rfl,q.o⟩
   simp only[Mn]at d;rw[d]at u;rw[d,Ly,Ly,Ly]at a;clear d t r;(go_wp2_with (refine u.o.mono ?_;rintro e l ⟨rfl,rfl⟩));go_ret;exact⟨by rw[Jl,a.o];rfl,q.o⟩
 have e:k=N x.gq:=by omega
 subst e;have a:Hid (XE x.gq 0=true):=by show _=_;rw[<- B,Mm];rfl
 have HC:=Hm (sclo A c2 x.body wr L1.o HP.o (R2.o.up (up_below c)));have q:=Hm c;clear B c f;go_wp2_with fail
 refine HC.o.mono ?_;rintro e w2 ⟨rfl,y⟩;have c:=q.o.trans (y.mono q.o.size);clear y;go_wp2;go_ret;exact⟨by rw[Jl,a.o,Tk];rfl,c⟩
theorem aaImp_c (a:Option Ad)(c:Nat)(xs:List Imp)(w:J)(M:N xs<=1048576/\∀i,i<N xs->Imp.LB 1048576 (xs.getD i Imp.z))(I:Imp.Ls 0 w a xs):Ec Q 153 #[S a (N xs) c,.func (.func 154) #[] #[]] w λe w'=>e=Z (G (xs.all QP))/\Bw w.heap.size w w':=by
 obtain⟨hn,s⟩:=M;have A:=Hm I;have y:=Hm s;skip
 clear I s;go_enter func153,ntmps153;go_wp2_with fail
 go_loopw [9] (λi wr=>∃k:Nat,k<=N xs/\i=U O k/\(∀j,j<k->QP (xs.getD j Imp.z)=true)/\Bw w.heap.size w wr) (λi _=>N xs-(intOf i).toNat)
 case atStart=>exact⟨0,Kw _,rfl,λj h=>by omega,bFz⟩
 obtain⟨k,hk,rfl,d,t⟩:=hrel;by_cases l:k<N xs
 . (have R:(k:Int)<(N xs:Int):=by omega);rcases A.o.up (up_below t)with p|⟨b,o,V,_,F⟩
   . subst p;simp at l
   have r:=F k l;have q:=y.o k l;(skip);subst V;obtain⟨x,p⟩:∃x,x=xs.getD k Imp.z:=⟨_,rfl⟩;rw[<- p]at r q;obtain⟨⟨q0,q1,q2,q3,q4,q5,q6,Y,X⟩,D⟩:=r;have v:Bw wr.heap.size wr (wr.alloc (Fc #[Xs x.mod,Xs x.nm,U O x.kind,U O x.ty,U O x.lim.min,U O x.lim.max,G x.lim.has,U O x.gl.ty,G x.gl.mu] 178)):=bFz.alloc lRz _;have n:=Hm (iimp_c x _ (D.up (up_below v)) q);have B:=Hm t;have u:=Hm v;generalize E:QP x=gx at n;(have L:Hid (QP (xs.getD k Imp.z)=gx):=by show _=_;rw[<- p];exact E);cases gx
   . have g:=Hm (Jd QP xs Imp.z k l L.o);clear d F t v D A y p E;(go_wp2_with fail);refine n.o.mono ?_;rintro e C ⟨rfl,f⟩;have m:Bw w.heap.size w C:=B.o.trans ((u.o.trans (f.mono (by simp))).mono B.o.size);clear f;go_wp2;go_ret;exact⟨by rw[g.o];rfl,m⟩
   have H:Hid (∀j,j<k+1->QP (xs.getD j Imp.z)=true):=λj hj=>by
    rcases(by omega:j<k\/j=k)with h|h
    . exact d j h
    subst h;exact L.o
   clear d F t v D A y p E;(go_wp2_with fail);refine n.o.mono ?_;rintro e C ⟨rfl,f⟩;have m:Bw w.heap.size w C:=B.o.trans ((u.o.trans (f.mono (by simp))).mono B.o.size);clear f;go_wp2;(go_roundw);(case rel=>exact⟨k+1,by omega,by go_num,H.o,m⟩);case measure=>simp[intOf];omega
 have e:k=N xs:=by omega
 subst e;have g:=Hm (JB QP xs Imp.z d);clear d A y;go_wp2;go_ret;exact⟨by rw[g.o];rfl,t⟩
theorem aaCod_c (a:Option Ad)(c:Nat)(xs:List Cod)(w:J)(hl:N xs<=1048576/\∀i,i<N xs->Cod.LB 1048576 (xs.getD i Cod.z))(M:Cod.Ls 0 w a xs)(L:∀i,i<N xs->QV (xs.getD i Cod.z).body):Ec Q 166 #[S a (N xs) c,.func (.func 167) #[] #[]] w λe w'=>e=Z (G (xs.all Jl))/\Bw w.heap.size w w':=by
 obtain⟨hn,t⟩:=hl;have B:=Hm M;have A:=Hm t;have HP:=Hm L;clear M t L;go_enter func166,ntmps166;go_wp2_with fail
 go_loopw [9] (λi wr=>∃k:Nat,k<=N xs/\i=U O k/\(∀j,j<k->Jl (xs.getD j Cod.z)=true)/\Bw w.heap.size w wr) (λi _=>N xs-(intOf i).toNat)
 case atStart=>exact⟨0,Kw _,rfl,λj h=>by omega,bFz⟩
 obtain⟨k,hk,rfl,d,u⟩:=hrel;by_cases f:k<N xs
 . (have ac:(k:Int)<(N xs:Int):=by omega);rcases B.o.up (up_below u)with p|⟨b,o,ea,_,H⟩
   . subst p;simp at f
   have s:=H k f;have r:=A.o k f;have q:=HP.o k f;subst ea;obtain⟨x,p⟩:∃x,x=xs.getD k Cod.z:=⟨_,rfl⟩;rw[<- p]at s r q;obtain⟨Y,V,X,R,⟨q0,q1⟩,E⟩:=s;have y:Bw wr.heap.size wr (wr.alloc (Fc #[S Y (N x.gq) V,S X (N x.body) R] 72)):=bFz.alloc lRz _;have n:=Hm (icod_c x Y V X R _ (E.up (up_below y)) r q);have C:=Hm u;have v:=Hm y;generalize F:Jl x=gx at n;(have HG:Hid (Jl (xs.getD k Cod.z)=gx):=by show _=_;rw[<- p];exact F);cases gx
   . have l:=Hm (Jd Jl xs Cod.z k f HG.o);clear d H u y E B A p F;(go_wp2_with fail);refine n.o.mono ?_;rintro e D ⟨rfl,g⟩;have m:Bw w.heap.size w D:=C.o.trans ((v.o.trans (g.mono (by simp))).mono C.o.size);clear g;go_wp2;go_ret;exact⟨by rw[l.o];rfl,m⟩
   have I:Hid (∀j,j<k+1->Jl (xs.getD j Cod.z)=true):=λj hj=>by
    rcases(by omega:j<k\/j=k)with h|h
    . exact d j h
    subst h;exact HG.o
   clear d H u y E B A p F;(go_wp2_with fail);refine n.o.mono ?_;rintro e D ⟨rfl,g⟩;have m:Bw w.heap.size w D:=C.o.trans ((v.o.trans (g.mono (by simp))).mono C.o.size);clear g;go_wp2;(go_roundw);(case rel=>exact⟨k+1,by omega,by go_num,I.o,m⟩);case measure=>simp[intOf];omega
 have e:k=N xs:=by omega
 subst e;have l:=Hm (JB Jl xs Cod.z d);clear d B A;go_wp2;go_ret;exact⟨by rw[l.o];rfl,u⟩
end YtaccbbndmmhenaaGreat
namespace YtaccbbndmmhenaaGreat.Va
open Go.RowKit Go.Sort
theorem Has.alloc' {w a xs}(h:Has w a xs)(o:Obj):Has (w.alloc o) a xs:=h.keep (bFz.alloc lRz _)
theorem Qo {B w w'}(h:Bw B w w')(n:Nat):Bw B w (w'.drewN n):=⟨h.os,h.tape,h.output,h.size,h.block⟩
def FV (w:J)(v:Vu)(xs ys:List Int):Prop:=∃pa pc ra rc,v=Ag #[S pa (N xs) pc,S ra (N ys) rc]/\Has w pa xs/\Has w ra ys
theorem ne_at {xs a:List Int}{k:Nat}(h:xs.getD k 0≠a.getD k 0):xs≠a:=λe=>h (by rw[e])
theorem eq_all {xs a:List Int}(c:N xs=N a)(h:∀j,j<N xs->xs.getD j 0=a.getD j 0):xs=a:=by
 apply List.ext_getElem c;intro i b d;have:=h i b;simpa[Kx,b,d]using this
theorem sTE_c (v v':Vu)(xs c b a:List Int)(w:J)(hx:N xs<=1099511627776)(hy:N c<=1099511627776)(h:FV w v xs c)(h':FV w v' b a):Ec Q 194 #[v,v'] w λe w'=>e=Z (G (decide (xs=b)&&decide (c=a)))/\Bw w.heap.size w w':=by
 obtain⟨M,L,I,H,rfl,h1,h2⟩:=h;obtain⟨p,n,l,g,rfl,h3,h4⟩:=h';obtain⟨W,R⟩:∃W,W=(w.alloc (Fc #[S M (N xs) L,S I (N c) H] 76)).alloc (Fc #[S p (N b) n,S l (N a) g] 76):=⟨_,rfl⟩;have c0:W.cell? ⟨w.heap.size,0,none⟩=some (S M (N xs) L):=by rw[R,Lj _ _ _ (by simp)];exact Qe rfl rfl
 have c1:W.cell? ⟨w.heap.size,1,none⟩=some (S I (N c) H):=by rw[R,Lj _ _ _ (by simp)];exact Qe rfl rfl
 have c2:W.cell? ⟨w.heap.size+1,0,none⟩=some (S p (N b) n):=by rw[R];exact Qe (by simp) rfl
 have c3:W.cell? ⟨w.heap.size+1,1,none⟩=some (S l (N a) g):=by rw[R];exact Qe (by simp) rfl
 have H1:=Hm (Has.alloc' (Has.alloc' h1 (Fc #[S M (N xs) L,S I (N c) H] 76)) (Fc #[S p (N b) n,S l (N a) g] 76));have H2:=Hm (Has.alloc' (Has.alloc' h2 (Fc #[S M (N xs) L,S I (N c) H] 76)) (Fc #[S p (N b) n,S l (N a) g] 76));have H3:=Hm (Has.alloc' (Has.alloc' h3 (Fc #[S M (N xs) L,S I (N c) H] 76)) (Fc #[S p (N b) n,S l (N a) g] 76));have H4:=Hm (Has.alloc' (Has.alloc' h4 (Fc #[S M (N xs) L,S I (N c) H] 76)) (Fc #[S p (N b) n,S l (N a) g] 76));rw[<- R]at H1 H2 H3 H4;clear h1 h2 h3 h4;have q:Bw w.heap.size w W:=by rw[R];exact(bFz.alloc lRz _).alloc (by simp) _
 have HW:=Hm R;clear R;by_cases B:N b=N xs
 . by_cases A:N a=N c
   . rw[B]at c2;rw[A]at c3;(have F:Hid ((w.alloc (Fc #[S M (N xs) L,S I (N c) H] 76)).alloc (Fc #[S p (N xs) n,S l (N c) g] 76)=W):=by have:=HW.o.symm;rw[B,A]at this;exact this);rw[B,A];have HL:=Hm B;have ab:=Hm A;have C:=Hm (And.intro c0 (And.intro c1 (And.intro c2 c3)));clear B A c0 c1 c2 c3 HW;go_enter func194,ntmps194;(go_wp2_with fail);rw[F.o];(go_loopw [5] (λi wr=>∃k:Nat,k<=N xs/\i=U O k/\(∀j,j<k->xs.getD j 0=b.getD j 0)/\∃m,wr=W.drewN m) (λi _=>N xs-(intOf i).toNat));(case atStart=>exact⟨0,Kw _,rfl,λj hj=>by omega,0,rfl⟩);obtain⟨k,hk,rfl,r,m,rfl⟩:=hrel;have HA:=Hm r;clear r;obtain⟨c0,c1,c2,c3⟩:=C.o;by_cases z:k<N xs
     . rcases H1.o with h|⟨b1,o1,ea,E⟩
       . subst h;simp at z
       rcases H3.o with h|⟨b2,o2,aa,D⟩
       . have:=HL.o;rw[h]at this;simp at this;omega
       have d1:W.cell? ⟨b1,o1+k,none⟩=some (U O (xs.getD k 0)):=E k z;have d2:W.cell? ⟨b2,o2+k,none⟩=some (U O (b.getD k 0)):=D k (by rw[HL.o];exact z);subst ea aa;(have av:(k:Int)<(N xs:Int):=by omega);obtain⟨x,t⟩:∃x,x=xs.getD k 0:=⟨_,rfl⟩;obtain⟨y,s⟩:∃y,y=b.getD k 0:=⟨_,rfl⟩;rw[<- t]at d1;rw[<- s]at d2;have HX:=Hm t;have HY:=Hm s;clear E D H1 H2 H3 H4 C F c1 c3 t s;by_cases Y:x=y
       . subst Y;go_wp2;refine wp_region_quiet_lit (by kernel_rfl) (by kernel_rfl) ?_;(repeat (quiet_step (fail)));refine wpQuiet_nil ?_;intro _ u;obtain⟨V,d⟩:=u;subst d;go_wp2;go_roundw
         case rel=>exact⟨k+1,by omega,by go_num,fun j hj=>by
          rcases(by omega:j<k\/j=k)with h|h
          . exact HA.o j h
          . subst h;rw[<- HX.o,<- HY.o],m+V,by simp[Az,Ey]⟩
         case measure=>simp[intOf];omega
       (have f1:(x != y)=true:=by simpa using Y);go_wp2;refine wp_region_quiet_lit (by kernel_rfl) (by kernel_rfl) ?_;(repeat (quiet_step (fail)));refine wpQuiet_nil ?_;intro _ u;obtain⟨V,d⟩:=u;subst d;go_wp2;go_ret;exact⟨by rw[decide_eq_false (ne_at (k:=k) (by rw[<- HX.o,<- HY.o];exact Y))];rfl,Qo (Qo q m) V⟩
     (have X:k=N xs:=by omega);subst X;have HE:Hid (decide (xs=b)=true):=decide_eq_true (eq_all HL.o.symm HA.o);clear HA H1 H3;(go_wp2_with fail);(go_loopw [6] (λi wr=>∃k:Nat,k<=N c/\i=U O k/\(∀j,j<k->c.getD j 0=a.getD j 0)/\∃m,wr=W.drewN m) (λi _=>N c-(intOf i).toNat));(case atStart=>exact⟨0,Kw _,rfl,λj hj=>by omega,m,rfl⟩);obtain⟨k,hk,rfl,r,m,rfl⟩:=hrel;have HA:=Hm r;clear r;by_cases z:k<N c
     . rcases H2.o with h|⟨b1,o1,ea,E⟩
       . subst h;simp at z
       rcases H4.o with h|⟨b2,o2,aa,D⟩
       . have:=ab.o;rw[h]at this;simp at this;omega
       have d1:W.cell? ⟨b1,o1+k,none⟩=some (U O (c.getD k 0)):=E k z;have d2:W.cell? ⟨b2,o2+k,none⟩=some (U O (a.getD k 0)):=D k (by rw[ab.o];exact z);subst ea aa;(have av:(k:Int)<(N c:Int):=by omega);obtain⟨x,t⟩:∃x,x=c.getD k 0:=⟨_,rfl⟩;obtain⟨y,s⟩:∃y,y=a.getD k 0:=⟨_,rfl⟩;rw[<- t]at d1;rw[<- s]at d2;have HX:=Hm t;have HY:=Hm s;clear E D H2 H4 C F c0 c2 t s;by_cases Y:x=y
       . subst Y;go_wp2;refine wp_region_quiet_lit (by kernel_rfl) (by kernel_rfl) ?_;(repeat (quiet_step (fail)));refine wpQuiet_nil ?_;intro _ u;obtain⟨V,d⟩:=u;subst d;go_wp2;go_roundw
         case rel=>exact⟨k+1,by omega,by go_num,fun j hj=>by
          rcases(by omega:j<k\/j=k)with h|h
          . exact HA.o j h
          . subst h;rw[<- HX.o,<- HY.o],m+V,by simp[Az,Ey]⟩
         case measure=>simp[intOf];omega
       (have f1:(x != y)=true:=by simpa using Y);go_wp2;refine wp_region_quiet_lit (by kernel_rfl) (by kernel_rfl) ?_;(repeat (quiet_step (fail)));refine wpQuiet_nil ?_;intro _ u;obtain⟨V,d⟩:=u;subst d;go_wp2;go_ret;exact⟨by rw[HE.o,Tk,decide_eq_false (ne_at (k:=k) (by rw[<- HX.o,<- HY.o];exact Y))];rfl,Qo (Qo q m) V⟩
     (have X:k=N c:=by omega);subst X;go_wp2;go_ret;exact⟨by rw[HE.o,Tk,decide_eq_true (eq_all ab.o.symm HA.o)];rfl,Qo q m⟩
   (have f:¬((N c:Int)=(N a:Int)):=by omega);(have f1:((N c:Int) != (N a:Int))=true:=by simpa using f);have HN:Hid (c≠a):=λe=>A (by rw[e]);rw[B]at c2;(have F:Hid ((w.alloc (Fc #[S M (N xs) L,S I (N c) H] 76)).alloc (Fc #[S p (N xs) n,S l (N a) g] 76)=W):=by have:=HW.o.symm;rw[B]at this;exact this);rw[B];clear B A H1 H2 H3 H4 HW f hx hy;go_enter func194,ntmps194;go_wp2;go_ret;exact⟨by rw[decide_eq_false HN.o,Bool.and_false];rfl,by rw[F.o];exact q⟩
 have f:¬((N xs:Int)=(N b:Int)):=by omega
 have f1:((N xs:Int) != (N b:Int))=true:=by simpa using f
 have HN:Hid (xs≠b):=λe=>B (by rw[e]);clear B H1 H2 H3 H4 f hx hy;go_enter func194,ntmps194;go_wp2;go_ret;exact⟨by rw[decide_eq_false HN.o,Ly];rfl,by rw[<- HW.o];exact q⟩
theorem ssame_c (a b)(g f:Nat)(xs c:List Int)(w)(j:N xs<=1099511627776)(k:Has w a xs)(d:Has w b c):Ec Q 143 #[S a (N xs) g,S b (N c) f] w λe w'=>e=Z (G (decide (xs=c)))/\Bw w.heap.size w w':=by
 have H:=Hm (sTE_c (Ag #[S a (N xs) g,S none 0 0]) (Ag #[S b (N c) f,S none 0 0]) xs [] c [] w j (by simp) ⟨a,g,none,0,rfl,k,.inl rfl⟩ ⟨b,f,none,0,rfl,d,.inl rfl⟩);have e:(decide (xs=c)&&decide (([]:List Int)=[]))=decide (xs=c):=by simp
 rw[e]at H;generalize decide (xs=c)=q at H⊢;clear k d e j;go_enter func143,ntmps143;go_wp2_with (go_at_call 194;refine H.o.mono ?_;rintro e l ⟨rfl,d⟩)
 go_ret;exact⟨rfl,d⟩
