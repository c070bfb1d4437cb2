import Derived.Test.YtaccbbndmmhenaaGreatDoorGai
set_option linter.all false
set_option maxHeartbeats 400000000
set_option maxRecDepth 100000
namespace Go.Proofs
open Value renaming int->U,bool->G,string->Xs,agg->Ag
open IntKind renaming i64->O
open Ending renaming returned->Z
open Go renaming World->J,Calls->Ec
open Tryz renaming prog->Q
open Tryz
namespace YtaccbbndmmhenaaGreatDoor
open Go.RowKit Go.Sort
variable {x:Imp}
def limZ (l:Qg):Bool:=l.min==0&&(l.max==0&&l.has==false)
def gtZ (g:Qx):Bool:=g.ty==0&&g.mu==false
def XS (x:Imp):Bool:=if x.kind=0 then QB x.ty&&limZ x.lim&&gtZ x.gl else if x.kind=1\/x.kind=2 then x.ty==0&&Jl x.lim&&gtZ x.gl else if x.kind=3 then x.ty==0&&limZ x.lim&&tyB x.gl.ty else false
def QO (x:Imp):Bool:=Q2 x.mod&&Q2 x.nm&&XS x
theorem impK0 (h:x.kind=0):XS x=(QB x.ty&&limZ x.lim&&gtZ x.gl):=by simp[XS,h]
theorem impK1 (h:x.kind=1\/x.kind=2):XS x=(x.ty==0&&Jl x.lim&&gtZ x.gl):=by
 have:¬x.kind=0:=by omega
 simp[XS,h,this]
theorem impK3 (h:x.kind=3):XS x=(x.ty==0&&limZ x.lim&&tyB x.gl.ty):=by simp[XS,h]
theorem impK4 (d:¬x.kind=0)(c:¬x.kind=1)(b:¬x.kind=2)(a:¬x.kind=3):XS x=false:=by simp[XS,d,c,b,a]
theorem eqLimZ (l:Qg)(w:J):(binOp .eql 144 (Ag #[U O l.min,U O l.max,G l.has]) (Ag #[U O 0,U O 0,G false])).run Q w=.ok (G (limZ l)) w:=eqLim w _ _ _
theorem eqGtyZ (g:Qx)(w:J):(binOp .eql 145 (Ag #[U O g.ty,G g.mu]) (Ag #[U O 0,G false])).run Q w=.ok (G (gtZ g)) w:=eqGty w _ _
attribute [-go_sem] run_eql_struct
theorem simp_c (x:Imp)(w:J)(hI:Imp.Is 0 w x)(Y:Imp.LB 1048576 x):Ec Q 95 #[Ag #[Xs x.mod,Xs x.nm,U O x.kind,U O x.ty,U O x.lim.min,U O x.lim.max,G x.lim.has,U O x.gl.ty,G x.gl.mu]] w λe w'=>e=Z (G (QO x))/\Below w.heap.size w w':=by
 obtain⟨V,R⟩:=Y;go_enter func95,ntmps95;go_upto_region 1 with fail
 refine Qp (λW=>Bk W w.heap.size [Xs x.mod,Xs x.nm,U O x.kind,U O x.ty,U O x.lim.min,U O x.lim.max,G x.lim.has,U O x.gl.ty,G x.gl.mu]/\Below w.heap.size w W) ⟨Bk.new,bFz.alloc lRz _⟩ ?_;rintro W ⟨a,b⟩;have F:=a.2.1 0 _ rfl;have E:=a.2.1 1 _ rfl;have D:=a.2.1 2 _ rfl;have C:=a.2.1 3 _ rfl;have B:=a.2.1 4 _ rfl;have A:=a.2.1 5 _ rfl;have z:=a.2.1 6 _ rfl;have y:=a.2.1 7 _ rfl;have v:=a.2.1 8 _ rfl;have r:=Hm (sname_ok x.mod W V);generalize c:Q2 x.mod=t0 at r;cases t0
 . (go_wp2_with fail);refine r.o.mono ?_;rintro e L ⟨rfl,m⟩;have b:=b.trans (m.mono b.size);clear m a;go_wp2;go_ret;exact⟨by simp[QO,c],b⟩
 go_wp2_with fail
 refine r.o.mono ?_;rintro e L ⟨rfl,m⟩;have a:=a.keep m;have b:=b.trans (m.mono b.size);clear m r;have F:=a.2.1 0 _ rfl;have E:=a.2.1 1 _ rfl;have D:=a.2.1 2 _ rfl;have C:=a.2.1 3 _ rfl;have B:=a.2.1 4 _ rfl;have A:=a.2.1 5 _ rfl;have z:=a.2.1 6 _ rfl;have y:=a.2.1 7 _ rfl;have v:=a.2.1 8 _ rfl;have q:=Hm (sname_ok x.nm L R);generalize f:Q2 x.nm=t1 at q;cases t1
 . (go_wp2_with fail);refine q.o.mono ?_;rintro e u ⟨rfl,l⟩;have b:=b.trans (l.mono b.size);clear l a;go_wp2;go_ret;exact⟨by simp[QO,c,f],b⟩
 go_wp2_with fail
 refine q.o.mono ?_;rintro e u ⟨rfl,l⟩;have a:=a.keep l;have b:=b.trans (l.mono b.size);clear l q;have F:=a.2.1 0 _ rfl;have E:=a.2.1 1 _ rfl;have D:=a.2.1 2 _ rfl;have C:=a.2.1 3 _ rfl;have B:=a.2.1 4 _ rfl;have A:=a.2.1 5 _ rfl;have z:=a.2.1 6 _ rfl;have y:=a.2.1 7 _ rfl;have v:=a.2.1 8 _ rfl;have EL:=eqLimZ x.lim;have EG:=eqGtyZ x.gl;generalize k:limZ x.lim=z1 at EL;generalize j:gtZ x.gl=z2 at EG;by_cases I:x.kind=0
 . have p:=Hm (X7 x.ty u);generalize d:QB x.ty=z3 at p;(have g:Hid (QO x=(z3&&z1&&z2)):=by simp[Hid,QO,c,f,impK0 I,k,j,d]);clear k j d c f a
   cases z1<;>cases z2<;>cases z3 <;>
   . go_wp2_with (refine p.o.mono ?_;rintro e M ⟨rfl,rfl⟩)
     go_ret
     exact⟨by rw[g.o];rfl,b⟩
 by_cases n:x.kind=1\/x.kind=2
 . have p:=Hm (slim_c x.lim u);generalize d:Jl x.lim=z3 at p;(have g:Hid (QO x=(x.ty==0&&z3&&z2)):=by simp[Hid,QO,c,f,impK1 n,j,d]);clear k j d c f;by_cases t:x.ty=0
   . have g:Hid (QO x=(z3&&z2)):=by rw[Hid,g.o];simp[t]
     rcases n with n|n<;>cases z2<;>cases z3 <;>
     . go_wp2_with fail
       refine p.o.mono ?_
       rintro e W3 ⟨rfl,s⟩;have b:=b.trans (s.mono b.size);clear s a
       go_wp2
       go_ret
       exact⟨by rw[g.o];rfl,b⟩
   (have g:Hid (QO x=false):=by rw[Hid,g.o];simp[t]);clear p a
   rcases n with n|n <;>
   . go_wp2
     go_ret
     exact⟨by rw[g.o];rfl,b⟩
 obtain⟨n,X⟩:¬x.kind=1/\¬x.kind=2:=⟨λh=>n (.inl h),λh=>n (.inr h)⟩;by_cases H:x.kind=3
 . have p:=Hm (ty_c x.gl.ty u);generalize d:tyB x.gl.ty=z3 at p;(have g:Hid (QO x=(x.ty==0&&z1&&z3)):=by simp[Hid,QO,c,f,impK3 H,k,d]);clear k j d c f a;by_cases t:x.ty=0
   . have g:Hid (QO x=(z1&&z3)):=by rw[Hid,g.o];simp[t]
     cases z1<;>cases z3 <;>
     . go_wp2_with (refine p.o.mono ?_;rintro e M ⟨rfl,rfl⟩)
       go_ret
       exact⟨by rw[g.o];rfl,b⟩
   (have g:Hid (QO x=false):=by rw[Hid,g.o];simp[t]);clear p;go_wp2;go_ret;exact⟨by rw[g.o];rfl,b⟩
 have g:Hid (QO x=false):=by simp[Hid,QO,impK4 I n X H]
 clear k j c f a;go_wp2;go_ret;exact⟨by rw[g.o];rfl,b⟩
