import Derived.Test.YtaccbbndmmhenaaGreatGab
set_option linter.all false
set_option maxHeartbeats 400000000
set_option maxRecDepth 100000
namespace Go.Proofs
open Value renaming int->U,slice->S,bool->G
open IntKind renaming i64->O
open Ending renaming returned->Z
open Go renaming World->J,Calls->Ec,Addr->Ad
open Go.RowKit renaming Below->Bw
open Tryz renaming prog->Q
open Tryz
namespace YtaccbbndmmhenaaGreat
open Go.RowKit Go.Sort
theorem sgood_0 (x:In)(j:Option Ad)(g:Nat)(w:J)(c:Qi (Qa x.op)=0)(hv:0<=x.v):Ec Q 187 #[inV x j g] w λe w'=>e=Z (G (Qr (0) x))/\Bw w.heap.size w w':=by
 obtain⟨f,a,b,v,l⟩:=x;simp only at c hv;have d:=Hm (QO f);rw[c]at d;clear c;have k:=XY l;go_enter func187,ntmps187;go_wp2_with fail
 refine(d.o _).mono ?_;rintro e m ⟨rfl,rfl⟩;go_wp2
 all_goals
  go_ret
  refine⟨?_,bFz.alloc lRz _⟩
  first|(simp_all[Qr,Qn];done)|(simp_all[Qr,Qn];intros;omega)
theorem sgood_6 (x:In)(j:Option Ad)(g:Nat)(w:J)(c:Qi (Qa x.op)=6)(hv:0<=x.v):Ec Q 187 #[inV x j g] w λe w'=>e=Z (G (Qr (6) x))/\Bw w.heap.size w w':=by
 obtain⟨f,a,b,v,l⟩:=x;simp only at c hv;have d:=Hm (QO f);rw[c]at d;clear c;have k:=XY l;go_enter func187,ntmps187;go_wp2_with fail
 refine(d.o _).mono ?_;rintro e m ⟨rfl,rfl⟩;go_wp2
 all_goals
  go_ret
  refine⟨?_,bFz.alloc lRz _⟩
  first|(simp_all[Qr,Qn];done)|(simp_all[Qr,Qn];intros;omega)
theorem sgood_1 (x:In)(k:Option Ad)(j:Nat)(w:J)(c:Qi (Qa x.op)=1)(hv:0<=x.v):Ec Q 187 #[inV x k j] w λe w'=>e=Z (G (Qr (1) x))/\Bw w.heap.size w w':=by
 obtain⟨g,a,b,v,l⟩:=x;simp only at c hv;have d:=Hm (QO g);rw[c]at d;clear c;have m:=XY l;have n:=Hm (ty_c a);generalize p:tyB a=ta at *;go_enter func187,ntmps187;go_wp2_with fail
 refine(d.o _).mono ?_;rintro e f ⟨rfl,rfl⟩;go_wp2_with (go_at_call 186;refine(n.o _).mono ?_;rintro e f ⟨rfl,rfl⟩)
 all_goals
  go_ret
  refine⟨?_,bFz.alloc lRz _⟩
  first|(simp_all[Qr,Qn];done)|(simp_all[Qr,Qn];intros;omega)
theorem sgood_2 (x:In)(k:Option Ad)(j:Nat)(w:J)(c:Qi (Qa x.op)=2)(hv:0<=x.v):Ec Q 187 #[inV x k j] w λe w'=>e=Z (G (Qr (2) x))/\Bw w.heap.size w w':=by
 obtain⟨g,a,b,v,l⟩:=x;simp only at c hv;have d:=Hm (QO g);rw[c]at d;clear c;have m:=XY l;have n:=Hm (Ga a);generalize p:Qz a=ta at *;go_enter func187,ntmps187;go_wp2_with fail
 refine(d.o _).mono ?_;rintro e f ⟨rfl,rfl⟩;go_wp2_with (go_at_call 126;refine(n.o _).mono ?_;rintro e f ⟨rfl,rfl⟩)
 all_goals
  go_ret
  refine⟨?_,bFz.alloc lRz _⟩
  first|(simp_all[Qr,Qn];done)|(simp_all[Qr,Qn];intros;omega)
end YtaccbbndmmhenaaGreat
namespace YtaccbbndmmhenaaGreat.Va
open Go.RowKit
def Xo (n:Nat)(i:Int):Bool:=decide (0<=i)&&decide (i<n)
theorem X4 (a:Option Ad)(n c:Nat)(i:Int)(w:J):Ec Q 222 #[S a n c,U O i] w λe w'=>e=Z (G (Xo n i))/\w=w':=by
 go_enter func222,ntmps222;go_wp2
 all_goals
  go_ret
  exact⟨by(first|(simp[Xo];omega)|simp_all[Xo]),rfl⟩
theorem hi_GlobalType (a:Option Ad)(n c:Nat)(i:Int)(w:J):Ec Q 224 #[S a n c,U O i] w λe w'=>e=Z (G (Xo n i))/\w=w':=by
 go_enter func224,ntmps224;go_wp2
 all_goals
  go_ret
  exact⟨by(first|(simp[Xo];omega)|simp_all[Xo]),rfl⟩
theorem hi_validBlock (a:Option Ad)(n c:Nat)(i:Int)(w:J):Ec Q 256 #[S a n c,U O i] w λe w'=>e=Z (G (Xo n i))/\w=w':=by
 go_enter func256,ntmps256;go_wp2
 all_goals
  go_ret
  exact⟨by(first|(simp[Xo];omega)|simp_all[Xo]),rfl⟩
theorem hi_int64 (a:Option Ad)(n c:Nat)(i:Int)(w:J):Ec Q 276 #[S a n c,U O i] w λe w'=>e=Z (G (Xo n i))/\w=w':=by
 go_enter func276,ntmps276;go_wp2
 all_goals
  go_ret
  exact⟨by(first|(simp[Xo];omega)|simp_all[Xo]),rfl⟩
