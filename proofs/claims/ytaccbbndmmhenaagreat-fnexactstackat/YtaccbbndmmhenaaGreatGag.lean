import Derived.Test.YtaccbbndmmhenaaGreatGab
set_option linter.all false
set_option maxHeartbeats 400000000
set_option maxRecDepth 100000
namespace Go.Proofs
open Value renaming bool->G
open Ending renaming returned->Z
open Go renaming World->J,Calls->Ec,Addr->Ad
open Go.RowKit renaming Below->Bw
open Tryz renaming prog->Q
open Tryz
namespace YtaccbbndmmhenaaGreat
open Go.RowKit Go.Sort
theorem sgood_4 (x:In)(k:Option Ad)(j:Nat)(w:J)(c:Qi (Qa x.op)=4)(hv:0<=x.v):Ec Q 187 #[inV x k j] w λe w'=>e=Z (G (Qr (4) x))/\Bw w.heap.size w w':=by
 obtain⟨g,a,b,v,l⟩:=x;simp only at c hv;have d:=Hm (QO g);rw[c]at d;clear c;have m:=XY l;have n:=Hm (Ga a);generalize p:Qz a=ta at *;go_enter func187,ntmps187;go_wp2_with fail
 refine(d.o _).mono ?_;rintro e f ⟨rfl,rfl⟩;go_wp2_with (go_at_call 126;refine(n.o _).mono ?_;rintro e f ⟨rfl,rfl⟩)
 all_goals
  go_ret
  refine⟨?_,bFz.alloc lRz _⟩
  first|(simp_all[Qr,Qn];done)|(simp_all[Qr,Qn];intros;omega)
theorem sgood_5 (x:In)(m:Option Ad)(k:Nat)(w:J)(d:Qi (Qa x.op)=5)(hv:0<=x.v):Ec Q 187 #[inV x m k] w λe w'=>e=Z (G (Qr (5) x))/\Bw w.heap.size w w':=by
 obtain⟨j,a,b,v,l⟩:=x;simp only at d hv;have f:=Hm (QO j);rw[d]at f;clear d;have n:=XY l;have g:=Hm (Ga a);generalize p:Qz a=ta at *;cases ta
 . go_enter func187,ntmps187;(go_wp2_with fail);refine(f.o _).mono ?_;rintro e c ⟨rfl,rfl⟩;go_wp2_with (refine(g.o _).mono ?_;rintro e c ⟨rfl,rfl⟩)
   all_goals
    go_ret
    refine⟨?_,bFz.alloc lRz _⟩
    first|(simp_all[Qr,Qn];done)|(simp_all[Qr,Qn];intros;omega)
 go_enter func187,ntmps187;go_wp2_with fail
 refine(f.o _).mono ?_;rintro e c ⟨rfl,rfl⟩;go_wp2_with (first|(refine(g.o _).mono ?_;rintro e c ⟨rfl,rfl⟩)|(refine(Ga _ _).mono ?_;rintro e c ⟨rfl,rfl⟩))
 all_goals
  go_ret
  refine⟨?_,bFz.alloc lRz _⟩
  first|(simp_all[Qr,Qn];done)|(simp_all[Qr,Qn];intros;omega)
theorem sgood_7 (x:In)(j:Option Ad)(g:Nat)(w:J)(c:Qi (Qa x.op)=7)(hv:0<=x.v):Ec Q 187 #[inV x j g] w λe w'=>e=Z (G (Qr (7) x))/\Bw w.heap.size w w':=by
 obtain⟨f,a,b,v,l⟩:=x;simp only at c hv;have d:=Hm (QO f);rw[c]at d;clear c;have k:=XY l;go_enter func187,ntmps187;go_wp2_with fail
 refine(d.o _).mono ?_;rintro e m ⟨rfl,rfl⟩;go_wp2
 all_goals
  go_ret
  refine⟨?_,bFz.alloc lRz _⟩
  first|(simp_all[Qr,Qn];done)|(simp_all[Qr,Qn];intros;omega)
theorem sgood_9 (x:In)(j:Option Ad)(g:Nat)(w:J)(c:Qi (Qa x.op)=9)(hv:0<=x.v):Ec Q 187 #[inV x j g] w λe w'=>e=Z (G (Qr (9) x))/\Bw w.heap.size w w':=by
 obtain⟨f,a,b,v,l⟩:=x;simp only at c hv;have d:=Hm (QO f);rw[c]at d;clear c;have k:=XY l;go_enter func187,ntmps187;go_wp2_with fail
 refine(d.o _).mono ?_;rintro e m ⟨rfl,rfl⟩;go_wp2
 all_goals
  go_ret
  refine⟨?_,bFz.alloc lRz _⟩
  first|(simp_all[Qr,Qn];done)|(simp_all[Qr,Qn];intros;omega)
theorem sgood_8 (x:In)(j:Option Ad)(g:Nat)(w:J)(c:Qi (Qa x.op)=8)(hv:0<=x.v):Ec Q 187 #[inV x j g] w λe w'=>e=Z (G (Qr (8) x))/\Bw w.heap.size w w':=by
 obtain⟨f,a,b,v,l⟩:=x;simp only at c hv;have d:=Hm (QO f);rw[c]at d;clear c;have k:=XY l;go_enter func187,ntmps187;go_wp2_with fail
 refine(d.o _).mono ?_;rintro e m ⟨rfl,rfl⟩;go_wp2
 all_goals
  go_ret
  refine⟨?_,bFz.alloc lRz _⟩
  first|(simp_all[Qr,Qn];done)|(simp_all[Qr,Qn];intros;omega)
theorem sgood_10 (x:In)(j:Option Ad)(g:Nat)(w:J)(c:Qi (Qa x.op)=10)(hv:0<=x.v):Ec Q 187 #[inV x j g] w λe w'=>e=Z (G (Qr (10) x))/\Bw w.heap.size w w':=by
 obtain⟨f,a,b,v,l⟩:=x;simp only at c hv;have d:=Hm (QO f);rw[c]at d;clear c;have k:=XY l;go_enter func187,ntmps187;go_wp2_with fail
 refine(d.o _).mono ?_;rintro e m ⟨rfl,rfl⟩;go_wp2
 all_goals
  go_ret
  refine⟨?_,bFz.alloc lRz _⟩
  first|(simp_all[Qr,Qn];done)|(simp_all[Qr,Qn];intros;omega)
theorem sgood_m1 (x:In)(j:Option Ad)(g:Nat)(w:J)(c:Qi (Qa x.op)=-1)(hv:0<=x.v):Ec Q 187 #[inV x j g] w λe w'=>e=Z (G (Qr (-1) x))/\Bw w.heap.size w w':=by
 obtain⟨f,a,b,v,l⟩:=x;simp only at c hv;have d:=Hm (QO f);rw[c]at d;clear c;have k:=XY l;go_enter func187,ntmps187;go_wp2_with fail
 refine(d.o _).mono ?_;rintro e m ⟨rfl,rfl⟩;go_wp2
 all_goals
  go_ret
  refine⟨?_,bFz.alloc lRz _⟩
  first|(simp_all[Qr,Qn];done)|(simp_all[Qr,Qn];intros;omega)
