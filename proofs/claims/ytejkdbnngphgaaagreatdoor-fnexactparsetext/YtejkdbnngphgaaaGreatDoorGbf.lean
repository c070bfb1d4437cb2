import Derived.Test.YtejkdbnngphgaaaGreatDoorGav
set_option linter.all false
set_option maxHeartbeats 400000000
set_option maxRecDepth 100000
namespace Go.Proofs
open Value renaming int->U,slice->S,bool->G,agg->Ag
open IntKind renaming i64->O
open Ending renaming returned->Z
open Obj renaming cells->Fc
open Go renaming World->J,Calls->Ec,Addr->Ad
open Go.RowKit renaming Below->Bw
open Tryz renaming prog->Q
open Tryz
open List renaming length->N
namespace YtejkdbnngphgaaaGreatDoor.Ms
open Go.RowKit Go.Sort
theorem markT_c (at_:Int)(m)(E:Option Ad)(q:Nat)(D:Option Ad)(p:Nat)(C:Option Ad)(n:Nat)(A:Option Ad)(l:Nat)(z:Option Ad)(k:Nat)(y:Option Ad)(j:Nat)(v:Option Ad)(g:Nat)(u:Option Ad)(f:Nat)(t:Option Ad)(d:Nat)(s:Option Ad)(c:Nat)(b:Option Ad)(a:Nat)(r:Int)(R){B w0 rs w}(hx:MX m (S E (N m.types) q) (S D (N m.cj) p) (S C (N m.jv) n) (S A (N m.fk) l) (S z (N m.jj) k) (S y (N m.fq) j) (S v (N m.fj) g) (S u (N m.fw) f) (S t (N m.gq) d) (S s (N m.gj) c) (S b (N m.gx) a) rs R)(h:Mo B w0 R w)(hl:LnM m)(L:0<=r)(h1:r+szM m<=1000000000):Ec Q 10 #[Ag #[U O at_,S E (N m.types) q,S D (N m.cj) p,S C (N m.jv) n,S A (N m.fk) l,S z (N m.jj) k,S y (N m.fq) j,S v (N m.fj) g,G m.gk,U O m.start,S u (N m.fw) f,S t (N m.gq) d,S s (N m.gj) c,S b (N m.gx) a],U O r] w (MmP m (S E (N m.types) q) (S D (N m.cj) p) (S C (N m.jv) n) (S A (N m.fk) l) (S z (N m.jj) k) (S y (N m.fq) j) (S v (N m.fj) g) (S u (N m.fw) f) (S t (N m.gq) d) (S s (N m.gj) c) (S b (N m.gx) a) r B w0 rs):=by
 have H:Bw w.heap.size w (w.alloc (Fc #[U O at_,S E (N m.types) q,S D (N m.cj) p,S C (N m.jv) n,S A (N m.fk) l,S z (N m.jj) k,S y (N m.fq) j,S v (N m.fj) g,G m.gk,U O m.start,S u (N m.fw) f,S t (N m.gq) d,S s (N m.gj) c,S b (N m.gx) a] 36)):=bFz.alloc lRz _;have I:=Hm (markM_c m E q D p C n A l z k y j v g u f t d s c b a r R hx (h.keep H) hl L h1);clear h hx hl H;go_enter func10,ntmps10;go_wp2_with fail
 refine I.o.mono ?_;rintro e V ⟨M,rfl,hx,F⟩;have X:=Hm hx;have Y:=Hm F;clear hx F I;go_wp2_with fail
 go_ret;exact⟨M,rfl,X.o,Y.o⟩
theorem heldT_c (at_:Int)(m:Mod)(H:Option Ad)(t:Nat)(F:Option Ad)(s:Nat)(E:Option Ad)(q:Nat)(D:Option Ad)(p:Nat)(C:Option Ad)(n:Nat)(A:Option Ad)(l:Nat)(z:Option Ad)(k:Nat)(y:Option Ad)(j:Nat)(v:Option Ad)(g:Nat)(u:Option Ad)(f:Nat)(b:Option Ad)(a:Nat)(c:Int)(rs R)(B:Nat)(w:J)(hx:MX (mkM c m) (S H (N m.types) t) (S F (N m.cj) s) (S E (N m.jv) q) (S D (N m.fk) p) (S C (N m.jj) n) (S A (N m.fq) l) (S z (N m.fj) k) (S y (N m.fw) j) (S v (N m.gq) g) (S u (N m.gj) f) (S b (N m.gx) a) rs R)(h:∀r∈R,r.Ok B w)(hl:LnM m)(X:0<=c)(h1:c+szM m<=1000000000):Ec Q 11 #[Ag #[U O at_,S H (N m.types) t,S F (N m.cj) s,S E (N m.jv) q,S D (N m.fk) p,S C (N m.jj) n,S A (N m.fq) l,S z (N m.fj) k,G m.gk,U O m.start,S y (N m.fw) j,S v (N m.gq) g,S u (N m.gj) f,S b (N m.gx) a],U O c] w λe w'=>e=Z (U O (c+(szM m:Nat)))/\Bw w.heap.size w w':=by
 have d:Bw w.heap.size w (w.alloc (Fc #[U O at_,S H (N m.types) t,S F (N m.cj) s,S E (N m.jv) q,S D (N m.fk) p,S C (N m.jj) n,S A (N m.fq) l,S z (N m.fj) k,G m.gk,U O m.start,S y (N m.fw) j,S v (N m.gq) g,S u (N m.gj) f,S b (N m.gx) a] 36)):=bFz.alloc lRz _;have M:=Hm (heldM_c m H t F s E q D p C n A l z k y j v g u f b a c rs R B _ hx (λr hr=>Qb.Ok.below (h r hr) d) hl X h1);have L:=Hm d;clear h hx hl d;have Y:¬c+((szM m:Nat):Int)<0:=by omega
 go_enter func11,ntmps11;go_wp2_with fail
 refine M.o.mono ?_;rintro e V ⟨rfl,d⟩;have I:=Hm (L.o.trans (d.mono L.o.size));clear d M L;go_wp2_with fail
 go_ret;exact⟨rfl,I.o⟩
