import Derived.Test.YtaccbbndmmhenaaGreatDoorRows
import Derived.Test.YtaccbbndmmhenaaGreatDoorCards
import Derived.Test.YtaccbbndmmhenaaGreatDoorTie
import Derived.SevenTiedAt
import Derived.ShutString
import Derived.ChangeOld
import Derived.LaidLaws
import Derived.LaidHandle
import Derived.Stop.Joined
import Derived.ChangeSame
import Derived.ChangeVars
import Derived.JoinedOf
import Derived.Test.YtaccbbndmmhenaaGreatDoorGaz
set_option linter.all false
set_option maxHeartbeats 400000000
set_option maxRecDepth 100000
namespace Go.Proofs
open Value renaming int->U,slice->S,bool->G,pointer->Yp,agg->Ag,iface->If
open IntKind renaming i64->O
open Ending renaming returned->Z
open Go renaming World->J,Calls->Ec,Value->Vu
open Tryz renaming prog->Q
open Tryz
open List renaming range->Ev,length->N
namespace YtaccbbndmmhenaaGreatDoor.fnExactValidate
open Go.ChangeShapes Go.WideShapes Go.ChangeAt Go.RowKit
theorem own:ownKnob Q.godebug=none:=by kernel_rfl
theorem laidOut:laidOutB Q=true:=by kernel_rfl
theorem et:Q.globalNamed "errors.errorType"=some 0:=by kernel_rfl
theorem rt:(Q.cutTypes.find? (·.1== "internal/reflectlite.rtype")).map (·.2)=some 291:=by kernel_rfl
theorem oneRow:((Ev 415).filter λt=>Q.rowNamed t [101,114,114,111,114])=[84]:=by kernel_rfl
theorem size:Q.types.size=415:=by kernel_rfl
abbrev lds:List (String × DataW Unit):=[("errors.errorType",Rows.laid_errors_errorType)]
theorem handle_of_laid {W:J}(h:laidMetH Q lds W):W.cell? ⟨0,0,none⟩=some (Va.RT 84):=by
 have f:laidMet Q [] W/\handlesMet Q lds W:=h;obtain⟨a,u,ty,l,k,j,g,c⟩:=f.2 _ (List.mem_singleton.2 rfl);have en:a=[101,114,114,111,114]:=(Option.some.inj l).symm;subst en;obtain rfl:=Option.some.inj (rt.symm.trans k);have b:ty∈(Ev 415).filter λt=>Q.rowNamed t [101,114,114,111,114]:=List.mem_filter.2 ⟨List.mem_range.2 (by rw[<- size];exact j),g⟩;rw[oneRow]at b;obtain rfl:=List.mem_singleton.1 b;have d:typeHandle Q 84=Yp (some ⟨1,84,none⟩):=by kernel_rfl
 rw[d]at c;simpa using World.var?_cell et c 0
theorem laidWorld_met (os:Os)(args:Array Vu):laidMetH Q lds (((World.holding Q os ⟨#[],#[],[]⟩).setCell ⟨0,0,none⟩ (If 291 (Ag #[Yp (some ⟨1,84,none⟩)]))).forCall (λ_ _=>0) ⟨#[],args,[]⟩).memory :=
 laidMetH_of_parts (laidMet_nil _ _) (by kernel_rfl)
set_option maxRecDepth 100000 in
theorem walk (u:Vu)(w:J)(A:w.cell? ⟨0,0,none⟩=some (Va.RT 84))(h:∃(x:Mod) (p:Option Addr) (c1:Nat) (o:Option Addr) (c2:Nat) (n:Option Addr) (c3:Nat) (m:Option Addr) (c4:Nat) (l:Option Addr) (c5:Nat) (k:Option Addr) (t:Nat) (j:Option Addr) (s:Nat) (g:Option Addr) (r:Nat) (f:Option Addr) (q:Nat) (b:Option Addr) (d:Nat) (a:Option Addr) (c:Nat),u=Ag #[S p (N x.types) c1,S o (N x.imps) c2,S n (N x.funcs) c3,S m (N x.tabs) c4,S l (N x.mems) c5,S k (N x.globs) t,S j (N x.exps) s,G x.hasS,U O x.start,S g (N x.elems) r,S f (N x.codes) q,S b (N x.datas) d,S a (N x.customs) c]/\Mod.Is 0 w x p o n m l k j g f b a/\Mod.LB 9223372036854775807 x/\x.Pos):Ec Q 3 #[u] w λe w'=>e=Z (G true)/\Below w.heap.size w w':=by
 obtain⟨x,p,c1,o,c2,n,c3,m,c4,l,c5,k,t,j,s,g,r,f,q,b,d,a,c,rfl,z,y,v⟩:=h;exact Va.lawV x ⟨p,c1,o,c2,n,c3,m,c4,l,c5,k,t,j,s,g,r,f,q,b,d,a,c⟩ w z y v A
set_option maxRecDepth 100000 in
theorem open_mod {H:Type}{enc:TypeId × Vu->H}{W:J}{r:Reach}{b0:Nat}{v:Vu}{d:DataW H}{p:List MemPlace}(hv:Value.okWide Q W r b0 33 v)(h:DataW.Trod enc Q W 0 (λ_=>true) true 33 v d p):∃(x:Mod) (s:Option Addr) (c1:Nat) (q:Option Addr) (c2:Nat) (o:Option Addr) (c3:Nat) (n:Option Addr) (c4:Nat) (m:Option Addr) (c5:Nat) (l:Option Addr) (z:Nat) (k:Option Addr) (y:Nat) (j:Option Addr) (u:Nat) (g:Option Addr) (t:Nat) (b:Option Addr) (f:Nat) (a:Option Addr) (c:Nat),v=Ag #[S s (N x.types) c1,S q (N x.imps) c2,S o (N x.funcs) c3,S n (N x.tabs) c4,S m (N x.mems) c5,S l (N x.globs) z,S k (N x.exps) y,G x.hasS,U O x.start,S j (N x.elems) u,S g (N x.codes) t,S b (N x.datas) f,S a (N x.customs) c]/\Mod.Is 0 W x s q o n m l k j g b a/\Mod.LB 9223372036854775807 x/\x.Pos:=by
 obtain⟨L,rfl,C⟩:=okWide_struct underlying33 hv;obtain⟨B,A⟩:=h;obtain⟨x,s,c1,q,c2,o,c3,n,c4,m,c5,l,z,k,y,j,u,g,t,b,f,a,c,e,F,E,D⟩:=val_Mod A;refine⟨x,s,c1,q,c2,o,c3,n,c4,m,c5,l,z,k,y,j,u,g,t,b,f,a,c,?_,F,E,D⟩;obtain⟨M⟩:=L;have I:M=[S s (N x.types) c1,S q (N x.imps) c2,S o (N x.funcs) c3,S n (N x.tabs) c4,S m (N x.mems) c5,S l (N x.globs) z,S k (N x.exps) y,G x.hasS,U O x.start,S j (N x.elems) u,S g (N x.codes) t,S b (N x.datas) f,S a (N x.customs) c]:=by simpa[Value.cells]using e
 rw[I]
set_option maxRecDepth 100000 in
theorem lifted (os:Os)(b:os.Started)(H:Type)(enc:TypeId × Vu->H):ReturnsInHanded {} checked os 3 .any (λw a=>(Rows.fnExactValidateSpec.pre enc Q f3 [] false w a/\laidMetH Q lds w)/\sizedMet enc Q f3 (OpenSpec.ofChange Rows.fnExactValidateSpec) false w a) (Rows.fnExactValidateSpec.post enc Q f3 false true false false):=by
 refine returnsInHanded_of_change_and (C:=checked) (X:=λw _=>laidMetH Q lds w) (λ_ _ _ hh h=>h.of_heap hh) own b (by kernel_rfl) func3
  (ChangeSpec.witness_at (enc:=enc) (C:=checked) (os:=os) (X:=λw _=>laidMetH Q lds w) false ((World.holding Q os ⟨#[],#[],[]⟩).setCell ⟨0,0,none⟩ (If 291 (Ag #[Yp (some ⟨1,84,none⟩)]))) #[Ag #[S none 0 0,S none 0 0,S none 0 0,S none 0 0,S none 0 0,S none 0 0,S none 0 0,G false,U O 0,S none 0 0,S none 0 0,S none 0 0,S none 0 0]] 8 rfl (by kernel_rfl) (by kernel_rfl) (by kernel_rfl) (by kernel_rfl) (by kernel_rfl) (laidWorld_met os _)) ?_
 intro W g a ds gs k c y _ _ V _;have M:=handle_of_laid V;have d:∀(j:Nat) t v,f3.params[j]?=some t->a[j]?=some v->Value.okWide Q W .any g t v:=c;have r:=y;obtain⟨p,q,f,s,rfl,R,I⟩:=y;have z:DataW.TrodAll enc Q W 0 (λ_=>true) true f3.params.toList a.toList ds p:=f;rw[params3]at z d;obtain⟨l,D,d0,Y,F,q0,o,rfl,rfl,A,E⟩:=trodAll_cons z;obtain⟨rfl,rfl,rfl⟩:=trodAll_nil E;obtain rfl:a=#[l]:=by cases a;simp_all
 obtain⟨rfl,rfl⟩:=trodVars_none s;have u:=A;have n:∀x∈F,x.block<W.heap.size:=by obtain⟨m,L⟩:=u;exact DataW.trod_lt m _ _ _ L
 have B:=open_mod (d 0 33 l rfl rfl) A;clear f c;refine(walk l W M B).mono λe W' ⟨he,bel⟩=>?_;subst he;exact⟨_,rfl,_,_,_,[],_,[],r,trodAll_mk1 (shut_bool underlying4 _),(trodAll_cons_mk (Below.trod laidOut (by kernel_rfl) (of_decide_eq_true (by kernel_rfl)) u bel n) trodAll_mk0),rfl,bel.frame _,λh=>by cases h⟩
theorem jf0:OpenClaim.wf (OpenSpec.ofChange Rows.fnExactValidateSpec) Rows.fnExactValidateRow=true:=by kernel_rfl
theorem jf1:laidOutB Q=true:=by kernel_rfl
theorem jf2:mapsRowed Q=true:=by kernel_rfl
theorem jf3:(f3.params.all λx=>Q.readableRec x)=true:=by kernel_rfl
theorem jf4:namedTie Q Rows.fnExactValidateRow.named Rows.fnExactValidateSpec.vars=true:=by kernel_rfl
theorem jf5:(Rows.fnExactValidateRow.stops==[])=true:=by kernel_rfl
theorem jf6:(Q.stops==[])=true:=by kernel_rfl
theorem jf7:(Rows.fnExactValidateRow.knobs==[])=true:=by kernel_rfl
theorem jf8:(Q.stopKnobs==[])=true:=by kernel_rfl
theorem jf9:(Rows.fnExactValidateRow.inPlace==Q.inPlace 3)=true:=by kernel_rfl
theorem jf10:(Rows.fnExactValidateRow.unfollowed==Q.unfollowed 3)=true:=by kernel_rfl
theorem jf11:(Rows.fnExactValidateRow.recurses==Q.recurses 3)=true:=by kernel_rfl
theorem jf12:(Rows.fnExactValidateRow.named==Q.varsNamed 3)=true:=by kernel_rfl
theorem jf13:(Rows.fnExactValidateRow.maps==(f3.params.toList++DataSpec.varTypes Q Rows.fnExactValidateSpec.plain).any λx=>Q.mapsRec x)=true:=by kernel_rfl
theorem jf14:(Rows.fnExactValidateRow.ifaces==(f3.params.toList++DataSpec.varTypes Q Rows.fnExactValidateSpec.plain).any λx=>Q.ifacesRec x)=true:=by kernel_rfl
theorem jf15:(Rows.fnExactValidateRow.mapsOut==Q.mapsAmong f3.resultTypes.toList)=true:=by kernel_rfl
theorem jf16:(Rows.fnExactValidateRow.loops==(f3.params.toList++DataSpec.varTypes Q Rows.fnExactValidateSpec.plain).any λx=>Q.loopsFrom x)=true:=by kernel_rfl
theorem jf17:(Rows.fnExactValidateRow.wideKeys==(f3.params.toList++DataSpec.varTypes Q Rows.fnExactValidateSpec.plain++f3.resultTypes.toList).any λx=>Q.wideKeysFrom x)=true:=by kernel_rfl
theorem jf18:(Rows.fnExactValidateSpec.vars.all λx=>Q.varReadable x)=true:=by kernel_rfl
theorem jf19:(f3.resultTypes.all λt=>Q.readableRec t&&decide (t<Q.types.size))=true:=by kernel_rfl
theorem jf20:(Rows.fnExactValidateRow.ifacesOut==f3.resultTypes.toList.any λx=>Q.ifacesRec x)=true:=by kernel_rfl
theorem jf21:(Rows.fnExactValidateRow.loopsOut==f3.resultTypes.toList.any λx=>Q.loopsFrom x)=true:=by kernel_rfl
theorem jf22:(Rows.fnExactValidateRow.plainKeys==Q.plainKeys)=true:=by kernel_rfl
theorem jf23:Rows.fnExactValidateRow.shortTexts.isNone=true:=by kernel_rfl
theorem jf24:Q.stopsHeard=true:=by kernel_rfl
theorem jf25:Q.mayEnter=true:=by kernel_rfl
theorem jf26:(Rows.fnExactValidateRow.lifted==Q.liftsFinal)=true:=by kernel_rfl
theorem jf27:(Q.make==some Rows.fnExactValidateRow.make)=true:=by kernel_rfl
theorem jf28:(Rows.fnExactValidateRow.kinds==if Rows.fnExactValidateRow.domain.isEmpty=true then []else List.map (λt=>match Q.underlying t with|some (TypeDesc.int k)=>some k|x=>none) f3.params.toList)=true:=by kernel_rfl
theorem jf29:(Rows.fnExactValidateRow.pinned==Rows.fnExactValidateRow.pinnedBy)=true:=by kernel_rfl
theorem jf30:(Rows.fnExactValidateRow.veiled==(f3.params.toList++DataSpec.varTypes Q Rows.fnExactValidateSpec.plain++f3.resultTypes.toList).any λx=>Q.veiledRec x)=true:=by kernel_rfl
theorem jf31:Rows.fnExactValidateRow.veiledFits Q f3.params.toList (f3.params.toList++DataSpec.varTypes Q Rows.fnExactValidateSpec.plain++f3.resultTypes.toList)=true:=by kernel_rfl
set_option maxRecDepth 100000 in
theorem facts:joinedFacts Q 3 f3 Rows.fnExactValidateSpec Rows.fnExactValidateRow=true:=by
 unfold joinedFacts;simp only[Bool.and_eq_true];exact⟨⟨⟨⟨⟨⟨⟨⟨⟨⟨⟨⟨⟨⟨⟨⟨⟨⟨⟨⟨⟨⟨⟨⟨⟨⟨⟨⟨⟨⟨⟨jf0,jf1⟩,jf2⟩,jf3⟩,jf4⟩,jf5⟩,jf6⟩,jf7⟩,jf8⟩,jf9⟩,jf10⟩,jf11⟩,jf12⟩,jf13⟩,jf14⟩,jf15⟩,jf16⟩,jf17⟩,jf18⟩,jf19⟩,jf20⟩,jf21⟩,jf22⟩,jf23⟩,jf24⟩,jf25⟩,jf26⟩,jf27⟩,jf28⟩,jf29⟩,jf30⟩,jf31⟩
theorem over:Rows.fnExactValidateRow.holds Tryz.pinned (OpenSpec.ofChange Rows.fnExactValidateSpec) :=
 OpenClaim.holds_of_wide 3 f3 rfl rfl rfl rfl rfl rfl rfl ⟨rfl,rfl,rfl,rfl,rfl⟩ rfl rfl rfl rfl rfl (by kernel_rfl) func3 facts
  (of_decide_eq_true (by kernel_rfl)) (by unfold Func.isWrapper;first|(rw[if_pos (by decide +kernel)];kernel_rfl)|(rw[if_neg (by decide +kernel)];exact⟨rfl,rfl⟩))
  (λos started H enc _=>lifted os started H enc)
theorem card:Rows.FnExactValidateCardSaid :=
 Claim7.holds_tied_plain_at .later [] [.handle] true (true,"b1781ff4256910e6cd02022598af9265177f583aa5d1ffd547380c015a55f913") true
  over (λ_ h=>by cases h) (by kernel_rfl) (λ_ h=>by cases h) fnExactValidate_row_tie rfl ⟨rfl,rfl⟩ (by kernel_rfl) rfl
  (fun f fn hf hfn=>by
   obtain rfl:f=3:=Option.some.inj ((show Q.funcNamed "loop.example/s00119/laws.FnExactValidate"=some 3 by kernel_rfl).symm.trans hf) |>.symm
   obtain rfl:fn=f3:=(Option.some.inj (func3.symm.trans hfn)).symm
   exact⟨by kernel_rfl,fun j t ht=>by
    rw[params3]at ht;have b:t∈[33]:=by simpa using Array.mem_of_getElem? ht
    have a:([33].all λu=>!Q.wantsStandIn u)=true:=by kernel_rfl
    exact(show Q.wantsStandIn t=false by simpa using List.all_eq_true.1 a t b)⟩)
  (by kernel_rfl)
end YtaccbbndmmhenaaGreatDoor.fnExactValidate
namespace YtaccbbndmmhenaaGreatDoor
theorem fnExactValidate_holds:Rows.FnExactValidateCardSaid:=fnExactValidate.card
#print axioms fnExactValidate_holds
