import Derived.Test.YtdbmolambolmgaaGreatRows
import Derived.Test.YtdbmolambolmgaaGreatIc
import Derived.WalkKit
import Derived.ProofKit
import Derived.OpenShut
import Derived.ShutString
import Derived.ChangeOld
import Derived.Below
set_option linter.all false
set_option maxHeartbeats 16000000
set_option maxRecDepth 100000
namespace Go.Proofs.YtdbmolambolmgaaGreat.fnExactEncode
open Go.ChangeShapes Go.WideShapes Go.ChangeAt Go.RowKit
open Go.ChangeMaps (open_string shut_string)
theorem own:ownKnob Tryz.prog.godebug=none:=by kernel_rfl
theorem laidOut:laidOutB Tryz.prog=true:=by kernel_rfl
set_option maxRecDepth 100000 in
theorem walk (v0:Value) (w:World) (h:∃ (x:Mod) (a1:Option Addr) (c1:Nat) (a2:Option Addr) (c2:Nat) (a3:Option Addr) (c3:Nat) (a4:Option Addr) (c4:Nat) (a5:Option Addr) (c5:Nat) (a6:Option Addr) (c6:Nat) (a7:Option Addr) (c7:Nat) (a8:Option Addr) (c8:Nat) (a9:Option Addr) (c9:Nat) (a10:Option Addr) (c10:Nat) (a11:Option Addr) (c11:Nat),v0=.agg #[.slice a1 x.types.length c1,.slice a2 x.imps.length c2,.slice a3 x.funcs.length c3,.slice a4 x.tabs.length c4,.slice a5 x.mems.length c5,.slice a6 x.globs.length c6,.slice a7 x.exps.length c7,.bool x.hasS,.int .i64 x.start,.slice a8 x.elems.length c8,.slice a9 x.codes.length c9,.slice a10 x.datas.length c10,.slice a11 x.customs.length c11]∧Mod.Is 0 w x a1 a2 a3 a4 a5 a6 a7 a8 a9 a10 a11∧Mod.LB 9223372036854775807 x∧x.Pos∧x.Top∧x.Byt) :
    Calls Tryz.prog 4 #[v0] w fun e w'=>e=.returned (.bool true)∧Below w.heap.size w w':=by
 obtain ⟨x,a1,c1,a2,c2,a3,c3,a4,c4,a5,c5,a6,c6,a7,c7,a8,c8,a9,c9,a10,c10,a11,c11,rfl,hi,hl,hp⟩:=h
 exact lawEnc x a1 c1 a2 c2 a3 c3 a4 c4 a5 c5 a6 c6 a7 c7 a8 c8 a9 c9 a10 c10 a11 c11 w hi hl hp.1 hp.2.1 hp.2.2
set_option maxRecDepth 100000 in
theorem open_mod {H:Type} {enc:TypeId × Value→H} {W:World} {r:Reach} {b0:Nat} {v:Value} {d:DataW H} {p:List MemPlace} (hv:Value.okWide Tryz.prog W r b0 33 v) (h:DataW.Trod enc Tryz.prog W 0 (fun _=>true) true 33 v d p) :
    ∃ (x:Mod) (a1:Option Addr) (c1:Nat) (a2:Option Addr) (c2:Nat) (a3:Option Addr) (c3:Nat) (a4:Option Addr) (c4:Nat) (a5:Option Addr) (c5:Nat) (a6:Option Addr) (c6:Nat) (a7:Option Addr) (c7:Nat) (a8:Option Addr) (c8:Nat) (a9:Option Addr) (c9:Nat) (a10:Option Addr) (c10:Nat) (a11:Option Addr) (c11:Nat),v=.agg #[.slice a1 x.types.length c1,.slice a2 x.imps.length c2,.slice a3 x.funcs.length c3,.slice a4 x.tabs.length c4,.slice a5 x.mems.length c5,.slice a6 x.globs.length c6,.slice a7 x.exps.length c7,.bool x.hasS,.int .i64 x.start,.slice a8 x.elems.length c8,.slice a9 x.codes.length c9,.slice a10 x.datas.length c10,.slice a11 x.customs.length c11]∧Mod.Is 0 W x a1 a2 a3 a4 a5 a6 a7 a8 a9 a10 a11∧Mod.LB 9223372036854775807 x∧x.Pos∧x.Top∧x.Byt:=by
 obtain ⟨cs,rfl,hsz⟩:=okWide_struct Tryz.underlying33 hv
 obtain ⟨fuel,hf0⟩:=h
 obtain ⟨x,a1,c1,a2,c2,a3,c3,a4,c4,a5,c5,a6,c6,a7,c7,a8,c8,a9,c9,a10,c10,a11,c11,e,hi,hl,hp⟩:=vl2_Mod hf0
 refine ⟨x,a1,c1,a2,c2,a3,c3,a4,c4,a5,c5,a6,c6,a7,c7,a8,c8,a9,c9,a10,c10,a11,c11,?_,hi,hl,hp⟩
 obtain ⟨cl⟩:=cs
 have e':cl=[.slice a1 x.types.length c1,.slice a2 x.imps.length c2,.slice a3 x.funcs.length c3,.slice a4 x.tabs.length c4,.slice a5 x.mems.length c5,.slice a6 x.globs.length c6,.slice a7 x.exps.length c7,.bool x.hasS,.int .i64 x.start,.slice a8 x.elems.length c8,.slice a9 x.codes.length c9,.slice a10 x.datas.length c10,.slice a11 x.customs.length c11]:=by simpa [Value.cells] using e
 rw [e']
set_option maxRecDepth 100000 in
theorem lifted (os:Os) (started:os.Started) (H:Type) (enc:TypeId × Value→H) :
    ReturnsInHanded {} Tryz.checked os 4 .any (Rows.fnExactEncodeSpec.pre6 enc Tryz.prog Tryz.f4 Rows.fnExactEncodeRow.domain false) (Rows.fnExactEncodeSpec.post enc Tryz.prog Tryz.f4 false true false false):=by
 refine returnsInHanded_of_change (C:=Tryz.checked) own started (by kernel_rfl) Tryz.func4
  (ChangeSpec.witness6 (enc:=enc) (C:=Tryz.checked) false ⟨#[],#[.agg #[.slice none 0 0,.slice none 0 0,.slice none 0 0,.slice none 0 0,.slice none 0 0,.slice none 0 0,.slice none 0 0,.bool false,.int .i64 0,.slice none 0 0,.slice none 0 0,.slice none 0 0,.slice none 0 0]],[]⟩ 8 (by kernel_rfl) (by kernel_rfl) (by kernel_rfl) (by kernel_rfl)) ?_
 intro W base args ds gs before hval0 hW hcnd _
 have hval:∀ (j:Nat) t v,Tryz.f4.params[j]?=some t→args[j]?=some v→Value.okWide Tryz.prog W .any base t v:=hval0
 have hW':=hW
 obtain ⟨p,q,hA0,hV,rfl,hfz,hnd⟩:=hW
 have hA:DataW.TrodAll enc Tryz.prog W 0 (fun _=>true) true Tryz.f4.params.toList args.toList ds p:=hA0
 rw [Tryz.params4] at hA hval
 obtain ⟨v0,vs0,d0,ds0,p0,q0,hargs,rfl,rfl,h0,r0⟩:=trodAll_cons hA
 obtain ⟨rfl,rfl,rfl⟩:=trodAll_nil r0
 obtain rfl:args=#[v0]:=by cases args;simp_all
 obtain ⟨rfl,rfl⟩:=trodVars_none hV
 have k0:=h0
 have lt0:∀ x ∈ p0,x.block<W.heap.size:=by obtain ⟨m,hm⟩:=k0;exact DataW.trod_lt m _ _ _ hm
 have w0:=open_mod (hval 0 33 v0 rfl rfl) h0
 clear hA0 hval0
 refine (walk v0 W w0).mono fun e W' ⟨he,bel⟩=>?_
 subst he
 exact ⟨_,rfl,_,_,_,[],_,[],hW',trodAll_mk1 (shut_bool Tryz.underlying4 _),(trodAll_cons_mk (Below.trod laidOut (by kernel_rfl) (of_decide_eq_true (by kernel_rfl)) k0 bel lt0) trodAll_mk0),rfl,bel.frame _,fun h=>by cases h⟩
theorem jf0:OpenClaim.wf (OpenSpec.ofChange Rows.fnExactEncodeSpec) Rows.fnExactEncodeRow=true:=by kernel_rfl
theorem jf1:laidOutB Tryz.prog=true:=by kernel_rfl
theorem jf2:mapsRowed Tryz.prog=true:=by kernel_rfl
theorem jf3:(Tryz.f4.params.all fun x=>Tryz.prog.readableRec x)=true:=by kernel_rfl
theorem jf4:namedTie Tryz.prog Rows.fnExactEncodeRow.named Rows.fnExactEncodeSpec.vars=true:=by kernel_rfl
theorem jf5:(Rows.fnExactEncodeRow.stops==[])=true:=by kernel_rfl
theorem jf6:(Tryz.prog.stops==[])=true:=by kernel_rfl
theorem jf7:(Rows.fnExactEncodeRow.knobs==[])=true:=by kernel_rfl
theorem jf8:(Tryz.prog.stopKnobs==[])=true:=by kernel_rfl
theorem jf9:(Rows.fnExactEncodeRow.inPlace==Tryz.prog.inPlace 4)=true:=by kernel_rfl
theorem jf10:(Rows.fnExactEncodeRow.unfollowed==Tryz.prog.unfollowed 4)=true:=by kernel_rfl
theorem jf11:(Rows.fnExactEncodeRow.recurses==Tryz.prog.recurses 4)=true:=by kernel_rfl
theorem jf12:(Rows.fnExactEncodeRow.named==Tryz.prog.varsNamed 4)=true:=by kernel_rfl
theorem jf13:(Rows.fnExactEncodeRow.maps==(Tryz.f4.params.toList++DataSpec.varTypes Tryz.prog Rows.fnExactEncodeSpec.plain).any fun x=>Tryz.prog.mapsRec x)=true:=by kernel_rfl
theorem jf14:(Rows.fnExactEncodeRow.ifaces==(Tryz.f4.params.toList++DataSpec.varTypes Tryz.prog Rows.fnExactEncodeSpec.plain).any fun x=>Tryz.prog.ifacesRec x)=true:=by kernel_rfl
theorem jf15:(Rows.fnExactEncodeRow.mapsOut==Tryz.prog.mapsAmong Tryz.f4.resultTypes.toList)=true:=by kernel_rfl
theorem jf16:(Rows.fnExactEncodeRow.loops==(Tryz.f4.params.toList++DataSpec.varTypes Tryz.prog Rows.fnExactEncodeSpec.plain).any fun x=>Tryz.prog.loopsFrom x)=true:=by kernel_rfl
theorem jf17:(Rows.fnExactEncodeRow.wideKeys==(Tryz.f4.params.toList++DataSpec.varTypes Tryz.prog Rows.fnExactEncodeSpec.plain++Tryz.f4.resultTypes.toList).any fun x=>Tryz.prog.wideKeysFrom x)=true:=by kernel_rfl
theorem jf18:(Rows.fnExactEncodeSpec.vars.all fun x=>Tryz.prog.varReadable x)=true:=by kernel_rfl
theorem jf19:(Tryz.f4.resultTypes.all fun t=>Tryz.prog.readableRec t&&decide (t<Tryz.prog.types.size))=true:=by kernel_rfl
theorem jf20:(Rows.fnExactEncodeRow.ifacesOut==Tryz.f4.resultTypes.toList.any fun x=>Tryz.prog.ifacesRec x)=true:=by kernel_rfl
theorem jf21:(Rows.fnExactEncodeRow.loopsOut==Tryz.f4.resultTypes.toList.any fun x=>Tryz.prog.loopsFrom x)=true:=by kernel_rfl
theorem jf22:(Rows.fnExactEncodeRow.plainKeys==Tryz.prog.plainKeys)=true:=by kernel_rfl
theorem jf23:Rows.fnExactEncodeRow.shortTexts.isNone=true:=by kernel_rfl
theorem jf24:Tryz.prog.stopsHeard=true:=by kernel_rfl
theorem jf25:Tryz.prog.mayEnter=true:=by kernel_rfl
theorem jf26:(Rows.fnExactEncodeRow.lifted==Tryz.prog.liftsFinal)=true:=by kernel_rfl
theorem jf27:(Tryz.prog.make==some Rows.fnExactEncodeRow.make)=true:=by kernel_rfl
theorem jf28:(Rows.fnExactEncodeRow.kinds==if Rows.fnExactEncodeRow.domain.isEmpty=true then [] else List.map (fun t=>match Tryz.prog.underlying t with | some (TypeDesc.int k)=>some k | x=>none) Tryz.f4.params.toList)=true:=by kernel_rfl
theorem jf29:(Rows.fnExactEncodeRow.pinned==Rows.fnExactEncodeRow.pinnedBy)=true:=by kernel_rfl
theorem jf30:(Rows.fnExactEncodeRow.veiled==(Tryz.f4.params.toList++DataSpec.varTypes Tryz.prog Rows.fnExactEncodeSpec.plain++Tryz.f4.resultTypes.toList).any fun x=>Tryz.prog.veiledRec x)=true:=by kernel_rfl
theorem jf31:Rows.fnExactEncodeRow.veiledFits Tryz.prog Tryz.f4.params.toList (Tryz.f4.params.toList++DataSpec.varTypes Tryz.prog Rows.fnExactEncodeSpec.plain++Tryz.f4.resultTypes.toList)=true:=by kernel_rfl
set_option maxRecDepth 100000 in
theorem facts:joinedFacts Tryz.prog 4 Tryz.f4 Rows.fnExactEncodeSpec Rows.fnExactEncodeRow=true:=by
 unfold joinedFacts
 simp only [Bool.and_eq_true]
 exact ⟨⟨⟨⟨⟨⟨⟨⟨⟨⟨⟨⟨⟨⟨⟨⟨⟨⟨⟨⟨⟨⟨⟨⟨⟨⟨⟨⟨⟨⟨⟨jf0,jf1⟩,jf2⟩,jf3⟩,jf4⟩,jf5⟩,jf6⟩,jf7⟩,jf8⟩,jf9⟩,jf10⟩,jf11⟩,jf12⟩,jf13⟩,jf14⟩,jf15⟩,jf16⟩,jf17⟩,jf18⟩,jf19⟩,jf20⟩,jf21⟩,jf22⟩,jf23⟩,jf24⟩,jf25⟩,jf26⟩,jf27⟩,jf28⟩,jf29⟩,jf30⟩,jf31⟩
theorem over:Rows.fnExactEncodeRow.holds Tryz.pinned (OpenSpec.ofChange Rows.fnExactEncodeSpec) :=
 OpenClaim.holds_of_wide 4 Tryz.f4 rfl rfl rfl rfl rfl rfl rfl ⟨rfl,rfl,rfl,rfl,rfl⟩ rfl rfl rfl rfl rfl (by kernel_rfl) Tryz.func4 facts
  (of_decide_eq_true (by kernel_rfl)) (by unfold Func.isWrapper;first | (rw [if_pos (by decide +kernel)];kernel_rfl) | (rw [if_neg (by decide +kernel)];exact ⟨rfl,rfl⟩))
  (fun os started H enc _=>lifted os started H enc)
end Go.Proofs.YtdbmolambolmgaaGreat.fnExactEncode
namespace Go.Proofs.YtdbmolambolmgaaGreat
theorem fnExactEncode_holds:Rows.FnExactEncodeSaid:=fnExactEncode.over
#print axioms fnExactEncode_holds
end Go.Proofs.YtdbmolambolmgaaGreat
