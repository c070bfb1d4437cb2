import Derived.Test.YtipfjdogokanbaaGreatDoorGaa
import Derived.Test.YtipfjdogokanbaaGreatDoorRows
import Derived.Test.YtipfjdogokanbaaGreatDoorCards
import Derived.Test.YtipfjdogokanbaaGreatDoorTie
import Derived.Test.YtipfjdogokanbaaGreatDoorGal
import Derived.Test.YtipfjdogokanbaaGreatDoorGca
import Derived.Test.YtipfjdogokanbaaGreatDoorGam
import Derived.SevenTiedAt
import Derived.WalkKit
import Derived.ProofKit
import Derived.OpenShut
import Derived.ShutString
import Derived.ChangeOld
import Derived.Below
set_option linter.all false
set_option maxHeartbeats 400000000
set_option maxRecDepth 100000
set_option linter.all false
namespace Go.Proofs.YtipfjdogokanbaaGreatDoor.fnIns
open Go.ChangeShapes Go.WideShapes Go.ChangeAt Go.RowKit
open Go.ChangeMaps (open_string shut_string)
theorem own:ownKnob Tryz.prog.godebug=none:=by kernel_rfl
theorem laidOut:laidOutB Tryz.prog=true:=by kernel_rfl
def IsRow (k:IntKind)(w:World)(a:Option Addr)(len cap:Nat)(zs:List Int):Prop :=
 (a=none/\len=0/\cap=0/\zs=[]) \/
 ∃ x,a=some x/\len<=cap/\cap<=maxLen/\zs.length=cap/\(∀ i,i<zs.length->w.cell? (x.add i)=some (.int k (zs.getD i 0)))/\∀ n ∈ zs,(Lit.int k n).wf=true
theorem walk (a0:Option Addr)(Xs cap0:Nat)(z0:List Int)(a1:Option Addr)(len1 cap1:Nat)(z1:List Int)(w:World)(hV:Yz.Vs w.heap.size w)(w0:IsRow .u8 w a0 Xs cap0 z0)(w1:IsRow .u8 w a1 len1 cap1 z1) :
    Calls Tryz.prog 3 #[.slice a0 Xs cap0,.slice a1 len1 cap1] w λe w'=>e=.returned (.bool true)/\Below w.heap.size w w':=by
 obtain ⟨xs,rfl,hm,hh,hB⟩:=L3.row_has w0;obtain ⟨ys,rfl,hm1,hh1,hB1⟩:=L3.row_has w1
 exact An.law_ins a0 a1 cap0 cap1 xs ys w hB hB1 hh hh1 hV
set_option maxRecDepth 100000 in
theorem lifted (os:Os)(started:os.Started)(H:Type)(enc:TypeId × Value->H) :
    ReturnsInHanded {} Tryz.checked os 3 .any (λw args=>(Rows.fnInsSpec.pre enc Tryz.prog Tryz.f3 [] false w args/\laidMetH Tryz.prog lds w)/\sizedMet enc Tryz.prog Tryz.f3 (OpenSpec.ofChange Rows.fnInsSpec) false w args) (Rows.fnInsSpec.post enc Tryz.prog Tryz.f3 false true false false):=by
 refine returnsInHanded_of_change_and (C:=Tryz.checked) (X:=λw _=>laidMetH Tryz.prog lds w) (λ_ _ _ hh h=>h.of_heap hh) own started (by kernel_rfl) Tryz.func3
  (ChangeSpec.witness_shaped (enc:=enc) (C:=Tryz.checked) (os:=os) (X:=λw _=>laidMetH Tryz.prog lds w) false (World.doorLaid Tryz.prog 400 os) #[.slice none 0 0,.slice none 0 0] 8 rfl (World.shaped_of_RefB (by kernel_rfl) (by kernel_rfl)) (by kernel_rfl) (by kernel_rfl) (by kernel_rfl) (door_met os _)) ?_
 intro W base args ds gs before hval0 hW _ _ hL _
 have hV:=of_laid hL;have hval:∀ (j:Nat) t v,Tryz.f3.params[j]?=some t->args[j]?=some v->Value.okWide Tryz.prog W .any base t v:=hval0;have hW':=hW;obtain ⟨p,q,hA0,hVr,rfl,hfz,hnd⟩:=hW;have hA:DataW.TrodAll enc Tryz.prog W 0 (λ_=>true) true Tryz.f3.params.toList args.toList ds p:=hA0;rw [Tryz.params3] at hA hval;obtain ⟨v0,vs0,d0,ds0,p0,q0,hargs,rfl,rfl,h0,r0⟩:=trodAll_cons hA;obtain ⟨v1,vs1,d1,ds1,p1,q1,rfl,rfl,rfl,h1,r1⟩:=trodAll_cons r0;obtain ⟨rfl,rfl,rfl⟩:=trodAll_nil r1;obtain rfl:args=#[v0,v1]:=by cases args;simp_all
 obtain ⟨rfl,rfl⟩:=trodVars_none hVr;obtain ⟨a0,Xs,cap0,rfl⟩:=okWide_slice Tryz.underlying22 (hval 0 22 v0 rfl rfl);have k0:=h0;have lt0:∀ x ∈ p0,x.block<W.heap.size:=by obtain ⟨m,hm⟩:=k0;exact DataW.trod_lt m _ _ _ hm
 obtain ⟨z0,w0⟩:∃ zs,IsRow .u8 W a0 Xs cap0 zs:=by
  obtain ⟨fuel,hf⟩:=h0
  rcases open_ints Tryz.underlying22 Tryz.underlying5 (by kernel_rfl) hf with ⟨hcs,_⟩|⟨x,l,c,zs,hcs,_,hl,hm,hz,_,hcell,hwz⟩
  . simp [Value.cells] at hcs
    obtain ⟨rfl,rfl,rfl⟩:=hcs
    exact ⟨[],.inl ⟨rfl,rfl,rfl,rfl⟩⟩
  . simp [Value.cells] at hcs
    obtain ⟨rfl,rfl,rfl⟩:=hcs
    exact ⟨zs,.inr ⟨_,rfl,hl,hm,by simpa using hz,hcell,hwz⟩⟩
 obtain ⟨a1,len1,cap1,rfl⟩:=okWide_slice Tryz.underlying22 (hval 1 22 v1 rfl rfl);have k1:=h1;have lt1:∀ x ∈ p1,x.block<W.heap.size:=by obtain ⟨m,hm⟩:=k1;exact DataW.trod_lt m _ _ _ hm
 obtain ⟨z1,w1⟩:∃ zs,IsRow .u8 W a1 len1 cap1 zs:=by
  obtain ⟨fuel,hf⟩:=h1
  rcases open_ints Tryz.underlying22 Tryz.underlying5 (by kernel_rfl) hf with ⟨hcs,_⟩|⟨x,l,c,zs,hcs,_,hl,hm,hz,_,hcell,hwz⟩
  . simp [Value.cells] at hcs
    obtain ⟨rfl,rfl,rfl⟩:=hcs
    exact ⟨[],.inl ⟨rfl,rfl,rfl,rfl⟩⟩
  . simp [Value.cells] at hcs
    obtain ⟨rfl,rfl,rfl⟩:=hcs
    exact ⟨zs,.inr ⟨_,rfl,hl,hm,by simpa using hz,hcell,hwz⟩⟩
 clear hA0 hval0
 refine (walk a0 Xs cap0 z0 a1 len1 cap1 z1 W hV w0 w1).mono λe W' ⟨he,bel⟩=>?_
 subst he
 exact ⟨_,rfl,_,_,_,[],_,[],hW',trodAll_mk1 (shut_bool Tryz.underlying4 _),(trodAll_cons_mk (Below.trod laidOut (by kernel_rfl) (of_decide_eq_true (by kernel_rfl)) k0 bel lt0) (trodAll_cons_mk (Below.trod laidOut (by kernel_rfl) (of_decide_eq_true (by kernel_rfl)) k1 bel lt1) trodAll_mk0)),rfl,bel.frame _,λh=>by cases h⟩
theorem jf0:OpenClaim.wf (OpenSpec.ofChange Rows.fnInsSpec) Rows.fnInsRow=true:=by kernel_rfl
theorem jf1:laidOutB Tryz.prog=true:=by kernel_rfl
theorem jf2:mapsRowed Tryz.prog=true:=by kernel_rfl
theorem jf3:(Tryz.f3.params.all λx=>Tryz.prog.readableRec x)=true:=by kernel_rfl
theorem jf4:namedTie Tryz.prog Rows.fnInsRow.named Rows.fnInsSpec.vars=true:=by kernel_rfl
theorem jf5:(Rows.fnInsRow.stops==[])=true:=by kernel_rfl
theorem jf6:(Tryz.prog.stops==[])=true:=by kernel_rfl
theorem jf7:(Rows.fnInsRow.knobs==[])=true:=by kernel_rfl
theorem jf8:(Tryz.prog.stopKnobs==[])=true:=by kernel_rfl
theorem jf9:(Rows.fnInsRow.inPlace==Tryz.prog.inPlace 3)=true:=by kernel_rfl
theorem jf10:(Rows.fnInsRow.unfollowed==Tryz.prog.unfollowed 3)=true:=by kernel_rfl
theorem jf11:(Rows.fnInsRow.recurses==Tryz.prog.recurses 3)=true:=by kernel_rfl
theorem jf12:(Rows.fnInsRow.named==Tryz.prog.varsNamed 3)=true:=by kernel_rfl
theorem jf13:(Rows.fnInsRow.maps==(Tryz.f3.params.toList++DataSpec.varTypes Tryz.prog Rows.fnInsSpec.plain).any λx=>Tryz.prog.mapsRec x)=true:=by kernel_rfl
theorem jf14:(Rows.fnInsRow.ifaces==(Tryz.f3.params.toList++DataSpec.varTypes Tryz.prog Rows.fnInsSpec.plain).any λx=>Tryz.prog.ifacesRec x)=true:=by kernel_rfl
theorem jf15:(Rows.fnInsRow.mapsOut==Tryz.prog.mapsAmong Tryz.f3.resultTypes.toList)=true:=by kernel_rfl
theorem jf16:(Rows.fnInsRow.loops==(Tryz.f3.params.toList++DataSpec.varTypes Tryz.prog Rows.fnInsSpec.plain).any λx=>Tryz.prog.loopsFrom x)=true:=by kernel_rfl
theorem jf17:(Rows.fnInsRow.wideKeys==(Tryz.f3.params.toList++DataSpec.varTypes Tryz.prog Rows.fnInsSpec.plain++Tryz.f3.resultTypes.toList).any λx=>Tryz.prog.wideKeysFrom x)=true:=by kernel_rfl
theorem jf18:(Rows.fnInsSpec.vars.all λx=>Tryz.prog.varReadable x)=true:=by kernel_rfl
theorem jf19:(Tryz.f3.resultTypes.all λt=>Tryz.prog.readableRec t&&decide (t<Tryz.prog.types.size))=true:=by kernel_rfl
theorem jf20:(Rows.fnInsRow.ifacesOut==Tryz.f3.resultTypes.toList.any λx=>Tryz.prog.ifacesRec x)=true:=by kernel_rfl
theorem jf21:(Rows.fnInsRow.loopsOut==Tryz.f3.resultTypes.toList.any λx=>Tryz.prog.loopsFrom x)=true:=by kernel_rfl
theorem jf22:(Rows.fnInsRow.plainKeys==Tryz.prog.plainKeys)=true:=by kernel_rfl
theorem jf23:Rows.fnInsRow.shortTexts.isNone=true:=by kernel_rfl
theorem jf24:Tryz.prog.stopsHeard=true:=by kernel_rfl
theorem jf25:Tryz.prog.mayEnter=true:=by kernel_rfl
theorem jf26:(Rows.fnInsRow.lifted==Tryz.prog.liftsFinal)=true:=by kernel_rfl
theorem jf27:(Tryz.prog.make==some Rows.fnInsRow.make)=true:=by kernel_rfl
theorem jf28:(Rows.fnInsRow.kinds==if Rows.fnInsRow.domain.isEmpty=true then [] else List.map (λt=>match Tryz.prog.underlying t with|some (TypeDesc.int k)=>some k|x=>none) Tryz.f3.params.toList)=true:=by kernel_rfl
theorem jf29:(Rows.fnInsRow.pinned==Rows.fnInsRow.pinnedBy)=true:=by kernel_rfl
theorem jf30:(Rows.fnInsRow.veiled==(Tryz.f3.params.toList++DataSpec.varTypes Tryz.prog Rows.fnInsSpec.plain++Tryz.f3.resultTypes.toList).any λx=>Tryz.prog.veiledRec x)=true:=by kernel_rfl
theorem jf31:Rows.fnInsRow.veiledFits Tryz.prog Tryz.f3.params.toList (Tryz.f3.params.toList++DataSpec.varTypes Tryz.prog Rows.fnInsSpec.plain++Tryz.f3.resultTypes.toList)=true:=by kernel_rfl
set_option maxRecDepth 100000 in
theorem facts:joinedFacts Tryz.prog 3 Tryz.f3 Rows.fnInsSpec Rows.fnInsRow=true:=by
 unfold joinedFacts
 simp only [Bool.and_eq_true]
 exact ⟨⟨⟨⟨⟨⟨⟨⟨⟨⟨⟨⟨⟨⟨⟨⟨⟨⟨⟨⟨⟨⟨⟨⟨⟨⟨⟨⟨⟨⟨⟨jf0,jf1⟩,jf2⟩,jf3⟩,jf4⟩,jf5⟩,jf6⟩,jf7⟩,jf8⟩,jf9⟩,jf10⟩,jf11⟩,jf12⟩,jf13⟩,jf14⟩,jf15⟩,jf16⟩,jf17⟩,jf18⟩,jf19⟩,jf20⟩,jf21⟩,jf22⟩,jf23⟩,jf24⟩,jf25⟩,jf26⟩,jf27⟩,jf28⟩,jf29⟩,jf30⟩,jf31⟩
theorem over:Rows.fnInsRow.holds Tryz.pinned (OpenSpec.ofChange Rows.fnInsSpec) :=
 OpenClaim.holds_of_wide 3 Tryz.f3 rfl rfl rfl rfl rfl rfl rfl ⟨rfl,rfl,rfl,rfl,rfl⟩ rfl rfl rfl rfl rfl (by kernel_rfl) Tryz.func3 facts
  (of_decide_eq_true (by kernel_rfl)) (by unfold Func.isWrapper;first|(rw [if_pos (by decide +kernel)];kernel_rfl)|(rw [if_neg (by decide +kernel)];exact ⟨rfl,rfl⟩))
  (λos started H enc _=>lifted os started H enc)
theorem card:Rows.FnInsCardSaid :=
 Claim7.holds_tied_plain_at .later [] [.data,.data,.data,.sentinel,.sentinel] true (true,"f30d512fdea3b0d0d1c967327b8199e081612c1160605be71da6e66b6fe78092") true
  over (λ_ h=>by cases h) (by kernel_rfl) (λ_ h=>by cases h) fnIns_row_tie rfl ⟨rfl,rfl⟩ (by kernel_rfl) rfl
  (fun f fn hf hfn=>by
   obtain rfl:f=3:=Option.some.inj ((show Tryz.prog.funcNamed "loop.example/s00119/laws.FnIns"=some 3 by kernel_rfl).symm.trans hf) |>.symm
   obtain rfl:fn=Tryz.f3:=(Option.some.inj (Tryz.func3.symm.trans hfn)).symm
   exact ⟨by kernel_rfl,fun j t ht=>by
    rw [Tryz.params3] at ht;have hm:t ∈ [22,22]:=by simpa using Array.mem_of_getElem? ht
    have hall:([22,22].all λu=>!Tryz.prog.wantsStandIn u)=true:=by kernel_rfl
    exact (show Tryz.prog.wantsStandIn t=false by simpa using List.all_eq_true.1 hall t hm)⟩)
  (by kernel_rfl)
end Go.Proofs.YtipfjdogokanbaaGreatDoor.fnIns
namespace Go.Proofs.YtipfjdogokanbaaGreatDoor
theorem fnIns_holds:Rows.FnInsCardSaid:=fnIns.card
#print axioms fnIns_holds
end Go.Proofs.YtipfjdogokanbaaGreatDoor
