import Derived.Test.YtedcmcdbejjgcaaGreatGaa
import Derived.Test.YtedcmcdbejjgcaaGreatRows
import Derived.Test.YtedcmcdbejjgcaaGreatGcd
import Derived.WalkKit
import Derived.ProofKit
import Derived.OpenShut
import Derived.ShutString
import Derived.ChangeOld
import Derived.Below
set_option linter.all false
set_option maxHeartbeats 400000000
set_option maxRecDepth 100000
namespace Go.Proofs.YtedcmcdbejjgcaaGreat.By
open Go.RowKit
theorem row_has {w:World}{a:Option Addr}{len cap:Nat}{c:List Int}
    (h:(a=none/\len=0/\cap=0/\c=[])\/∃ x,a=some x/\len<=cap/\cap<=maxLen/\c.length=cap/\(∀ i,i<c.length->w.cell? (x.add i)=some (.int .u8 (c.getD i 0)))/\∀ n ∈ c,(Lit.int .u8 n).wf=true) :
    ∃ xs:List Int,xs.length=len/\len<=maxLen/\Has w a xs/\Qm xs:=by
 rcases h with ⟨rfl,rfl,rfl,rfl⟩|⟨x,rfl,o,p,t,k,l⟩
 . exact ⟨[],rfl,Nat.zero_le _,.inl rfl,λi=>by simp⟩
 . refine ⟨c.take len,by simp;omega,by omega,?_,?_⟩
   . by_cases h0:len=0
     . subst h0;exact .inl (by simp)
     . obtain ⟨b,off,f⟩:=x;have s:=k 0 (by omega);have d:f=none:=by simpa [Addr.add] using World.cell?_spot s
       subst d
       refine .inr ⟨b,off,rfl,λi g=>?_⟩
       have j:i<len:=by simp at g;omega
       have r:=k i (by omega);have e:(c.take len).getD i 0=c.getD i 0:=by simp [List.getD,j]
       rw [e]
       rwa [Addr.add_lit] at r
   . intro i
     by_cases g:i<(c.take len).length
     . have m:(c.take len)[i] ∈ c:=List.mem_of_mem_take (List.getElem_mem g);have q:=bounds_u8 (l _ m)
       simpa [List.getD,List.getElem?_eq_getElem g] using q
     . rw [List.getD_eq_getElem?_getD,List.getElem?_eq_none (by omega)]
       simp
end Go.Proofs.YtedcmcdbejjgcaaGreat.By
namespace Go.Proofs.YtedcmcdbejjgcaaGreat.fnExactDecode
open Go.ChangeShapes Go.WideShapes Go.ChangeAt Go.RowKit
open Go.ChangeMaps (open_string shut_string)
theorem own:ownKnob Tryz.prog.godebug=none:=by kernel_rfl
theorem laidOut:laidOutB Tryz.prog=true:=by kernel_rfl
def IsRow (k:IntKind)(w:World)(a:Option Addr)(len cap:Nat)(zs:List Int):Prop :=
 (a=none/\len=0/\cap=0/\zs=[]) \/
 ∃ x,a=some x/\len<=cap/\cap<=maxLen/\zs.length=cap/\(∀ i,i<zs.length->w.cell? (x.add i)=some (.int k (zs.getD i 0)))/\∀ n ∈ zs,(Lit.int k n).wf=true
theorem walk (a0:Option Addr)(len0 a:Nat)(b:List Int)(w:World)(d:IsRow .u8 w a0 len0 a b) :
    Calls Tryz.prog 3 #[.slice a0 len0 a] w λe w'=>e=.returned (.bool true)/\Below w.heap.size w w':=by
 obtain ⟨c,rfl,f,g,hB⟩:=By.row_has d
 exact Ms.lawD a0 a c w f g hB
set_option maxRecDepth 100000 in
theorem lifted (D:Os)(b:D.Started)(H:Type)(enc:TypeId × Value->H) :
    ReturnsInHanded {} Tryz.checked D 3 .any (Rows.fnExactDecodeSpec.pre6 enc Tryz.prog Tryz.f3 Rows.fnExactDecodeRow.domain false) (Rows.fnExactDecodeSpec.post enc Tryz.prog Tryz.f3 false true false false):=by
 refine returnsInHanded_of_change (C:=Tryz.checked) own b (by kernel_rfl) Tryz.func3
  (ChangeSpec.witness6 (enc:=enc) (C:=Tryz.checked) false ⟨#[],#[.slice none 0 0],[]⟩ 8 (by kernel_rfl) (by kernel_rfl) (by kernel_rfl) (by kernel_rfl)) ?_
 intro W base a ds gs r d G F _
 have g:∀ (j:Nat) t v,Tryz.f3.params[j]?=some t->a[j]?=some v->Value.okWide Tryz.prog W .any base t v:=d;have B:=G;obtain ⟨p,q,o,hV,rfl,Z,X⟩:=G;have I:DataW.TrodAll enc Tryz.prog W 0 (λ_=>true) true Tryz.f3.params.toList a.toList ds p:=o;rw [Tryz.params3] at I g;obtain ⟨v0,R,d0,ac,U,q0,A,rfl,rfl,h0,S⟩:=trodAll_cons I;obtain ⟨rfl,rfl,rfl⟩:=trodAll_nil S;obtain rfl:a=#[v0]:=by cases a;simp_all
 obtain ⟨rfl,rfl⟩:=trodVars_none hV;obtain ⟨L,len0,k,rfl⟩:=okWide_slice Tryz.underlying22 (g 0 22 v0 rfl rfl);have E:=h0;have u:∀ x ∈ U,x.block<W.heap.size:=by obtain ⟨m,z⟩:=E;exact DataW.trod_lt m _ _ _ z
 obtain ⟨M,O⟩:∃ s,IsRow .u8 W L len0 k s:=by
  obtain ⟨J,hf⟩:=h0
  rcases open_ints Tryz.underlying22 Tryz.underlying5 (by kernel_rfl) hf with ⟨f,_⟩|⟨x,l,c,s,f,_,Y,z,V,_,n,y⟩
  . simp [Value.cells] at f
    obtain ⟨rfl,rfl,rfl⟩:=f
    exact ⟨[],.inl ⟨rfl,rfl,rfl,rfl⟩⟩
  . simp [Value.cells] at f
    obtain ⟨rfl,rfl,rfl⟩:=f
    exact ⟨s,.inr ⟨_,rfl,Y,z,by simpa using V,n,y⟩⟩
 clear o d
 refine (walk L len0 k M W O).mono λe W' ⟨he,bel⟩=>?_
 subst he
 exact ⟨_,rfl,_,_,_,[],_,[],B,trodAll_mk1 (shut_bool Tryz.underlying4 _),(trodAll_cons_mk (Below.trod laidOut (by kernel_rfl) (of_decide_eq_true (by kernel_rfl)) E bel u) trodAll_mk0),rfl,bel.frame _,λh=>by cases h⟩
theorem jf0:OpenClaim.wf (OpenSpec.ofChange Rows.fnExactDecodeSpec) Rows.fnExactDecodeRow=true:=by kernel_rfl
theorem jf1:laidOutB Tryz.prog=true:=by kernel_rfl
theorem jf2:mapsRowed Tryz.prog=true:=by kernel_rfl
theorem jf3:(Tryz.f3.params.all λx=>Tryz.prog.readableRec x)=true:=by kernel_rfl
theorem jf4:namedTie Tryz.prog Rows.fnExactDecodeRow.named Rows.fnExactDecodeSpec.vars=true:=by kernel_rfl
theorem jf5:(Rows.fnExactDecodeRow.stops==[])=true:=by kernel_rfl
theorem jf6:(Tryz.prog.stops==[])=true:=by kernel_rfl
theorem jf7:(Rows.fnExactDecodeRow.knobs==[])=true:=by kernel_rfl
theorem jf8:(Tryz.prog.stopKnobs==[])=true:=by kernel_rfl
theorem jf9:(Rows.fnExactDecodeRow.inPlace==Tryz.prog.inPlace 3)=true:=by kernel_rfl
theorem jf10:(Rows.fnExactDecodeRow.unfollowed==Tryz.prog.unfollowed 3)=true:=by kernel_rfl
theorem jf11:(Rows.fnExactDecodeRow.recurses==Tryz.prog.recurses 3)=true:=by kernel_rfl
theorem jf12:(Rows.fnExactDecodeRow.named==Tryz.prog.varsNamed 3)=true:=by kernel_rfl
theorem jf13:(Rows.fnExactDecodeRow.maps==(Tryz.f3.params.toList++DataSpec.varTypes Tryz.prog Rows.fnExactDecodeSpec.plain).any λx=>Tryz.prog.mapsRec x)=true:=by kernel_rfl
theorem jf14:(Rows.fnExactDecodeRow.ifaces==(Tryz.f3.params.toList++DataSpec.varTypes Tryz.prog Rows.fnExactDecodeSpec.plain).any λx=>Tryz.prog.ifacesRec x)=true:=by kernel_rfl
theorem jf15:(Rows.fnExactDecodeRow.mapsOut==Tryz.prog.mapsAmong Tryz.f3.resultTypes.toList)=true:=by kernel_rfl
theorem jf16:(Rows.fnExactDecodeRow.loops==(Tryz.f3.params.toList++DataSpec.varTypes Tryz.prog Rows.fnExactDecodeSpec.plain).any λx=>Tryz.prog.loopsFrom x)=true:=by kernel_rfl
theorem jf17:(Rows.fnExactDecodeRow.wideKeys==(Tryz.f3.params.toList++DataSpec.varTypes Tryz.prog Rows.fnExactDecodeSpec.plain++Tryz.f3.resultTypes.toList).any λx=>Tryz.prog.wideKeysFrom x)=true:=by kernel_rfl
theorem jf18:(Rows.fnExactDecodeSpec.vars.all λx=>Tryz.prog.varReadable x)=true:=by kernel_rfl
theorem jf19:(Tryz.f3.resultTypes.all λt=>Tryz.prog.readableRec t&&decide (t<Tryz.prog.types.size))=true:=by kernel_rfl
theorem jf20:(Rows.fnExactDecodeRow.ifacesOut==Tryz.f3.resultTypes.toList.any λx=>Tryz.prog.ifacesRec x)=true:=by kernel_rfl
theorem jf21:(Rows.fnExactDecodeRow.loopsOut==Tryz.f3.resultTypes.toList.any λx=>Tryz.prog.loopsFrom x)=true:=by kernel_rfl
theorem jf22:(Rows.fnExactDecodeRow.plainKeys==Tryz.prog.plainKeys)=true:=by kernel_rfl
theorem jf23:Rows.fnExactDecodeRow.shortTexts.isNone=true:=by kernel_rfl
theorem jf24:Tryz.prog.stopsHeard=true:=by kernel_rfl
theorem jf25:Tryz.prog.mayEnter=true:=by kernel_rfl
theorem jf26:(Rows.fnExactDecodeRow.lifted==Tryz.prog.liftsFinal)=true:=by kernel_rfl
theorem jf27:(Tryz.prog.make==some Rows.fnExactDecodeRow.make)=true:=by kernel_rfl
theorem jf28:(Rows.fnExactDecodeRow.kinds==if Rows.fnExactDecodeRow.domain.isEmpty=true then [] else List.map (λt=>match Tryz.prog.underlying t with|some (TypeDesc.int k)=>some k|x=>none) Tryz.f3.params.toList)=true:=by kernel_rfl
theorem jf29:(Rows.fnExactDecodeRow.pinned==Rows.fnExactDecodeRow.pinnedBy)=true:=by kernel_rfl
theorem jf30:(Rows.fnExactDecodeRow.veiled==(Tryz.f3.params.toList++DataSpec.varTypes Tryz.prog Rows.fnExactDecodeSpec.plain++Tryz.f3.resultTypes.toList).any λx=>Tryz.prog.veiledRec x)=true:=by kernel_rfl
theorem jf31:Rows.fnExactDecodeRow.veiledFits Tryz.prog Tryz.f3.params.toList (Tryz.f3.params.toList++DataSpec.varTypes Tryz.prog Rows.fnExactDecodeSpec.plain++Tryz.f3.resultTypes.toList)=true:=by kernel_rfl
set_option maxRecDepth 100000 in
theorem facts:joinedFacts Tryz.prog 3 Tryz.f3 Rows.fnExactDecodeSpec Rows.fnExactDecodeRow=true:=by
 unfold joinedFacts
 simp only [Bool.and_eq_true]
 exact ⟨⟨⟨⟨⟨⟨⟨⟨⟨⟨⟨⟨⟨⟨⟨⟨⟨⟨⟨⟨⟨⟨⟨⟨⟨⟨⟨⟨⟨⟨⟨jf0,jf1⟩,jf2⟩,jf3⟩,jf4⟩,jf5⟩,jf6⟩,jf7⟩,jf8⟩,jf9⟩,jf10⟩,jf11⟩,jf12⟩,jf13⟩,jf14⟩,jf15⟩,jf16⟩,jf17⟩,jf18⟩,jf19⟩,jf20⟩,jf21⟩,jf22⟩,jf23⟩,jf24⟩,jf25⟩,jf26⟩,jf27⟩,jf28⟩,jf29⟩,jf30⟩,jf31⟩
theorem over:Rows.fnExactDecodeRow.holds Tryz.pinned (OpenSpec.ofChange Rows.fnExactDecodeSpec) :=
 OpenClaim.holds_of_wide 3 Tryz.f3 rfl rfl rfl rfl rfl rfl rfl ⟨rfl,rfl,rfl,rfl,rfl⟩ rfl rfl rfl rfl rfl (by kernel_rfl) Tryz.func3 facts
  (of_decide_eq_true (by kernel_rfl)) (by unfold Func.isWrapper;first|(rw [if_pos (by decide +kernel)];kernel_rfl)|(rw [if_neg (by decide +kernel)];exact ⟨rfl,rfl⟩))
  (λos started H enc _=>lifted os started H enc)
end Go.Proofs.YtedcmcdbejjgcaaGreat.fnExactDecode
namespace Go.Proofs.YtedcmcdbejjgcaaGreat
theorem fnExactDecode_holds:Rows.FnExactDecodeSaid:=fnExactDecode.over
#print axioms fnExactDecode_holds
end Go.Proofs.YtedcmcdbejjgcaaGreat
