import Derived.Test.YtipfjdogokanbaaGreatDoorGaa
import Derived.Test.YtipfjdogokanbaaGreatDoorRows
import Derived.Test.YtipfjdogokanbaaGreatDoorGai
import Derived.Lib.LaidTab
import Derived.ProofKit
import Derived.LaidMore
import Derived.LaidLaws
import Derived.OpenShut
import Derived.Stop.Joined
set_option linter.all false
set_option maxHeartbeats 400000000
set_option maxRecDepth 100000
set_option linter.all false
namespace Go.Proofs.YtipfjdogokanbaaGreatDoor
open Go.ChangeShapes Go.WideShapes Go.ChangeAt Go.WideMaps Go.WideElems Go.RowKit
theorem of_vars {P:Program}{W:World}{name:String}{k:IntKind}{zs:List Int}{rest:List (String × DataW Unit)}{g:Nat}{t e:TypeId}{n:Nat}{ps:List MemPlace}
    (hg:P.globalNamed name=some g) (hty:(P.globals[g]?).map (·.type)=some t) (ht:P.underlying t=some (.array n e)) (he:P.underlying e=some (.int k)) (hce:P.cellsOf e=1) (hct:P.cellsOf t=n)
    (h:DataW.LaidVars P W ((name,Lib.tabData k zs)::rest) ps):Lib.TabIs P W name k zs/\∃ q,DataW.LaidVars P W rest q:=by
 obtain ⟨g',t',cs,fuel,p,q,hg',ht',hvar,hd,hr,_⟩:=h;obtain rfl:=Option.some.inj (hg.symm.trans hg');obtain rfl:=Option.some.inj (hty.symm.trans ht')
 refine ⟨?_,q,hr⟩
 unfold Lib.TabIs;rw [hvar,<- Lib.cells_of_tab ht he hce hct hd]
theorem of_err {P:Program}{W:World}{name nm:String}{d:DataW Unit}{rest:List (String × DataW Unit)}{g:Nat}{t:TypeId}{ms:Array (String × TypeId)}{ps:List MemPlace}
    (hg:P.globalNamed name=some g) (hty:(P.globals[g]?).map (·.type)=some t) (ht:P.underlying t=some (.interface ms))
    (h:DataW.LaidVars P W ((name,.iface nm d)::rest) ps):(∃ ev,W.cell? ⟨g,0,none⟩=some ev/\Yz.IsErr ev)/\∃ q,DataW.LaidVars P W rest q:=by
 obtain ⟨g',t',cs,fuel,p,q,hg',ht',hvar,hd,hr,_⟩:=h;obtain rfl:=Option.some.inj (hg.symm.trans hg');obtain rfl:=Option.some.inj (hty.symm.trans ht')
 refine ⟨?_,q,hr⟩
 obtain ⟨_,u,v,hcs,_,_⟩:=iface_of_trod ht hd
 refine ⟨.iface u v,?_,.inr ⟨u,v,rfl⟩⟩
 rw [World.var?_cell hg hvar 0]
 have:cs=#[.iface u v]:=by
  apply Array.ext'
  exact hcs
 rw [this];rfl
def z32:List Int:=[0,1,28,2,29,14,24,3,30,22,20,15,25,17,4,8,31,27,13,23,21,19,16,7,26,12,18,6,11,5,10,9]
def z64:List Int:=[0,1,56,2,57,49,28,3,61,58,42,50,38,29,17,4,62,47,59,36,45,43,51,22,53,39,33,30,24,18,12,5,63,55,48,27,60,41,37,16,46,35,44,21,52,32,23,11,54,26,40,15,34,20,31,10,25,14,19,9,13,8,7,6]
theorem d32:(Rows.laid_math_bits_deBruijn32tab:DataW Unit)=Lib.tabData .u8 z32:=rfl
theorem d64:(Rows.laid_math_bits_deBruijn64tab:DataW Unit)=Lib.tabData .u8 z64:=rfl
theorem d10:(Rows.laid_internal_strconv_uint64pow10:DataW Unit)=Lib.tabData .u64 Lib.pow10Tab:=by kernel_rfl
abbrev lds:List (String × DataW Unit):=[("math/bits.deBruijn32tab",Rows.laid_math_bits_deBruijn32tab),("math/bits.deBruijn64tab",Rows.laid_math_bits_deBruijn64tab),("internal/strconv.uint64pow10",Rows.laid_internal_strconv_uint64pow10),("strconv.ErrRange",Rows.laid_strconv_ErrRange),("strconv.ErrSyntax",Rows.laid_strconv_ErrSyntax)]
theorem of_laid {W:World}(h:laidMetH Tryz.prog lds W):Yz.Vs W.heap.size W:=by
 rw [MakeChecks.laidMetH_plain _ _ _ (by kernel_rfl)] at h;obtain ⟨ps,h1,_,_⟩:=h;rw [show lds=[("math/bits.deBruijn32tab",Lib.tabData .u8 z32),("math/bits.deBruijn64tab",Lib.tabData .u8 z64),("internal/strconv.uint64pow10",Lib.tabData .u64 Lib.pow10Tab),("strconv.ErrRange",Rows.laid_strconv_ErrRange),("strconv.ErrSyntax",Rows.laid_strconv_ErrSyntax)] by unfold lds;rw [d32,d64,d10]] at h1;obtain ⟨_,q1,h2⟩:=of_vars (g:=4) (t:=266) (e:=5) (n:=32) (by kernel_rfl) (by kernel_rfl) (by kernel_rfl) (by kernel_rfl) (by kernel_rfl) (by kernel_rfl) h1;obtain ⟨t64,q2,h3⟩:=of_vars (g:=5) (t:=267) (e:=5) (n:=64) (by kernel_rfl) (by kernel_rfl) (by kernel_rfl) (by kernel_rfl) (by kernel_rfl) (by kernel_rfl) h2;obtain ⟨t10,q3,h4⟩:=of_vars (g:=3) (t:=258) (e:=23) (n:=20) (by kernel_rfl) (by kernel_rfl) (by kernel_rfl) (by kernel_rfl) (by kernel_rfl) (by kernel_rfl) h3;unfold Rows.laid_strconv_ErrRange at h4;obtain ⟨e2,q4,h5⟩:=of_err (g:=2) (t:=65) (by kernel_rfl) (by kernel_rfl) Tryz.underlying65 h4;unfold Rows.laid_strconv_ErrSyntax at h5;obtain ⟨e1,q5,h6⟩:=of_err (g:=1) (t:=65) (by kernel_rfl) (by kernel_rfl) Tryz.underlying65 h5;have c:=t64.cell (g:=5) (by kernel_rfl) 15 (by decide);have hlt:5<W.heap.size:=World.block_lt_of_cell? W _ c
 exact ⟨c,Lib.tabBelow_of_tabIs t10,e1,e2,hlt⟩
theorem door_met (os:Os)(args:Array Value):laidMetH Tryz.prog lds ((World.doorLaid Tryz.prog 400 os).forCall (λ_ _=>0) ⟨#[],args,[]⟩).memory :=
 laidMetH_of_parts3 (fuel:=8) (laidMet_of_run' 8 (by kernel_rfl) (by kernel_rfl)) (by kernel_rfl) (by kernel_rfl)
end Go.Proofs.YtipfjdogokanbaaGreatDoor
