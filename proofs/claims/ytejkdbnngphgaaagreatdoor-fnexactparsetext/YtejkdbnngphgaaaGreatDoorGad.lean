import Derived.Test.YtejkdbnngphgaaaGreatDoorGaa
import Derived.Shelf.Strings.Builder1
import Derived.Shelf.Strings.Builder2
import Derived.Shelf.Strings.Trim
import Derived.Shelf.Small.Utf8
import Derived.Shelf.Small.Strs
import Derived.Shelf.Small.Wraps
import Derived.Shelf.Strings.BuilderF
import Derived.Shelf.Strconv.Itoa0
import Derived.Shelf.Strconv.Itoa1
import Derived.Shelf.LaysM
import Derived.Shelf.Strconv.Itoa2
import Derived.Shelf.Strconv.Itoa3
import Derived.Shelf.Strconv.Itoa4
import Derived.Shelf.Strconv.ParseIntEmpty
import Derived.Shelf.Strconv.Clone
import Derived.Shelf.Strconv.SyntaxError
import Derived.Shelf.LaysC
import Derived.Shelf.Strconv.ToError
import Derived.Shelf.Strconv.Lower
import Derived.Shelf.Strconv.ParseUint10
import Derived.Shelf.Strconv.ParseUint10Empty
import Derived.Shelf.Strconv.ParseUint10Any
import Derived.Shelf.Strconv.ParseInt10
import Derived.Shelf.Strconv.RangeError
import Derived.Shelf.Strconv.ToErrorRange
import Derived.Shelf.Strconv.ParseUintEmpty
import Derived.Shelf.Strconv.ParseUint10b64
import Derived.Shelf.Strconv.ParseUint10b32
import Derived.Shelf.Strconv.ParseUint10b16
import Derived.Shelf.Strconv.ParseUint10b8
import Derived.Shelf.Strconv.ParseUint10At
import Derived.Shelf.Strconv.ParseInt10At64
import Derived.Shelf.Strconv.ParseInt10At32
import Derived.Shelf.Strconv.ParseInt10At16
import Derived.Shelf.Strconv.ParseInt10At8
import Derived.Shelf.Strconv.ParseInt10All
import Derived.Shelf.Strconv.ParseIntPublic10
import Derived.Shelf.Strings.Search1
import Derived.Shelf.Strings.Prefix
import Derived.Shelf.Unicode.Decode
import Derived.Shelf.Strings.Runes
import Derived.Shelf.Strings.AsciiSet
import Derived.Shelf.Bits.Mul64
import Derived.Shelf.Strings.Repeat
import Derived.Shelf.Unicode.DecodeSlow
import Derived.Shelf.Unicode.DecodeAny
import Derived.Shelf.Unicode.DecodeLast
import Derived.Test.YtejkdbnngphgaaaGreatDoorProg
set_option linter.all false
set_option maxHeartbeats 400000000
set_option maxRecDepth 100000
namespace Go.Proofs
open Value renaming int->U,bool->G,pointer->Yp,string->Xs,nilIface->Nf
open IntKind renaming i64->O,u64->Ou
open Ending renaming returned->Z
open Obj renaming cells->Fc
open Go renaming World->J,Calls->Ec,Value->Vu
open Go.RowKit renaming Below->Bw
open Tryz renaming prog->Q
open Tryz
/-
 DERIVED: THE SHELF's CONTRACTS AT THIS DUMP,IN PLAIN WORDS (tools/lay-plain.mjs out of 'TryzShelf.lean',which tools/lay-shelf.mjs wrote): THE SAME DECLARATIONS UNDER THE SAME NAMES: 'import','namespace','open','def','theorem' AND NOTHING ELSE: no command of the shelf's: FOR A HAND-IN. Each laying: the table of numbers ('.._ren') and one theorem,a field a fact of the dump's own or the kernel's comparison;each contract: ONE APPLICATION.
-/
open Go.Shelf
def lays160_ren:Go.Shelf.Ren:=⟨fun|160=>167|232=>198|231=>197|227=>199|234=>201|233=>200|236=>203|235=>202|228=>225|271=>228|151=>227|197=>226|120=>247|152=>246|260=>245|137=>116|119=>259|224=>260|225=>261|217=>177|266=>218|n=>n,fun|9=>9|4=>4|3=>3|5=>5|117=>248|116=>247|0=>0|124=>251|21=>21|105=>259|46=>269|119=>298|139=>301|138=>300|n=>n,fun|3=>3|4=>4|n=>n⟩
theorem lays160:Go.Proofs.Lays.n160 Q lays160_ren:=by iterate 4 all_goals first|kernel_rfl|(intros;kernel_rfl)|(intros;rfl)|constructor
open Go.RowKit in
theorem strings_Trim_one (s:ByteArray)(c:UInt8)(hc:c.toNat<128)(w:J)(a:s.size<=9223372036854775807) :
    Ec Q 167 #[Xs s,Xs ⟨#[c]⟩] w λe w'=>e=Z (Xs ⟨(Lib.trimB s.data.toList c).toArray⟩)/\(w'=w\/w'=w.drew):=Any.strings_Trim_one lays160 s c hc w a
def lays137_ren:Go.Shelf.Ren:=⟨fun|137=>116|217=>177|266=>218|n=>n,fun|9=>9|5=>5|3=>3|n=>n,fun|n=>n⟩
theorem lays137:Go.Proofs.Lays.n137 Q lays137_ren:=by iterate 4 all_goals first|kernel_rfl|(intros;kernel_rfl)|(intros;rfl)|constructor
open Go.RowKit in
theorem strings_IndexByte (s:ByteArray)(c:Int)(w:J) :
    Ec Q 116 #[Xs s,U .u8 c] w λe w'=>e=Z (U O (Lib.indexByte s.data.toList c.toNat.toUInt8))/\w'=w:=Any.strings_IndexByte lays137 s c w
def lays104_ren:Go.Shelf.Ren:=⟨fun|104=>33|211=>117|207=>178|n=>n,fun|9=>9|4=>4|24=>93|3=>3|n=>n,fun|n=>n⟩
theorem lays104:Go.Proofs.Lays.n104 Q lays104_ren:=by iterate 4 all_goals first|kernel_rfl|(intros;kernel_rfl)|(intros;rfl)|constructor
open Go.RowKit in
theorem strings_CutSuffix (s p:ByteArray)(w:J)(a:s.size<=9223372036854775807) :
    Ec Q 33 #[Xs s,Xs p] w λe w'=>e=Z (.tuple #[Xs ⟨(Lib.trimSuffix s.data.toList p.data.toList).toArray⟩,G (Lib.hasSuffix s.data.toList p.data.toList)])/\w'=w:=Any.strings_CutSuffix lays104 s p w a
def laysM173_ren:Go.Shelf.Ren:=⟨fun|173=>213|246=>233|283=>251|284=>252|285=>253|286=>254|129=>264|317=>263|318=>265|319=>266|320=>267|337=>270|338=>271|n=>n,fun|2=>2|3=>3|9=>9|4=>4|171=>288|0=>0|53=>68|37=>22|5=>5|173=>291|212=>309|51=>185|20=>20|213=>310|46=>269|232=>317|233=>318|n=>n,fun|17=>5|18=>6|19=>7|n=>n⟩
theorem laysM173:Go.Proofs.LaysM.n173 Q laysM173_ren:=by iterate 4 all_goals first|kernel_rfl|(intros;kernel_rfl)|(intros;rfl)|constructor
open Go.RowKit Go.Sort Go.Lib in
theorem strconv_FormatInt_10 (n:Int)(b:-9223372036854775808<=n)(h1:n<=9223372036854775807)(w:J)(a:Lib.TabIs Q w "internal/strconv.uint64pow10" Ou Lib.pow10Tab) :
    Ec Q 213 #[U O n,U O 10] w λe w'=>e=Z (Xs ⟨(Lib.itoa n).toArray⟩)/\∃k os,w'=grow (w.drewN k) os:=Any.strconv_FormatInt_10 laysM173 n b h1 w a
def laysC245_ren:Go.Shelf.Ren:=⟨fun|245=>212|279=>229|280=>230|281=>231|282=>232|316=>248|171=>250|205=>249|243=>262|246=>233|283=>251|284=>252|285=>253|286=>254|129=>264|317=>263|318=>265|319=>266|320=>267|337=>270|338=>271|n=>n,fun|9=>9|3=>3|75=>228|167=>268|4=>4|168=>270|210=>286|37=>22|0=>0|127=>297|145=>307|143=>305|2=>2|171=>288|53=>68|5=>5|173=>291|212=>309|51=>185|20=>20|213=>310|46=>269|232=>317|233=>318|80=>191|n=>n,fun|15=>1|16=>2|17=>5|18=>6|19=>7|n=>n⟩
theorem laysC245:Go.Proofs.LaysC.n245 Q laysC245_ren:=by iterate 4 all_goals first|kernel_rfl|(intros;kernel_rfl)|(intros;rfl)|constructor
open Go.RowKit in
theorem strconv_toError_syntax (f s:ByteArray)(base a:Int)(c:Vu)(w:J)(b:s.size<=281474976710656)(hv:w.cell? ⟨1,0,none⟩=some c)(d:c=Nf\/∃te pe,c=.iface te pe) :
    Ec Q 212 #[Xs f,Xs s,U O base,U O a,.iface 268 (U O 2)] w λe w'=>∃nN,e=Z (.iface 270 (Yp (some ⟨nN,0,none⟩)))/\w.heap.size<=nN/\w'.heap[nN]?=some (Fc #[Xs f,Xs s,c] 286 (0,0))/\Bw w.heap.size w w':=Any.strconv_toError_syntax laysC245 f s base a c w b hv d
def lays321_ren:Go.Shelf.Ren:=⟨fun|321=>234|n=>n,fun|5=>5|n=>n,fun|n=>n⟩
theorem lays321:Go.Proofs.Lays.n321 Q lays321_ren:=by iterate 4 all_goals first|kernel_rfl|(intros;kernel_rfl)|(intros;rfl)|constructor
open Go.RowKit in
theorem internal_strconv_lower (c:Int)(w:J) :
    Ec Q 234 #[U .u8 c] w λe w'=>e=Z (U .u8 (bits .or .u8 c 32))/\w'=w:=Any.internal_strconv_lower lays321 c w
def lays287_ren:Go.Shelf.Ren:=⟨fun|287=>214|321=>234|322=>235|n=>n,fun|9=>9|3=>3|53=>68|75=>228|4=>4|167=>268|5=>5|46=>269|37=>22|0=>0|21=>21|80=>191|n=>n,fun|n=>n⟩
theorem lays287:Go.Proofs.Lays.n287 Q lays287_ren:=by iterate 4 all_goals first|kernel_rfl|(intros;kernel_rfl)|(intros;rfl)|constructor
open Go.RowKit in
theorem strconv_toError_range (f s:ByteArray)(base a:Int)(c:Vu)(w:J)(b:s.size<=281474976710656)(hv:w.cell? ⟨2,0,none⟩=some c)(d:c=Nf\/∃te pe,c=.iface te pe) :
    Ec Q 212 #[Xs f,Xs s,U O base,U O a,.iface 268 (U O 1)] w λe w'=>∃nN,e=Z (.iface 270 (Yp (some ⟨nN,0,none⟩)))/\w.heap.size<=nN/\w'.heap[nN]?=some (Fc #[Xs f,Xs s,c] 286 (0,0))/\Bw w.heap.size w w':=Any.strconv_toError_range laysC245 f s base a c w b hv d
open Go.RowKit in
theorem internal_strconv_ParseUint_empty (base a:Int)(w:J) :
    Ec Q 214 #[Xs ⟨#[]⟩,U O base,U O a] w λe w'=>e=Z (.tuple #[U Ou 0,.iface 268 (U O 2)])/\w'=w:=Any.internal_strconv_ParseUint_empty lays287 base a w
def laysC174_ren:Go.Shelf.Ren:=⟨fun|174=>172|247=>211|245=>212|287=>214|279=>229|280=>230|281=>231|282=>232|321=>234|322=>235|316=>248|171=>250|205=>249|243=>262|246=>233|283=>251|284=>252|285=>253|286=>254|129=>264|317=>263|318=>265|319=>266|320=>267|337=>270|338=>271|n=>n,fun|9=>9|3=>3|2=>2|75=>228|85=>229|4=>4|167=>268|5=>5|53=>68|175=>231|46=>269|168=>270|37=>22|0=>0|210=>286|21=>21|127=>297|145=>307|143=>305|171=>288|173=>291|212=>309|51=>185|20=>20|213=>310|232=>317|233=>318|80=>191|n=>n,fun|15=>1|16=>2|17=>5|18=>6|19=>7|n=>n⟩
theorem laysC174:Go.Proofs.LaysC.n174 Q laysC174_ren:=by iterate 4 all_goals first|kernel_rfl|(intros;kernel_rfl)|(intros;rfl)|constructor
open Go.RowKit in
theorem strconv_ParseInt_10_at64_ok (s:ByteArray)(a:s.size<=9223372036854775806)(v:Int)(h:Lib.parseIntB 64 s.data.toList=.ok v)(w:J) :
    Ec Q 172 #[Xs s,U O 10,U O 64] w λe w'=>e=Z (.tuple #[U O v,Nf])/\(w'=w\/∃t,w'=Lib.bytesWorld w 5 t):=Any.strconv_ParseInt_10_at64_ok laysC174 s a v h w
open Go.RowKit in
theorem strconv_ParseInt_10_at64_syntax (s:ByteArray)(a:s.size<=281474976710656)(h:Lib.parseIntB 64 s.data.toList=.«syntax»)(b:Vu)(w:J)(hv:w.cell? ⟨1,0,none⟩=some b)(c:b=Nf\/∃te pe,b=.iface te pe) :
    Ec Q 172 #[Xs s,U O 10,U O 64] w λe w'=>∃nN,e=Z (.tuple #[U O (0),.iface 270 (Yp (some ⟨nN,0,none⟩))])/\w.heap.size<=nN/\w'.heap[nN]?=some (Fc #[Xs ⟨#[80,97,114,115,101,73,110,116]⟩,Xs s,b] 286 (0,0))/\Bw w.heap.size w w':=Any.strconv_ParseInt_10_at64_syntax laysC174 s a h b w hv c
open Go.RowKit in
theorem strconv_ParseInt_10_at64_range (s:ByteArray)(a:s.size<=281474976710656)(h:Lib.parseIntB 64 s.data.toList=.range)(b:Vu)(w:J)(hv:w.cell? ⟨2,0,none⟩=some b)(c:b=Nf\/∃te pe,b=.iface te pe) :
    Ec Q 172 #[Xs s,U O 10,U O 64] w λe w'=>∃nN,e=Z (.tuple #[U O (Lib.intSat 64 s.data.toList),.iface 270 (Yp (some ⟨nN,0,none⟩))])/\w.heap.size<=nN/\w'.heap[nN]?=some (Fc #[Xs ⟨#[80,97,114,115,101,73,110,116]⟩,Xs s,b] 286 (0,0))/\Bw w.heap.size w w':=Any.strconv_ParseInt_10_at64_range laysC174 s a h b w hv c
def lays99_ren:Go.Shelf.Ren:=⟨fun|99=>219|206=>236|n=>n,fun|9=>9|4=>4|3=>3|n=>n,fun|n=>n⟩
theorem lays99:Go.Proofs.Lays.n99 Q lays99_ren:=by iterate 4 all_goals first|kernel_rfl|(intros;kernel_rfl)|(intros;rfl)|constructor
open Go.RowKit Go.Lib in
theorem strings_HasPrefix (s p:ByteArray)(w:J) :
    Ec Q 219 #[Xs s,Xs p] w λe w'=>e=Z (G (Lib.hasPrefix s.data.toList p.data.toList))/\w'=w:=Any.strings_HasPrefix lays99 s p w
def lays101_ren:Go.Shelf.Ren:=⟨fun|101=>175|208=>215|206=>236|n=>n,fun|9=>9|4=>4|3=>3|n=>n,fun|n=>n⟩
theorem lays101:Go.Proofs.Lays.n101 Q lays101_ren:=by iterate 4 all_goals first|kernel_rfl|(intros;kernel_rfl)|(intros;rfl)|constructor
open Go.RowKit Go.Lib in
theorem strings_TrimPrefix (s p:ByteArray)(w:J) :
    Ec Q 175 #[Xs s,Xs p] w λe w'=>e=Z (Xs ⟨(Lib.trimPrefix s.data.toList p.data.toList).toArray⟩)/\w'=w:=Any.strings_TrimPrefix lays101 s p w
def lays105_ren:Go.Shelf.Ren:=⟨fun|105=>217|212=>238|99=>219|165=>239|166=>240|170=>241|169=>242|263=>255|264=>256|206=>236|240=>257|241=>258|276=>268|277=>269|n=>n,fun|9=>9|3=>3|4=>4|20=>20|0=>0|46=>269|109=>273|5=>5|72=>277|76=>279|51=>185|146=>293|53=>68|148=>295|70=>275|37=>22|75=>228|127=>297|164=>313|80=>191|n=>n,fun|n=>n⟩
theorem lays105:Go.Proofs.Lays.n105 Q lays105_ren:=by iterate 4 all_goals first|kernel_rfl|(intros;kernel_rfl)|(intros;rfl)|constructor
theorem Tryz.Builder_Extra_105:Builder.Extra Q lays105_ren:={
 sizeBuilder:=by kernel_rfl
 liesBuilder:=by kernel_rfl
 t5:=underlying5
 a5:=isAgg5
 z5:=sizeOf5
 v5:=zeroValue5
 infoByte:=by kernel_rfl
 cellsByte:=by kernel_rfl
 sizeByte:=by kernel_rfl
 neB5:=by decide }
open Go.RowKit Go.Lib in
theorem strings_Repeat (s:ByteArray)(c:Nat)(w:J)(hc:c<=9223372036854775807)(a:s.size*c<=140737488355328) :
    Ec Q 217 #[Xs s,U O c] w λe w'=>e=Z (Xs ⟨(Lib.repeatL s.data.toList c).toArray⟩)/\Bw w.heap.size w w':=Any.strings_Repeat lays105 Tryz.Builder_Extra_105 s c w hc a
