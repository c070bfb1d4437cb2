import Derived.Test.YtaccbbndmmhenaaGreatChecked
import Derived.WalkKit
import Derived.ProofKit
import Derived.WalkSpells
import Derived.WalkLawsBesides
import Derived.Below
import Derived.Deep.QuietTactic
import Derived.BigQuiet
import Derived.OwnWalk
import Derived.Handy
import Derived.Deep.OwnRows
import Derived.Laws.MakeOwn
import Derived.Laws.OwnMore
import Derived.Lib.QuietBelow
set_option linter.all false
set_option maxHeartbeats 400000000
set_option maxRecDepth 100000
namespace Go.Proofs
open Value renaming int->U,slice->S,bool->G,string->Xs,agg->Ag
open IntKind renaming i64->O,u64->Ou
open Ending renaming returned->Z
open Obj renaming cells->Fc
open Go renaming World->J,Calls->Ec,Value->Vu,Addr->Ad
open Go.RowKit renaming Below->Bw
open Tryz renaming prog->Q
open Tryz
open List renaming replicate->Td,getD->Kx,getElem?_append_right->Tb,getElem?_eq_getElem->Kj,append_assoc->Kv,nil_append->Hh,append_nil->Lg,length->N
open World renaming block_lt_of_cell?->Kk
namespace YtaccbbndmmhenaaGreat
open Go.RowKit
variable {w w1:J}{g:Nat}{p:Prop}{α:Type}{u a b c d e:Vu}
theorem Hid.mk' (h:p):Hid p:=h
theorem _root_.Go.RowKit.Hid.o (h:Hid p):p:=h
theorem Hm (h:p):Hid p:=h
theorem mC {a b:α}{l:List α}(h:a∈l):a∈b::l:=List.mem_cons_of_mem _ h
theorem mS {a:α}{l:List α}:a∈a::l:=List.mem_cons_self
theorem mR {a:α}{l k:List α}(h:a∈k):a∈l++k:=List.mem_append_right _ h
theorem mL {a:α}{l k:List α}(h:a∈l):a∈l++k:=List.mem_append_left _ h
theorem lRz {n:Nat}:n<=n:=Nat.le_refl _
theorem bFz {B:Nat}:Bw B w w:=Below.refl _ _
theorem Qe {cs:Array Vu}{e:TypeId}{i:Nat}(b:g=w.heap.size)(a:cs[i]?=some u):(w.alloc (Fc cs e)).cell? ⟨g,i,none⟩=some u:=by
 subst b;simp[a]
structure Row where
 nm:ByteArray
 f:Int
 a:Int
 b:Int
 g:Int
def Z0:Row:=⟨⟨#[]⟩,0,0,0,0⟩
abbrev rowL (r:Row):List Vu:=[Xs r.nm,U O r.f,U O r.a,U O r.b,U O r.g]
abbrev Xg (r:Row):Vu:=Ag #[Xs r.nm,U O r.f,U O r.a,U O r.b,U O r.g]
def flat:List Row->List Vu
 |[]=>[]
 |r::l=>rowL r++flat l
def R52t:List Row:=[
 ⟨⟨#[117,110,114,101,97,99,104,97,98,108,101]⟩,0,0,0,0⟩,
 ⟨⟨#[110,111,112]⟩,0,0,0,0⟩,
 ⟨⟨#[98,108,111,99,107]⟩,1,0,0,0⟩,
 ⟨⟨#[108,111,111,112]⟩,1,0,0,0⟩,
 ⟨⟨#[105,102]⟩,1,0,0,0⟩,
 ⟨⟨#[101,108,115,101]⟩,0,0,0,0⟩,
 ⟨⟨#[]⟩,0,0,0,0⟩,
 ⟨⟨#[]⟩,0,0,0,0⟩,
 ⟨⟨#[]⟩,0,0,0,0⟩,
 ⟨⟨#[]⟩,0,0,0,0⟩,
 ⟨⟨#[]⟩,0,0,0,0⟩,
 ⟨⟨#[101,110,100]⟩,0,0,0,0⟩,
 ⟨⟨#[98,114]⟩,2,0,0,0⟩,
 ⟨⟨#[98,114,95,105,102]⟩,2,0,0,0⟩,
 ⟨⟨#[98,114,95,116,97,98,108,101]⟩,3,0,0,0⟩,
 ⟨⟨#[114,101,116,117,114,110]⟩,0,0,0,0⟩,
 ⟨⟨#[99,97,108,108]⟩,2,0,0,0⟩,
 ⟨⟨#[99,97,108,108,95,105,110,100,105,114,101,99,116]⟩,4,0,0,0⟩,
 ⟨⟨#[]⟩,0,0,0,0⟩,
 ⟨⟨#[]⟩,0,0,0,0⟩,
 ⟨⟨#[]⟩,0,0,0,0⟩,
 ⟨⟨#[]⟩,0,0,0,0⟩,
 ⟨⟨#[]⟩,0,0,0,0⟩,
 ⟨⟨#[]⟩,0,0,0,0⟩,
 ⟨⟨#[]⟩,0,0,0,0⟩,
 ⟨⟨#[]⟩,0,0,0,0⟩,
 ⟨⟨#[100,114,111,112]⟩,0,0,0,0⟩,
 ⟨⟨#[115,101,108,101,99,116]⟩,0,0,0,0⟩,
 ⟨⟨#[]⟩,0,0,0,0⟩,
 ⟨⟨#[]⟩,0,0,0,0⟩,
 ⟨⟨#[]⟩,0,0,0,0⟩,
 ⟨⟨#[]⟩,0,0,0,0⟩,
 ⟨⟨#[108,111,99,97,108,46,103,101,116]⟩,2,0,0,0⟩,
 ⟨⟨#[108,111,99,97,108,46,115,101,116]⟩,2,0,0,0⟩,
 ⟨⟨#[108,111,99,97,108,46,116,101,101]⟩,2,0,0,0⟩,
 ⟨⟨#[103,108,111,98,97,108,46,103,101,116]⟩,2,0,0,0⟩,
 ⟨⟨#[103,108,111,98,97,108,46,115,101,116]⟩,2,0,0,0⟩,
 ⟨⟨#[]⟩,0,0,0,0⟩,
 ⟨⟨#[]⟩,0,0,0,0⟩,
 ⟨⟨#[]⟩,0,0,0,0⟩]
def R53t:List Row:=[
 ⟨⟨#[105,51,50,46,108,111,97,100]⟩,5,127,0,127⟩,
 ⟨⟨#[105,54,52,46,108,111,97,100]⟩,5,127,0,126⟩,
 ⟨⟨#[102,51,50,46,108,111,97,100]⟩,5,127,0,125⟩,
 ⟨⟨#[102,54,52,46,108,111,97,100]⟩,5,127,0,124⟩,
 ⟨⟨#[105,51,50,46,108,111,97,100,56,95,115]⟩,5,127,0,127⟩,
 ⟨⟨#[105,51,50,46,108,111,97,100,56,95,117]⟩,5,127,0,127⟩,
 ⟨⟨#[105,51,50,46,108,111,97,100,49,54,95,115]⟩,5,127,0,127⟩,
 ⟨⟨#[105,51,50,46,108,111,97,100,49,54,95,117]⟩,5,127,0,127⟩,
 ⟨⟨#[105,54,52,46,108,111,97,100,56,95,115]⟩,5,127,0,126⟩,
 ⟨⟨#[105,54,52,46,108,111,97,100,56,95,117]⟩,5,127,0,126⟩,
 ⟨⟨#[105,54,52,46,108,111,97,100,49,54,95,115]⟩,5,127,0,126⟩,
 ⟨⟨#[105,54,52,46,108,111,97,100,49,54,95,117]⟩,5,127,0,126⟩,
 ⟨⟨#[105,54,52,46,108,111,97,100,51,50,95,115]⟩,5,127,0,126⟩,
 ⟨⟨#[105,54,52,46,108,111,97,100,51,50,95,117]⟩,5,127,0,126⟩,
 ⟨⟨#[105,51,50,46,115,116,111,114,101]⟩,5,127,127,0⟩,
 ⟨⟨#[105,54,52,46,115,116,111,114,101]⟩,5,127,126,0⟩,
 ⟨⟨#[102,51,50,46,115,116,111,114,101]⟩,5,127,125,0⟩,
 ⟨⟨#[102,54,52,46,115,116,111,114,101]⟩,5,127,124,0⟩,
 ⟨⟨#[105,51,50,46,115,116,111,114,101,56]⟩,5,127,127,0⟩,
 ⟨⟨#[105,51,50,46,115,116,111,114,101,49,54]⟩,5,127,127,0⟩,
 ⟨⟨#[105,54,52,46,115,116,111,114,101,56]⟩,5,127,126,0⟩,
 ⟨⟨#[105,54,52,46,115,116,111,114,101,49,54]⟩,5,127,126,0⟩,
 ⟨⟨#[105,54,52,46,115,116,111,114,101,51,50]⟩,5,127,126,0⟩,
 ⟨⟨#[109,101,109,111,114,121,46,115,105,122,101]⟩,6,0,0,127⟩,
 ⟨⟨#[109,101,109,111,114,121,46,103,114,111,119]⟩,6,127,0,127⟩,
 ⟨⟨#[105,51,50,46,99,111,110,115,116]⟩,7,0,0,127⟩,
 ⟨⟨#[105,54,52,46,99,111,110,115,116]⟩,8,0,0,126⟩,
 ⟨⟨#[102,51,50,46,99,111,110,115,116]⟩,9,0,0,125⟩,
 ⟨⟨#[102,54,52,46,99,111,110,115,116]⟩,10,0,0,124⟩]
def R54t:List Row:=[
 ⟨⟨#[105,51,50,46,101,113,122]⟩,0,127,0,127⟩,
 ⟨⟨#[105,51,50,46,101,113]⟩,0,127,127,127⟩,
 ⟨⟨#[105,51,50,46,110,101]⟩,0,127,127,127⟩,
 ⟨⟨#[105,51,50,46,108,116,95,115]⟩,0,127,127,127⟩,
 ⟨⟨#[105,51,50,46,108,116,95,117]⟩,0,127,127,127⟩,
 ⟨⟨#[105,51,50,46,103,116,95,115]⟩,0,127,127,127⟩,
 ⟨⟨#[105,51,50,46,103,116,95,117]⟩,0,127,127,127⟩,
 ⟨⟨#[105,51,50,46,108,101,95,115]⟩,0,127,127,127⟩,
 ⟨⟨#[105,51,50,46,108,101,95,117]⟩,0,127,127,127⟩,
 ⟨⟨#[105,51,50,46,103,101,95,115]⟩,0,127,127,127⟩,
 ⟨⟨#[105,51,50,46,103,101,95,117]⟩,0,127,127,127⟩,
 ⟨⟨#[105,54,52,46,101,113,122]⟩,0,126,0,127⟩,
 ⟨⟨#[105,54,52,46,101,113]⟩,0,126,126,127⟩,
 ⟨⟨#[105,54,52,46,110,101]⟩,0,126,126,127⟩,
 ⟨⟨#[105,54,52,46,108,116,95,115]⟩,0,126,126,127⟩,
 ⟨⟨#[105,54,52,46,108,116,95,117]⟩,0,126,126,127⟩,
 ⟨⟨#[105,54,52,46,103,116,95,115]⟩,0,126,126,127⟩,
 ⟨⟨#[105,54,52,46,103,116,95,117]⟩,0,126,126,127⟩,
 ⟨⟨#[105,54,52,46,108,101,95,115]⟩,0,126,126,127⟩,
 ⟨⟨#[105,54,52,46,108,101,95,117]⟩,0,126,126,127⟩,
 ⟨⟨#[105,54,52,46,103,101,95,115]⟩,0,126,126,127⟩,
 ⟨⟨#[105,54,52,46,103,101,95,117]⟩,0,126,126,127⟩,
 ⟨⟨#[102,51,50,46,101,113]⟩,0,125,125,127⟩,
 ⟨⟨#[102,51,50,46,110,101]⟩,0,125,125,127⟩,
 ⟨⟨#[102,51,50,46,108,116]⟩,0,125,125,127⟩,
 ⟨⟨#[102,51,50,46,103,116]⟩,0,125,125,127⟩,
 ⟨⟨#[102,51,50,46,108,101]⟩,0,125,125,127⟩,
 ⟨⟨#[102,51,50,46,103,101]⟩,0,125,125,127⟩,
 ⟨⟨#[102,54,52,46,101,113]⟩,0,124,124,127⟩,
 ⟨⟨#[102,54,52,46,110,101]⟩,0,124,124,127⟩,
 ⟨⟨#[102,54,52,46,108,116]⟩,0,124,124,127⟩,
 ⟨⟨#[102,54,52,46,103,116]⟩,0,124,124,127⟩,
 ⟨⟨#[102,54,52,46,108,101]⟩,0,124,124,127⟩,
 ⟨⟨#[102,54,52,46,103,101]⟩,0,124,124,127⟩]
def R55t:List Row:=[
 ⟨⟨#[105,51,50,46,99,108,122]⟩,0,127,0,127⟩,
 ⟨⟨#[105,51,50,46,99,116,122]⟩,0,127,0,127⟩,
 ⟨⟨#[105,51,50,46,112,111,112,99,110,116]⟩,0,127,0,127⟩,
 ⟨⟨#[105,51,50,46,97,100,100]⟩,0,127,127,127⟩,
 ⟨⟨#[105,51,50,46,115,117,98]⟩,0,127,127,127⟩,
 ⟨⟨#[105,51,50,46,109,117,108]⟩,0,127,127,127⟩,
 ⟨⟨#[105,51,50,46,100,105,118,95,115]⟩,0,127,127,127⟩,
 ⟨⟨#[105,51,50,46,100,105,118,95,117]⟩,0,127,127,127⟩,
 ⟨⟨#[105,51,50,46,114,101,109,95,115]⟩,0,127,127,127⟩,
 ⟨⟨#[105,51,50,46,114,101,109,95,117]⟩,0,127,127,127⟩,
 ⟨⟨#[105,51,50,46,97,110,100]⟩,0,127,127,127⟩,
 ⟨⟨#[105,51,50,46,111,114]⟩,0,127,127,127⟩,
 ⟨⟨#[105,51,50,46,120,111,114]⟩,0,127,127,127⟩,
 ⟨⟨#[105,51,50,46,115,104,108]⟩,0,127,127,127⟩,
 ⟨⟨#[105,51,50,46,115,104,114,95,115]⟩,0,127,127,127⟩,
 ⟨⟨#[105,51,50,46,115,104,114,95,117]⟩,0,127,127,127⟩,
 ⟨⟨#[105,51,50,46,114,111,116,108]⟩,0,127,127,127⟩,
 ⟨⟨#[105,51,50,46,114,111,116,114]⟩,0,127,127,127⟩,
 ⟨⟨#[105,54,52,46,99,108,122]⟩,0,126,0,126⟩,
 ⟨⟨#[105,54,52,46,99,116,122]⟩,0,126,0,126⟩,
 ⟨⟨#[105,54,52,46,112,111,112,99,110,116]⟩,0,126,0,126⟩,
 ⟨⟨#[105,54,52,46,97,100,100]⟩,0,126,126,126⟩,
 ⟨⟨#[105,54,52,46,115,117,98]⟩,0,126,126,126⟩,
 ⟨⟨#[105,54,52,46,109,117,108]⟩,0,126,126,126⟩,
 ⟨⟨#[105,54,52,46,100,105,118,95,115]⟩,0,126,126,126⟩,
 ⟨⟨#[105,54,52,46,100,105,118,95,117]⟩,0,126,126,126⟩,
 ⟨⟨#[105,54,52,46,114,101,109,95,115]⟩,0,126,126,126⟩,
 ⟨⟨#[105,54,52,46,114,101,109,95,117]⟩,0,126,126,126⟩,
 ⟨⟨#[105,54,52,46,97,110,100]⟩,0,126,126,126⟩,
 ⟨⟨#[105,54,52,46,111,114]⟩,0,126,126,126⟩,
 ⟨⟨#[105,54,52,46,120,111,114]⟩,0,126,126,126⟩,
 ⟨⟨#[105,54,52,46,115,104,108]⟩,0,126,126,126⟩,
 ⟨⟨#[105,54,52,46,115,104,114,95,115]⟩,0,126,126,126⟩,
 ⟨⟨#[105,54,52,46,115,104,114,95,117]⟩,0,126,126,126⟩,
 ⟨⟨#[105,54,52,46,114,111,116,108]⟩,0,126,126,126⟩,
 ⟨⟨#[105,54,52,46,114,111,116,114]⟩,0,126,126,126⟩]
def R56t:List Row:=[
 ⟨⟨#[102,51,50,46,97,98,115]⟩,0,125,0,125⟩,
 ⟨⟨#[102,51,50,46,110,101,103]⟩,0,125,0,125⟩,
 ⟨⟨#[102,51,50,46,99,101,105,108]⟩,0,125,0,125⟩,
 ⟨⟨#[102,51,50,46,102,108,111,111,114]⟩,0,125,0,125⟩,
 ⟨⟨#[102,51,50,46,116,114,117,110,99]⟩,0,125,0,125⟩,
 ⟨⟨#[102,51,50,46,110,101,97,114,101,115,116]⟩,0,125,0,125⟩,
 ⟨⟨#[102,51,50,46,115,113,114,116]⟩,0,125,0,125⟩,
 ⟨⟨#[102,51,50,46,97,100,100]⟩,0,125,125,125⟩,
 ⟨⟨#[102,51,50,46,115,117,98]⟩,0,125,125,125⟩,
 ⟨⟨#[102,51,50,46,109,117,108]⟩,0,125,125,125⟩,
 ⟨⟨#[102,51,50,46,100,105,118]⟩,0,125,125,125⟩,
 ⟨⟨#[102,51,50,46,109,105,110]⟩,0,125,125,125⟩,
 ⟨⟨#[102,51,50,46,109,97,120]⟩,0,125,125,125⟩,
 ⟨⟨#[102,51,50,46,99,111,112,121,115,105,103,110]⟩,0,125,125,125⟩,
 ⟨⟨#[102,54,52,46,97,98,115]⟩,0,124,0,124⟩,
 ⟨⟨#[102,54,52,46,110,101,103]⟩,0,124,0,124⟩,
 ⟨⟨#[102,54,52,46,99,101,105,108]⟩,0,124,0,124⟩,
 ⟨⟨#[102,54,52,46,102,108,111,111,114]⟩,0,124,0,124⟩,
 ⟨⟨#[102,54,52,46,116,114,117,110,99]⟩,0,124,0,124⟩,
 ⟨⟨#[102,54,52,46,110,101,97,114,101,115,116]⟩,0,124,0,124⟩,
 ⟨⟨#[102,54,52,46,115,113,114,116]⟩,0,124,0,124⟩,
 ⟨⟨#[102,54,52,46,97,100,100]⟩,0,124,124,124⟩,
 ⟨⟨#[102,54,52,46,115,117,98]⟩,0,124,124,124⟩,
 ⟨⟨#[102,54,52,46,109,117,108]⟩,0,124,124,124⟩,
 ⟨⟨#[102,54,52,46,100,105,118]⟩,0,124,124,124⟩,
 ⟨⟨#[102,54,52,46,109,105,110]⟩,0,124,124,124⟩,
 ⟨⟨#[102,54,52,46,109,97,120]⟩,0,124,124,124⟩,
 ⟨⟨#[102,54,52,46,99,111,112,121,115,105,103,110]⟩,0,124,124,124⟩]
def R57t:List Row:=[
 ⟨⟨#[105,51,50,46,119,114,97,112,95,105,54,52]⟩,0,126,0,127⟩,
 ⟨⟨#[105,51,50,46,116,114,117,110,99,95,102,51,50,95,115]⟩,0,125,0,127⟩,
 ⟨⟨#[105,51,50,46,116,114,117,110,99,95,102,51,50,95,117]⟩,0,125,0,127⟩,
 ⟨⟨#[105,51,50,46,116,114,117,110,99,95,102,54,52,95,115]⟩,0,124,0,127⟩,
 ⟨⟨#[105,51,50,46,116,114,117,110,99,95,102,54,52,95,117]⟩,0,124,0,127⟩,
 ⟨⟨#[105,54,52,46,101,120,116,101,110,100,95,105,51,50,95,115]⟩,0,127,0,126⟩,
 ⟨⟨#[105,54,52,46,101,120,116,101,110,100,95,105,51,50,95,117]⟩,0,127,0,126⟩,
 ⟨⟨#[105,54,52,46,116,114,117,110,99,95,102,51,50,95,115]⟩,0,125,0,126⟩,
 ⟨⟨#[105,54,52,46,116,114,117,110,99,95,102,51,50,95,117]⟩,0,125,0,126⟩,
 ⟨⟨#[105,54,52,46,116,114,117,110,99,95,102,54,52,95,115]⟩,0,124,0,126⟩,
 ⟨⟨#[105,54,52,46,116,114,117,110,99,95,102,54,52,95,117]⟩,0,124,0,126⟩,
 ⟨⟨#[102,51,50,46,99,111,110,118,101,114,116,95,105,51,50,95,115]⟩,0,127,0,125⟩,
 ⟨⟨#[102,51,50,46,99,111,110,118,101,114,116,95,105,51,50,95,117]⟩,0,127,0,125⟩,
 ⟨⟨#[102,51,50,46,99,111,110,118,101,114,116,95,105,54,52,95,115]⟩,0,126,0,125⟩,
 ⟨⟨#[102,51,50,46,99,111,110,118,101,114,116,95,105,54,52,95,117]⟩,0,126,0,125⟩,
 ⟨⟨#[102,51,50,46,100,101,109,111,116,101,95,102,54,52]⟩,0,124,0,125⟩,
 ⟨⟨#[102,54,52,46,99,111,110,118,101,114,116,95,105,51,50,95,115]⟩,0,127,0,124⟩,
 ⟨⟨#[102,54,52,46,99,111,110,118,101,114,116,95,105,51,50,95,117]⟩,0,127,0,124⟩,
 ⟨⟨#[102,54,52,46,99,111,110,118,101,114,116,95,105,54,52,95,115]⟩,0,126,0,124⟩,
 ⟨⟨#[102,54,52,46,99,111,110,118,101,114,116,95,105,54,52,95,117]⟩,0,126,0,124⟩,
 ⟨⟨#[102,54,52,46,112,114,111,109,111,116,101,95,102,51,50]⟩,0,125,0,124⟩,
 ⟨⟨#[105,51,50,46,114,101,105,110,116,101,114,112,114,101,116,95,102,51,50]⟩,0,125,0,127⟩,
 ⟨⟨#[105,54,52,46,114,101,105,110,116,101,114,112,114,101,116,95,102,54,52]⟩,0,124,0,126⟩,
 ⟨⟨#[102,51,50,46,114,101,105,110,116,101,114,112,114,101,116,95,105,51,50]⟩,0,127,0,125⟩,
 ⟨⟨#[102,54,52,46,114,101,105,110,116,101,114,112,114,101,116,95,105,54,52]⟩,0,126,0,124⟩]
def tbl:List Row:=R52t++(R53t++(R54t++(R55t++(R56t++(R57t)))))
def R52:List Row:=Td 0 Z0++R52t
def R53:List Row:=Td 40 Z0++R53t
def R54:List Row:=Td 69 Z0++R54t
def R55:List Row:=Td 103 Z0++R55t
def R56:List Row:=Td 139 Z0++R56t
def R57:List Row:=Td 167 Z0++R57t
def Qa (op:Int):Row:=if 0<=op/\op<192 then tbl.getD op.toNat Z0 else Z0
theorem flat_at (R:List Row)(p:Nat)(r:Row)(h:R[p]?=some r):((flat R).drop (p*5)).take 5=rowL r:=by
 induction R generalizing p with
 |nil=>simp at h
 |cons x l ih =>
  cases p with
  |zero=>simp at h;subst h;simp[flat]
  |succ p =>
   have a:l[p]?=some r:=by simpa using h
   have e:(p+1)*5=5+p*5:=by omega
   rw[e,<- List.drop_drop]
   show(((rowL x++flat l).drop 5).drop (p*5)).take 5=_
   rw[List.drop_left' (by rfl)]
   exact ih p a
theorem idxT {t n:Nat}(a:Q.underlying t=some (.array n 320))(R:List Row){cs:Array Vu}(hv:cs=(flat R).toArray)(p:Nat)(r:Row)(hr:R[p]?=some r)(hp:p<n)(w:J):(Instr.index t (Ag cs) (U O p)).run Q w=.ok (Xg r) w:=by
 subst hv;have b:∀w,(sizeOf 320).run Q w=.ok 5 w:=λw=>by kernel_rfl
 have c:∀w,(isAgg 320).run Q w=.ok true w:=λw=>by kernel_rfl
 simp[Instr.index,asIntOf,run_underlying a,part,b,c,hp,flat_at R p r hr]
theorem Gc (p:Nat)(r:Row)(h:tbl[p]?=some r):Qa p=r:=by
 have c:p<N tbl:=by
  rcases Nat.lt_or_ge p (N tbl)with a|a
  . exact a
  rw[List.getElem?_eq_none a]at h;cases h
 have b:p<192:=c;simp only[Qa,show(0:Int)<=p/\(p:Int)<192 by omega,and_self,if_true,Int.toNat_natCast,Kx,h,Option.getD_some]
theorem piece (A B C:List Row)(p:Nat)(b:N A<=p)(c:p<N A+N B):∃r,(Td (N A) Z0++B)[p]?=some r/\(A++(B++C))[p]?=some r:=by
 have a:p-N A<N B:=by omega
 refine⟨B[p-N A],?_,?_⟩
 . rw[Tb (by simpa using b),List.length_replicate,Kj a]
 rw[Tb b,List.getElem?_append_left a,Kj a]
theorem R52_at (p:Nat)(b:0<=p)(a:p<40):R52[p]?=some (Qa p):=by
 obtain⟨r,d,c⟩:=piece (([]:List Row)) R52t (R53t++(R54t++(R55t++(R56t++(R57t))))) p b a;have e:tbl=(([]:List Row))++(R52t++(R53t++(R54t++(R55t++(R56t++(R57t)))))):=by simp only[tbl,Kv,Hh,Lg]
 rw[Gc p r (by rw[e];exact c)];exact d
theorem R53_at (p:Nat)(b:40<=p)(a:p<69):R53[p]?=some (Qa p):=by
 obtain⟨r,d,c⟩:=piece (R52t) R53t (R54t++(R55t++(R56t++(R57t)))) p b a;have e:tbl=(R52t)++(R53t++(R54t++(R55t++(R56t++(R57t))))):=by simp only[tbl,Kv,Hh,Lg]
 rw[Gc p r (by rw[e];exact c)];exact d
theorem R54_at (p:Nat)(b:69<=p)(a:p<103):R54[p]?=some (Qa p):=by
 obtain⟨r,d,c⟩:=piece (R52t++(R53t)) R54t (R55t++(R56t++(R57t))) p b a;have e:tbl=(R52t++(R53t))++(R54t++(R55t++(R56t++(R57t)))):=by simp only[tbl,Kv,Hh,Lg]
 rw[Gc p r (by rw[e];exact c)];exact d
theorem R55_at (p:Nat)(b:103<=p)(a:p<139):R55[p]?=some (Qa p):=by
 obtain⟨r,d,c⟩:=piece (R52t++(R53t++(R54t))) R55t (R56t++(R57t)) p b a;have e:tbl=(R52t++(R53t++(R54t)))++(R55t++(R56t++(R57t))):=by simp only[tbl,Kv,Hh,Lg]
 rw[Gc p r (by rw[e];exact c)];exact d
theorem R56_at (p:Nat)(b:139<=p)(a:p<167):R56[p]?=some (Qa p):=by
 obtain⟨r,d,c⟩:=piece (R52t++(R53t++(R54t++(R55t)))) R56t (R57t) p b a;have e:tbl=(R52t++(R53t++(R54t++(R55t))))++(R56t++(R57t)):=by simp only[tbl,Kv,Hh,Lg]
 rw[Gc p r (by rw[e];exact c)];exact d
theorem R57_at (p:Nat)(b:167<=p)(a:p<192):R57[p]?=some (Qa p):=by
 obtain⟨r,d,c⟩:=piece (R52t++(R53t++(R54t++(R55t++(R56t))))) R57t (([]:List Row)) p b a;have e:tbl=(R52t++(R53t++(R54t++(R55t++(R56t)))))++(R57t++(([]:List Row))):=by simp only[tbl,Kv,Hh,Lg]
 rw[Gc p r (by rw[e];exact c)];exact d
theorem l1In_c (x a b:Int)(w:J):Ec Q 24 #[U O x,U O a,U O b] w λe w'=>e=Z (G (decide (a<=x/\x<=b)))/\w=w':=by
 by_cases d:a<=x
 . by_cases c:x<=b
   . go_enter func24,ntmps24;go_wp2;go_ret;exact⟨by simp[d,c],rfl⟩
   go_enter func24,ntmps24;go_wp2;go_ret;exact⟨by simp[d,c],rfl⟩
 go_enter func24,ntmps24;go_wp2;go_ret;have hd:(decide (a<=x)&&decide (x<=b))=false:=by simp;omega
 rw[hd];exact⟨rfl,rfl⟩
theorem JY (x c d:Int)(w:J)(h:c<=x/\x<=d):Ec Q 24 #[U O x,U O c,U O d] w λe w'=>e=Z (G true)/\w=w' :=
 (l1In_c x c d w).mono λe w' ⟨a,b⟩=>⟨by simpa[h.1,h.2]using a,b⟩
theorem Xk (x c d:Int)(w:J)(h:¬(c<=x/\x<=d)):Ec Q 24 #[U O x,U O c,U O d] w λe w'=>e=Z (G false)/\w=w' :=
 (l1In_c x c d w).mono λe w' ⟨a,b⟩=>⟨by rw[a,decide_eq_false h],b⟩
theorem rng (a n:Nat)(f:Nat->Bool)(h:(List.range n).all (λi=>f (a+i))=true)(p:Int)(c:(a:Int)<=p)(b:p<(a+n:Nat)):f p.toNat=true:=by
 have:=List.all_eq_true.1 h (p.toNat-a) (by simp;omega);rw[<- this];congr 1;omega
def Qi (r:Row):Int:=if r.nm.size=0 then -1 else r.f
theorem known_0 (p:Int)(w:J)(a:p<=-1):Ec Q 193 #[U O p] w λe w'=>e=Z (G false)/\w=w':=by
 have c:(p==(26:Int))=false:=by simp;omega
 have b:(p==(27:Int))=false:=by simp;omega
 go_enter func193,ntmps193;go_wp2_with (first|(go_at_call 24;refine(Xk _ _ _ _ (by omega)).mono ?_;rintro e w1 ⟨rfl,rfl⟩)|(go_at_call 24;refine(JY _ _ _ _ (by omega)).mono ?_;rintro e w1 ⟨rfl,rfl⟩))
 go_ret;exact⟨rfl,rfl⟩
theorem known_1 (p:Int)(w:J)(b:0<=p)(a:p<=5):Ec Q 193 #[U O p] w λe w'=>e=Z (G true)/\w=w':=by
 go_enter func193,ntmps193;go_wp2_with (first|(go_at_call 24;refine(Xk _ _ _ _ (by omega)).mono ?_;rintro e w1 ⟨rfl,rfl⟩)|(go_at_call 24;refine(JY _ _ _ _ (by omega)).mono ?_;rintro e w1 ⟨rfl,rfl⟩))
 go_ret;exact⟨rfl,rfl⟩
theorem known_2 (p:Int)(w:J)(b:6<=p)(a:p<=10):Ec Q 193 #[U O p] w λe w'=>e=Z (G false)/\w=w':=by
 have d:(p==(26:Int))=false:=by simp;omega
 have c:(p==(27:Int))=false:=by simp;omega
 go_enter func193,ntmps193;go_wp2_with (first|(go_at_call 24;refine(Xk _ _ _ _ (by omega)).mono ?_;rintro e w1 ⟨rfl,rfl⟩)|(go_at_call 24;refine(JY _ _ _ _ (by omega)).mono ?_;rintro e w1 ⟨rfl,rfl⟩))
 go_ret;exact⟨rfl,rfl⟩
theorem Gp (p:Int)(w:J)(b:11<=p)(a:p<=17):Ec Q 193 #[U O p] w λe w'=>e=Z (G true)/\w=w':=by
 go_enter func193,ntmps193;go_wp2_with (first|(go_at_call 24;refine(Xk _ _ _ _ (by omega)).mono ?_;rintro e w1 ⟨rfl,rfl⟩)|(go_at_call 24;refine(JY _ _ _ _ (by omega)).mono ?_;rintro e w1 ⟨rfl,rfl⟩))
 go_ret;exact⟨rfl,rfl⟩
theorem known_4 (p:Int)(w:J)(b:18<=p)(a:p<=25):Ec Q 193 #[U O p] w λe w'=>e=Z (G false)/\w=w':=by
 have d:(p==(26:Int))=false:=by simp;omega
 have c:(p==(27:Int))=false:=by simp;omega
 go_enter func193,ntmps193;go_wp2_with (first|(go_at_call 24;refine(Xk _ _ _ _ (by omega)).mono ?_;rintro e w1 ⟨rfl,rfl⟩)|(go_at_call 24;refine(JY _ _ _ _ (by omega)).mono ?_;rintro e w1 ⟨rfl,rfl⟩))
 go_ret;exact⟨rfl,rfl⟩
theorem known_5 (p:Int)(w:J)(b:26<=p)(a:p<=26):Ec Q 193 #[U O p] w λe w'=>e=Z (G true)/\w=w':=by
 have c:(p==(26:Int))=true:=by simp;omega
 go_enter func193,ntmps193;go_wp2_with (first|(go_at_call 24;refine(Xk _ _ _ _ (by omega)).mono ?_;rintro e w1 ⟨rfl,rfl⟩)|(go_at_call 24;refine(JY _ _ _ _ (by omega)).mono ?_;rintro e w1 ⟨rfl,rfl⟩))
 go_ret;exact⟨rfl,rfl⟩
theorem known_6 (p:Int)(w:J)(b:27<=p)(a:p<=27):Ec Q 193 #[U O p] w λe w'=>e=Z (G true)/\w=w':=by
 have d:(p==(26:Int))=false:=by simp;omega
 have c:(p==(27:Int))=true:=by simp;omega
 go_enter func193,ntmps193;go_wp2_with (first|(go_at_call 24;refine(Xk _ _ _ _ (by omega)).mono ?_;rintro e w1 ⟨rfl,rfl⟩)|(go_at_call 24;refine(JY _ _ _ _ (by omega)).mono ?_;rintro e w1 ⟨rfl,rfl⟩))
 go_ret;exact⟨rfl,rfl⟩
theorem known_7 (p:Int)(w:J)(b:28<=p)(a:p<=31):Ec Q 193 #[U O p] w λe w'=>e=Z (G false)/\w=w':=by
 have d:(p==(26:Int))=false:=by simp;omega
 have c:(p==(27:Int))=false:=by simp;omega
 go_enter func193,ntmps193;go_wp2_with (first|(go_at_call 24;refine(Xk _ _ _ _ (by omega)).mono ?_;rintro e w1 ⟨rfl,rfl⟩)|(go_at_call 24;refine(JY _ _ _ _ (by omega)).mono ?_;rintro e w1 ⟨rfl,rfl⟩))
 go_ret;exact⟨rfl,rfl⟩
theorem known_8 (p:Int)(w:J)(b:32<=p)(a:p<=36):Ec Q 193 #[U O p] w λe w'=>e=Z (G true)/\w=w':=by
 have d:(p==(26:Int))=false:=by simp;omega
 have c:(p==(27:Int))=false:=by simp;omega
 go_enter func193,ntmps193;go_wp2_with (first|(go_at_call 24;refine(Xk _ _ _ _ (by omega)).mono ?_;rintro e w1 ⟨rfl,rfl⟩)|(go_at_call 24;refine(JY _ _ _ _ (by omega)).mono ?_;rintro e w1 ⟨rfl,rfl⟩))
 go_ret;exact⟨rfl,rfl⟩
theorem known_9 (p:Int)(w:J)(b:37<=p)(a:p<=39):Ec Q 193 #[U O p] w λe w'=>e=Z (G false)/\w=w':=by
 have d:(p==(26:Int))=false:=by simp;omega
 have c:(p==(27:Int))=false:=by simp;omega
 go_enter func193,ntmps193;go_wp2_with (first|(go_at_call 24;refine(Xk _ _ _ _ (by omega)).mono ?_;rintro e w1 ⟨rfl,rfl⟩)|(go_at_call 24;refine(JY _ _ _ _ (by omega)).mono ?_;rintro e w1 ⟨rfl,rfl⟩))
 go_ret;exact⟨rfl,rfl⟩
theorem known_10 (p:Int)(w:J)(b:40<=p)(a:p<=191):Ec Q 193 #[U O p] w λe w'=>e=Z (G true)/\w=w':=by
 have d:(p==(26:Int))=false:=by simp;omega
 have c:(p==(27:Int))=false:=by simp;omega
 go_enter func193,ntmps193;go_wp2_with (first|(go_at_call 24;refine(Xk _ _ _ _ (by omega)).mono ?_;rintro e w1 ⟨rfl,rfl⟩)|(go_at_call 24;refine(JY _ _ _ _ (by omega)).mono ?_;rintro e w1 ⟨rfl,rfl⟩))
 go_ret;exact⟨rfl,rfl⟩
theorem known_11 (p:Int)(w:J)(a:192<=p):Ec Q 193 #[U O p] w λe w'=>e=Z (G false)/\w=w':=by
 have c:(p==(26:Int))=false:=by simp;omega
 have b:(p==(27:Int))=false:=by simp;omega
 go_enter func193,ntmps193;go_wp2_with (first|(go_at_call 24;refine(Xk _ _ _ _ (by omega)).mono ?_;rintro e w1 ⟨rfl,rfl⟩)|(go_at_call 24;refine(JY _ _ _ _ (by omega)).mono ?_;rintro e w1 ⟨rfl,rfl⟩))
 go_ret;exact⟨rfl,rfl⟩
theorem info2:(Q.info? 2).map (λi=>(i.zero,i.size,i.bytes))=some (some (U O 0),1,8):=by kernel_rfl
abbrev I (xs:List Int):List Vu:=xs.map λx=>Value.int O x
def Has (w:J)(a:Option Ad)(xs:List Int):Prop:=xs=[]\/∃b off,a=some ⟨b,off,none⟩/\∀i,i<N xs->w.cell? ⟨b,off+i,none⟩=some (U O (xs.getD i 0))
theorem eq_any (a b)(t s:Nat)(xs:List Int)(w)(p:N xs<=1099511627776)(l:Has w a xs)(j:Has w b xs):Ec Q 47 #[S a (N xs) t,S b (N xs) s] w λe w'=>e=Z (G true)/\∃n,w'=w.drewN n:=by
 by_cases c:xs=[]
 . subst c;clear l j p;go_enter func47,ntmps47;go_wp2;refine wp_loop_rounds 1 ?_;rw[rounds_succ];go_wp2;go_ret;exact⟨rfl,0,rfl⟩
 have g:0<N xs:=List.length_pos_iff.2 c;rcases l with h|⟨u,o,rfl,f⟩
 . exact absurd h c
 rcases j with h|⟨A,v,rfl,r⟩
 . exact absurd h c
 clear c;go_enter func47,ntmps47;go_wp2;go_loopw [5] (λi wr=>∃k:Nat,k<=N xs/\i=U O k/\∃m,wr=w.drewN m) (λi _=>N xs-(intOf i).toNat)
 case atStart=>exact⟨0,Nat.zero_le _,rfl,0,rfl⟩
 obtain⟨k,y,rfl,m,rfl⟩:=hrel;by_cases d:k<N xs
 . have z:(w.drewN m).cell? ⟨u,o+k,none⟩=some (U O (xs.getD k 0)):=f k d;(have q:(k:Int)<(N xs:Int):=by omega);go_wp2;(go_quiet (fail));go_wp2;(go_roundw);(case rel=>exact⟨k+1,by omega,by go_num,_,rfl⟩);case measure=>simp[intOf];omega
 go_wp2;go_ret;exact⟨rfl,m,rfl⟩
theorem XH {a b c:J}{row:Option Nat}(h:a.grownBy b row)(k:b.grownBy c row):a.grownBy c row :=
 ⟨k.os.trans h.os,k.tape.trans h.tape,k.output.trans h.output,Nat.le_trans h.size k.size,λi hi hne=>(k.block i (Nat.lt_of_lt_of_le hi h.size) hne).trans (h.block i hi hne)⟩
theorem Qo {B w w'}(h:Bw B w w')(n:Nat):Bw B w (w'.drewN n):=⟨h.os,h.tape,h.output,h.size,h.block⟩
theorem own_has {B cap:Nat}{L:List Int}(h:w.ownsRow B 2 1 (S (some ⟨g,0,none⟩) (N L) cap) (N L) (I L)):Has w (some ⟨g,0,none⟩) L:=by
 refine .inr ⟨g,0,rfl,λi hi=>?_⟩;rw[Nat.zero_add,h.cellAt i (by omega)];simp[Kx,hi]
structure In where
 op:Int
 a:Int
 b:Int
 v:Int
 l:List Int
abbrev inV (x:In)(la:Option Ad)(lc:Nat):Vu:=Ag #[U O x.op,U O x.a,U O x.b,U Ou x.v,S la (N x.l) lc]
def InAt (w:J)(b o:Nat)(x:In):Prop:=∃la lc,w.cell? ⟨b,o,none⟩=some (U O x.op)/\w.cell? ⟨b,o+1,none⟩=some (U O x.a)/\w.cell? ⟨b,o+2,none⟩=some (U O x.b)/\w.cell? ⟨b,o+3,none⟩=some (U Ou x.v)/\w.cell? ⟨b,o+4,none⟩=some (S la (N x.l) lc)/\Has w la x.l
def I0:In:=⟨0,0,0,0,[]⟩
def Lst (w:J)(a:Option Ad)(xs:List In):Prop:=xs=[]\/∃b off,a=some ⟨b,off,none⟩/\∀i,i<N xs->InAt w b (off+i*5) (xs.getD i I0)
theorem InAt.keep {b o:Nat}{x:In}(h:InAt w b o x)(a:Bw w.heap.size w w1):InAt w1 b o x:=by
 obtain⟨k,j,f,r,q,n,m,l⟩:=h;have c:=Kk w _ f;refine⟨k,j,(a.cell (p:=⟨b,o,none⟩) c).trans f,(a.cell (p:=⟨b,o+1,none⟩) c).trans r,(a.cell (p:=⟨b,o+2,none⟩) c).trans q,(a.cell (p:=⟨b,o+3,none⟩) c).trans n,(a.cell (p:=⟨b,o+4,none⟩) c).trans m,?_⟩;rcases l with h|⟨s,g,e,d⟩
 . exact .inl h
 exact .inr ⟨s,g,e,λi hi=>(a.cell (Kk w _ (d i hi))).trans (d i hi)⟩
theorem Lst.keep {a:Option Ad}{xs:List In}(h:Lst w a xs)(d:Bw w.heap.size w w1):Lst w1 a xs:=by
 rcases h with h|⟨b,o,e,c⟩
 . exact .inl h
 exact .inr ⟨b,o,e,λi hi=>(c i hi).keep d⟩
theorem Has.keep {w w1 a xs}(h:Has w a xs)(d:Bw w.heap.size w w1):Has w1 a xs:=by
 rcases h with h|⟨f,c,e,b⟩
 . exact .inl h
 exact .inr ⟨f,c,e,λi hi=>(d.cell (Kk w _ (b i hi))).trans (b i hi)⟩
def C5 (w:J)(g o:Nat)(a b c d e:Vu):Prop:=(w.cell? ⟨g,o,none⟩=some a/\w.cell? ⟨g,o+1,none⟩=some b/\w.cell? ⟨g,o+2,none⟩=some c/\w.cell? ⟨g,o+3,none⟩=some d/\w.cell? ⟨g,o+4,none⟩=some e)/\∀i,w.frozen? ⟨g,i,none⟩=false
theorem C5.keep {o:Nat}(h:C5 w g o a b c d e)(k:Bw w.heap.size w w1):C5 w1 g o a b c d e:=by
 obtain⟨⟨l,r,q,n,m⟩,f⟩:=h;have j:=Kk w _ l;exact⟨⟨(k.cell (p:=⟨g,o,none⟩) j).trans l,(k.cell (p:=⟨g,o+1,none⟩) j).trans r,(k.cell (p:=⟨g,o+2,none⟩) j).trans q,(k.cell (p:=⟨g,o+3,none⟩) j).trans n,(k.cell (p:=⟨g,o+4,none⟩) j).trans m⟩,λi=>(k.frozen (p:=⟨g,i,none⟩) j).trans (f i)⟩
theorem C5.new {t:TypeId}:C5 (w.alloc (Fc #[a,b,c,d,e] t)) w.heap.size 0 a b c d e :=
 ⟨⟨Qe rfl rfl,Qe rfl rfl,Qe rfl rfl,Qe rfl rfl,Qe rfl rfl⟩,λi=>World.frozen?_alloc_new w _ t i⟩
theorem C5.past {o:Obj}{q:Nat}(h:C5 w g q a b c d e):C5 (w.alloc o) g q a b c d e:=h.keep (bFz.alloc lRz _)
theorem QS {p:Ad}{v:Vu}(h:w.cell? p=some u):(w.setCell p v).cell? p=some v:=World.cell?_setCell_same _ _ _ h
theorem QE {i j:Nat}{v:Vu}(h:w.cell? ⟨g,j,none⟩=some u)(hn:i≠j):(w.setCell ⟨g,i,none⟩ v).cell? ⟨g,j,none⟩=some u:=by
 rw[World.cell?_setCell_other _ _ _ _ (λhj=>hn (congrArg Addr.off hj))];exact h
open Go.RowKit Go.Sort
def Qz (x:Int):Bool:=decide (0<=x/\x<=4294967295)
def tyB (x:Int):Bool:=decide (124<=x/\x<=127)
theorem Ga (x:Int)(w:J):Ec Q 126 #[U O x] w λe w'=>e=Z (G (Qz x))/\w=w':=by
 have H:=Hm (l1In_c x 0 4294967295);go_enter func126,ntmps126;go_wp2_with fail
 refine(H.o _).mono ?_;rintro e w1 ⟨rfl,rfl⟩;generalize a:decide (0<=x/\x<=4294967295)=bb;go_wp2;go_ret;exact⟨by rw[<- a];rfl,rfl⟩
theorem ty_c (x:Int)(w:J):Ec Q 186 #[U O x] w λe w'=>e=Z (G (tyB x))/\w=w':=by
 have H:=Hm (l1In_c x 124 127);go_enter func186,ntmps186;go_wp2_with fail
 refine(H.o _).mono ?_;rintro e w1 ⟨rfl,rfl⟩;generalize a:decide (124<=x/\x<=127)=bb;go_wp2;go_ret;exact⟨by rw[<- a];rfl,rfl⟩
theorem XV (x:Int)(w:J):Ec Q 156 #[U O x] w λe w'=>e=Z (G (Qz x))/\w=w':=by
 go_enter func156,ntmps156;go_wp2
 all_goals
  go_ret
  refine⟨?_,rfl⟩
  simp[Qz, *]
  try omega
theorem ity_c (x:Int)(w:J):Ec Q 202 #[U O x] w λe w'=>e=Z (G (tyB x))/\w=w':=by
 go_enter func202,ntmps202;go_wp2
 all_goals
  go_ret
  refine⟨?_,rfl⟩
  simp[tyB, *]
  try omega
theorem Qn:Qz 0=true:=rfl
theorem XY (l:List Int):((N l:Int)==0)=l.isEmpty:=by
 cases l with
 |nil=>rfl
 |cons a t=>simp;omega
def Qr (f:Int)(x:In):Bool :=
 if f=0\/f=6 then decide (x.a=0)&&decide (x.b=0)&&decide (x.v=0)&&x.l.isEmpty
 else if f=1 then(decide (x.a=64) || tyB x.a)&&decide (x.b=0)&&decide (x.v=0)&&x.l.isEmpty
 else if f=2\/f=4 then Qz x.a&&decide (x.b=0)&&decide (x.v=0)&&x.l.isEmpty
 else if f=3 then x.l.all Qz&&Qz x.a&&decide (x.b=0)&&decide (x.v=0)
 else if f=5 then Qz x.a&&Qz x.b&&decide (x.v=0)&&x.l.isEmpty
 else if f=7\/f=9 then decide (x.a=0)&&decide (x.b=0)&&decide (x.v<4294967296)&&x.l.isEmpty
 else if f=8\/f=10 then decide (x.a=0)&&decide (x.b=0)&&x.l.isEmpty
 else false
