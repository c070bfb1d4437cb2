import Derived.Test.YtdbmolambolmgaaGreatChecked
import Derived.WalkKit
import Derived.ProofKit
import Derived.WalkSpells
import Derived.WalkLawsBesides
import Derived.Below
import Derived.Deep.QuietTactic
import Derived.BigQuiet
set_option linter.all false
set_option maxHeartbeats 16000000
set_option maxRecDepth 100000
namespace Go.Proofs.YtdbmolambolmgaaGreat
open Go.RowKit
theorem Hid.mk' {p:Prop} (h:p):Hid p:=h
theorem Hm {p:Prop} (h:p):Hid p:=h
theorem cell_new {w:World} {cs:Array Value} {e:TypeId} {g i:Nat} {u:Value} (hg:g=w.heap.size) (hu:cs[i]?=some u):(w.alloc (.cells cs e)).cell? ⟨g,i,none⟩=some u:=by
 subst hg
 simp [hu]
open Go.RowKit
structure Row where
 nm:ByteArray
 f:Int
 a:Int
 b:Int
 g:Int
def Z0:Row:=⟨⟨#[]⟩,0,0,0,0⟩
abbrev rowL (r:Row):List Value:=[.string r.nm,.int .i64 r.f,.int .i64 r.a,.int .i64 r.b,.int .i64 r.g]
abbrev rowV (r:Row):Value:=.agg #[.string r.nm,.int .i64 r.f,.int .i64 r.a,.int .i64 r.b,.int .i64 r.g]
def flat:List Row→List Value
 | []=>[]
 | r::l=>rowL r++flat l
def R52t:List Row:=[
 ⟨⟨#[117,110,114,101,97,99,104,97,98,108,101]⟩,0,0,0,0⟩,
 ⟨⟨#[110,111,112]⟩,0,0,0,0⟩,
 ⟨⟨#[98,108,111,99,107]⟩,1,0,0,0⟩,
 ⟨⟨#[108,111,111,112]⟩,1,0,0,0⟩,
 ⟨⟨#[105,102]⟩,1,0,0,0⟩,
 ⟨⟨#[101,108,115,101]⟩,0,0,0,0⟩,
 ⟨⟨#[]⟩,0,0,0,0⟩,
 ⟨⟨#[]⟩,0,0,0,0⟩,
 ⟨⟨#[]⟩,0,0,0,0⟩,
 ⟨⟨#[]⟩,0,0,0,0⟩,
 ⟨⟨#[]⟩,0,0,0,0⟩,
 ⟨⟨#[101,110,100]⟩,0,0,0,0⟩,
 ⟨⟨#[98,114]⟩,2,0,0,0⟩,
 ⟨⟨#[98,114,95,105,102]⟩,2,0,0,0⟩,
 ⟨⟨#[98,114,95,116,97,98,108,101]⟩,3,0,0,0⟩,
 ⟨⟨#[114,101,116,117,114,110]⟩,0,0,0,0⟩,
 ⟨⟨#[99,97,108,108]⟩,2,0,0,0⟩,
 ⟨⟨#[99,97,108,108,95,105,110,100,105,114,101,99,116]⟩,4,0,0,0⟩,
 ⟨⟨#[]⟩,0,0,0,0⟩,
 ⟨⟨#[]⟩,0,0,0,0⟩,
 ⟨⟨#[]⟩,0,0,0,0⟩,
 ⟨⟨#[]⟩,0,0,0,0⟩,
 ⟨⟨#[]⟩,0,0,0,0⟩,
 ⟨⟨#[]⟩,0,0,0,0⟩,
 ⟨⟨#[]⟩,0,0,0,0⟩,
 ⟨⟨#[]⟩,0,0,0,0⟩,
 ⟨⟨#[100,114,111,112]⟩,0,0,0,0⟩,
 ⟨⟨#[115,101,108,101,99,116]⟩,0,0,0,0⟩,
 ⟨⟨#[]⟩,0,0,0,0⟩,
 ⟨⟨#[]⟩,0,0,0,0⟩,
 ⟨⟨#[]⟩,0,0,0,0⟩,
 ⟨⟨#[]⟩,0,0,0,0⟩,
 ⟨⟨#[108,111,99,97,108,46,103,101,116]⟩,2,0,0,0⟩,
 ⟨⟨#[108,111,99,97,108,46,115,101,116]⟩,2,0,0,0⟩,
 ⟨⟨#[108,111,99,97,108,46,116,101,101]⟩,2,0,0,0⟩,
 ⟨⟨#[103,108,111,98,97,108,46,103,101,116]⟩,2,0,0,0⟩,
 ⟨⟨#[103,108,111,98,97,108,46,115,101,116]⟩,2,0,0,0⟩,
 ⟨⟨#[]⟩,0,0,0,0⟩,
 ⟨⟨#[]⟩,0,0,0,0⟩,
 ⟨⟨#[]⟩,0,0,0,0⟩]
def R53t:List Row:=[
 ⟨⟨#[105,51,50,46,108,111,97,100]⟩,5,127,0,127⟩,
 ⟨⟨#[105,54,52,46,108,111,97,100]⟩,5,127,0,126⟩,
 ⟨⟨#[102,51,50,46,108,111,97,100]⟩,5,127,0,125⟩,
 ⟨⟨#[102,54,52,46,108,111,97,100]⟩,5,127,0,124⟩,
 ⟨⟨#[105,51,50,46,108,111,97,100,56,95,115]⟩,5,127,0,127⟩,
 ⟨⟨#[105,51,50,46,108,111,97,100,56,95,117]⟩,5,127,0,127⟩,
 ⟨⟨#[105,51,50,46,108,111,97,100,49,54,95,115]⟩,5,127,0,127⟩,
 ⟨⟨#[105,51,50,46,108,111,97,100,49,54,95,117]⟩,5,127,0,127⟩,
 ⟨⟨#[105,54,52,46,108,111,97,100,56,95,115]⟩,5,127,0,126⟩,
 ⟨⟨#[105,54,52,46,108,111,97,100,56,95,117]⟩,5,127,0,126⟩,
 ⟨⟨#[105,54,52,46,108,111,97,100,49,54,95,115]⟩,5,127,0,126⟩,
 ⟨⟨#[105,54,52,46,108,111,97,100,49,54,95,117]⟩,5,127,0,126⟩,
 ⟨⟨#[105,54,52,46,108,111,97,100,51,50,95,115]⟩,5,127,0,126⟩,
 ⟨⟨#[105,54,52,46,108,111,97,100,51,50,95,117]⟩,5,127,0,126⟩,
 ⟨⟨#[105,51,50,46,115,116,111,114,101]⟩,5,127,127,0⟩,
 ⟨⟨#[105,54,52,46,115,116,111,114,101]⟩,5,127,126,0⟩,
 ⟨⟨#[102,51,50,46,115,116,111,114,101]⟩,5,127,125,0⟩,
 ⟨⟨#[102,54,52,46,115,116,111,114,101]⟩,5,127,124,0⟩,
 ⟨⟨#[105,51,50,46,115,116,111,114,101,56]⟩,5,127,127,0⟩,
 ⟨⟨#[105,51,50,46,115,116,111,114,101,49,54]⟩,5,127,127,0⟩,
 ⟨⟨#[105,54,52,46,115,116,111,114,101,56]⟩,5,127,126,0⟩,
 ⟨⟨#[105,54,52,46,115,116,111,114,101,49,54]⟩,5,127,126,0⟩,
 ⟨⟨#[105,54,52,46,115,116,111,114,101,51,50]⟩,5,127,126,0⟩,
 ⟨⟨#[109,101,109,111,114,121,46,115,105,122,101]⟩,6,0,0,127⟩,
 ⟨⟨#[109,101,109,111,114,121,46,103,114,111,119]⟩,6,127,0,127⟩,
 ⟨⟨#[105,51,50,46,99,111,110,115,116]⟩,7,0,0,127⟩,
 ⟨⟨#[105,54,52,46,99,111,110,115,116]⟩,8,0,0,126⟩,
 ⟨⟨#[102,51,50,46,99,111,110,115,116]⟩,9,0,0,125⟩,
 ⟨⟨#[102,54,52,46,99,111,110,115,116]⟩,10,0,0,124⟩]
def R54t:List Row:=[
 ⟨⟨#[105,51,50,46,101,113,122]⟩,0,127,0,127⟩,
 ⟨⟨#[105,51,50,46,101,113]⟩,0,127,127,127⟩,
 ⟨⟨#[105,51,50,46,110,101]⟩,0,127,127,127⟩,
 ⟨⟨#[105,51,50,46,108,116,95,115]⟩,0,127,127,127⟩,
 ⟨⟨#[105,51,50,46,108,116,95,117]⟩,0,127,127,127⟩,
 ⟨⟨#[105,51,50,46,103,116,95,115]⟩,0,127,127,127⟩,
 ⟨⟨#[105,51,50,46,103,116,95,117]⟩,0,127,127,127⟩,
 ⟨⟨#[105,51,50,46,108,101,95,115]⟩,0,127,127,127⟩,
 ⟨⟨#[105,51,50,46,108,101,95,117]⟩,0,127,127,127⟩,
 ⟨⟨#[105,51,50,46,103,101,95,115]⟩,0,127,127,127⟩,
 ⟨⟨#[105,51,50,46,103,101,95,117]⟩,0,127,127,127⟩,
 ⟨⟨#[105,54,52,46,101,113,122]⟩,0,126,0,127⟩,
 ⟨⟨#[105,54,52,46,101,113]⟩,0,126,126,127⟩,
 ⟨⟨#[105,54,52,46,110,101]⟩,0,126,126,127⟩,
 ⟨⟨#[105,54,52,46,108,116,95,115]⟩,0,126,126,127⟩,
 ⟨⟨#[105,54,52,46,108,116,95,117]⟩,0,126,126,127⟩,
 ⟨⟨#[105,54,52,46,103,116,95,115]⟩,0,126,126,127⟩,
 ⟨⟨#[105,54,52,46,103,116,95,117]⟩,0,126,126,127⟩,
 ⟨⟨#[105,54,52,46,108,101,95,115]⟩,0,126,126,127⟩,
 ⟨⟨#[105,54,52,46,108,101,95,117]⟩,0,126,126,127⟩,
 ⟨⟨#[105,54,52,46,103,101,95,115]⟩,0,126,126,127⟩,
 ⟨⟨#[105,54,52,46,103,101,95,117]⟩,0,126,126,127⟩,
 ⟨⟨#[102,51,50,46,101,113]⟩,0,125,125,127⟩,
 ⟨⟨#[102,51,50,46,110,101]⟩,0,125,125,127⟩,
 ⟨⟨#[102,51,50,46,108,116]⟩,0,125,125,127⟩,
 ⟨⟨#[102,51,50,46,103,116]⟩,0,125,125,127⟩,
 ⟨⟨#[102,51,50,46,108,101]⟩,0,125,125,127⟩,
 ⟨⟨#[102,51,50,46,103,101]⟩,0,125,125,127⟩,
 ⟨⟨#[102,54,52,46,101,113]⟩,0,124,124,127⟩,
 ⟨⟨#[102,54,52,46,110,101]⟩,0,124,124,127⟩,
 ⟨⟨#[102,54,52,46,108,116]⟩,0,124,124,127⟩,
 ⟨⟨#[102,54,52,46,103,116]⟩,0,124,124,127⟩,
 ⟨⟨#[102,54,52,46,108,101]⟩,0,124,124,127⟩,
 ⟨⟨#[102,54,52,46,103,101]⟩,0,124,124,127⟩]
def R55t:List Row:=[
 ⟨⟨#[105,51,50,46,99,108,122]⟩,0,127,0,127⟩,
 ⟨⟨#[105,51,50,46,99,116,122]⟩,0,127,0,127⟩,
 ⟨⟨#[105,51,50,46,112,111,112,99,110,116]⟩,0,127,0,127⟩,
 ⟨⟨#[105,51,50,46,97,100,100]⟩,0,127,127,127⟩,
 ⟨⟨#[105,51,50,46,115,117,98]⟩,0,127,127,127⟩,
 ⟨⟨#[105,51,50,46,109,117,108]⟩,0,127,127,127⟩,
 ⟨⟨#[105,51,50,46,100,105,118,95,115]⟩,0,127,127,127⟩,
 ⟨⟨#[105,51,50,46,100,105,118,95,117]⟩,0,127,127,127⟩,
 ⟨⟨#[105,51,50,46,114,101,109,95,115]⟩,0,127,127,127⟩,
 ⟨⟨#[105,51,50,46,114,101,109,95,117]⟩,0,127,127,127⟩,
 ⟨⟨#[105,51,50,46,97,110,100]⟩,0,127,127,127⟩,
 ⟨⟨#[105,51,50,46,111,114]⟩,0,127,127,127⟩,
 ⟨⟨#[105,51,50,46,120,111,114]⟩,0,127,127,127⟩,
 ⟨⟨#[105,51,50,46,115,104,108]⟩,0,127,127,127⟩,
 ⟨⟨#[105,51,50,46,115,104,114,95,115]⟩,0,127,127,127⟩,
 ⟨⟨#[105,51,50,46,115,104,114,95,117]⟩,0,127,127,127⟩,
 ⟨⟨#[105,51,50,46,114,111,116,108]⟩,0,127,127,127⟩,
 ⟨⟨#[105,51,50,46,114,111,116,114]⟩,0,127,127,127⟩,
 ⟨⟨#[105,54,52,46,99,108,122]⟩,0,126,0,126⟩,
 ⟨⟨#[105,54,52,46,99,116,122]⟩,0,126,0,126⟩,
 ⟨⟨#[105,54,52,46,112,111,112,99,110,116]⟩,0,126,0,126⟩,
 ⟨⟨#[105,54,52,46,97,100,100]⟩,0,126,126,126⟩,
 ⟨⟨#[105,54,52,46,115,117,98]⟩,0,126,126,126⟩,
 ⟨⟨#[105,54,52,46,109,117,108]⟩,0,126,126,126⟩,
 ⟨⟨#[105,54,52,46,100,105,118,95,115]⟩,0,126,126,126⟩,
 ⟨⟨#[105,54,52,46,100,105,118,95,117]⟩,0,126,126,126⟩,
 ⟨⟨#[105,54,52,46,114,101,109,95,115]⟩,0,126,126,126⟩,
 ⟨⟨#[105,54,52,46,114,101,109,95,117]⟩,0,126,126,126⟩,
 ⟨⟨#[105,54,52,46,97,110,100]⟩,0,126,126,126⟩,
 ⟨⟨#[105,54,52,46,111,114]⟩,0,126,126,126⟩,
 ⟨⟨#[105,54,52,46,120,111,114]⟩,0,126,126,126⟩,
 ⟨⟨#[105,54,52,46,115,104,108]⟩,0,126,126,126⟩,
 ⟨⟨#[105,54,52,46,115,104,114,95,115]⟩,0,126,126,126⟩,
 ⟨⟨#[105,54,52,46,115,104,114,95,117]⟩,0,126,126,126⟩,
 ⟨⟨#[105,54,52,46,114,111,116,108]⟩,0,126,126,126⟩,
 ⟨⟨#[105,54,52,46,114,111,116,114]⟩,0,126,126,126⟩]
def R56t:List Row:=[
 ⟨⟨#[102,51,50,46,97,98,115]⟩,0,125,0,125⟩,
 ⟨⟨#[102,51,50,46,110,101,103]⟩,0,125,0,125⟩,
 ⟨⟨#[102,51,50,46,99,101,105,108]⟩,0,125,0,125⟩,
 ⟨⟨#[102,51,50,46,102,108,111,111,114]⟩,0,125,0,125⟩,
 ⟨⟨#[102,51,50,46,116,114,117,110,99]⟩,0,125,0,125⟩,
 ⟨⟨#[102,51,50,46,110,101,97,114,101,115,116]⟩,0,125,0,125⟩,
 ⟨⟨#[102,51,50,46,115,113,114,116]⟩,0,125,0,125⟩,
 ⟨⟨#[102,51,50,46,97,100,100]⟩,0,125,125,125⟩,
 ⟨⟨#[102,51,50,46,115,117,98]⟩,0,125,125,125⟩,
 ⟨⟨#[102,51,50,46,109,117,108]⟩,0,125,125,125⟩,
 ⟨⟨#[102,51,50,46,100,105,118]⟩,0,125,125,125⟩,
 ⟨⟨#[102,51,50,46,109,105,110]⟩,0,125,125,125⟩,
 ⟨⟨#[102,51,50,46,109,97,120]⟩,0,125,125,125⟩,
 ⟨⟨#[102,51,50,46,99,111,112,121,115,105,103,110]⟩,0,125,125,125⟩,
 ⟨⟨#[102,54,52,46,97,98,115]⟩,0,124,0,124⟩,
 ⟨⟨#[102,54,52,46,110,101,103]⟩,0,124,0,124⟩,
 ⟨⟨#[102,54,52,46,99,101,105,108]⟩,0,124,0,124⟩,
 ⟨⟨#[102,54,52,46,102,108,111,111,114]⟩,0,124,0,124⟩,
 ⟨⟨#[102,54,52,46,116,114,117,110,99]⟩,0,124,0,124⟩,
 ⟨⟨#[102,54,52,46,110,101,97,114,101,115,116]⟩,0,124,0,124⟩,
 ⟨⟨#[102,54,52,46,115,113,114,116]⟩,0,124,0,124⟩,
 ⟨⟨#[102,54,52,46,97,100,100]⟩,0,124,124,124⟩,
 ⟨⟨#[102,54,52,46,115,117,98]⟩,0,124,124,124⟩,
 ⟨⟨#[102,54,52,46,109,117,108]⟩,0,124,124,124⟩,
 ⟨⟨#[102,54,52,46,100,105,118]⟩,0,124,124,124⟩,
 ⟨⟨#[102,54,52,46,109,105,110]⟩,0,124,124,124⟩,
 ⟨⟨#[102,54,52,46,109,97,120]⟩,0,124,124,124⟩,
 ⟨⟨#[102,54,52,46,99,111,112,121,115,105,103,110]⟩,0,124,124,124⟩]
def R57t:List Row:=[
 ⟨⟨#[105,51,50,46,119,114,97,112,95,105,54,52]⟩,0,126,0,127⟩,
 ⟨⟨#[105,51,50,46,116,114,117,110,99,95,102,51,50,95,115]⟩,0,125,0,127⟩,
 ⟨⟨#[105,51,50,46,116,114,117,110,99,95,102,51,50,95,117]⟩,0,125,0,127⟩,
 ⟨⟨#[105,51,50,46,116,114,117,110,99,95,102,54,52,95,115]⟩,0,124,0,127⟩,
 ⟨⟨#[105,51,50,46,116,114,117,110,99,95,102,54,52,95,117]⟩,0,124,0,127⟩,
 ⟨⟨#[105,54,52,46,101,120,116,101,110,100,95,105,51,50,95,115]⟩,0,127,0,126⟩,
 ⟨⟨#[105,54,52,46,101,120,116,101,110,100,95,105,51,50,95,117]⟩,0,127,0,126⟩,
 ⟨⟨#[105,54,52,46,116,114,117,110,99,95,102,51,50,95,115]⟩,0,125,0,126⟩,
 ⟨⟨#[105,54,52,46,116,114,117,110,99,95,102,51,50,95,117]⟩,0,125,0,126⟩,
 ⟨⟨#[105,54,52,46,116,114,117,110,99,95,102,54,52,95,115]⟩,0,124,0,126⟩,
 ⟨⟨#[105,54,52,46,116,114,117,110,99,95,102,54,52,95,117]⟩,0,124,0,126⟩,
 ⟨⟨#[102,51,50,46,99,111,110,118,101,114,116,95,105,51,50,95,115]⟩,0,127,0,125⟩,
 ⟨⟨#[102,51,50,46,99,111,110,118,101,114,116,95,105,51,50,95,117]⟩,0,127,0,125⟩,
 ⟨⟨#[102,51,50,46,99,111,110,118,101,114,116,95,105,54,52,95,115]⟩,0,126,0,125⟩,
 ⟨⟨#[102,51,50,46,99,111,110,118,101,114,116,95,105,54,52,95,117]⟩,0,126,0,125⟩,
 ⟨⟨#[102,51,50,46,100,101,109,111,116,101,95,102,54,52]⟩,0,124,0,125⟩,
 ⟨⟨#[102,54,52,46,99,111,110,118,101,114,116,95,105,51,50,95,115]⟩,0,127,0,124⟩,
 ⟨⟨#[102,54,52,46,99,111,110,118,101,114,116,95,105,51,50,95,117]⟩,0,127,0,124⟩,
 ⟨⟨#[102,54,52,46,99,111,110,118,101,114,116,95,105,54,52,95,115]⟩,0,126,0,124⟩,
 ⟨⟨#[102,54,52,46,99,111,110,118,101,114,116,95,105,54,52,95,117]⟩,0,126,0,124⟩,
 ⟨⟨#[102,54,52,46,112,114,111,109,111,116,101,95,102,51,50]⟩,0,125,0,124⟩,
 ⟨⟨#[105,51,50,46,114,101,105,110,116,101,114,112,114,101,116,95,102,51,50]⟩,0,125,0,127⟩,
 ⟨⟨#[105,54,52,46,114,101,105,110,116,101,114,112,114,101,116,95,102,54,52]⟩,0,124,0,126⟩,
 ⟨⟨#[102,51,50,46,114,101,105,110,116,101,114,112,114,101,116,95,105,51,50]⟩,0,127,0,125⟩,
 ⟨⟨#[102,54,52,46,114,101,105,110,116,101,114,112,114,101,116,95,105,54,52]⟩,0,126,0,124⟩]
def tbl:List Row:=R52t++(R53t++(R54t++(R55t++(R56t++(R57t)))))
def R52:List Row:=List.replicate 0 Z0++R52t
def R53:List Row:=List.replicate 40 Z0++R53t
def R54:List Row:=List.replicate 69 Z0++R54t
def R55:List Row:=List.replicate 103 Z0++R55t
def R56:List Row:=List.replicate 139 Z0++R56t
def R57:List Row:=List.replicate 167 Z0++R57t
def rowOf (op:Int):Row:=if 0≤op∧op<192 then tbl.getD op.toNat Z0 else Z0
theorem flat_at (R:List Row) (p:Nat) (r:Row) (h:R[p]?=some r):((flat R).drop (p*5)).take 5=rowL r:=by
 induction R generalizing p with
 | nil=>simp at h
 | cons x l ih =>
  cases p with
  | zero=>simp at h;subst h;simp [flat]
  | succ p =>
   have h':l[p]?=some r:=by simpa using h
   have e:(p+1)*5=5+p*5:=by omega
   rw [e,← List.drop_drop]
   show (((rowL x++flat l).drop 5).drop (p*5)).take 5=_
   rw [List.drop_left' (by rfl)]
   exact ih p h'
theorem idxT {t n:Nat} (ht:Tryz.prog.underlying t=some (.array n 307)) (R:List Row) {cs:Array Value} (hv:cs=(flat R).toArray) (p:Nat) (r:Row) (hr:R[p]?=some r) (hp:p<n) (w:World) :
    (Instr.index t (.agg cs) (.int .i64 p)).run Tryz.prog w=.ok (rowV r) w:=by
 subst hv
 have hs:∀ w,(sizeOf 307).run Tryz.prog w=.ok 5 w:=fun w=>by kernel_rfl
 have ha:∀ w,(isAgg 307).run Tryz.prog w=.ok true w:=fun w=>by kernel_rfl
 simp [Instr.index,asIntOf,run_underlying ht,part,hs,ha,hp,flat_at R p r hr]
theorem rowOf_at (p:Nat) (r:Row) (h:tbl[p]?=some r):rowOf p=r:=by
 have hl:p<tbl.length:=by
  rcases Nat.lt_or_ge p tbl.length with h' | h'
  · exact h'
  · rw [List.getElem?_eq_none h'] at h;cases h
 have hl':p<192:=hl
 simp only [rowOf,show (0:Int)≤p∧(p:Int)<192 by omega,and_self,if_true,Int.toNat_natCast,List.getD,h,Option.getD_some]
theorem piece (A B C:List Row) (p:Nat) (h1:A.length≤p) (h2:p<A.length+B.length):∃ r,(List.replicate A.length Z0++B)[p]?=some r∧(A++(B++C))[p]?=some r:=by
 have hb:p-A.length<B.length:=by omega
 refine ⟨B[p-A.length],?_,?_⟩
 · rw [List.getElem?_append_right (by simpa using h1),List.length_replicate,List.getElem?_eq_getElem hb]
 · rw [List.getElem?_append_right h1,List.getElem?_append_left hb,List.getElem?_eq_getElem hb]
theorem R52_at (p:Nat) (h1:0≤p) (h2:p<40):R52[p]?=some (rowOf p):=by
 obtain ⟨r,e1,e2⟩:=piece (([]:List Row)) R52t (R53t++(R54t++(R55t++(R56t++(R57t))))) p h1 h2
 have e:tbl=(([]:List Row))++(R52t++(R53t++(R54t++(R55t++(R56t++(R57t)))))):=by simp only [tbl,List.append_assoc,List.nil_append,List.append_nil]
 rw [rowOf_at p r (by rw [e];exact e2)]
 exact e1
theorem R53_at (p:Nat) (h1:40≤p) (h2:p<69):R53[p]?=some (rowOf p):=by
 obtain ⟨r,e1,e2⟩:=piece (R52t) R53t (R54t++(R55t++(R56t++(R57t)))) p h1 h2
 have e:tbl=(R52t)++(R53t++(R54t++(R55t++(R56t++(R57t))))):=by simp only [tbl,List.append_assoc,List.nil_append,List.append_nil]
 rw [rowOf_at p r (by rw [e];exact e2)]
 exact e1
theorem R54_at (p:Nat) (h1:69≤p) (h2:p<103):R54[p]?=some (rowOf p):=by
 obtain ⟨r,e1,e2⟩:=piece (R52t++(R53t)) R54t (R55t++(R56t++(R57t))) p h1 h2
 have e:tbl=(R52t++(R53t))++(R54t++(R55t++(R56t++(R57t)))):=by simp only [tbl,List.append_assoc,List.nil_append,List.append_nil]
 rw [rowOf_at p r (by rw [e];exact e2)]
 exact e1
theorem R55_at (p:Nat) (h1:103≤p) (h2:p<139):R55[p]?=some (rowOf p):=by
 obtain ⟨r,e1,e2⟩:=piece (R52t++(R53t++(R54t))) R55t (R56t++(R57t)) p h1 h2
 have e:tbl=(R52t++(R53t++(R54t)))++(R55t++(R56t++(R57t))):=by simp only [tbl,List.append_assoc,List.nil_append,List.append_nil]
 rw [rowOf_at p r (by rw [e];exact e2)]
 exact e1
theorem R56_at (p:Nat) (h1:139≤p) (h2:p<167):R56[p]?=some (rowOf p):=by
 obtain ⟨r,e1,e2⟩:=piece (R52t++(R53t++(R54t++(R55t)))) R56t (R57t) p h1 h2
 have e:tbl=(R52t++(R53t++(R54t++(R55t))))++(R56t++(R57t)):=by simp only [tbl,List.append_assoc,List.nil_append,List.append_nil]
 rw [rowOf_at p r (by rw [e];exact e2)]
 exact e1
theorem R57_at (p:Nat) (h1:167≤p) (h2:p<192):R57[p]?=some (rowOf p):=by
 obtain ⟨r,e1,e2⟩:=piece (R52t++(R53t++(R54t++(R55t++(R56t))))) R57t (([]:List Row)) p h1 h2
 have e:tbl=(R52t++(R53t++(R54t++(R55t++(R56t)))))++(R57t++(([]:List Row))):=by simp only [tbl,List.append_assoc,List.nil_append,List.append_nil]
 rw [rowOf_at p r (by rw [e];exact e2)]
 exact e1
open Go.RowKit
theorem l1In_c (x lo hi:Int) (w:World):Calls Tryz.prog 35 #[.int .i64 x,.int .i64 lo,.int .i64 hi] w fun e w'=>e=.returned (.bool (decide (lo≤x∧x≤hi)))∧w=w':=by
 by_cases h1:lo≤x
 · by_cases h2:x≤hi
   · go_enter Tryz.func35,Tryz.ntmps35
     go_wp2
     go_ret
     exact ⟨by simp [h1,h2],rfl⟩
   · go_enter Tryz.func35,Tryz.ntmps35
     go_wp2
     go_ret
     exact ⟨by simp [h1,h2],rfl⟩
 · go_enter Tryz.func35,Tryz.ntmps35
   go_wp2
   go_ret
   have hd:(decide (lo≤x)&&decide (x≤hi))=false:=by simp;omega
   rw [hd];exact ⟨rfl,rfl⟩
theorem l1In_t (x lo hi:Int) (w:World) (h:lo≤x∧x≤hi):Calls Tryz.prog 35 #[.int .i64 x,.int .i64 lo,.int .i64 hi] w fun e w'=>e=.returned (.bool true)∧w=w' :=
 (l1In_c x lo hi w).mono fun e w' ⟨a,b⟩=>⟨by simpa [h.1,h.2] using a,b⟩
theorem l1In_f (x lo hi:Int) (w:World) (h:¬ (lo≤x∧x≤hi)):Calls Tryz.prog 35 #[.int .i64 x,.int .i64 lo,.int .i64 hi] w fun e w'=>e=.returned (.bool false)∧w=w' :=
 (l1In_c x lo hi w).mono fun e w' ⟨a,b⟩=>⟨by rw [a,decide_eq_false h],b⟩
theorem rng (lo n:Nat) (f:Nat→Bool) (h:(List.range n).all (fun i=>f (lo+i))=true) (p:Int) (h1:(lo:Int)≤p) (h2:p<(lo+n:Nat)):f p.toNat=true:=by
 have:=List.all_eq_true.1 h (p.toNat-lo) (by simp;omega)
 rw [← this];congr 1;omega
def formR (r:Row):Int:=if r.nm.size=0 then -1 else r.f
theorem known_0 (p:Int) (w:World) (h2:p≤-1):Calls Tryz.prog 214 #[.int .i64 p] w fun e w'=>e=.returned (.bool false)∧w=w':=by
 have f1:(p==(26:Int))=false:=by simp;omega
 have f2:(p==(27:Int))=false:=by simp;omega
 go_enter Tryz.func214,Tryz.ntmps214
 go_wp2_with (first | (go_at_call 35;refine (l1In_f _ _ _ _ (by omega)).mono ?_;rintro e w1 ⟨rfl,rfl⟩) | (go_at_call 35;refine (l1In_t _ _ _ _ (by omega)).mono ?_;rintro e w1 ⟨rfl,rfl⟩))
 go_ret
 exact ⟨rfl,rfl⟩
theorem known_1 (p:Int) (w:World) (h1:0≤p) (h2:p≤5):Calls Tryz.prog 214 #[.int .i64 p] w fun e w'=>e=.returned (.bool true)∧w=w':=by
 have f1:(p==(26:Int))=false:=by simp;omega
 have f2:(p==(27:Int))=false:=by simp;omega
 go_enter Tryz.func214,Tryz.ntmps214
 go_wp2_with (first | (go_at_call 35;refine (l1In_f _ _ _ _ (by omega)).mono ?_;rintro e w1 ⟨rfl,rfl⟩) | (go_at_call 35;refine (l1In_t _ _ _ _ (by omega)).mono ?_;rintro e w1 ⟨rfl,rfl⟩))
 go_ret
 exact ⟨rfl,rfl⟩
theorem known_2 (p:Int) (w:World) (h1:6≤p) (h2:p≤10):Calls Tryz.prog 214 #[.int .i64 p] w fun e w'=>e=.returned (.bool false)∧w=w':=by
 have f1:(p==(26:Int))=false:=by simp;omega
 have f2:(p==(27:Int))=false:=by simp;omega
 go_enter Tryz.func214,Tryz.ntmps214
 go_wp2_with (first | (go_at_call 35;refine (l1In_f _ _ _ _ (by omega)).mono ?_;rintro e w1 ⟨rfl,rfl⟩) | (go_at_call 35;refine (l1In_t _ _ _ _ (by omega)).mono ?_;rintro e w1 ⟨rfl,rfl⟩))
 go_ret
 exact ⟨rfl,rfl⟩
theorem known_3 (p:Int) (w:World) (h1:11≤p) (h2:p≤17):Calls Tryz.prog 214 #[.int .i64 p] w fun e w'=>e=.returned (.bool true)∧w=w':=by
 have f1:(p==(26:Int))=false:=by simp;omega
 have f2:(p==(27:Int))=false:=by simp;omega
 go_enter Tryz.func214,Tryz.ntmps214
 go_wp2_with (first | (go_at_call 35;refine (l1In_f _ _ _ _ (by omega)).mono ?_;rintro e w1 ⟨rfl,rfl⟩) | (go_at_call 35;refine (l1In_t _ _ _ _ (by omega)).mono ?_;rintro e w1 ⟨rfl,rfl⟩))
 go_ret
 exact ⟨rfl,rfl⟩
theorem known_4 (p:Int) (w:World) (h1:18≤p) (h2:p≤25):Calls Tryz.prog 214 #[.int .i64 p] w fun e w'=>e=.returned (.bool false)∧w=w':=by
 have f1:(p==(26:Int))=false:=by simp;omega
 have f2:(p==(27:Int))=false:=by simp;omega
 go_enter Tryz.func214,Tryz.ntmps214
 go_wp2_with (first | (go_at_call 35;refine (l1In_f _ _ _ _ (by omega)).mono ?_;rintro e w1 ⟨rfl,rfl⟩) | (go_at_call 35;refine (l1In_t _ _ _ _ (by omega)).mono ?_;rintro e w1 ⟨rfl,rfl⟩))
 go_ret
 exact ⟨rfl,rfl⟩
theorem known_5 (p:Int) (w:World) (h1:26≤p) (h2:p≤26):Calls Tryz.prog 214 #[.int .i64 p] w fun e w'=>e=.returned (.bool true)∧w=w':=by
 have f1:(p==(26:Int))=true:=by simp;omega
 have f2:(p==(27:Int))=false:=by simp;omega
 go_enter Tryz.func214,Tryz.ntmps214
 go_wp2_with (first | (go_at_call 35;refine (l1In_f _ _ _ _ (by omega)).mono ?_;rintro e w1 ⟨rfl,rfl⟩) | (go_at_call 35;refine (l1In_t _ _ _ _ (by omega)).mono ?_;rintro e w1 ⟨rfl,rfl⟩))
 go_ret
 exact ⟨rfl,rfl⟩
theorem known_6 (p:Int) (w:World) (h1:27≤p) (h2:p≤27):Calls Tryz.prog 214 #[.int .i64 p] w fun e w'=>e=.returned (.bool true)∧w=w':=by
 have f1:(p==(26:Int))=false:=by simp;omega
 have f2:(p==(27:Int))=true:=by simp;omega
 go_enter Tryz.func214,Tryz.ntmps214
 go_wp2_with (first | (go_at_call 35;refine (l1In_f _ _ _ _ (by omega)).mono ?_;rintro e w1 ⟨rfl,rfl⟩) | (go_at_call 35;refine (l1In_t _ _ _ _ (by omega)).mono ?_;rintro e w1 ⟨rfl,rfl⟩))
 go_ret
 exact ⟨rfl,rfl⟩
theorem known_7 (p:Int) (w:World) (h1:28≤p) (h2:p≤31):Calls Tryz.prog 214 #[.int .i64 p] w fun e w'=>e=.returned (.bool false)∧w=w':=by
 have f1:(p==(26:Int))=false:=by simp;omega
 have f2:(p==(27:Int))=false:=by simp;omega
 go_enter Tryz.func214,Tryz.ntmps214
 go_wp2_with (first | (go_at_call 35;refine (l1In_f _ _ _ _ (by omega)).mono ?_;rintro e w1 ⟨rfl,rfl⟩) | (go_at_call 35;refine (l1In_t _ _ _ _ (by omega)).mono ?_;rintro e w1 ⟨rfl,rfl⟩))
 go_ret
 exact ⟨rfl,rfl⟩
theorem known_8 (p:Int) (w:World) (h1:32≤p) (h2:p≤36):Calls Tryz.prog 214 #[.int .i64 p] w fun e w'=>e=.returned (.bool true)∧w=w':=by
 have f1:(p==(26:Int))=false:=by simp;omega
 have f2:(p==(27:Int))=false:=by simp;omega
 go_enter Tryz.func214,Tryz.ntmps214
 go_wp2_with (first | (go_at_call 35;refine (l1In_f _ _ _ _ (by omega)).mono ?_;rintro e w1 ⟨rfl,rfl⟩) | (go_at_call 35;refine (l1In_t _ _ _ _ (by omega)).mono ?_;rintro e w1 ⟨rfl,rfl⟩))
 go_ret
 exact ⟨rfl,rfl⟩
theorem known_9 (p:Int) (w:World) (h1:37≤p) (h2:p≤39):Calls Tryz.prog 214 #[.int .i64 p] w fun e w'=>e=.returned (.bool false)∧w=w':=by
 have f1:(p==(26:Int))=false:=by simp;omega
 have f2:(p==(27:Int))=false:=by simp;omega
 go_enter Tryz.func214,Tryz.ntmps214
 go_wp2_with (first | (go_at_call 35;refine (l1In_f _ _ _ _ (by omega)).mono ?_;rintro e w1 ⟨rfl,rfl⟩) | (go_at_call 35;refine (l1In_t _ _ _ _ (by omega)).mono ?_;rintro e w1 ⟨rfl,rfl⟩))
 go_ret
 exact ⟨rfl,rfl⟩
theorem known_10 (p:Int) (w:World) (h1:40≤p) (h2:p≤191):Calls Tryz.prog 214 #[.int .i64 p] w fun e w'=>e=.returned (.bool true)∧w=w':=by
 have f1:(p==(26:Int))=false:=by simp;omega
 have f2:(p==(27:Int))=false:=by simp;omega
 go_enter Tryz.func214,Tryz.ntmps214
 go_wp2_with (first | (go_at_call 35;refine (l1In_f _ _ _ _ (by omega)).mono ?_;rintro e w1 ⟨rfl,rfl⟩) | (go_at_call 35;refine (l1In_t _ _ _ _ (by omega)).mono ?_;rintro e w1 ⟨rfl,rfl⟩))
 go_ret
 exact ⟨rfl,rfl⟩
theorem known_11 (p:Int) (w:World) (h1:192≤p):Calls Tryz.prog 214 #[.int .i64 p] w fun e w'=>e=.returned (.bool false)∧w=w':=by
 have f1:(p==(26:Int))=false:=by simp;omega
 have f2:(p==(27:Int))=false:=by simp;omega
 go_enter Tryz.func214,Tryz.ntmps214
 go_wp2_with (first | (go_at_call 35;refine (l1In_f _ _ _ _ (by omega)).mono ?_;rintro e w1 ⟨rfl,rfl⟩) | (go_at_call 35;refine (l1In_t _ _ _ _ (by omega)).mono ?_;rintro e w1 ⟨rfl,rfl⟩))
 go_ret
 exact ⟨rfl,rfl⟩
open Go.RowKit
theorem sform_0 (p:Int) (w:World) (h2:p≤-1):Calls Tryz.prog 169 #[.int .i64 p] w fun e w'=>e=.returned (.int .i64 (-1))∧w=w':=by
 have f1:p<2:=by omega
 have f2:p≤4:=by omega
 have f3:(p==(12:Int))=false:=by simp;omega
 have f4:(p==(13:Int))=false:=by simp;omega
 have f5:(p==(16:Int))=false:=by simp;omega
 have f6:p<32:=by omega
 have f7:p≤36:=by omega
 have f8:(p==(14:Int))=false:=by simp;omega
 have f9:(p==(17:Int))=false:=by simp;omega
 have f10:p<40:=by omega
 have f11:p≤62:=by omega
 have f12:(p==(63:Int))=false:=by simp;omega
 have f13:(p==(64:Int))=false:=by simp;omega
 have f14:p<65:=by omega
 have f15:p≤68:=by omega
 go_enter Tryz.func169,Tryz.ntmps169
 go_wp2_with (refine (known_0 _ _ (by omega)).mono ?_;rintro e w1 ⟨rfl,rfl⟩)
 go_ret
 exact ⟨rfl,rfl⟩
theorem sform_1 (p:Int) (w:World) (h1:0≤p) (h2:p≤1):Calls Tryz.prog 169 #[.int .i64 p] w fun e w'=>e=.returned (.int .i64 (0))∧w=w':=by
 have f1:p<2:=by omega
 have f2:p≤4:=by omega
 have f3:(p==(12:Int))=false:=by simp;omega
 have f4:(p==(13:Int))=false:=by simp;omega
 have f5:(p==(16:Int))=false:=by simp;omega
 have f6:p<32:=by omega
 have f7:p≤36:=by omega
 have f8:(p==(14:Int))=false:=by simp;omega
 have f9:(p==(17:Int))=false:=by simp;omega
 have f10:p<40:=by omega
 have f11:p≤62:=by omega
 have f12:(p==(63:Int))=false:=by simp;omega
 have f13:(p==(64:Int))=false:=by simp;omega
 have f14:p<65:=by omega
 have f15:p≤68:=by omega
 go_enter Tryz.func169,Tryz.ntmps169
 go_wp2_with (refine (known_1 _ _ (by omega) (by omega)).mono ?_;rintro e w1 ⟨rfl,rfl⟩)
 go_ret
 exact ⟨rfl,rfl⟩
theorem sform_2 (p:Int) (w:World) (h1:2≤p) (h2:p≤4):Calls Tryz.prog 169 #[.int .i64 p] w fun e w'=>e=.returned (.int .i64 (1))∧w=w':=by
 have f1:¬ p<2:=by omega
 have f2:p≤4:=by omega
 have f3:(p==(12:Int))=false:=by simp;omega
 have f4:(p==(13:Int))=false:=by simp;omega
 have f5:(p==(16:Int))=false:=by simp;omega
 have f6:p<32:=by omega
 have f7:p≤36:=by omega
 have f8:(p==(14:Int))=false:=by simp;omega
 have f9:(p==(17:Int))=false:=by simp;omega
 have f10:p<40:=by omega
 have f11:p≤62:=by omega
 have f12:(p==(63:Int))=false:=by simp;omega
 have f13:(p==(64:Int))=false:=by simp;omega
 have f14:p<65:=by omega
 have f15:p≤68:=by omega
 go_enter Tryz.func169,Tryz.ntmps169
 go_wp2_with (refine (known_1 _ _ (by omega) (by omega)).mono ?_;rintro e w1 ⟨rfl,rfl⟩)
 go_ret
 exact ⟨rfl,rfl⟩
theorem sform_3 (p:Int) (w:World) (h1:5≤p) (h2:p≤5):Calls Tryz.prog 169 #[.int .i64 p] w fun e w'=>e=.returned (.int .i64 (0))∧w=w':=by
 have f1:¬ p<2:=by omega
 have f2:¬ p≤4:=by omega
 have f3:(p==(12:Int))=false:=by simp;omega
 have f4:(p==(13:Int))=false:=by simp;omega
 have f5:(p==(16:Int))=false:=by simp;omega
 have f6:p<32:=by omega
 have f7:p≤36:=by omega
 have f8:(p==(14:Int))=false:=by simp;omega
 have f9:(p==(17:Int))=false:=by simp;omega
 have f10:p<40:=by omega
 have f11:p≤62:=by omega
 have f12:(p==(63:Int))=false:=by simp;omega
 have f13:(p==(64:Int))=false:=by simp;omega
 have f14:p<65:=by omega
 have f15:p≤68:=by omega
 go_enter Tryz.func169,Tryz.ntmps169
 go_wp2_with (refine (known_1 _ _ (by omega) (by omega)).mono ?_;rintro e w1 ⟨rfl,rfl⟩)
 go_ret
 exact ⟨rfl,rfl⟩
theorem sform_4 (p:Int) (w:World) (h1:6≤p) (h2:p≤10):Calls Tryz.prog 169 #[.int .i64 p] w fun e w'=>e=.returned (.int .i64 (-1))∧w=w':=by
 have f1:¬ p<2:=by omega
 have f2:¬ p≤4:=by omega
 have f3:(p==(12:Int))=false:=by simp;omega
 have f4:(p==(13:Int))=false:=by simp;omega
 have f5:(p==(16:Int))=false:=by simp;omega
 have f6:p<32:=by omega
 have f7:p≤36:=by omega
 have f8:(p==(14:Int))=false:=by simp;omega
 have f9:(p==(17:Int))=false:=by simp;omega
 have f10:p<40:=by omega
 have f11:p≤62:=by omega
 have f12:(p==(63:Int))=false:=by simp;omega
 have f13:(p==(64:Int))=false:=by simp;omega
 have f14:p<65:=by omega
 have f15:p≤68:=by omega
 go_enter Tryz.func169,Tryz.ntmps169
 go_wp2_with (refine (known_2 _ _ (by omega) (by omega)).mono ?_;rintro e w1 ⟨rfl,rfl⟩)
 go_ret
 exact ⟨rfl,rfl⟩
theorem sform_5 (p:Int) (w:World) (h1:11≤p) (h2:p≤11):Calls Tryz.prog 169 #[.int .i64 p] w fun e w'=>e=.returned (.int .i64 (0))∧w=w':=by
 have f1:¬ p<2:=by omega
 have f2:¬ p≤4:=by omega
 have f3:(p==(12:Int))=false:=by simp;omega
 have f4:(p==(13:Int))=false:=by simp;omega
 have f5:(p==(16:Int))=false:=by simp;omega
 have f6:p<32:=by omega
 have f7:p≤36:=by omega
 have f8:(p==(14:Int))=false:=by simp;omega
 have f9:(p==(17:Int))=false:=by simp;omega
 have f10:p<40:=by omega
 have f11:p≤62:=by omega
 have f12:(p==(63:Int))=false:=by simp;omega
 have f13:(p==(64:Int))=false:=by simp;omega
 have f14:p<65:=by omega
 have f15:p≤68:=by omega
 go_enter Tryz.func169,Tryz.ntmps169
 go_wp2_with (refine (known_3 _ _ (by omega) (by omega)).mono ?_;rintro e w1 ⟨rfl,rfl⟩)
 go_ret
 exact ⟨rfl,rfl⟩
theorem sform_6_0 (p:Int) (w:World) (h1:12≤p) (h2:p≤12):Calls Tryz.prog 169 #[.int .i64 p] w fun e w'=>e=.returned (.int .i64 (2))∧w=w':=by
 have f1:¬ p<2:=by omega
 have f2:¬ p≤4:=by omega
 have f3:(p==(12:Int))=true:=by simp;omega
 have f4:(p==(13:Int))=false:=by simp;omega
 have f5:(p==(16:Int))=false:=by simp;omega
 have f6:p<32:=by omega
 have f7:p≤36:=by omega
 have f8:(p==(14:Int))=false:=by simp;omega
 have f9:(p==(17:Int))=false:=by simp;omega
 have f10:p<40:=by omega
 have f11:p≤62:=by omega
 have f12:(p==(63:Int))=false:=by simp;omega
 have f13:(p==(64:Int))=false:=by simp;omega
 have f14:p<65:=by omega
 have f15:p≤68:=by omega
 go_enter Tryz.func169,Tryz.ntmps169
 go_wp2_with (refine (known_3 _ _ (by omega) (by omega)).mono ?_;rintro e w1 ⟨rfl,rfl⟩)
 go_ret
 exact ⟨rfl,rfl⟩
theorem sform_6_1 (p:Int) (w:World) (h1:13≤p) (h2:p≤13):Calls Tryz.prog 169 #[.int .i64 p] w fun e w'=>e=.returned (.int .i64 (2))∧w=w':=by
 have f1:¬ p<2:=by omega
 have f2:¬ p≤4:=by omega
 have f3:(p==(12:Int))=false:=by simp;omega
 have f4:(p==(13:Int))=true:=by simp;omega
 have f5:(p==(16:Int))=false:=by simp;omega
 have f6:p<32:=by omega
 have f7:p≤36:=by omega
 have f8:(p==(14:Int))=false:=by simp;omega
 have f9:(p==(17:Int))=false:=by simp;omega
 have f10:p<40:=by omega
 have f11:p≤62:=by omega
 have f12:(p==(63:Int))=false:=by simp;omega
 have f13:(p==(64:Int))=false:=by simp;omega
 have f14:p<65:=by omega
 have f15:p≤68:=by omega
 go_enter Tryz.func169,Tryz.ntmps169
 go_wp2_with (refine (known_3 _ _ (by omega) (by omega)).mono ?_;rintro e w1 ⟨rfl,rfl⟩)
 go_ret
 exact ⟨rfl,rfl⟩
theorem sform_6 (p:Int) (w:World) (h1:12≤p) (h2:p≤13):Calls Tryz.prog 169 #[.int .i64 p] w fun e w'=>e=.returned (.int .i64 (2))∧w=w':=by
 rcases (by omega:p=12∨p=13) with h | h
 · exact sform_6_0 p w (by omega) (by omega)
 · exact sform_6_1 p w (by omega) (by omega)
theorem sform_7 (p:Int) (w:World) (h1:14≤p) (h2:p≤14):Calls Tryz.prog 169 #[.int .i64 p] w fun e w'=>e=.returned (.int .i64 (3))∧w=w':=by
 have f1:¬ p<2:=by omega
 have f2:¬ p≤4:=by omega
 have f3:(p==(12:Int))=false:=by simp;omega
 have f4:(p==(13:Int))=false:=by simp;omega
 have f5:(p==(16:Int))=false:=by simp;omega
 have f6:p<32:=by omega
 have f7:p≤36:=by omega
 have f8:(p==(14:Int))=true:=by simp;omega
 have f9:(p==(17:Int))=false:=by simp;omega
 have f10:p<40:=by omega
 have f11:p≤62:=by omega
 have f12:(p==(63:Int))=false:=by simp;omega
 have f13:(p==(64:Int))=false:=by simp;omega
 have f14:p<65:=by omega
 have f15:p≤68:=by omega
 go_enter Tryz.func169,Tryz.ntmps169
 go_wp2_with (refine (known_3 _ _ (by omega) (by omega)).mono ?_;rintro e w1 ⟨rfl,rfl⟩)
 go_ret
 exact ⟨rfl,rfl⟩
theorem sform_8 (p:Int) (w:World) (h1:15≤p) (h2:p≤15):Calls Tryz.prog 169 #[.int .i64 p] w fun e w'=>e=.returned (.int .i64 (0))∧w=w':=by
 have f1:¬ p<2:=by omega
 have f2:¬ p≤4:=by omega
 have f3:(p==(12:Int))=false:=by simp;omega
 have f4:(p==(13:Int))=false:=by simp;omega
 have f5:(p==(16:Int))=false:=by simp;omega
 have f6:p<32:=by omega
 have f7:p≤36:=by omega
 have f8:(p==(14:Int))=false:=by simp;omega
 have f9:(p==(17:Int))=false:=by simp;omega
 have f10:p<40:=by omega
 have f11:p≤62:=by omega
 have f12:(p==(63:Int))=false:=by simp;omega
 have f13:(p==(64:Int))=false:=by simp;omega
 have f14:p<65:=by omega
 have f15:p≤68:=by omega
 go_enter Tryz.func169,Tryz.ntmps169
 go_wp2_with (refine (known_3 _ _ (by omega) (by omega)).mono ?_;rintro e w1 ⟨rfl,rfl⟩)
 go_ret
 exact ⟨rfl,rfl⟩
theorem sform_9 (p:Int) (w:World) (h1:16≤p) (h2:p≤16):Calls Tryz.prog 169 #[.int .i64 p] w fun e w'=>e=.returned (.int .i64 (2))∧w=w':=by
 have f1:¬ p<2:=by omega
 have f2:¬ p≤4:=by omega
 have f3:(p==(12:Int))=false:=by simp;omega
 have f4:(p==(13:Int))=false:=by simp;omega
 have f5:(p==(16:Int))=true:=by simp;omega
 have f6:p<32:=by omega
 have f7:p≤36:=by omega
 have f8:(p==(14:Int))=false:=by simp;omega
 have f9:(p==(17:Int))=false:=by simp;omega
 have f10:p<40:=by omega
 have f11:p≤62:=by omega
 have f12:(p==(63:Int))=false:=by simp;omega
 have f13:(p==(64:Int))=false:=by simp;omega
 have f14:p<65:=by omega
 have f15:p≤68:=by omega
 go_enter Tryz.func169,Tryz.ntmps169
 go_wp2_with (refine (known_3 _ _ (by omega) (by omega)).mono ?_;rintro e w1 ⟨rfl,rfl⟩)
 go_ret
 exact ⟨rfl,rfl⟩
theorem sform_10 (p:Int) (w:World) (h1:17≤p) (h2:p≤17):Calls Tryz.prog 169 #[.int .i64 p] w fun e w'=>e=.returned (.int .i64 (4))∧w=w':=by
 have f1:¬ p<2:=by omega
 have f2:¬ p≤4:=by omega
 have f3:(p==(12:Int))=false:=by simp;omega
 have f4:(p==(13:Int))=false:=by simp;omega
 have f5:(p==(16:Int))=false:=by simp;omega
 have f6:p<32:=by omega
 have f7:p≤36:=by omega
 have f8:(p==(14:Int))=false:=by simp;omega
 have f9:(p==(17:Int))=true:=by simp;omega
 have f10:p<40:=by omega
 have f11:p≤62:=by omega
 have f12:(p==(63:Int))=false:=by simp;omega
 have f13:(p==(64:Int))=false:=by simp;omega
 have f14:p<65:=by omega
 have f15:p≤68:=by omega
 go_enter Tryz.func169,Tryz.ntmps169
 go_wp2_with (refine (known_3 _ _ (by omega) (by omega)).mono ?_;rintro e w1 ⟨rfl,rfl⟩)
 go_ret
 exact ⟨rfl,rfl⟩
theorem sform_11 (p:Int) (w:World) (h1:18≤p) (h2:p≤25):Calls Tryz.prog 169 #[.int .i64 p] w fun e w'=>e=.returned (.int .i64 (-1))∧w=w':=by
 have f1:¬ p<2:=by omega
 have f2:¬ p≤4:=by omega
 have f3:(p==(12:Int))=false:=by simp;omega
 have f4:(p==(13:Int))=false:=by simp;omega
 have f5:(p==(16:Int))=false:=by simp;omega
 have f6:p<32:=by omega
 have f7:p≤36:=by omega
 have f8:(p==(14:Int))=false:=by simp;omega
 have f9:(p==(17:Int))=false:=by simp;omega
 have f10:p<40:=by omega
 have f11:p≤62:=by omega
 have f12:(p==(63:Int))=false:=by simp;omega
 have f13:(p==(64:Int))=false:=by simp;omega
 have f14:p<65:=by omega
 have f15:p≤68:=by omega
 go_enter Tryz.func169,Tryz.ntmps169
 go_wp2_with (refine (known_4 _ _ (by omega) (by omega)).mono ?_;rintro e w1 ⟨rfl,rfl⟩)
 go_ret
 exact ⟨rfl,rfl⟩
theorem sform_12 (p:Int) (w:World) (h1:26≤p) (h2:p≤26):Calls Tryz.prog 169 #[.int .i64 p] w fun e w'=>e=.returned (.int .i64 (0))∧w=w':=by
 have f1:¬ p<2:=by omega
 have f2:¬ p≤4:=by omega
 have f3:(p==(12:Int))=false:=by simp;omega
 have f4:(p==(13:Int))=false:=by simp;omega
 have f5:(p==(16:Int))=false:=by simp;omega
 have f6:p<32:=by omega
 have f7:p≤36:=by omega
 have f8:(p==(14:Int))=false:=by simp;omega
 have f9:(p==(17:Int))=false:=by simp;omega
 have f10:p<40:=by omega
 have f11:p≤62:=by omega
 have f12:(p==(63:Int))=false:=by simp;omega
 have f13:(p==(64:Int))=false:=by simp;omega
 have f14:p<65:=by omega
 have f15:p≤68:=by omega
 go_enter Tryz.func169,Tryz.ntmps169
 go_wp2_with (refine (known_5 _ _ (by omega) (by omega)).mono ?_;rintro e w1 ⟨rfl,rfl⟩)
 go_ret
 exact ⟨rfl,rfl⟩
theorem sform_13 (p:Int) (w:World) (h1:27≤p) (h2:p≤27):Calls Tryz.prog 169 #[.int .i64 p] w fun e w'=>e=.returned (.int .i64 (0))∧w=w':=by
 have f1:¬ p<2:=by omega
 have f2:¬ p≤4:=by omega
 have f3:(p==(12:Int))=false:=by simp;omega
 have f4:(p==(13:Int))=false:=by simp;omega
 have f5:(p==(16:Int))=false:=by simp;omega
 have f6:p<32:=by omega
 have f7:p≤36:=by omega
 have f8:(p==(14:Int))=false:=by simp;omega
 have f9:(p==(17:Int))=false:=by simp;omega
 have f10:p<40:=by omega
 have f11:p≤62:=by omega
 have f12:(p==(63:Int))=false:=by simp;omega
 have f13:(p==(64:Int))=false:=by simp;omega
 have f14:p<65:=by omega
 have f15:p≤68:=by omega
 go_enter Tryz.func169,Tryz.ntmps169
 go_wp2_with (refine (known_6 _ _ (by omega) (by omega)).mono ?_;rintro e w1 ⟨rfl,rfl⟩)
 go_ret
 exact ⟨rfl,rfl⟩
theorem sform_14 (p:Int) (w:World) (h1:28≤p) (h2:p≤31):Calls Tryz.prog 169 #[.int .i64 p] w fun e w'=>e=.returned (.int .i64 (-1))∧w=w':=by
 have f1:¬ p<2:=by omega
 have f2:¬ p≤4:=by omega
 have f3:(p==(12:Int))=false:=by simp;omega
 have f4:(p==(13:Int))=false:=by simp;omega
 have f5:(p==(16:Int))=false:=by simp;omega
 have f6:p<32:=by omega
 have f7:p≤36:=by omega
 have f8:(p==(14:Int))=false:=by simp;omega
 have f9:(p==(17:Int))=false:=by simp;omega
 have f10:p<40:=by omega
 have f11:p≤62:=by omega
 have f12:(p==(63:Int))=false:=by simp;omega
 have f13:(p==(64:Int))=false:=by simp;omega
 have f14:p<65:=by omega
 have f15:p≤68:=by omega
 go_enter Tryz.func169,Tryz.ntmps169
 go_wp2_with (refine (known_7 _ _ (by omega) (by omega)).mono ?_;rintro e w1 ⟨rfl,rfl⟩)
 go_ret
 exact ⟨rfl,rfl⟩
theorem sform_15 (p:Int) (w:World) (h1:32≤p) (h2:p≤36):Calls Tryz.prog 169 #[.int .i64 p] w fun e w'=>e=.returned (.int .i64 (2))∧w=w':=by
 have f1:¬ p<2:=by omega
 have f2:¬ p≤4:=by omega
 have f3:(p==(12:Int))=false:=by simp;omega
 have f4:(p==(13:Int))=false:=by simp;omega
 have f5:(p==(16:Int))=false:=by simp;omega
 have f6:¬ p<32:=by omega
 have f7:p≤36:=by omega
 have f8:(p==(14:Int))=false:=by simp;omega
 have f9:(p==(17:Int))=false:=by simp;omega
 have f10:p<40:=by omega
 have f11:p≤62:=by omega
 have f12:(p==(63:Int))=false:=by simp;omega
 have f13:(p==(64:Int))=false:=by simp;omega
 have f14:p<65:=by omega
 have f15:p≤68:=by omega
 go_enter Tryz.func169,Tryz.ntmps169
 go_wp2_with (refine (known_8 _ _ (by omega) (by omega)).mono ?_;rintro e w1 ⟨rfl,rfl⟩)
 go_ret
 exact ⟨rfl,rfl⟩
theorem sform_16 (p:Int) (w:World) (h1:37≤p) (h2:p≤39):Calls Tryz.prog 169 #[.int .i64 p] w fun e w'=>e=.returned (.int .i64 (-1))∧w=w':=by
 have f1:¬ p<2:=by omega
 have f2:¬ p≤4:=by omega
 have f3:(p==(12:Int))=false:=by simp;omega
 have f4:(p==(13:Int))=false:=by simp;omega
 have f5:(p==(16:Int))=false:=by simp;omega
 have f6:¬ p<32:=by omega
 have f7:¬ p≤36:=by omega
 have f8:(p==(14:Int))=false:=by simp;omega
 have f9:(p==(17:Int))=false:=by simp;omega
 have f10:p<40:=by omega
 have f11:p≤62:=by omega
 have f12:(p==(63:Int))=false:=by simp;omega
 have f13:(p==(64:Int))=false:=by simp;omega
 have f14:p<65:=by omega
 have f15:p≤68:=by omega
 go_enter Tryz.func169,Tryz.ntmps169
 go_wp2_with (refine (known_9 _ _ (by omega) (by omega)).mono ?_;rintro e w1 ⟨rfl,rfl⟩)
 go_ret
 exact ⟨rfl,rfl⟩
theorem sform_17 (p:Int) (w:World) (h1:40≤p) (h2:p≤62):Calls Tryz.prog 169 #[.int .i64 p] w fun e w'=>e=.returned (.int .i64 (5))∧w=w':=by
 have f1:¬ p<2:=by omega
 have f2:¬ p≤4:=by omega
 have f3:(p==(12:Int))=false:=by simp;omega
 have f4:(p==(13:Int))=false:=by simp;omega
 have f5:(p==(16:Int))=false:=by simp;omega
 have f6:¬ p<32:=by omega
 have f7:¬ p≤36:=by omega
 have f8:(p==(14:Int))=false:=by simp;omega
 have f9:(p==(17:Int))=false:=by simp;omega
 have f10:¬ p<40:=by omega
 have f11:p≤62:=by omega
 have f12:(p==(63:Int))=false:=by simp;omega
 have f13:(p==(64:Int))=false:=by simp;omega
 have f14:p<65:=by omega
 have f15:p≤68:=by omega
 go_enter Tryz.func169,Tryz.ntmps169
 go_wp2_with (refine (known_10 _ _ (by omega) (by omega)).mono ?_;rintro e w1 ⟨rfl,rfl⟩)
 go_ret
 exact ⟨rfl,rfl⟩
theorem sform_18_0 (p:Int) (w:World) (h1:63≤p) (h2:p≤63):Calls Tryz.prog 169 #[.int .i64 p] w fun e w'=>e=.returned (.int .i64 (6))∧w=w':=by
 have f1:¬ p<2:=by omega
 have f2:¬ p≤4:=by omega
 have f3:(p==(12:Int))=false:=by simp;omega
 have f4:(p==(13:Int))=false:=by simp;omega
 have f5:(p==(16:Int))=false:=by simp;omega
 have f6:¬ p<32:=by omega
 have f7:¬ p≤36:=by omega
 have f8:(p==(14:Int))=false:=by simp;omega
 have f9:(p==(17:Int))=false:=by simp;omega
 have f10:¬ p<40:=by omega
 have f11:¬ p≤62:=by omega
 have f12:(p==(63:Int))=true:=by simp;omega
 have f13:(p==(64:Int))=false:=by simp;omega
 have f14:p<65:=by omega
 have f15:p≤68:=by omega
 go_enter Tryz.func169,Tryz.ntmps169
 go_wp2_with (refine (known_10 _ _ (by omega) (by omega)).mono ?_;rintro e w1 ⟨rfl,rfl⟩)
 go_ret
 exact ⟨rfl,rfl⟩
theorem sform_18_1 (p:Int) (w:World) (h1:64≤p) (h2:p≤64):Calls Tryz.prog 169 #[.int .i64 p] w fun e w'=>e=.returned (.int .i64 (6))∧w=w':=by
 have f1:¬ p<2:=by omega
 have f2:¬ p≤4:=by omega
 have f3:(p==(12:Int))=false:=by simp;omega
 have f4:(p==(13:Int))=false:=by simp;omega
 have f5:(p==(16:Int))=false:=by simp;omega
 have f6:¬ p<32:=by omega
 have f7:¬ p≤36:=by omega
 have f8:(p==(14:Int))=false:=by simp;omega
 have f9:(p==(17:Int))=false:=by simp;omega
 have f10:¬ p<40:=by omega
 have f11:¬ p≤62:=by omega
 have f12:(p==(63:Int))=false:=by simp;omega
 have f13:(p==(64:Int))=true:=by simp;omega
 have f14:p<65:=by omega
 have f15:p≤68:=by omega
 go_enter Tryz.func169,Tryz.ntmps169
 go_wp2_with (refine (known_10 _ _ (by omega) (by omega)).mono ?_;rintro e w1 ⟨rfl,rfl⟩)
 go_ret
 exact ⟨rfl,rfl⟩
theorem sform_18 (p:Int) (w:World) (h1:63≤p) (h2:p≤64):Calls Tryz.prog 169 #[.int .i64 p] w fun e w'=>e=.returned (.int .i64 (6))∧w=w':=by
 rcases (by omega:p=63∨p=64) with h | h
 · exact sform_18_0 p w (by omega) (by omega)
 · exact sform_18_1 p w (by omega) (by omega)
theorem sform_19 (p:Int) (w:World) (h1:65≤p) (h2:p≤68):Calls Tryz.prog 169 #[.int .i64 p] w fun e w'=>e=.returned (.int .i64 (p-58))∧w=w':=by
 have f1:¬ p<2:=by omega
 have f2:¬ p≤4:=by omega
 have f3:(p==(12:Int))=false:=by simp;omega
 have f4:(p==(13:Int))=false:=by simp;omega
 have f5:(p==(16:Int))=false:=by simp;omega
 have f6:¬ p<32:=by omega
 have f7:¬ p≤36:=by omega
 have f8:(p==(14:Int))=false:=by simp;omega
 have f9:(p==(17:Int))=false:=by simp;omega
 have f10:¬ p<40:=by omega
 have f11:¬ p≤62:=by omega
 have f12:(p==(63:Int))=false:=by simp;omega
 have f13:(p==(64:Int))=false:=by simp;omega
 have f14:¬ p<65:=by omega
 have f15:p≤68:=by omega
 go_enter Tryz.func169,Tryz.ntmps169
 go_wp2_with (refine (known_10 _ _ (by omega) (by omega)).mono ?_;rintro e w1 ⟨rfl,rfl⟩)
 go_ret
 exact ⟨by simp;omega,rfl⟩
theorem sform_20 (p:Int) (w:World) (h1:69≤p) (h2:p≤191):Calls Tryz.prog 169 #[.int .i64 p] w fun e w'=>e=.returned (.int .i64 (0))∧w=w':=by
 have f1:¬ p<2:=by omega
 have f2:¬ p≤4:=by omega
 have f3:(p==(12:Int))=false:=by simp;omega
 have f4:(p==(13:Int))=false:=by simp;omega
 have f5:(p==(16:Int))=false:=by simp;omega
 have f6:¬ p<32:=by omega
 have f7:¬ p≤36:=by omega
 have f8:(p==(14:Int))=false:=by simp;omega
 have f9:(p==(17:Int))=false:=by simp;omega
 have f10:¬ p<40:=by omega
 have f11:¬ p≤62:=by omega
 have f12:(p==(63:Int))=false:=by simp;omega
 have f13:(p==(64:Int))=false:=by simp;omega
 have f14:¬ p<65:=by omega
 have f15:¬ p≤68:=by omega
 go_enter Tryz.func169,Tryz.ntmps169
 go_wp2_with (refine (known_10 _ _ (by omega) (by omega)).mono ?_;rintro e w1 ⟨rfl,rfl⟩)
 go_ret
 exact ⟨rfl,rfl⟩
theorem sform_21 (p:Int) (w:World) (h1:192≤p):Calls Tryz.prog 169 #[.int .i64 p] w fun e w'=>e=.returned (.int .i64 (-1))∧w=w':=by
 have f1:¬ p<2:=by omega
 have f2:¬ p≤4:=by omega
 have f3:(p==(12:Int))=false:=by simp;omega
 have f4:(p==(13:Int))=false:=by simp;omega
 have f5:(p==(16:Int))=false:=by simp;omega
 have f6:¬ p<32:=by omega
 have f7:¬ p≤36:=by omega
 have f8:(p==(14:Int))=false:=by simp;omega
 have f9:(p==(17:Int))=false:=by simp;omega
 have f10:¬ p<40:=by omega
 have f11:¬ p≤62:=by omega
 have f12:(p==(63:Int))=false:=by simp;omega
 have f13:(p==(64:Int))=false:=by simp;omega
 have f14:¬ p<65:=by omega
 have f15:¬ p≤68:=by omega
 go_enter Tryz.func169,Tryz.ntmps169
 go_wp2_with (refine (known_11 _ _ (by omega)).mono ?_;rintro e w1 ⟨rfl,rfl⟩)
 go_ret
 exact ⟨rfl,rfl⟩
theorem sform_c (p:Int) (w:World):Calls Tryz.prog 169 #[.int .i64 p] w fun e w'=>e=.returned (.int .i64 (formR (rowOf p)))∧w=w':=by
 have hc:(p≤-1)∨(0≤p∧p≤1)∨(2≤p∧p≤4)∨(5≤p∧p≤5)∨(6≤p∧p≤10)∨(11≤p∧p≤11)∨(12≤p∧p≤13)∨(14≤p∧p≤14)∨(15≤p∧p≤15)∨(16≤p∧p≤16)∨(17≤p∧p≤17)∨(18≤p∧p≤25)∨(26≤p∧p≤26)∨(27≤p∧p≤27)∨(28≤p∧p≤31)∨(32≤p∧p≤36)∨(37≤p∧p≤39)∨(40≤p∧p≤62)∨(63≤p∧p≤64)∨(65≤p∧p≤68)∨(69≤p∧p≤191)∨(192≤p):=by omega
 rcases hc with h | h | h | h | h | h | h | h | h | h | h | h | h | h | h | h | h | h | h | h | h | h
 · have e:formR (rowOf p)=-1:=by
     simp only [rowOf,show ¬ (0≤p∧p<192) by omega,if_false];rfl
   rw [e];exact sform_0 p w h
 · have e:=of_decide_eq_true (rng 0 2 (fun i=>decide (formR (tbl.getD i Z0)=0)) (by decide +kernel) p (by omega) (by omega))
   have e':formR (rowOf p)=0:=by
    simp only [rowOf,show (0≤p∧p<192) by omega,and_self,if_true];rw [e]
   rw [e'];exact sform_1 p w h.1 h.2
 · have e:=of_decide_eq_true (rng 2 3 (fun i=>decide (formR (tbl.getD i Z0)=1)) (by decide +kernel) p (by omega) (by omega))
   have e':formR (rowOf p)=1:=by
    simp only [rowOf,show (0≤p∧p<192) by omega,and_self,if_true];rw [e]
   rw [e'];exact sform_2 p w h.1 h.2
 · have e:=of_decide_eq_true (rng 5 1 (fun i=>decide (formR (tbl.getD i Z0)=0)) (by decide +kernel) p (by omega) (by omega))
   have e':formR (rowOf p)=0:=by
    simp only [rowOf,show (0≤p∧p<192) by omega,and_self,if_true];rw [e]
   rw [e'];exact sform_3 p w h.1 h.2
 · have e:=of_decide_eq_true (rng 6 5 (fun i=>decide (formR (tbl.getD i Z0)=-1)) (by decide +kernel) p (by omega) (by omega))
   have e':formR (rowOf p)=-1:=by
    simp only [rowOf,show (0≤p∧p<192) by omega,and_self,if_true];rw [e]
   rw [e'];exact sform_4 p w h.1 h.2
 · have e:=of_decide_eq_true (rng 11 1 (fun i=>decide (formR (tbl.getD i Z0)=0)) (by decide +kernel) p (by omega) (by omega))
   have e':formR (rowOf p)=0:=by
    simp only [rowOf,show (0≤p∧p<192) by omega,and_self,if_true];rw [e]
   rw [e'];exact sform_5 p w h.1 h.2
 · have e:=of_decide_eq_true (rng 12 2 (fun i=>decide (formR (tbl.getD i Z0)=2)) (by decide +kernel) p (by omega) (by omega))
   have e':formR (rowOf p)=2:=by
    simp only [rowOf,show (0≤p∧p<192) by omega,and_self,if_true];rw [e]
   rw [e'];exact sform_6 p w h.1 h.2
 · have e:=of_decide_eq_true (rng 14 1 (fun i=>decide (formR (tbl.getD i Z0)=3)) (by decide +kernel) p (by omega) (by omega))
   have e':formR (rowOf p)=3:=by
    simp only [rowOf,show (0≤p∧p<192) by omega,and_self,if_true];rw [e]
   rw [e'];exact sform_7 p w h.1 h.2
 · have e:=of_decide_eq_true (rng 15 1 (fun i=>decide (formR (tbl.getD i Z0)=0)) (by decide +kernel) p (by omega) (by omega))
   have e':formR (rowOf p)=0:=by
    simp only [rowOf,show (0≤p∧p<192) by omega,and_self,if_true];rw [e]
   rw [e'];exact sform_8 p w h.1 h.2
 · have e:=of_decide_eq_true (rng 16 1 (fun i=>decide (formR (tbl.getD i Z0)=2)) (by decide +kernel) p (by omega) (by omega))
   have e':formR (rowOf p)=2:=by
    simp only [rowOf,show (0≤p∧p<192) by omega,and_self,if_true];rw [e]
   rw [e'];exact sform_9 p w h.1 h.2
 · have e:=of_decide_eq_true (rng 17 1 (fun i=>decide (formR (tbl.getD i Z0)=4)) (by decide +kernel) p (by omega) (by omega))
   have e':formR (rowOf p)=4:=by
    simp only [rowOf,show (0≤p∧p<192) by omega,and_self,if_true];rw [e]
   rw [e'];exact sform_10 p w h.1 h.2
 · have e:=of_decide_eq_true (rng 18 8 (fun i=>decide (formR (tbl.getD i Z0)=-1)) (by decide +kernel) p (by omega) (by omega))
   have e':formR (rowOf p)=-1:=by
    simp only [rowOf,show (0≤p∧p<192) by omega,and_self,if_true];rw [e]
   rw [e'];exact sform_11 p w h.1 h.2
 · have e:=of_decide_eq_true (rng 26 1 (fun i=>decide (formR (tbl.getD i Z0)=0)) (by decide +kernel) p (by omega) (by omega))
   have e':formR (rowOf p)=0:=by
    simp only [rowOf,show (0≤p∧p<192) by omega,and_self,if_true];rw [e]
   rw [e'];exact sform_12 p w h.1 h.2
 · have e:=of_decide_eq_true (rng 27 1 (fun i=>decide (formR (tbl.getD i Z0)=0)) (by decide +kernel) p (by omega) (by omega))
   have e':formR (rowOf p)=0:=by
    simp only [rowOf,show (0≤p∧p<192) by omega,and_self,if_true];rw [e]
   rw [e'];exact sform_13 p w h.1 h.2
 · have e:=of_decide_eq_true (rng 28 4 (fun i=>decide (formR (tbl.getD i Z0)=-1)) (by decide +kernel) p (by omega) (by omega))
   have e':formR (rowOf p)=-1:=by
    simp only [rowOf,show (0≤p∧p<192) by omega,and_self,if_true];rw [e]
   rw [e'];exact sform_14 p w h.1 h.2
 · have e:=of_decide_eq_true (rng 32 5 (fun i=>decide (formR (tbl.getD i Z0)=2)) (by decide +kernel) p (by omega) (by omega))
   have e':formR (rowOf p)=2:=by
    simp only [rowOf,show (0≤p∧p<192) by omega,and_self,if_true];rw [e]
   rw [e'];exact sform_15 p w h.1 h.2
 · have e:=of_decide_eq_true (rng 37 3 (fun i=>decide (formR (tbl.getD i Z0)=-1)) (by decide +kernel) p (by omega) (by omega))
   have e':formR (rowOf p)=-1:=by
    simp only [rowOf,show (0≤p∧p<192) by omega,and_self,if_true];rw [e]
   rw [e'];exact sform_16 p w h.1 h.2
 · have e:=of_decide_eq_true (rng 40 23 (fun i=>decide (formR (tbl.getD i Z0)=5)) (by decide +kernel) p (by omega) (by omega))
   have e':formR (rowOf p)=5:=by
    simp only [rowOf,show (0≤p∧p<192) by omega,and_self,if_true];rw [e]
   rw [e'];exact sform_17 p w h.1 h.2
 · have e:=of_decide_eq_true (rng 63 2 (fun i=>decide (formR (tbl.getD i Z0)=6)) (by decide +kernel) p (by omega) (by omega))
   have e':formR (rowOf p)=6:=by
    simp only [rowOf,show (0≤p∧p<192) by omega,and_self,if_true];rw [e]
   rw [e'];exact sform_18 p w h.1 h.2
 · have e:=of_decide_eq_true (rng 65 4 (fun i=>decide (formR (tbl.getD i Z0)=(i:Int)-58)) (by decide +kernel) p (by omega) (by omega))
   have e':formR (rowOf p)=p-58:=by
    simp only [rowOf,show (0≤p∧p<192) by omega,and_self,if_true];rw [e];omega
   rw [e'];exact sform_19 p w h.1 h.2
 · have e:=of_decide_eq_true (rng 69 123 (fun i=>decide (formR (tbl.getD i Z0)=0)) (by decide +kernel) p (by omega) (by omega))
   have e':formR (rowOf p)=0:=by
    simp only [rowOf,show (0≤p∧p<192) by omega,and_self,if_true];rw [e]
   rw [e'];exact sform_20 p w h.1 h.2
 · have e:formR (rowOf p)=-1:=by
     simp only [rowOf,show ¬ (0≤p∧p<192) by omega,if_false];rfl
   rw [e];exact sform_21 p w h
end Go.Proofs.YtdbmolambolmgaaGreat
