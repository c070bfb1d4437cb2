import Derived.Test.YtejkdbnngphgaaaGreatDoorChecked
import Derived.WalkKit
import Derived.ProofKit
import Derived.WalkSpells
import Derived.WalkLawsBesides
import Derived.Below
import Derived.Deep.QuietTactic
import Derived.BigQuiet
import Derived.Lib.ItoaNum
import Derived.Lib.ItoaLen
import Derived.Lib.Join
import Derived.Lib.Repeat
import Derived.OwnWalk
import Derived.Handy
import Derived.Deep.OwnRows
import Derived.Laws.MakeOwn
import Derived.Laws.OwnMore
import Derived.Deep.RegionWith
import Derived.Deep.RegionLaw
import Derived.Laws.IdiomStrings
import Derived.Laws.BitsAllLaws
import Derived.Lib.QuietBelow
set_option linter.all false
set_option maxHeartbeats 400000000
set_option maxRecDepth 100000
namespace Go.Proofs
open Value renaming int->U,slice->S,bool->G,pointer->Yp,string->Xs,agg->Ag
open IntKind renaming i64->O,u64->Ou
open Ending renaming returned->Z
open Obj renaming cells->Fc
open Go renaming World->J,Calls->Ec,Value->Vu,Addr->Ad
open Go.RowKit renaming Below->Bw
open Tryz renaming prog->Q
open Tryz
open List renaming nil_append->Hj,replicate->Lg,append_assoc->Kd,getElem?_append_right->Lz,getElem?_eq_getElem->Kv,append_nil->Tb,length_cons->Kj,length->N
open Nat renaming mod_eq_of_lt->Mc,pow_succ->Pn,lt_or_ge->Pv
open World renaming block_lt_of_cell?->Kh,cell?_setCell_other->Tk,frozen?_setCell->Tn
namespace YtejkdbnngphgaaaGreatDoor
open Go.RowKit
variable {cs:Array Vu}{w:J}{n B g:Nat}{p:Prop}{α:Type}{u v a b d e:Vu}
theorem Hid.mk' (h:p):Hid p:=h
theorem _root_.Go.RowKit.Hid.o (h:Hid p):p:=h
theorem Hm (h:p):Hid p:=h
theorem mC {a b:α}{l:List α}(h:a∈l):a∈b::l:=List.mem_cons_of_mem _ h
theorem mS {a:α}{l:List α}:a∈a::l:=List.mem_cons_self
theorem mR {a:α}{l k:List α}(h:a∈k):a∈l++k:=List.mem_append_right _ h
theorem mL {a:α}{l k:List α}(h:a∈l):a∈l++k:=List.mem_append_left _ h
theorem lRz:n<=n:=Nat.le_refl _
theorem bFz:Bw B w w:=Below.refl _ _
theorem setRow_new (W:J)(cs X:Array Vu)(t:TypeId):(W.alloc (Fc cs t)).setRow W.heap.size X=W.alloc (Fc X t):=by
 unfold World.setRow World.alloc;congr 1
 apply Array.ext
 . simp
 intro i c b;simp only[Array.getElem_modify];split
 · rename_i a;subst a;simp
 rename_i a;simp at b;rw[Array.getElem_push_lt (by omega),Array.getElem_push_lt (by omega)]
theorem storeNew {P:Program}{W:J}{t:TypeId}{vs:List Vu}(T:List Vu)(hv:vs=T)(hg:g=W.heap.size)(hl:N T=cs.size)(h1:T.all Value.oneCell'=true):(storeCells ⟨g,0,none⟩ vs).run P (W.alloc (Fc cs t))=.ok () (W.alloc (Fc T.toArray t)):=by
 subst hv hg;rw[run_storeCells_from W.heap.size t vs 0 cs _ (by show(W.heap.push _)[W.heap.size]?=_;simp) (by omega) (by simpa using h1)];simp only[List.take_zero,Hj];rw[setRow_new]
theorem Qn {e:TypeId}{i:Nat}(hg:g=w.heap.size)(a:cs[i]?=some u):(w.alloc (Fc cs e)).cell? ⟨g,i,none⟩=some u:=by
 subst hg;simp[a]
def Sz0 (l:List UInt8):ByteArray:=⟨l.toArray⟩
theorem QJ (l:List UInt8):(Sz0 l).size=N l:=by simp[Sz0,ByteArray.size]
theorem S_app (l m:List UInt8):Sz0 l++Sz0 m=Sz0 (l++m):=by
 apply ByteArray.ext;simp[Sz0,ByteArray.data_append]
theorem QB (l:List UInt8):(Sz0 l).data.toList=l:=by simp[Sz0]
def hx (k:Nat):UInt8:=if k<10 then UInt8.ofNat (48+k)else UInt8.ofNat (87+k)
def XP (u:Nat):List UInt8:=if h:u<16 then [hx u]else XP (u / 16)++[hx (u%16)]
termination_by u
decreasing_by omega
def JG:Nat->Nat->List UInt8
 |0,_=>[]
 |n+1,u=>JG n (u / 16)++[hx (u%16)]
theorem XK:∀n u,(JG n u).length=n
 |0,_=>rfl
 |n+1,u=>by simp[JG,XK n]
theorem hexN_zero:∀n,JG n 0=Lg n 48
 |0=>rfl
 |n+1=>by
  rw[JG,Nat.zero_div,hexN_zero n,List.replicate_succ']
  rfl
theorem hexD_spec:∀(n u:Nat),u<16 ^ (n+1)->(XP u).length<=n+1/\Lg (n+1-(XP u).length) 48++XP u=JG (n+1) u
 |0,u,h=>by
  have h:u<16:=by simpa using h
  rw[XP,dif_pos h]
  simp[JG,Mc h]
 |n+1,u,h=>by
  by_cases a:u<16
  . rw[XP,dif_pos a]
    refine⟨by simp,?_⟩
    rw[JG,Nat.div_eq_of_lt a,hexN_zero,Mc a]
    simp
  . obtain⟨c,b⟩:=hexD_spec n (u / 16) (by rw[Pn]at h;omega);rw[XP,dif_neg a]
    refine⟨by simp;omega,?_⟩
    rw[JG,<- b]
    simp
theorem hexN_cons:∀(n u:Nat),JG (n+1) u=hx (u / 16 ^ n%16)::JG n u
 |0,u=>by simp[JG]
 |n+1,u=>by
  rw[JG,hexN_cons n (u / 16),JG,Nat.div_div_eq_div_mul,Pn,Nat.mul_comm 16]
  rfl
theorem repeat_eq (n:Nat):Lib.repeatL [48] n=Lg n 48:=by
 induction n with
 |zero=>rfl
 |succ n ih=>rw[Lib.repeatL,ih,List.replicate_succ];rfl
def Jj (n u:Nat):List UInt8:=[48,120]++JG n u
theorem bits_eq (n u:Nat)(h:u<16 ^ (n+1)):[48,120]++Lib.repeatL [48] (n+1-(XP u).length)++XP u=Jj (n+1) u:=by
 rw[repeat_eq,Kd,(hexD_spec n u h).2,Jj]
structure Row where
 nm:ByteArray
 f:Int
 a:Int
 b:Int
 g:Int
def Z0:Row:=⟨⟨#[]⟩,0,0,0,0⟩
abbrev rowL (r:Row):List Vu:=[Xs r.nm,U O r.f,U O r.a,U O r.b,U O r.g]
abbrev JN (r:Row):Vu:=Ag #[Xs r.nm,U O r.f,U O r.a,U O r.b,U O r.g]
def flat:List Row->List Vu
 |[]=>[]
 |r::l=>rowL r++flat l
def R52t:List Row:=[
 ⟨⟨#[117,110,114,101,97,99,104,97,98,108,101]⟩,0,0,0,0⟩,
 ⟨⟨#[110,111,112]⟩,0,0,0,0⟩,
 ⟨⟨#[98,108,111,99,107]⟩,1,0,0,0⟩,
 ⟨⟨#[108,111,111,112]⟩,1,0,0,0⟩,
 ⟨⟨#[105,102]⟩,1,0,0,0⟩,
 ⟨⟨#[101,108,115,101]⟩,0,0,0,0⟩,
 ⟨⟨#[]⟩,0,0,0,0⟩,
 ⟨⟨#[]⟩,0,0,0,0⟩,
 ⟨⟨#[]⟩,0,0,0,0⟩,
 ⟨⟨#[]⟩,0,0,0,0⟩,
 ⟨⟨#[]⟩,0,0,0,0⟩,
 ⟨⟨#[101,110,100]⟩,0,0,0,0⟩,
 ⟨⟨#[98,114]⟩,2,0,0,0⟩,
 ⟨⟨#[98,114,95,105,102]⟩,2,0,0,0⟩,
 ⟨⟨#[98,114,95,116,97,98,108,101]⟩,3,0,0,0⟩,
 ⟨⟨#[114,101,116,117,114,110]⟩,0,0,0,0⟩,
 ⟨⟨#[99,97,108,108]⟩,2,0,0,0⟩,
 ⟨⟨#[99,97,108,108,95,105,110,100,105,114,101,99,116]⟩,4,0,0,0⟩,
 ⟨⟨#[]⟩,0,0,0,0⟩,
 ⟨⟨#[]⟩,0,0,0,0⟩,
 ⟨⟨#[]⟩,0,0,0,0⟩,
 ⟨⟨#[]⟩,0,0,0,0⟩,
 ⟨⟨#[]⟩,0,0,0,0⟩,
 ⟨⟨#[]⟩,0,0,0,0⟩,
 ⟨⟨#[]⟩,0,0,0,0⟩,
 ⟨⟨#[]⟩,0,0,0,0⟩,
 ⟨⟨#[100,114,111,112]⟩,0,0,0,0⟩,
 ⟨⟨#[115,101,108,101,99,116]⟩,0,0,0,0⟩,
 ⟨⟨#[]⟩,0,0,0,0⟩,
 ⟨⟨#[]⟩,0,0,0,0⟩,
 ⟨⟨#[]⟩,0,0,0,0⟩,
 ⟨⟨#[]⟩,0,0,0,0⟩,
 ⟨⟨#[108,111,99,97,108,46,103,101,116]⟩,2,0,0,0⟩,
 ⟨⟨#[108,111,99,97,108,46,115,101,116]⟩,2,0,0,0⟩,
 ⟨⟨#[108,111,99,97,108,46,116,101,101]⟩,2,0,0,0⟩,
 ⟨⟨#[103,108,111,98,97,108,46,103,101,116]⟩,2,0,0,0⟩,
 ⟨⟨#[103,108,111,98,97,108,46,115,101,116]⟩,2,0,0,0⟩,
 ⟨⟨#[]⟩,0,0,0,0⟩,
 ⟨⟨#[]⟩,0,0,0,0⟩,
 ⟨⟨#[]⟩,0,0,0,0⟩]
def R53t:List Row:=[
 ⟨⟨#[105,51,50,46,108,111,97,100]⟩,5,127,0,127⟩,
 ⟨⟨#[105,54,52,46,108,111,97,100]⟩,5,127,0,126⟩,
 ⟨⟨#[102,51,50,46,108,111,97,100]⟩,5,127,0,125⟩,
 ⟨⟨#[102,54,52,46,108,111,97,100]⟩,5,127,0,124⟩,
 ⟨⟨#[105,51,50,46,108,111,97,100,56,95,115]⟩,5,127,0,127⟩,
 ⟨⟨#[105,51,50,46,108,111,97,100,56,95,117]⟩,5,127,0,127⟩,
 ⟨⟨#[105,51,50,46,108,111,97,100,49,54,95,115]⟩,5,127,0,127⟩,
 ⟨⟨#[105,51,50,46,108,111,97,100,49,54,95,117]⟩,5,127,0,127⟩,
 ⟨⟨#[105,54,52,46,108,111,97,100,56,95,115]⟩,5,127,0,126⟩,
 ⟨⟨#[105,54,52,46,108,111,97,100,56,95,117]⟩,5,127,0,126⟩,
 ⟨⟨#[105,54,52,46,108,111,97,100,49,54,95,115]⟩,5,127,0,126⟩,
 ⟨⟨#[105,54,52,46,108,111,97,100,49,54,95,117]⟩,5,127,0,126⟩,
 ⟨⟨#[105,54,52,46,108,111,97,100,51,50,95,115]⟩,5,127,0,126⟩,
 ⟨⟨#[105,54,52,46,108,111,97,100,51,50,95,117]⟩,5,127,0,126⟩,
 ⟨⟨#[105,51,50,46,115,116,111,114,101]⟩,5,127,127,0⟩,
 ⟨⟨#[105,54,52,46,115,116,111,114,101]⟩,5,127,126,0⟩,
 ⟨⟨#[102,51,50,46,115,116,111,114,101]⟩,5,127,125,0⟩,
 ⟨⟨#[102,54,52,46,115,116,111,114,101]⟩,5,127,124,0⟩,
 ⟨⟨#[105,51,50,46,115,116,111,114,101,56]⟩,5,127,127,0⟩,
 ⟨⟨#[105,51,50,46,115,116,111,114,101,49,54]⟩,5,127,127,0⟩,
 ⟨⟨#[105,54,52,46,115,116,111,114,101,56]⟩,5,127,126,0⟩,
 ⟨⟨#[105,54,52,46,115,116,111,114,101,49,54]⟩,5,127,126,0⟩,
 ⟨⟨#[105,54,52,46,115,116,111,114,101,51,50]⟩,5,127,126,0⟩,
 ⟨⟨#[109,101,109,111,114,121,46,115,105,122,101]⟩,6,0,0,127⟩,
 ⟨⟨#[109,101,109,111,114,121,46,103,114,111,119]⟩,6,127,0,127⟩,
 ⟨⟨#[105,51,50,46,99,111,110,115,116]⟩,7,0,0,127⟩,
 ⟨⟨#[105,54,52,46,99,111,110,115,116]⟩,8,0,0,126⟩,
 ⟨⟨#[102,51,50,46,99,111,110,115,116]⟩,9,0,0,125⟩,
 ⟨⟨#[102,54,52,46,99,111,110,115,116]⟩,10,0,0,124⟩]
def R54t:List Row:=[
 ⟨⟨#[105,51,50,46,101,113,122]⟩,0,127,0,127⟩,
 ⟨⟨#[105,51,50,46,101,113]⟩,0,127,127,127⟩,
 ⟨⟨#[105,51,50,46,110,101]⟩,0,127,127,127⟩,
 ⟨⟨#[105,51,50,46,108,116,95,115]⟩,0,127,127,127⟩,
 ⟨⟨#[105,51,50,46,108,116,95,117]⟩,0,127,127,127⟩,
 ⟨⟨#[105,51,50,46,103,116,95,115]⟩,0,127,127,127⟩,
 ⟨⟨#[105,51,50,46,103,116,95,117]⟩,0,127,127,127⟩,
 ⟨⟨#[105,51,50,46,108,101,95,115]⟩,0,127,127,127⟩,
 ⟨⟨#[105,51,50,46,108,101,95,117]⟩,0,127,127,127⟩,
 ⟨⟨#[105,51,50,46,103,101,95,115]⟩,0,127,127,127⟩,
 ⟨⟨#[105,51,50,46,103,101,95,117]⟩,0,127,127,127⟩,
 ⟨⟨#[105,54,52,46,101,113,122]⟩,0,126,0,127⟩,
 ⟨⟨#[105,54,52,46,101,113]⟩,0,126,126,127⟩,
 ⟨⟨#[105,54,52,46,110,101]⟩,0,126,126,127⟩,
 ⟨⟨#[105,54,52,46,108,116,95,115]⟩,0,126,126,127⟩,
 ⟨⟨#[105,54,52,46,108,116,95,117]⟩,0,126,126,127⟩,
 ⟨⟨#[105,54,52,46,103,116,95,115]⟩,0,126,126,127⟩,
 ⟨⟨#[105,54,52,46,103,116,95,117]⟩,0,126,126,127⟩,
 ⟨⟨#[105,54,52,46,108,101,95,115]⟩,0,126,126,127⟩,
 ⟨⟨#[105,54,52,46,108,101,95,117]⟩,0,126,126,127⟩,
 ⟨⟨#[105,54,52,46,103,101,95,115]⟩,0,126,126,127⟩,
 ⟨⟨#[105,54,52,46,103,101,95,117]⟩,0,126,126,127⟩,
 ⟨⟨#[102,51,50,46,101,113]⟩,0,125,125,127⟩,
 ⟨⟨#[102,51,50,46,110,101]⟩,0,125,125,127⟩,
 ⟨⟨#[102,51,50,46,108,116]⟩,0,125,125,127⟩,
 ⟨⟨#[102,51,50,46,103,116]⟩,0,125,125,127⟩,
 ⟨⟨#[102,51,50,46,108,101]⟩,0,125,125,127⟩,
 ⟨⟨#[102,51,50,46,103,101]⟩,0,125,125,127⟩,
 ⟨⟨#[102,54,52,46,101,113]⟩,0,124,124,127⟩,
 ⟨⟨#[102,54,52,46,110,101]⟩,0,124,124,127⟩,
 ⟨⟨#[102,54,52,46,108,116]⟩,0,124,124,127⟩,
 ⟨⟨#[102,54,52,46,103,116]⟩,0,124,124,127⟩,
 ⟨⟨#[102,54,52,46,108,101]⟩,0,124,124,127⟩,
 ⟨⟨#[102,54,52,46,103,101]⟩,0,124,124,127⟩]
def R55t:List Row:=[
 ⟨⟨#[105,51,50,46,99,108,122]⟩,0,127,0,127⟩,
 ⟨⟨#[105,51,50,46,99,116,122]⟩,0,127,0,127⟩,
 ⟨⟨#[105,51,50,46,112,111,112,99,110,116]⟩,0,127,0,127⟩,
 ⟨⟨#[105,51,50,46,97,100,100]⟩,0,127,127,127⟩,
 ⟨⟨#[105,51,50,46,115,117,98]⟩,0,127,127,127⟩,
 ⟨⟨#[105,51,50,46,109,117,108]⟩,0,127,127,127⟩,
 ⟨⟨#[105,51,50,46,100,105,118,95,115]⟩,0,127,127,127⟩,
 ⟨⟨#[105,51,50,46,100,105,118,95,117]⟩,0,127,127,127⟩,
 ⟨⟨#[105,51,50,46,114,101,109,95,115]⟩,0,127,127,127⟩,
 ⟨⟨#[105,51,50,46,114,101,109,95,117]⟩,0,127,127,127⟩,
 ⟨⟨#[105,51,50,46,97,110,100]⟩,0,127,127,127⟩,
 ⟨⟨#[105,51,50,46,111,114]⟩,0,127,127,127⟩,
 ⟨⟨#[105,51,50,46,120,111,114]⟩,0,127,127,127⟩,
 ⟨⟨#[105,51,50,46,115,104,108]⟩,0,127,127,127⟩,
 ⟨⟨#[105,51,50,46,115,104,114,95,115]⟩,0,127,127,127⟩,
 ⟨⟨#[105,51,50,46,115,104,114,95,117]⟩,0,127,127,127⟩,
 ⟨⟨#[105,51,50,46,114,111,116,108]⟩,0,127,127,127⟩,
 ⟨⟨#[105,51,50,46,114,111,116,114]⟩,0,127,127,127⟩,
 ⟨⟨#[105,54,52,46,99,108,122]⟩,0,126,0,126⟩,
 ⟨⟨#[105,54,52,46,99,116,122]⟩,0,126,0,126⟩,
 ⟨⟨#[105,54,52,46,112,111,112,99,110,116]⟩,0,126,0,126⟩,
 ⟨⟨#[105,54,52,46,97,100,100]⟩,0,126,126,126⟩,
 ⟨⟨#[105,54,52,46,115,117,98]⟩,0,126,126,126⟩,
 ⟨⟨#[105,54,52,46,109,117,108]⟩,0,126,126,126⟩,
 ⟨⟨#[105,54,52,46,100,105,118,95,115]⟩,0,126,126,126⟩,
 ⟨⟨#[105,54,52,46,100,105,118,95,117]⟩,0,126,126,126⟩,
 ⟨⟨#[105,54,52,46,114,101,109,95,115]⟩,0,126,126,126⟩,
 ⟨⟨#[105,54,52,46,114,101,109,95,117]⟩,0,126,126,126⟩,
 ⟨⟨#[105,54,52,46,97,110,100]⟩,0,126,126,126⟩,
 ⟨⟨#[105,54,52,46,111,114]⟩,0,126,126,126⟩,
 ⟨⟨#[105,54,52,46,120,111,114]⟩,0,126,126,126⟩,
 ⟨⟨#[105,54,52,46,115,104,108]⟩,0,126,126,126⟩,
 ⟨⟨#[105,54,52,46,115,104,114,95,115]⟩,0,126,126,126⟩,
 ⟨⟨#[105,54,52,46,115,104,114,95,117]⟩,0,126,126,126⟩,
 ⟨⟨#[105,54,52,46,114,111,116,108]⟩,0,126,126,126⟩,
 ⟨⟨#[105,54,52,46,114,111,116,114]⟩,0,126,126,126⟩]
def R56t:List Row:=[
 ⟨⟨#[102,51,50,46,97,98,115]⟩,0,125,0,125⟩,
 ⟨⟨#[102,51,50,46,110,101,103]⟩,0,125,0,125⟩,
 ⟨⟨#[102,51,50,46,99,101,105,108]⟩,0,125,0,125⟩,
 ⟨⟨#[102,51,50,46,102,108,111,111,114]⟩,0,125,0,125⟩,
 ⟨⟨#[102,51,50,46,116,114,117,110,99]⟩,0,125,0,125⟩,
 ⟨⟨#[102,51,50,46,110,101,97,114,101,115,116]⟩,0,125,0,125⟩,
 ⟨⟨#[102,51,50,46,115,113,114,116]⟩,0,125,0,125⟩,
 ⟨⟨#[102,51,50,46,97,100,100]⟩,0,125,125,125⟩,
 ⟨⟨#[102,51,50,46,115,117,98]⟩,0,125,125,125⟩,
 ⟨⟨#[102,51,50,46,109,117,108]⟩,0,125,125,125⟩,
 ⟨⟨#[102,51,50,46,100,105,118]⟩,0,125,125,125⟩,
 ⟨⟨#[102,51,50,46,109,105,110]⟩,0,125,125,125⟩,
 ⟨⟨#[102,51,50,46,109,97,120]⟩,0,125,125,125⟩,
 ⟨⟨#[102,51,50,46,99,111,112,121,115,105,103,110]⟩,0,125,125,125⟩,
 ⟨⟨#[102,54,52,46,97,98,115]⟩,0,124,0,124⟩,
 ⟨⟨#[102,54,52,46,110,101,103]⟩,0,124,0,124⟩,
 ⟨⟨#[102,54,52,46,99,101,105,108]⟩,0,124,0,124⟩,
 ⟨⟨#[102,54,52,46,102,108,111,111,114]⟩,0,124,0,124⟩,
 ⟨⟨#[102,54,52,46,116,114,117,110,99]⟩,0,124,0,124⟩,
 ⟨⟨#[102,54,52,46,110,101,97,114,101,115,116]⟩,0,124,0,124⟩,
 ⟨⟨#[102,54,52,46,115,113,114,116]⟩,0,124,0,124⟩,
 ⟨⟨#[102,54,52,46,97,100,100]⟩,0,124,124,124⟩,
 ⟨⟨#[102,54,52,46,115,117,98]⟩,0,124,124,124⟩,
 ⟨⟨#[102,54,52,46,109,117,108]⟩,0,124,124,124⟩,
 ⟨⟨#[102,54,52,46,100,105,118]⟩,0,124,124,124⟩,
 ⟨⟨#[102,54,52,46,109,105,110]⟩,0,124,124,124⟩,
 ⟨⟨#[102,54,52,46,109,97,120]⟩,0,124,124,124⟩,
 ⟨⟨#[102,54,52,46,99,111,112,121,115,105,103,110]⟩,0,124,124,124⟩]
def R57t:List Row:=[
 ⟨⟨#[105,51,50,46,119,114,97,112,95,105,54,52]⟩,0,126,0,127⟩,
 ⟨⟨#[105,51,50,46,116,114,117,110,99,95,102,51,50,95,115]⟩,0,125,0,127⟩,
 ⟨⟨#[105,51,50,46,116,114,117,110,99,95,102,51,50,95,117]⟩,0,125,0,127⟩,
 ⟨⟨#[105,51,50,46,116,114,117,110,99,95,102,54,52,95,115]⟩,0,124,0,127⟩,
 ⟨⟨#[105,51,50,46,116,114,117,110,99,95,102,54,52,95,117]⟩,0,124,0,127⟩,
 ⟨⟨#[105,54,52,46,101,120,116,101,110,100,95,105,51,50,95,115]⟩,0,127,0,126⟩,
 ⟨⟨#[105,54,52,46,101,120,116,101,110,100,95,105,51,50,95,117]⟩,0,127,0,126⟩,
 ⟨⟨#[105,54,52,46,116,114,117,110,99,95,102,51,50,95,115]⟩,0,125,0,126⟩,
 ⟨⟨#[105,54,52,46,116,114,117,110,99,95,102,51,50,95,117]⟩,0,125,0,126⟩,
 ⟨⟨#[105,54,52,46,116,114,117,110,99,95,102,54,52,95,115]⟩,0,124,0,126⟩,
 ⟨⟨#[105,54,52,46,116,114,117,110,99,95,102,54,52,95,117]⟩,0,124,0,126⟩,
 ⟨⟨#[102,51,50,46,99,111,110,118,101,114,116,95,105,51,50,95,115]⟩,0,127,0,125⟩,
 ⟨⟨#[102,51,50,46,99,111,110,118,101,114,116,95,105,51,50,95,117]⟩,0,127,0,125⟩,
 ⟨⟨#[102,51,50,46,99,111,110,118,101,114,116,95,105,54,52,95,115]⟩,0,126,0,125⟩,
 ⟨⟨#[102,51,50,46,99,111,110,118,101,114,116,95,105,54,52,95,117]⟩,0,126,0,125⟩,
 ⟨⟨#[102,51,50,46,100,101,109,111,116,101,95,102,54,52]⟩,0,124,0,125⟩,
 ⟨⟨#[102,54,52,46,99,111,110,118,101,114,116,95,105,51,50,95,115]⟩,0,127,0,124⟩,
 ⟨⟨#[102,54,52,46,99,111,110,118,101,114,116,95,105,51,50,95,117]⟩,0,127,0,124⟩,
 ⟨⟨#[102,54,52,46,99,111,110,118,101,114,116,95,105,54,52,95,115]⟩,0,126,0,124⟩,
 ⟨⟨#[102,54,52,46,99,111,110,118,101,114,116,95,105,54,52,95,117]⟩,0,126,0,124⟩,
 ⟨⟨#[102,54,52,46,112,114,111,109,111,116,101,95,102,51,50]⟩,0,125,0,124⟩,
 ⟨⟨#[105,51,50,46,114,101,105,110,116,101,114,112,114,101,116,95,102,51,50]⟩,0,125,0,127⟩,
 ⟨⟨#[105,54,52,46,114,101,105,110,116,101,114,112,114,101,116,95,102,54,52]⟩,0,124,0,126⟩,
 ⟨⟨#[102,51,50,46,114,101,105,110,116,101,114,112,114,101,116,95,105,51,50]⟩,0,127,0,125⟩,
 ⟨⟨#[102,54,52,46,114,101,105,110,116,101,114,112,114,101,116,95,105,54,52]⟩,0,126,0,124⟩]
def tbl:List Row:=R52t++(R53t++(R54t++(R55t++(R56t++(R57t)))))
def R52:List Row:=Lg 0 Z0++R52t
def R53:List Row:=Lg 40 Z0++R53t
def R54:List Row:=Lg 69 Z0++R54t
def R55:List Row:=Lg 103 Z0++R55t
def R56:List Row:=Lg 139 Z0++R56t
def R57:List Row:=Lg 167 Z0++R57t
def Qe (op:Int):Row:=if 0<=op/\op<192 then tbl.getD op.toNat Z0 else Z0
theorem flat_at (R:List Row)(p:Nat)(r:Row)(h:R[p]?=some r):((flat R).drop (p*5)).take 5=rowL r:=by
 induction R generalizing p with
 |nil=>simp at h
 |cons x l ih =>
  cases p with
  |zero=>simp at h;subst h;simp[flat]
  |succ p =>
   have a:l[p]?=some r:=by simpa using h
   have e:(p+1)*5=5+p*5:=by omega
   rw[e,<- List.drop_drop]
   show(((rowL x++flat l).drop 5).drop (p*5)).take 5=_
   rw[List.drop_left' (by rfl)]
   exact ih p a
theorem idxT {t:Nat}(ht:Q.underlying t=some (.array n 224))(R:List Row)(hv:cs=(flat R).toArray)(p:Nat)(r:Row)(hr:R[p]?=some r)(hp:p<n)(w:J):(Instr.index t (Ag cs) (U O p)).run Q w=.ok (JN r) w:=by
 subst hv;have a:∀w,(sizeOf 224).run Q w=.ok 5 w:=λw=>by kernel_rfl
 have ha:∀w,(isAgg 224).run Q w=.ok true w:=λw=>by kernel_rfl
 simp[Instr.index,asIntOf,run_underlying ht,part,a,ha,hp,flat_at R p r hr]
theorem XT (p:Nat)(r:Row)(h:tbl[p]?=some r):Qe p=r:=by
 have c:p<N tbl:=by
  rcases Pv p (N tbl)with a|a
  . exact a
  rw[List.getElem?_eq_none a]at h;cases h
 have b:p<192:=c;simp only[Qe,show(0:Int)<=p/\(p:Int)<192 by omega,and_self,if_true,Int.toNat_natCast,List.getD,h,Option.getD_some]
theorem piece (A B C:List Row)(p:Nat)(h1:N A<=p)(b:p<N A+N B):∃r,(Lg (N A) Z0++B)[p]?=some r/\(A++(B++C))[p]?=some r:=by
 have a:p-N A<N B:=by omega
 refine⟨B[p-N A],?_,?_⟩
 . rw[Lz (by simpa using h1),List.length_replicate,Kv a]
 rw[Lz h1,List.getElem?_append_left a,Kv a]
theorem R52_at (p:Nat)(h1:0<=p)(a:p<40):R52[p]?=some (Qe p):=by
 obtain⟨r,c,b⟩:=piece (([]:List Row)) R52t (R53t++(R54t++(R55t++(R56t++(R57t))))) p h1 a;have e:tbl=(([]:List Row))++(R52t++(R53t++(R54t++(R55t++(R56t++(R57t)))))):=by simp only[tbl,Kd,Hj,Tb]
 rw[XT p r (by rw[e];exact b)];exact c
theorem R53_at (p:Nat)(h1:40<=p)(a:p<69):R53[p]?=some (Qe p):=by
 obtain⟨r,c,b⟩:=piece (R52t) R53t (R54t++(R55t++(R56t++(R57t)))) p h1 a;have e:tbl=(R52t)++(R53t++(R54t++(R55t++(R56t++(R57t))))):=by simp only[tbl,Kd,Hj,Tb]
 rw[XT p r (by rw[e];exact b)];exact c
theorem R54_at (p:Nat)(h1:69<=p)(a:p<103):R54[p]?=some (Qe p):=by
 obtain⟨r,c,b⟩:=piece (R52t++(R53t)) R54t (R55t++(R56t++(R57t))) p h1 a;have e:tbl=(R52t++(R53t))++(R54t++(R55t++(R56t++(R57t)))):=by simp only[tbl,Kd,Hj,Tb]
 rw[XT p r (by rw[e];exact b)];exact c
theorem R55_at (p:Nat)(h1:103<=p)(a:p<139):R55[p]?=some (Qe p):=by
 obtain⟨r,c,b⟩:=piece (R52t++(R53t++(R54t))) R55t (R56t++(R57t)) p h1 a;have e:tbl=(R52t++(R53t++(R54t)))++(R55t++(R56t++(R57t))):=by simp only[tbl,Kd,Hj,Tb]
 rw[XT p r (by rw[e];exact b)];exact c
theorem R56_at (p:Nat)(h1:139<=p)(a:p<167):R56[p]?=some (Qe p):=by
 obtain⟨r,c,b⟩:=piece (R52t++(R53t++(R54t++(R55t)))) R56t (R57t) p h1 a;have e:tbl=(R52t++(R53t++(R54t++(R55t))))++(R56t++(R57t)):=by simp only[tbl,Kd,Hj,Tb]
 rw[XT p r (by rw[e];exact b)];exact c
theorem R57_at (p:Nat)(h1:167<=p)(a:p<192):R57[p]?=some (Qe p):=by
 obtain⟨r,c,b⟩:=piece (R52t++(R53t++(R54t++(R55t++(R56t))))) R57t (([]:List Row)) p h1 a;have e:tbl=(R52t++(R53t++(R54t++(R55t++(R56t)))))++(R57t++(([]:List Row))):=by simp only[tbl,Kd,Hj,Tb]
 rw[XT p r (by rw[e];exact b)];exact c
theorem info2:(Q.info? 2).map (λi=>(i.zero,i.size,i.bytes))=some (some (U O 0),1,8):=by kernel_rfl
abbrev I (xs:List Int):List Vu:=xs.map λx=>Value.int O x
def Has (w:J)(a:Option Ad)(xs:List Int):Prop:=xs=[]\/∃b off,a=some ⟨b,off,none⟩/\∀i,i<N xs->w.cell? ⟨b,off+i,none⟩=some (U O (xs.getD i 0))
theorem eq_any (a b)(ca p:Nat)(c:List Int)(w)(hl:N c<=1099511627776)(ha:Has w a c)(j:Has w b c):Ec Q 38 #[S a (N c) ca,S b (N c) p] w λe w'=>e=Z (G true)/\∃n,w'=w.drewN n:=by
 by_cases hx:c=[]
 . subst hx;clear ha j hl;go_enter func38,ntmps38;go_wp2;refine wp_loop_rounds 1 ?_;rw[rounds_succ];go_wp2;go_ret;exact⟨rfl,0,rfl⟩
 have g:0<N c:=List.length_pos_iff.2 hx;rcases ha with h|⟨b1,o1,rfl,f⟩
 . exact absurd h hx
 rcases j with h|⟨s,o2,rfl,o⟩
 . exact absurd h hx
 clear hx;go_enter func38,ntmps38;go_wp2;go_loopw [5] (λi wr=>∃k:Nat,k<=N c/\i=U O k/\∃m,wr=w.drewN m) (λi _=>N c-(intOf i).toNat)
 case atStart=>exact⟨0,Nat.zero_le _,rfl,0,rfl⟩
 obtain⟨k,q,rfl,m,rfl⟩:=hrel;by_cases d:k<N c
 . have r:(w.drewN m).cell? ⟨b1,o1+k,none⟩=some (U O (c.getD k 0)):=f k d;(have l:(k:Int)<(N c:Int):=by omega);go_wp2;(go_quiet (fail));go_wp2;(go_roundw);(case rel=>exact⟨k+1,by omega,by go_num,_,rfl⟩);case measure=>simp[intOf];omega
 go_wp2;go_ret;exact⟨rfl,m,rfl⟩
def marks (k n:Nat):List Int:=(List.range n).map λi=>((k+i:Nat):Int)
theorem Ql {a b c:J}{row:Option Nat}(h:a.grownBy b row)(k:b.grownBy c row):a.grownBy c row :=
 ⟨k.os.trans h.os,k.tape.trans h.tape,k.output.trans h.output,Nat.le_trans h.size k.size,λi hi hne=>(k.block i (Nat.lt_of_lt_of_le hi h.size) hne).trans (h.block i hi hne)⟩
theorem Jw {B w w'}(h:Bw B w w')(n:Nat):Bw B w (w'.drewN n):=⟨h.os,h.tape,h.output,h.size,h.block⟩
theorem own_lt {a:List Vu}(h:w.ownsRow B 2 1 v n a):∀j,v.ownBlock=some j->j<w.heap.size:=by
 intro j b;exact(h.lt j b).2
theorem heap_new (w:J)(o:Obj):(w.alloc o).heap[w.heap.size]?=some o:=by show(w.heap.push o)[w.heap.size]?=_;simp
theorem Jy (w:J)(o:Obj)(k:Nat)(h:k<w.heap.size):(w.alloc o).heap[k]?=w.heap[k]?:=by show(w.heap.push o)[k]?=_;rw[Array.getElem?_push_lt h,Array.getElem?_eq_getElem h]
structure FT (w:J)(B C:Nat)(p r:Vu)(n m:Nat)(xs ys:List Int):Prop where
 hp:w.ownsRow B 2 1 p n (I xs)
 hr:w.ownsRow B 2 1 r m (I ys)
 ne:∀i j,p.ownBlock=some i->r.ownBlock=some j->i≠j
 ltp:∀j,p.ownBlock=some j->j<C
 ltr:∀j,r.ownBlock=some j->j<C
 le:C<=w.heap.size
structure Bet (B C:Nat)(w w':J):Prop where
 os:w'.os=w.os
 tape:w'.tape=w.tape
 output:w'.output=w.output
 size:w.heap.size<=w'.heap.size
 block:∀k,k<B\/(C<=k/\k<w.heap.size)->w'.heap[k]?=w.heap[k]?
theorem Bet.frozen {C:Nat}{w':J}(h:Bet B C w w'){b o:Nat}(a:b<B\/(C<=b/\b<w.heap.size)):w'.frozen? ⟨b,o,none⟩=w.frozen? ⟨b,o,none⟩:=World.frozen?_of_block (h.block b a)
structure In where
 op:Int
 a:Int
 b:Int
 v:Int
 l:List Int
abbrev inV (x:In)(la:Option Ad)(lc:Nat):Vu:=Ag #[U O x.op,U O x.a,U O x.b,U Ou x.v,S la (N x.l) lc]
def I0:In:=⟨0,0,0,0,[]⟩
def C5 (w:J)(g o:Nat)(a b c d e:Vu):Prop:=(w.cell? ⟨g,o,none⟩=some a/\w.cell? ⟨g,o+1,none⟩=some b/\w.cell? ⟨g,o+2,none⟩=some c/\w.cell? ⟨g,o+3,none⟩=some d/\w.cell? ⟨g,o+4,none⟩=some e)/\∀i,w.frozen? ⟨g,i,none⟩=false
theorem C5.keep {l:J}{o:Nat}{c:Vu}(h:C5 w g o a b c d e)(k:Bw w.heap.size w l):C5 l g o a b c d e:=by
 obtain⟨⟨m,s,r,q,n⟩,f⟩:=h;have j:=Kh w _ m;exact⟨⟨(k.cell (p:=⟨g,o,none⟩) j).trans m,(k.cell (p:=⟨g,o+1,none⟩) j).trans s,(k.cell (p:=⟨g,o+2,none⟩) j).trans r,(k.cell (p:=⟨g,o+3,none⟩) j).trans q,(k.cell (p:=⟨g,o+4,none⟩) j).trans n⟩,λi=>(k.frozen (p:=⟨g,i,none⟩) j).trans (f i)⟩
theorem C5.new {c:Vu}{t:TypeId}:C5 (w.alloc (Fc #[a,b,c,d,e] t)) w.heap.size 0 a b c d e :=
 ⟨⟨Qn rfl rfl,Qn rfl rfl,Qn rfl rfl,Qn rfl rfl,Qn rfl rfl⟩,λi=>World.frozen?_alloc_new w _ t i⟩
theorem C5.past {o:Obj}{q:Nat}{c:Vu}(h:C5 w g q a b c d e):C5 (w.alloc o) g q a b c d e:=h.keep (bFz.alloc lRz _)
def Got (w':J)(B:Nat)(x:In)(g:Nat):Prop:=w'.ownsRow B 2 1 (S (some ⟨g,0,none⟩) (N x.l) (N x.l)) (N x.l) (I x.l)
theorem info70:(Q.info? 70).map (λi=>(i.zero,i.size,i.bytes))=some (some (Ag #[U O 0,U O 0,U O 0,U Ou 0,S none 0 0]),5,56):=by kernel_rfl
structure Cp (w:J)(g n k:Nat)(xs:List In)(wr:J):Prop where
 blk:∃cur,wr.heap[g]?=some (Fc cur 70 (0,0))/\cur.size=n*5
 done:∀i,i<k->∃h,C5 wr g (i*5) (U O (xs.getD i I0).op) (U O (xs.getD i I0).a) (U O (xs.getD i I0).b) (U Ou (xs.getD i I0).v) (S (some ⟨h,0,none⟩) (xs.getD i I0).l.length (xs.getD i I0).l.length)/\Got wr (g+1) (xs.getD i I0) h
 bel:Bw w.heap.size w wr
 ge:w.heap.size<=g
theorem Cp.cells {a:J}{k:Nat}{d:List In}(h:Cp w g n k d a):g<a.heap.size/\(∀j,j<n*5->∃u,a.cell? ⟨g,j,none⟩=some u)/\∀j,a.frozen? ⟨g,j,none⟩=false:=by
 obtain⟨b,e,hc⟩:=h.blk;have f:g<a.heap.size:=by
  rcases Pv g a.heap.size with c|c
  . exact c
  rw[Array.getElem?_eq_none c]at e;cases e
 refine⟨f,λj hj=>?_,λj=>?_⟩
 . simp only[World.cell?,e];exact⟨b[j]'(by omega),by simp[show j<b.size by omega]⟩
 simp only[World.frozen?,e];simp
theorem QW {p:Ad}(h:w.cell? p=some u):(w.setCell p v).cell? p=some v:=World.cell?_setCell_same _ _ _ h
theorem Qi {i j:Nat}(h:w.cell? ⟨g,j,none⟩=some u)(a:i≠j:=by decide):(w.setCell ⟨g,i,none⟩ v).cell? ⟨g,j,none⟩=some u:=by
 rw[Tk _ _ _ _ (λhj=>a (congrArg Addr.off hj))];exact h
end YtejkdbnngphgaaaGreatDoor
namespace YtejkdbnngphgaaaGreatDoor.Yz
open Go.RowKit Go.Sort
variable {w:J}{q:Nat}
abbrev Wd:=List UInt8
variable {ws:List Wd}
structure Tw (w:J)(q:Nat)(ws:List Wd)(bad:Bool):Prop where
 c0:∃a c,w.cell? ⟨q,0,none⟩=some (S a (N ws) c)/\(ws=[]\/∃b o,a=some ⟨b,o,none⟩/\b<q/\N ws<=c/\∀i,i<N ws->w.cell? ⟨b,o+i,none⟩=some (Xs (Sz0 (ws.getD i []))))
 c1:w.cell? ⟨q,1,none⟩=some (G bad)
 fz:∀i,w.frozen? ⟨q,i,none⟩=false
 le:N ws<=1099511627776
theorem Tw.lt {bad:Bool}(h:Tw w q ws bad):q<w.heap.size:=Kh w _ h.c1
theorem Tw.keep {k:J}{bad:Bool}(h:Tw w q ws bad)(d:Bw w.heap.size w k):Tw k q ws bad:=by
 have g:=h.lt;obtain⟨a,c,m,j⟩:=h.c0;refine⟨⟨a,c,(d.cell (p:=⟨q,0,none⟩) g).trans m,?_⟩,(d.cell (p:=⟨q,1,none⟩) g).trans h.c1,λi=>(d.frozen (p:=⟨q,i,none⟩) g).trans (h.fz i),h.le⟩;rcases j with j|⟨b,o,e,f,hc,l⟩
 . exact .inl j
 exact .inr ⟨b,o,e,f,hc,λi hi=>(d.cell (p:=⟨b,o+i,none⟩) (Kh w _ (l i hi))).trans (l i hi)⟩
theorem Tw.flag {bad:Bool}(h:Tw w q ws bad)(z:Bool):Tw (w.setCell ⟨q,1,none⟩ (G z)) q ws z:=by
 obtain⟨a,c,j,f⟩:=h.c0;refine⟨⟨a,c,Qi j,?_⟩,QW h.c1,λi=>by rw[Tn];exact h.fz i,h.le⟩;rcases f with f|⟨b,o,e,d,hc,g⟩
 . exact .inl f
 refine .inr ⟨b,o,e,d,hc,λi hi=>?_⟩;rw[Tk _ _ _ _ (λe'=>by have k:q=b:=congrArg Addr.block e';omega)];exact g i hi
theorem Tw.drop {b o c:Nat}{x:Wd}{bad:Bool}(h:Tw w q (x::ws) bad)(k:w.cell? ⟨q,0,none⟩=some (S (some ⟨b,o,none⟩) (x::ws).length c))(a:b<q)(hc:N ws+1<=c)(j:∀i,i<(x::ws).length->w.cell? ⟨b,o+i,none⟩=some (Xs (Sz0 ((x::ws).getD i []))))(g:Option Ad)(f:Nat)(ha:ws=[]\/(g=some ⟨b,o+1,none⟩/\N ws<=f)):Tw (w.setCell ⟨q,0,none⟩ (S g (N ws) f)) q ws bad:=by
 refine⟨⟨g,f,QW k,?_⟩,Qi h.c1,λi=>by rw[Tn];exact h.fz i,by have:=h.le;simp at this;omega⟩;rcases ha with ha|⟨rfl,d⟩
 . exact .inl ha
 refine .inr ⟨b,o+1,rfl,a,d,λi hi=>?_⟩;rw[Tk _ _ _ _ (λe'=>by have l:q=b:=congrArg Addr.block e';omega)];have:=j (i+1) (by simp;omega);rw[show o+1+i=o+(i+1) by omega,this];simp
theorem more_c (q:Nat)(ws:List Wd)(bad:Bool)(w:J)(h:Tw w q ws bad):Ec Q 111 #[Yp (some ⟨q,0,none⟩)] w λe w'=>e=Z (G (!ws.isEmpty))/\w=w':=by
 obtain⟨a,c,b,-⟩:=h.c0;clear h;cases ws with
 |nil =>
  simp only[List.length_nil]at b
  go_enter func111,ntmps111
  go_wp2
  go_ret
  exact⟨rfl,rfl⟩
 |cons x ws =>
  simp only[Kj]at b
  have d:(0:Int)<(N ws:Int)+1:=by omega
  go_enter func111,ntmps111
  go_wp2
  go_ret
  exact⟨rfl,rfl⟩
theorem JE (w:J)(q o:Nat)(v:Vu):w.grownBy (w.setCell ⟨q,o,none⟩ v) (some q) :=
 ⟨rfl,rfl,rfl,by simp[World.setCell],λk hk hne=>Below.heap_setCell w ⟨q,o,none⟩ v k (by simpa using hne)⟩
theorem Jt {w':J}(h:w.grownBy w' (some q))(a:q<w.heap.size):Bw q w w':=⟨h.os,h.tape,h.output,h.size,λk hk=>h.block k (by omega) (by simp;omega)⟩
theorem Qu {w w1}{r:Option Nat}(h:Bw w.heap.size w w1):w.grownBy w1 r:=⟨h.os,h.tape,h.output,h.size,λk hk _=>h.block k hk⟩
theorem JZ (q:Nat)(ws:List Wd)(bad z:Bool)(w:J)(h:Tw w q ws bad):Ec Q 82 #[Yp (some ⟨q,0,none⟩),G z] w λe w'=>e=Z (.tuple #[])/\Tw w' q ws (bad || !z)/\w.grownBy w' (some q):=by
 cases z with
 |true =>
  have H:=Hm h;clear h
  go_enter func82,ntmps82
  go_wp2
  go_end0
  exact⟨rfl,by simpa using H.o,World.grownBy.refl _ _⟩
 |false =>
  have b:=h.c1;have a:=h.fz 1;have H:=Hm (h.flag true);clear h
  go_enter func82,ntmps82
  go_wp2
  go_end0
  exact⟨rfl,by simpa using H.o,JE _ _ _ _⟩
theorem next_g (q:Nat)(ws:List Wd)(bad:Bool)(w:J)(h:Tw w q ws bad):Ec Q 119 #[Yp (some ⟨q,0,none⟩)] w λe w'=>e=Z (Xs (Sz0 (ws.headD [])))/\Tw w' q ws.tail (bad || ws.isEmpty)/\w.grownBy w' (some q):=by
 have k:=Hm (more_c q ws bad w h);cases ws with
 |nil =>
  have u:=h.c1;have s:=h.fz 1;have H:=Hm (h.flag true);clear h
  go_enter func119,ntmps119
  go_wp2_with fail
  refine k.o.mono ?_
  rintro e m ⟨rfl,rfl⟩
  go_wp2
  go_ret
  exact⟨rfl,by simpa using H.o,JE _ _ _ _⟩
 |cons x ws =>
  obtain⟨a,c,j,g⟩:=h.c0
  rcases g with g|⟨b,o,rfl,d,hc,f⟩
  . cases g
  have p:=f 0 (by simp)
  simp only[Nat.add_zero,List.getD_cons_zero]at p
  have t:=h.fz 0;have l:=Hm (λa' c' ha=>h.drop j d (by simpa using hc) f a' c' ha);have n:N ws+1<=c:=by simpa using hc
  simp only[Kj]at j
  have r:(0:Int)<(N ws:Int)+1:=by omega
  clear h f hc d
  go_enter func119,ntmps119
  go_wp2_with fail
  refine k.o.mono ?_
  rintro e m ⟨rfl,rfl⟩
  go_wp2
  all_goals
   go_ret
   refine⟨rfl,?_,JE _ _ _ _⟩
   first
    |exact l.o _ _ (.inr ⟨rfl,by omega⟩)
    |exact l.o _ _ (.inl (List.eq_nil_of_length_eq_zero (by omega)))
