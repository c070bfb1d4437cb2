import Derived.Test.YtipfjdogokanbaaGreatDoorGaa
import Derived.Test.YtipfjdogokanbaaGreatDoorChecked
import Derived.WalkKit
import Derived.ProofKit
import Derived.WalkSpells
import Derived.WalkLawsBesides
import Derived.Below
import Derived.Deep.QuietTactic
import Derived.BigQuiet
import Derived.Laws.BitsAllLaws
import Derived.Laws.Bits128
import Derived.OpenShut
import Derived.Lib.BitFns
import Derived.Lib.QuietBelow
set_option linter.all false
set_option maxHeartbeats 400000000
set_option maxRecDepth 100000
set_option linter.all false
namespace Go.Proofs.YtipfjdogokanbaaGreatDoor.L3
open Go.RowKit
theorem Hid.mk' {p:Prop}(h:p):Hid p:=h
theorem Hm {p:Prop}(h:p):Hid p:=h
theorem Qi {w:World}{cs:Array Value}{e:TypeId}{g i:Nat}{u:Value}(hg:g=w.heap.size)(hu:cs[i]?=some u):(w.alloc (.cells cs e)).cell? ⟨g,i,none⟩=some u:=by
 subst hg
 simp [hu]
end Go.Proofs.YtipfjdogokanbaaGreatDoor.L3
set_option linter.all false
namespace Go.Proofs.YtipfjdogokanbaaGreatDoor.L3
open Go.RowKit
def hf (wd:Bool):Int:=if wd then 9223372036854775808 else 2147483648
def sg (wd:Bool)(x:Int):Int:=if wd then wrap64 x else wrap32 x
end Go.Proofs.YtipfjdogokanbaaGreatDoor.L3
set_option linter.all false
namespace Go.Proofs.YtipfjdogokanbaaGreatDoor.L3
open Go.RowKit
def P2 (n:Int):Int:=2 ^ n.toNat
theorem Q7 (n:Int):1<=P2 n:=by unfold P2;have:=Int.pow_pos (n:=(2:Int)) (m:=n.toNat) (by omega);omega
theorem Xx (n:Int)(h:0<=n):P2 (n+1)=2*P2 n:=by
 unfold P2;rw [show (n+1).toNat=n.toNat+1 by omega,Int.pow_succ];omega
theorem J4 {m n:Int}(h0:m<=n):P2 m<=P2 n:=by
 unfold P2;have h:2 ^ m.toNat<=2 ^ n.toNat:=Nat.pow_le_pow_right (by omega) (by omega);have h':((2 ^ m.toNat:Nat):Int)<=((2 ^ n.toNat:Nat):Int):=by omega
 simpa using h'
theorem Gl {n:Int}(h:n<=63):P2 n<=9223372036854775808:=by
 have:=J4 h;rw [show P2 63=9223372036854775808 by decide] at this;exact this
theorem P2_62 {n:Int}(h:n<=62):P2 n<=4611686018427387904:=by
 have:=J4 h;rw [show P2 62=4611686018427387904 by decide] at this;exact this
theorem QQ (y:Int):0<=IntKind.u64.wrap y/\IntKind.u64.wrap y<=18446744073709551615:=by
 rw [IntKind.wrap_u64];omega
theorem Qm (n:Int)(w:World)(h0:0<=n)(h1:n<=63) :
    Calls Tryz.prog 101 #[.int .i64 n] w λe w'=>e=.returned (.int .u64 (P2 n))/\w=w':=by
 go_enter Tryz.func101,Tryz.ntmps101
 go_wp2
 go_loop [3,4] (λx i=>∃ k:Int,0<=k/\k<=n/\i=.int .i64 k/\x=.int .u64 (P2 k)) (λ_ i=>(n-intOf i).toNat)
 case atStart=>exact ⟨0,by omega,h0,rfl,rfl⟩
 case round =>
  obtain ⟨k,hk0,hk,rfl,rfl⟩:=hrel;have hp:=Q7 k
  by_cases hlt:k<n
  . have hb:=P2_62 (n:=k) (by omega);have HS:Hid (P2 (k+1)=2*P2 k):=Xx k hk0
    go_wp2
    go_round
    case rel=>exact ⟨k+1,by omega,by omega,rfl,by rw [HS.o,Int.mul_comm]⟩
    case measure=>simp [intOf];omega
  . have e:k=n:=by omega
    subst e
    go_wp2
    go_ret
    exact ⟨rfl,rfl⟩
theorem low64 (x:Int)(w:World):Calls Tryz.prog 44 #[.int .u64 x,.int .i64 64] w λe w'=>e=.returned (.int .u64 x)/\w=w':=by
 go_enter Tryz.func44,Tryz.ntmps44
 go_wp2
 go_ret
 exact ⟨rfl,rfl⟩
theorem Xh (x:Int)(w:World)(h0:0<=x)(h1:x<=18446744073709551615):Calls Tryz.prog 44 #[.int .u64 x,.int .i64 32] w λe w'=>e=.returned (.int .u64 (x%4294967296))/\w=w':=by
 have hp:P2 32=4294967296:=by decide
 go_enter Tryz.func44,Tryz.ntmps44
 go_wp2_with (go_at_call 101;refine (Qm _ _ (by omega) (by omega)).mono ?_;rintro e w' ⟨rfl,rfl⟩)
 go_ret
 exact ⟨rfl,rfl⟩
end Go.Proofs.YtipfjdogokanbaaGreatDoor.L3
set_option linter.all false
namespace Go.Proofs.YtipfjdogokanbaaGreatDoor.L3
open Go.RowKit
def Has (w:World)(a:Option Addr)(xs:List Int):Prop :=
 xs=[]\/∃ b off,a=some ⟨b,off,none⟩/\∀ i,i<xs.length->w.cell? ⟨b,off+i,none⟩=some (.int .u8 (xs.getD i 0))
def Qt (xs:List Int):Prop:=∀ i,0<=xs.getD i 0/\xs.getD i 0<=255
theorem Qa {a b c:World}{row:Option Nat}(h:a.grownBy b row)(k:b.grownBy c row):a.grownBy c row :=
 ⟨k.os.trans h.os,k.tape.trans h.tape,k.output.trans h.output,Nat.le_trans h.size k.size,λi hi hne=>(k.block i (Nat.lt_of_lt_of_le hi h.size) hne).trans (h.block i hi hne)⟩
theorem Has.below {w w':World}{a:Option Addr}{xs:List Int}(h:Has w a xs)(hb:Below w.heap.size w w'):Has w' a xs:=by
 rcases h with h|⟨b,o,e,hc⟩
 . exact .inl h
 . exact .inr ⟨b,o,e,λi hi=>(hb.cell (World.block_lt_of_cell? w _ (hc i hi))).trans (hc i hi)⟩
theorem row_has {w:World}{a:Option Addr}{len cap:Nat}{zs:List Int}
    (h:(a=none/\len=0/\cap=0/\zs=[])\/∃ x,a=some x/\len<=cap/\cap<=maxLen/\zs.length=cap/\(∀ i,i<zs.length->w.cell? (x.add i)=some (.int .u8 (zs.getD i 0)))/\∀ n ∈ zs,(Lit.int .u8 n).wf=true) :
    ∃ xs:List Int,xs.length=len/\len<=maxLen/\Has w a xs/\Qt xs:=by
 rcases h with ⟨rfl,rfl,rfl,rfl⟩|⟨x,rfl,hlc,hcm,hz,hc,hw⟩
 . exact ⟨[],rfl,Nat.zero_le _,.inl rfl,λi=>by simp⟩
 . refine ⟨zs.take len,by simp;omega,by omega,?_,?_⟩
   . by_cases h0:len=0
     . subst h0;exact .inl (by simp)
     . obtain ⟨b,off,spot⟩:=x;have h1:=hc 0 (by omega);have hspot:spot=none:=by simpa [Addr.add] using World.cell?_spot h1
       subst hspot
       refine .inr ⟨b,off,rfl,λi hi=>?_⟩
       have hi':i<len:=by simp at hi;omega
       have h2:=hc i (by omega);have e:(zs.take len).getD i 0=zs.getD i 0:=by simp [List.getD,hi']
       rw [e]
       rwa [Addr.add_lit] at h2
   . intro i
     by_cases hi:i<(zs.take len).length
     . have hm:(zs.take len)[i] ∈ zs:=List.mem_of_mem_take (List.getElem_mem hi);have hb:=bounds_u8 (hw _ hm)
       simpa [List.getD,List.getElem?_eq_getElem hi] using hb
     . rw [List.getD_eq_getElem?_getD,List.getElem?_eq_none (by omega)]
       simp
theorem and255 (n:Int):bits .and .i64 n 255=n%256:=by
 show IntKind.i64.wrap ((BitVec.ofInt 64 n &&& BitVec.ofInt 64 255).toNat:Int)=_
 have e:(BitVec.ofInt 64 255).toNat=2 ^ 8-1:=by decide
 rw [BitVec.toNat_and,e,Nat.and_two_pow_sub_one_eq_mod,BitVec.toNat_ofInt,IntKind.wrap_i64]
 omega
def Cur (w:World)(g:Nat)(a:Option Addr)(cap:Nat)(xs:List Int):Prop :=
 ∃ (k:Nat) (h:Int),k<=xs.length/\w.cell? ⟨g,0,none⟩=some (.slice a xs.length cap)/\w.cell? ⟨g,1,none⟩=some (.int .i64 k)/\w.cell? ⟨g,2,none⟩=some (.int .i64 h) /\
  w.frozen? ⟨g,1,none⟩=false/\w.frozen? ⟨g,2,none⟩=false/\Has w a xs/\(xs=[]\/∃ b o,a=some ⟨b,o,none⟩/\b<g)
theorem Cur.of_heap {w w':World}{g:Nat}{a:Option Addr}{cap:Nat}{xs:List Int}(h:Cur w g a cap xs)(e:w'.heap=w.heap):Cur w' g a cap xs:=by
 have hc:∀ p,w'.cell? p=w.cell? p:=λp=>World.cell?_of_block (w:=w) (by rw [e]);have hf:∀ p,w'.frozen? p=w.frozen? p:=λp=>World.frozen?_of_block (w:=w) (by rw [e]);obtain ⟨k,v,h0,h1,h2,h3,h4,h5,h6,h7⟩:=h
 refine ⟨k,v,h0,by rw [hc,h1],by rw [hc,h2],by rw [hc,h3],by rw [hf,h4],by rw [hf,h5],?_,h7⟩
 rcases h6 with h|⟨b,o,e,hh⟩
 . exact .inl h
 . exact .inr ⟨b,o,e,λi hi=>by rw [hc,hh i hi]⟩
theorem Cur.below {w w':World}{g B:Nat}{a:Option Addr}{cap:Nat}{xs:List Int}(h:Cur w g a cap xs)(hb:Below B w w')(hg:g<B):Cur w' g a cap xs:=by
 obtain ⟨k,v,h0,h1,h2,h3,h4,h5,h6,h7⟩:=h
 refine ⟨k,v,h0,by rw [hb.cell hg,h1],by rw [hb.cell hg,h2],by rw [hb.cell hg,h3],by rw [hb.frozen hg,h4],by rw [hb.frozen hg,h5],?_,h7⟩
 rcases h7 with h|⟨b,o,e,hlt⟩
 . exact .inl h
 . rcases h6 with h|⟨b',o',e',hh⟩
   . exact .inl h
   . rw [e] at e'
     simp only [Option.some.injEq,Addr.mk.injEq,and_true] at e'
     obtain ⟨rfl,rfl⟩:=e'
     exact .inr ⟨b,o,e,λi hi=>by rw [hb.cell (p:=⟨b,o+i,none⟩) (show b<B by omega),hh i hi]⟩
theorem has_set {w:World}{g j:Nat}{u:Value}{a:Option Addr}{xs:List Int}(h:Has w a xs)(hn:xs=[]\/∃ b o,a=some ⟨b,o,none⟩/\b<g):Has (w.setCell ⟨g,j,none⟩ u) a xs:=by
 rcases hn with h0|⟨b,o,e,hlt⟩
 . exact .inl h0
 . rcases h with h0|⟨b',o',e',hh⟩
   . exact .inl h0
   . rw [e] at e'
     simp only [Option.some.injEq,Addr.mk.injEq,and_true] at e'
     obtain ⟨rfl,rfl⟩:=e'
     exact .inr ⟨b,o,e,λi hi=>by rw [World.cell?_setCell_other _ _ _ _ (by intro e;simp only [Addr.mk.injEq] at e;omega),hh i hi]⟩
theorem cur_set2 {w:World}{g:Nat}{a:Option Addr}{cap:Nat}{xs:List Int}(h:Cur w g a cap xs)(v:Int):Cur (w.setCell ⟨g,2,none⟩ (.int .i64 v)) g a cap xs:=by
 obtain ⟨k,x,h0,h1,h2,h3,h4,h5,h6,h7⟩:=h
 exact ⟨k,v,h0,(World.cell?_setCell_other _ _ _ _ (by simp)).trans h1,(World.cell?_setCell_other _ _ _ _ (by simp)).trans h2,World.cell?_setCell_same _ _ _ h3,(World.frozen?_setCell _ _ _ _).trans h4,(World.frozen?_setCell _ _ _ _).trans h5,has_set h6 h7,h7⟩
theorem cur_set1 {w:World}{g:Nat}{a:Option Addr}{cap:Nat}{xs:List Int}(h:Cur w g a cap xs)(k':Nat)(hk:k'<=xs.length):Cur (w.setCell ⟨g,1,none⟩ (.int .i64 k')) g a cap xs:=by
 obtain ⟨k,x,h0,h1,h2,h3,h4,h5,h6,h7⟩:=h
 exact ⟨k',x,hk,(World.cell?_setCell_other _ _ _ _ (by simp)).trans h1,World.cell?_setCell_same _ _ _ h2,(World.cell?_setCell_other _ _ _ _ (by simp)).trans h3,(World.frozen?_setCell _ _ _ _).trans h4,(World.frozen?_setCell _ _ _ _).trans h5,has_set h6 h7,h7⟩
theorem QW {w w':World}{g j:Nat}{u:Value}(h:w.grownBy w' (some g)):w.grownBy (w'.setCell ⟨g,j,none⟩ u) (some g) :=
 Qa h ⟨rfl,rfl,rfl,by simp,λk _ hk=>heap_setCell_other w' ⟨g,j,none⟩ k u (λe=>hk (by simp [e]))⟩
theorem Gd {w w' w'':World}{row:Option Nat}(h:w.grownBy w' row)(h1:w''.os=w'.os)(h2:w''.tape=w'.tape)(h3:w''.output=w'.output)(h4:w''.heap=w'.heap):w.grownBy w'' row :=
 ⟨h1.trans h.os,h2.trans h.tape,h3.trans h.output,by rw [h4];exact h.size,λk a b=>by rw [h4];exact h.block k a b⟩
theorem byte_any (g:Nat)(a:Option Addr)(cap:Nat)(xs:List Int)(w:World)(hl:xs.length<=1099511627776)(hB:Qt xs)(hC:Cur w g a cap xs) :
    Calls Tryz.prog 86 #[.pointer (some ⟨g,0,none⟩)] w λe w'=>∃ x:Int,e=.returned (.int .i64 x)/\0<=x/\x<=255/\Cur w' g a cap xs/\w.grownBy w' (some g):=by
 have HCC:=Hm hC;obtain ⟨k,h,h0,h1,h2,h3,h4,h5,h6,h7⟩:=hC;have hA:=and255
 by_cases hk:k<xs.length
 . rcases h7 with e|⟨b,o,e,hlt⟩
   . subst e;simp at hk
   rcases h6 with e'|⟨b',o',e',hh⟩
   . subst e';simp at hk
   rw [e] at e'
   simp only [Option.some.injEq,Addr.mk.injEq,and_true] at e'
   obtain ⟨rfl,rfl⟩:=e';subst e;have d:=hh k hk;have hb:=hB k;obtain ⟨c,hc⟩:∃ c,c=xs.getD k 0:=⟨_,rfl⟩;rw [<- hc] at d hb;obtain ⟨hb0,hb1⟩:=hb;have hki:(k:Int)<(xs.length:Int):=by omega
   clear hh hc h0
   go_enter Tryz.func86,Tryz.ntmps86
   go_wp2
   go_quiet (fail)
   go_wp2
   go_quiet (fail)
   go_wp2
   go_quiet (fail)
   go_wp2
   go_ret
   refine ⟨_,rfl,?_,?_,(cur_set1 (cur_set2 HCC.o _) (k+1) hk).of_heap rfl,Gd (QW (QW (World.grownBy.refl _ _))) rfl rfl rfl rfl⟩
   . show 0<=_%256;omega
   . show _%256<=255;omega
 . have hki:¬ (k:Int)<(xs.length:Int):=by omega
   clear h6 h7
   go_enter Tryz.func86,Tryz.ntmps86
   go_wp2
   go_quiet (fail)
   go_wp2
   go_quiet (fail)
   go_wp2
   go_ret
   refine ⟨_,rfl,?_,?_,(cur_set2 HCC.o _).of_heap rfl,Gd (QW (World.grownBy.refl _ _)) rfl rfl rfl rfl⟩
   . show 0<=_%256;omega
   . show _%256<=255;omega
theorem JX (g:Nat)(a:Option Addr)(cap:Nat)(xs:List Int)(n:Int)(w:World)(hl:xs.length<=1099511627776)(hB:Qt xs)(hC:Cur w g a cap xs)(hn:1<=n)(hn':n<=256) :
    Calls Tryz.prog 33 #[.pointer (some ⟨g,0,none⟩),.int .i64 n] w λe w'=>∃ x:Int,e=.returned (.int .i64 x)/\0<=x/\x<n/\Cur w' g a cap xs/\w.grownBy w' (some g):=by
 have H:=Hm (byte_any g a cap xs w hl hB hC);clear hC hB hl
 go_enter Tryz.func33,Tryz.ntmps33
 go_wp2_with fail
 refine H.o.mono ?_
 rintro e w1 ⟨x,rfl,hx0,hx1,hc,hg⟩;have hm:=Int.emod_lt_of_pos x (show 0<n by omega);have hm':=Int.emod_nonneg x (show n≠0 by omega)
 go_wp2
 go_ret
 exact ⟨_,rfl,hm',hm,hc,hg⟩
theorem new_any (a:Option Addr)(cap:Nat)(xs:List Int)(w:World)(hl:xs.length<=1099511627776)(hB:Qt xs)(ha:Has w a xs) :
    Calls Tryz.prog 16 #[.slice a xs.length cap] w λe w'=>e=.returned (.pointer (some ⟨w.heap.size,0,none⟩))/\Cur w' w.heap.size a cap xs/\Below w.heap.size w w'/\w.heap.size<w'.heap.size:=by
 have hfin:∀ v:Int,Cur (w.alloc (.cells #[.slice a xs.length cap,.int .i64 0,.int .i64 v] 99)) w.heap.size a cap xs:=λv =>
  ⟨0,v,Nat.zero_le _,by simp,by simp,by simp,by simp,by simp,ha.below ((Below.refl _ _).alloc (Nat.le_refl _) _),by
   rcases ha with h|⟨b,o,e,hh⟩
   . exact .inl h
   . by_cases h0:xs=[]
     . exact .inl h0
     . exact .inr ⟨b,o,e,World.block_lt_of_cell? w _ (hh 0 (List.length_pos_iff.2 h0))⟩⟩
 have HF:=Hm hfin;have HA:=Hm ha;clear hfin ha
 go_enter Tryz.func16,Tryz.ntmps16
 go_wp2
 go_loop [3,4] (λhv i=>∃ (k:Nat) (h:Int),k<=xs.length/\i=.int .i64 k/\hv=.int .i64 h) (λ_ i=>xs.length-(intOf i).toNat)
 case atStart=>exact ⟨0,_,Nat.zero_le _,rfl,rfl⟩
 case round =>
  obtain ⟨k,h,hk,rfl,rfl⟩:=hrel
  by_cases hlt:k<xs.length
  . rcases HA.o with hx|⟨b1,o1,ea,hc1⟩
    . subst hx;simp at hlt
    subst ea;have hki:(k:Int)<(xs.length:Int):=by omega
    have d:=hc1 k hlt;have hb:=hB k;obtain ⟨c,hc⟩:∃ c,c=xs.getD k 0:=⟨_,rfl⟩;rw [<- hc] at d hb;obtain ⟨hb0,hb1⟩:=hb;clear hc hc1 HF HA hB
    go_wp2
    go_round
    case rel=>exact ⟨k+1,_,by omega,by go_num,rfl⟩
    case measure=>simp [intOf];omega
  . go_wp2
    go_ret
    exact ⟨rfl,HF.o _,(Below.refl _ _).alloc (Nat.le_refl _) _,by simp⟩
end Go.Proofs.YtipfjdogokanbaaGreatDoor.L3
set_option linter.all false
namespace Go.Proofs.YtipfjdogokanbaaGreatDoor.L3
open Go.RowKit
theorem Xl (g:Nat)(a:Option Addr)(cap:Nat)(xs:List Int)(w:World)(hl:xs.length<=1099511627776)(hB:Qt xs)(hC:Cur w g a cap xs) :
    Calls Tryz.prog 43 #[.pointer (some ⟨g,0,none⟩)] w λe w'=>∃ x:Int,e=.returned (.int .u64 x)/\0<=x/\x<=18446744073709551615/\Cur w' g a cap xs/\w.grownBy w' (some g):=by
 have CB:=Hm (λW n hC h1 h2=>JX g a cap xs n W hl hB hC h1 h2);clear hB hl
 go_enter Tryz.func43,Tryz.ntmps43
 go_wp2_with fail
 refine (CB.o _ 8 hC (by omega) (by omega)).mono ?_
 rintro e w1 ⟨k,rfl,hk0,hk1,hC1,hg1⟩;clear hC
 go_wp2_with fail
 refine (CB.o _ 256 hC1 (by omega) (by omega)).mono ?_
 rintro e w2 ⟨x,rfl,hx0,hx1,hC2,hg2⟩;have hg2:=Qa hg1 hg2;clear hC1 hg1
 go_wp2_with fail
 refine (CB.o _ 64 hC2 (by omega) (by omega)).mono ?_
 rintro e w3 ⟨n,rfl,hn0,hn1,hC3,hg3⟩;have hg3:=Qa hg2 hg3;clear hC2 hg2;have hp:=Q7 n;have hp63:=Gl (n:=n) (by omega)
 rcases (show k=0\/k=1\/k=2\/k=3\/k=4\/k=5\/(6<=k/\k<=7) by omega) with rfl|rfl|rfl|rfl|rfl|rfl|⟨hk6,hk7⟩
 . go_wp2
   go_ret
   exact ⟨_,rfl,by omega,by omega,hC3,hg3⟩
 . go_wp2_with (go_at_call 101;refine (Qm _ _ (by omega) (by omega)).mono ?_;rintro e w' ⟨rfl,rfl⟩)
   go_ret
   exact ⟨_,rfl,by omega,by omega,hC3,hg3⟩
 . go_wp2_with (go_at_call 101;refine (Qm _ _ (by omega) (by omega)).mono ?_;rintro e w' ⟨rfl,rfl⟩)
   go_ret
   exact ⟨_,rfl,by omega,by omega,hC3,hg3⟩
 . go_wp2
   go_ret
   exact ⟨_,rfl,(QQ _).1,(QQ _).2,hC3,hg3⟩
 . go_wp2_with (go_at_call 101;refine (Qm _ _ (by omega) (by omega)).mono ?_;rintro e w' ⟨rfl,rfl⟩)
   go_ret
   exact ⟨_,rfl,by omega,by omega,hC3,hg3⟩
 . go_wp2
   go_ret
   exact ⟨_,rfl,by omega,by omega,hC3,hg3⟩
 . have e0:(k==0)=false:=beq_eq_false_iff_ne.2 (by omega);have e1:(k==1)=false:=beq_eq_false_iff_ne.2 (by omega);have e2:(k==2)=false:=beq_eq_false_iff_ne.2 (by omega);have e3:(k==3)=false:=beq_eq_false_iff_ne.2 (by omega);have e4:(k==4)=false:=beq_eq_false_iff_ne.2 (by omega);have e5:(k==5)=false:=beq_eq_false_iff_ne.2 (by omega)
   go_wp2
   go_loopw [6,7] (λov iv wr=>∃ (i:Nat) (o:Int),i<=7/\iv=.int .i64 i/\ov=.int .u64 o/\0<=o/\o<=18446744073709551615/\Cur wr g a cap xs/\w.grownBy wr (some g)) (λ_ iv _=>7-(intOf iv).toNat)
   case atStart=>exact ⟨0,x,by omega,rfl,rfl,by omega,by omega,hC3,hg3⟩
   case round =>
    clear hC3 hg3;obtain ⟨i,o,hi,rfl,rfl,ho0,ho1,hC,hg⟩:=hrel
    by_cases hlt:i<7
    . have hlti:(i:Int)<7:=by omega
      go_wp2_with fail
      refine (CB.o _ 256 hC (by omega) (by omega)).mono ?_
      rintro e w4 ⟨y,rfl,hy0,hy1,hC4,hg4⟩;have hg4:=Qa hg hg4;clear hC hg
      go_wp2
      go_roundw
      case rel=>exact ⟨i+1,_,by omega,by go_num,rfl,(QQ _).1,(QQ _).2,hC4,hg4⟩
      case measure=>simp [intOf];omega
    . have hlti:¬ (i:Int)<7:=by omega
      go_wp2
      go_ret
      exact ⟨o,rfl,ho0,ho1,hC,hg⟩
theorem once_any (g:Nat)(a:Option Addr)(cap:Nat)(xs:List Int)(n:Int)(w:World)(hl:xs.length<=1099511627776)(hB:Qt xs)(hC:Cur w g a cap xs)(hn:1<=n)(hn':n<=256) :
    Calls Tryz.prog 46 #[.pointer (some ⟨g,0,none⟩),.int .i64 n] w λe w'=>∃ r:Bool,e=.returned (.bool r)/\Cur w' g a cap xs/\w.grownBy w' (some g):=by
 have H:=Hm (JX g a cap xs n w hl hB hC hn hn');clear hC hB hl
 go_enter Tryz.func46,Tryz.ntmps46
 go_wp2_with fail
 refine H.o.mono ?_
 rintro e w1 ⟨k,rfl,hk0,hk1,hC1,hg1⟩;clear H
 go_wp2
 go_ret
 exact ⟨_,rfl,hC1,hg1⟩
end Go.Proofs.YtipfjdogokanbaaGreatDoor.L3
set_option linter.all false
namespace Go.Proofs.YtipfjdogokanbaaGreatDoor.L3
open Go.RowKit
def bl (x:Nat):Nat:=if x=0 then 0 else Nat.log2 x+1
theorem bl_zero:bl 0=0:=rfl
theorem bl_pos {x:Nat}(h:x≠0):1<=bl x:=by simp [bl,h]
theorem bl_lt (x:Nat):x<2 ^ bl x:=by
 unfold bl
 split
 . rename_i h;subst h;decide
 . exact Nat.lt_log2_self
theorem bl_ge {x:Nat}(h:x≠0):2 ^ (bl x-1)<=x:=by
 unfold bl;rw [if_neg h]
 exact Nat.log2_self_le h
theorem Xn {m n:Nat}(h:m<=n):2 ^ m<=2 ^ n:=Nat.pow_le_pow_right (by decide) h
theorem bl_le {x k:Nat}(h:x<2 ^ k):bl x<=k:=by
 by_cases h0:x=0
 . subst h0;simp [bl]
 . by_cases hc:bl x<=k
   . exact hc
   . have:=Xn (show k<=bl x-1 by omega)
     have:=bl_ge h0
     omega
theorem lt_bl {x k:Nat}(h:2 ^ k<=x):k<bl x:=by
 by_cases hc:k<bl x
 . exact hc
 . have:=Xn (show bl x<=k by omega)
   have:=bl_lt x
   omega
theorem bl_eq {x k:Nat}(h0:2 ^ k<=x)(h1:x<2 ^ (k+1)):bl x=k+1:=by
 have:=bl_le h1
 have:=lt_bl h0
 omega
theorem bl_div (x k:Nat):bl (x / 2 ^ k)=bl x-k:=by
 by_cases h:2 ^ k<=x
 . have h0:x≠0:=by have:=Nat.two_pow_pos k;omega
   have hk:=lt_bl h;have e:bl x-k=(bl x-1-k)+1:=by omega
   rw [e]
   apply bl_eq
   . rw [Nat.le_div_iff_mul_le (Nat.two_pow_pos k),<- Nat.pow_add]
     have:bl x-1-k+k=bl x-1:=by omega
     rw [this];exact bl_ge h0
   . rw [Nat.div_lt_iff_lt_mul (Nat.two_pow_pos k),<- Nat.pow_add]
     have:bl x-1-k+1+k=bl x:=by omega
     rw [this];exact bl_lt x
 . have:=bl_le (x:=x) (k:=k) (by omega)
   rw [Nat.div_eq_of_lt (by omega)]
   simp [bl_zero];omega
theorem bl_mono {x y:Nat}(h:x<=y):bl x<=bl y:=bl_le (Nat.lt_of_le_of_lt h (bl_lt y))
def rqN (sig c:Nat)(more:Bool):Nat :=
 sig / 2 ^ (c-1) / 2+if sig / 2 ^ (c-1)%2=1/\(sig%2 ^ (c-1)≠0\/more=true\/sig / 2 ^ (c-1) / 2%2=1) then 1 else 0
def rq (sig:Nat)(cut:Int)(more:Bool):Nat:=if cut<=0 then sig*2 ^ (-cut).toNat else rqN sig cut.toNat more
theorem rqN_le (sig c n:Nat)(more:Bool)(h:sig<2 ^ (c+n))(hc:1<=c):rqN sig c more<=2 ^ n:=by
 have e:sig / 2 ^ (c-1)<2*2 ^ n:=by
  rw [Nat.div_lt_iff_lt_mul (Nat.two_pow_pos _)]
  have:2*2 ^ n*2 ^ (c-1)=2 ^ (c+n):=by
   rw [Nat.mul_comm 2 (2 ^ n),<- Nat.pow_succ,<- Nat.pow_add];congr 1;omega
  omega
 unfold rqN
 split<;>omega
theorem rqN_ge (sig c n:Nat)(more:Bool)(h:2 ^ (c+n)<=sig)(hc:1<=c):2 ^ n<=rqN sig c more:=by
 have e:2*2 ^ n<=sig / 2 ^ (c-1):=by
  rw [Nat.le_div_iff_mul_le (Nat.two_pow_pos _)]
  have:2*2 ^ n*2 ^ (c-1)=2 ^ (c+n):=by
   rw [Nat.mul_comm 2 (2 ^ n),<- Nat.pow_succ,<- Nat.pow_add];congr 1;omega
  omega
 unfold rqN
 split<;>omega
def JB (p:Nat)(least:Int)(sig:Nat)(ex:Int):Int:=max ((bl sig:Int)-p) (least-ex)
def infM (p e:Nat):Nat:=(2 ^ e-1)*2 ^ (p-1)
def rnd (p e:Nat)(least:Int)(sig:Nat)(ex:Int)(more:Bool):Nat :=
 if sig=0 then 0 else
 if 2 ^ e-1<=(ex+JB p least sig ex-least).toNat then infM p e else
 min (infM p e) ((ex+JB p least sig ex-least).toNat*2 ^ (p-1)+rq sig (JB p least sig ex) more)
theorem rq_le {p:Nat}{least:Int}{sig:Nat}{ex:Int}{more:Bool}:rq sig (JB p least sig ex) more<=2 ^ p:=by
 have hb:=bl_lt sig;unfold rq;have hc:(bl sig:Int)-p<=JB p least sig ex:=by unfold JB;omega
 generalize JB p least sig ex=c at *
 split
 . have:sig*2 ^ (-c).toNat<2 ^ (bl sig+(-c).toNat):=by
     rw [Nat.pow_add];exact Nat.mul_lt_mul_of_pos_right hb (Nat.two_pow_pos _)
   have:=Xn (show bl sig+(-c).toNat<=p by omega)
   omega
 . apply rqN_le _ _ _ _ _ (by omega)
   have:=Xn (show bl sig<=c.toNat+p by omega)
   omega
theorem rq_ge {p:Nat}{least:Int}{sig:Nat}{ex:Int}{more:Bool}(h0:sig≠0)(hp:1<=p)(hl:least<ex+JB p least sig ex):2 ^ (p-1)<=rq sig (JB p least sig ex) more:=by
 have hb:=bl_ge h0;have hpos:=bl_pos h0;unfold rq;have hc:(bl sig:Int)-p=JB p least sig ex:=by unfold JB at *;omega
 generalize JB p least sig ex=c at *
 split
 . have:2 ^ (bl sig-1+(-c).toNat)<=sig*2 ^ (-c).toNat:=by
     rw [Nat.pow_add];exact Nat.mul_le_mul_right _ hb
   have:=Xn (show p-1<=bl sig-1+(-c).toNat by omega)
   omega
 . apply rqN_ge _ _ _ _ _ (by omega)
   have:=Xn (show c.toNat+(p-1)<=bl sig-1 by omega)
   omega
theorem cut_least (p:Nat)(least:Int)(sig:Nat)(ex:Int):least<=ex+JB p least sig ex:=by unfold JB;omega
theorem pow_p {p:Nat}(hp:1<=p):2 ^ p=2*2 ^ (p-1):=by
 rw [Nat.mul_comm,<- Nat.pow_succ];congr 1;omega
theorem rnd_spec {p e:Nat}{least:Int}{sig:Nat}{ex:Int}{more:Bool}(hp:1<=p)(he:2<=e)(W:Nat)(E:Int)
    (hw:(rq sig (JB p least sig ex) more=2 ^ p/\W=2 ^ (p-1)/\E=ex+JB p least sig ex+1)\/(rq sig (JB p least sig ex) more≠2 ^ p/\W=rq sig (JB p least sig ex) more/\E=ex+JB p least sig ex)) :
    (W<2 ^ (p-1)->rnd p e least sig ex more=W) /\
    (2 ^ (p-1)<=W->((2 ^ e:Nat):Int)-1<=E-least+1->rnd p e least sig ex more=infM p e) /\
    (2 ^ (p-1)<=W->E-least+1<((2 ^ e:Nat):Int)-1->rnd p e least sig ex more=(E-least+1).toNat*2 ^ (p-1)+W-2 ^ (p-1)):=by
 have hq:=rq_le (p:=p) (least:=least) (sig:=sig) (ex:=ex) (more:=more);have hcl:=cut_least p least sig ex;have hpp:=pow_p hp;have he4:=Xn he
 by_cases h0:sig=0
 . subst h0
   have hz:rq 0 (JB p least 0 ex) more=0:=by
    unfold rq rqN;split<;>simp
   rw [hz] at hw
   have:=Nat.two_pow_pos (p-1)
   have hW:W=0:=by omega
   subst hW
   refine ⟨λ_=>by simp [rnd],λh=>by omega,λh=>by omega⟩
 have hge:=λh=>rq_ge (p:=p) (least:=least) (sig:=sig) (ex:=ex) (more:=more) h0 hp h;unfold rnd infM;rw [if_neg h0];generalize rq sig (JB p least sig ex) more=q at *;generalize ex+JB p least sig ex=E0 at *;generalize 2 ^ (p-1)=H at *;obtain ⟨k,hk⟩:∃ k:Nat,E0=least+k:=⟨(E0-least).toNat,by omega⟩;subst hk;have ek:(least+(k:Int)-least).toNat=k:=by omega
 rw [ek];generalize 2 ^ e=M at *;have hm:∀ a b:Nat,a<=b->a*H<=b*H:=λa b h=>Nat.mul_le_mul_right H h
 refine ⟨λhW=>?_,λhW hE=>?_,λhW hE=>?_⟩
 . rcases hw with ⟨h1,h2,h3⟩|⟨h1,h2,h3⟩
   . omega
   . have hk0:k=0:=by
       by_cases hk:k=0
       . exact hk
       . have:=hge (by omega);omega
     subst hk0;rw [if_neg (by omega)]
     have:=hm 1 (M-1) (by omega)
     simp only [Nat.zero_mul];omega
 . by_cases hc:M-1<=k
   . rw [if_pos hc]
   . rw [if_neg hc];have h2:=hm (M-1) (k+1) ;have h3:=hm (M-1) (k+2);have e1:(k+1)*H=k*H+H:=by rw [Nat.add_mul];omega
     have e2:(k+2)*H=k*H+2*H:=by rw [Nat.add_mul]
     rcases hw with ⟨h1,h2,h3⟩|⟨h1,h2,h3⟩<;>omega
 . have hkM:¬ (M-1<=k):=by rcases hw with ⟨h1,h2,h3⟩|⟨h1,h2,h3⟩<;>omega
   rw [if_neg hkM];have h2:=hm (k+2) (M-1);have h3:=hm (k+3) (M-1);have e1:(k+1)*H=k*H+H:=by rw [Nat.add_mul];omega
   have e2:(k+2)*H=k*H+2*H:=by rw [Nat.add_mul]
   have e3:(k+3)*H=k*H+3*H:=by rw [Nat.add_mul]
   rcases hw with ⟨h4,h5,h6⟩|⟨h4,h5,h6⟩
   . have:(E-least+1).toNat=k+2:=by omega
     rw [this];omega
   . have:(E-least+1).toNat=k+1:=by omega
     rw [this];omega
end Go.Proofs.YtipfjdogokanbaaGreatDoor.L3
set_option linter.all false
namespace Go.Proofs.YtipfjdogokanbaaGreatDoor.L3
open Go.RowKit
def vl:List Nat->Nat
|[]=>0
|d::ds=>d+4294967296*vl ds
def dg (x:Nat):List Nat:=if h:x=0 then [] else (x%4294967296)::dg (x / 4294967296)
 termination_by x
 decreasing_by omega
theorem JQ:dg 0=[]:=by rw [dg];simp
theorem dg_pos {x:Nat}(h:x≠0):dg x=(x%4294967296)::dg (x / 4294967296):=by rw [dg];simp [h]
def AllD (ds:List Nat):Prop:=∀ d ∈ ds,d<4294967296
theorem dg_all (x:Nat):AllD (dg x):=by
 induction x using Nat.strongRecOn with
|_ x ih =>
  by_cases h:x=0
  . subst h;rw [JQ];intro d hd;simp at hd
  . rw [dg_pos h]
    intro d hd
    rcases List.mem_cons.1 hd with rfl|hd
    . omega
    . exact ih (x / 4294967296) (by omega) d hd
theorem vl_dg (x:Nat):vl (dg x)=x:=by
 induction x using Nat.strongRecOn with
|_ x ih =>
  by_cases h:x=0
  . subst h;rw [JQ];rfl
  . rw [dg_pos h,vl,ih (x / 4294967296) (by omega)];omega
theorem dg_of:∀ (l:List Nat),AllD l->(∀ h:l≠[],l.getLast h≠0)->dg (vl l)=l
|[],_,_=>by simp [vl,JQ]
|d::ds,hA,hL=>by
  have hd:d<4294967296:=hA d (by simp);have hA':AllD ds:=λx hx=>hA x (by simp [hx])
  by_cases hds:ds=[]
  . subst hds;have h0:d≠0:=hL (by simp)
    simp only [vl,Nat.mul_zero,Nat.add_zero]
    rw [dg_pos h0,Nat.mod_eq_of_lt hd,Nat.div_eq_of_lt hd,JQ]
  . have hL':∀ h:ds≠[],ds.getLast h≠0:=λh=>by
      have:=hL (by simp)
      rwa [List.getLast_cons h] at this
    have ih:=dg_of ds hA' hL'
    have hne:vl ds≠0:=by
     intro e
     rw [e,JQ] at ih
     exact hds ih.symm
    have hv:vl (d::ds)≠0:=by simp only [vl];omega
    rw [dg_pos hv]
    simp only [vl]
    rw [Nat.add_mul_mod_self_left,Nat.mod_eq_of_lt hd,Nat.add_mul_div_left _ _ (by decide),Nat.div_eq_of_lt hd,Nat.zero_add,ih]
theorem vl_append (xs ys:List Nat):vl (xs++ys)=vl xs+4294967296 ^ xs.length*vl ys:=by
 induction xs with
|nil=>simp [vl]
|cons d ds ih =>
  simp only [List.cons_append,vl,ih,List.length_cons,Nat.pow_succ,Nat.mul_add]
  rw [Nat.mul_comm (4294967296 ^ ds.length) 4294967296,Nat.mul_assoc];omega
theorem vl_one (xs:List Nat)(d:Nat):vl (xs++[d])=vl xs+4294967296 ^ xs.length*d:=by rw [vl_append];simp [vl]
theorem vl_lt (xs:List Nat)(h:AllD xs):vl xs<4294967296 ^ xs.length:=by
 induction xs with
|nil=>simp [vl]
|cons d ds ih =>
  have h1:=h d (by simp);have h2:=ih (λx hx=>h x (by simp [hx]))
  simp only [vl,List.length_cons,Nat.pow_succ]
  omega
theorem Gj {xs:List Nat}{d:Nat}(h:AllD xs)(hd:d<4294967296):AllD (xs++[d]):=by
 intro x hx
 rcases List.mem_append.1 hx with hx|hx
 . exact h x hx
 . rw [List.mem_singleton.1 hx];exact hd
theorem vl_zeros (k:Nat):vl (List.replicate k 0)=0:=by
 induction k with
|zero=>rfl
|succ k ih=>simp [List.replicate_succ,vl,ih]
theorem allD_zeros (k:Nat):AllD (List.replicate k 0):=by
 intro x hx;rw [List.mem_replicate] at hx;omega
theorem dg_get:∀ (i x:Nat),(dg x).getD i 0=x / 4294967296 ^ i%4294967296
|i,x=>by
  induction i generalizing x with
 |zero =>
   by_cases h:x=0
   . subst h;simp [JQ]
   . rw [dg_pos h];simp
 |succ i ih =>
   by_cases h:x=0
   . subst h;simp [JQ]
   . rw [dg_pos h,List.getD_cons_succ,ih,Nat.pow_succ,Nat.mul_comm,Nat.div_div_eq_div_mul]
theorem dg_len_le {x n:Nat}(h:x<4294967296 ^ n):(dg x).length<=n:=by
 induction n generalizing x with
|zero =>
  have:x=0:=by simpa using h
  subst this;simp [JQ]
|succ n ih =>
  by_cases h0:x=0
  . subst h0;simp [JQ]
  . rw [dg_pos h0,List.length_cons]
    have:=ih (x:=x / 4294967296) (by rw [Nat.div_lt_iff_lt_mul (by decide),<- Nat.pow_succ];exact h)
    omega
theorem dg_lt (x:Nat):x<4294967296 ^ (dg x).length:=by
 have:=vl_lt _ (dg_all x)
 rwa [vl_dg] at this
theorem dg_ge {x i:Nat}(h:i<(dg x).length):4294967296 ^ i<=x:=by
 by_cases hc:4294967296 ^ i<=x
 . exact hc
 . have:=dg_len_le (x:=x) (n:=i) (by omega);omega
theorem pow32 (k:Nat):4294967296 ^ k=2 ^ (32*k):=by
 rw [Nat.pow_mul]
theorem left_step (X P c d V K:Nat)(h:V+c*K=X*P)(y:Nat)(hy:y=d*P+c) :
    V+K*(y%4294967296)+y / 4294967296*(K*4294967296)=X*P+d*(P*K):=by
 have e:=Nat.mod_add_div y 4294967296
 have e2:K*(y%4294967296)+y / 4294967296*(K*4294967296)=K*y:=by
  have:y / 4294967296*(K*4294967296)=K*(4294967296*(y / 4294967296)):=by
   rw [Nat.mul_comm K 4294967296,Nat.mul_left_comm,<- Nat.mul_assoc,Nat.mul_comm K]
  rw [this,<- Nat.mul_add,e]
 have e3:K*y=d*(P*K)+c*K:=by
  rw [hy,Nat.mul_add,Nat.mul_comm K c,Nat.mul_comm K,Nat.mul_assoc]
 omega
end Go.Proofs.YtipfjdogokanbaaGreatDoor.L3
set_option linter.all false
namespace Go.Proofs.YtipfjdogokanbaaGreatDoor.L3
open Go.RowKit
theorem keepB {W w':World}{g i:Nat}{v:Value}(h:W.cell? ⟨g,i,none⟩=some v)(hb:Below W.heap.size W w'):w'.cell? ⟨g,i,none⟩=some v:=by
 rw [hb.cell (World.block_lt_of_cell? W _ h)];exact h
theorem Qj {P:Program}{c:Code}{Q:Exit->Act->World->Prop}{a:Act}{W:World}(R:World->Prop)(hR:R W)(h:∀ wc,R wc->c.wp P Q a wc):c.wp P Q a W:=h W hR
end Go.Proofs.YtipfjdogokanbaaGreatDoor.L3
set_option linter.all false
namespace Go.Proofs.YtipfjdogokanbaaGreatDoor.L3
open Go.RowKit
def Hn (w:World)(a:Option Addr)(ds:List Nat):Prop :=
 ds=[]\/∃ b off,a=some ⟨b,off,none⟩/\∀ i,i<ds.length->w.cell? ⟨b,off+i,none⟩=some (.int .u64 ((ds.getD i 0:Nat):Int))
theorem Hn.below {w w':World}{a:Option Addr}{xs:List Nat}(h:Hn w a xs)(hb:Below w.heap.size w w'):Hn w' a xs:=by
 rcases h with h|⟨b,o,e,hc⟩
 . exact .inl h
 . exact .inr ⟨b,o,e,λi hi=>(hb.cell (World.block_lt_of_cell? w _ (hc i hi))).trans (hc i hi)⟩
theorem Hn.take {w:World}{a:Option Addr}{xs:List Nat}(h:Hn w a xs)(k:Nat)(hk:k<=xs.length):Hn w a (xs.take k):=by
 rcases h with h|⟨b,o,e,hc⟩
 . left;subst h;simp
 . refine .inr ⟨b,o,e,λi hi=>?_⟩
   rw [List.length_take] at hi;rw [hc i (by omega)]
   simp [List.getD,List.getElem?_take,show i<k by omega]
def lenOf:Value->Nat
|.slice _ n _=>n
|_=>0
theorem take_last {l:List Nat}{j:Nat}(hj:j<l.length):l.take (j+1)=l.take j++[l.getD j 0]:=by
 rw [List.take_add_one];simp [List.getD,List.getElem?_eq_getElem hj]
theorem trim_any (a:Option Addr)(cap:Nat)(ds:List Nat)(w:World)(hA:AllD ds)(hc:ds.length<=cap)(hl:ds.length<=1099511627776)(hH:Hn w a ds) :
    Calls Tryz.prog 180 #[.slice a ds.length cap] w λe w'=>(∃ a',e=.returned (.slice a' (dg (vl ds)).length cap)/\Hn w a' (dg (vl ds)))/\w=w':=by
 by_cases hx:ds=[]
 . subst hx
   go_enter Tryz.func180,Tryz.ntmps180
   go_wp2
   refine wp_loop_rounds 1 ?_
   rw [rounds_succ]
   go_wp2
   go_ret
   have e:dg (vl [])=[]:=JQ;rw [e]
   exact ⟨⟨a,rfl,.inl rfl⟩,rfl⟩
 . rcases id hH with h|⟨b,off,rfl,hcell⟩
   . exact absurd h hx
   have HA:=Hm hA;have HH:=Hm hH;have HC:=Hm hcell;clear hA hH hcell hx
   go_enter Tryz.func180,Tryz.ntmps180
   go_wp2
   go_loop [0] (λxv=>∃ k:Nat,k<=ds.length/\xv=.slice (some ⟨b,off,none⟩) k cap/\Hid (vl (ds.take k)=vl ds)) (λxv=>lenOf xv)
   case atStart=>exact ⟨ds.length,Nat.le_refl _,rfl,by show _=_;rw [List.take_length]⟩
   case round =>
    obtain ⟨k,hk,rfl,HQ⟩:=hrel
    cases k with
   |zero =>
     go_wp2
     go_ret
     have e:vl ds=0:=by rw [<- HQ.o];rfl
     rw [e,JQ]
     exact ⟨⟨_,rfl,.inl rfl⟩,rfl⟩
   |succ j =>
     have hcj:=HC.o j (by omega);have hb:(0:Int)<(j:Int)+1:=by omega
     by_cases hz:ds.getD j 0=0
     . rw [hz] at hcj
       go_wp2
       go_round
       case rel =>
        refine ⟨j,by omega,rfl,?_⟩
        show _=_
        rw [<- HQ.o,take_last (by omega),hz,vl_one];simp
       case measure=>simp [lenOf]
     . have hz':(((ds.getD j 0:Nat):Int)==0)=false:=beq_eq_false_iff_ne.2 (by omega);generalize hzz:((ds.getD j 0:Nat):Int)=z at *
       go_wp2
       go_ret
       have e:dg (vl ds)=ds.take (j+1):=by
        rw [<- HQ.o]
        refine dg_of _ (λd hd=>HA.o d (List.mem_of_mem_take hd)) ?_
        rw [take_last (by omega)]
        intro h
        simpa using hz
       rw [e]
       refine ⟨⟨_,?_,HH.o.take (j+1) (by omega)⟩,rfl⟩
       rw [List.length_take,Nat.min_eq_left (by omega)]
       rfl
def SN (w:World)(v:Value)(x:Nat):Prop:=∃ a cap,v=.slice a (dg x).length cap/\Hn w a (dg x)
theorem SN.below {w w':World}{v:Value}{x:Nat}(h:SN w v x)(hb:Below w.heap.size w w'):SN w' v x:=by
 obtain ⟨a,cap,e,hh⟩:=h;exact ⟨a,cap,e,hh.below hb⟩
theorem at_list (a:Option Addr)(cap:Nat)(ds:List Nat)(i:Int)(w:World)(hl:ds.length<=1099511627776)(hH:Hn w a ds)(hi:-1000000<=i)(hi':i<=1099511627776) :
    Calls Tryz.prog 175 #[.slice a ds.length cap,.int .i64 i] w λe w'=>e=.returned (.int .u64 (if i<0 then 0 else ((ds.getD i.toNat 0:Nat):Int)))/\w=w':=by
 by_cases h0:i<0
 . rw [if_pos h0];clear hH
   go_enter Tryz.func175,Tryz.ntmps175
   go_wp2
   go_ret
   exact ⟨rfl,rfl⟩
 . rw [if_neg h0];obtain ⟨n,rfl⟩:=Int.eq_ofNat_of_zero_le (show 0<=i by omega);rw [Int.toNat_natCast]
   by_cases h1:n<ds.length
   . rcases hH with h|⟨b,off,rfl,hc⟩
     . subst h;simp at h1
     have hcj:=hc n h1;generalize ((ds.getD n 0:Nat):Int)=z at *;have t1:¬ (ds.length:Int)<=(n:Int):=by omega
     have t2:(n:Int)<(ds.length:Int):=by omega
     clear hc
     go_enter Tryz.func175,Tryz.ntmps175
     go_wp2
     go_ret
     exact ⟨rfl,rfl⟩
   . have e:ds.getD n 0=0:=by simp [List.getD,List.getElem?_eq_none (show ds.length<=n by omega)]
     rw [e];have t1:(ds.length:Int)<=(n:Int):=by omega
     clear hH
     go_enter Tryz.func175,Tryz.ntmps175
     go_wp2
     go_ret
     exact ⟨rfl,rfl⟩
theorem Gh {x:Nat}(h:bl x<=20000):(dg x).length<=626:=by
 by_cases h0:(dg x).length=0
 . omega
 . have h1:=dg_ge (x:=x) (i:=(dg x).length-1) (by omega);rw [pow32] at h1
   have:=lt_bl h1
   omega
theorem at_any (v:Value)(x:Nat)(i:Int)(w:World)(hx:bl x<=20000)(hS:SN w v x)(hi:-1000000<=i)(hi':i<=1000000) :
    Calls Tryz.prog 175 #[v,.int .i64 i] w λe w'=>e=.returned (.int .u64 (if i<0 then 0 else ((x / 4294967296 ^ i.toNat%4294967296:Nat):Int)))/\w=w':=by
 obtain ⟨a,cap,rfl,hH⟩:=hS
 have:=Gh hx
 have h:=at_list a cap (dg x) i w (by omega) hH hi (by omega);rw [dg_get] at h
 exact h
theorem of_any (x:Nat)(w:World)(hx:x<18446744073709551616) :
    Calls Tryz.prog 140 #[.int .u64 x] w λe w'=>(∃ v,e=.returned v/\SN w' v x)/\Below w.heap.size w w':=by
 have hA:AllD [x%4294967296,x / 4294967296]:=by intro d hd;simp at hd;omega
 have hv:vl [x%4294967296,x / 4294967296]=x:=by simp [vl];omega
 have KT:=λw=>Hm (λb off hc=>trim_any (some ⟨b,off,none⟩) 2 [x%4294967296,x / 4294967296] w hA (by simp) (by simp) (.inr ⟨b,off,rfl,hc⟩));rw [hv] at KT;clear hA hv
 go_enter Tryz.func140,Tryz.ntmps140
 go_wp2_with fail
 refine ((KT _).o w.heap.size 0 ?_).mono ?_
 . intro i hi
   simp at hi
   have hi2:i=0\/i=1:=by omega
   rcases hi2 with rfl|rfl
   . exact Qi rfl rfl
   . exact Qi rfl rfl
 rintro e w1 ⟨⟨a',rfl,hH⟩,rfl⟩
 go_wp2
 go_ret
 exact ⟨⟨_,rfl,a',_,rfl,hH⟩,(Below.refl _ _).alloc (Nat.le_refl _) _⟩
theorem word_any (v:Value)(x:Nat)(w:World)(hx:x<18446744073709551616)(hS:SN w v x) :
    Calls Tryz.prog 177 #[v] w λe w'=>e=.returned (.int .u64 x)/\w=w':=by
 have hb:bl x<=20000:=Nat.le_trans (bl_le (k:=64) hx) (by decide);have K0:=at_any v x 0 w hb hS (by omega) (by omega);have K1:=at_any v x 1 w hb hS (by omega) (by omega);have e0:(if (0:Int)<0 then 0 else ((x / 4294967296 ^ (0:Int).toNat%4294967296:Nat):Int))=((x%4294967296:Nat):Int):=by simp
 have e1:(if (1:Int)<0 then 0 else ((x / 4294967296 ^ (1:Int).toNat%4294967296:Nat):Int))=((x / 4294967296:Nat):Int):=by simp;omega
 rw [e0] at K0;rw [e1] at K1;have hp:0<=((x / 4294967296:Nat):Int)/\((x / 4294967296:Nat):Int)<=4294967295:=by omega
 have hq:0<=((x%4294967296:Nat):Int)/\((x%4294967296:Nat):Int)<=4294967295:=by omega
 have he:((x%4294967296:Nat):Int)+((x / 4294967296:Nat):Int)*4294967296=(x:Int):=by omega
 generalize ((x / 4294967296:Nat):Int)=p at *;generalize ((x%4294967296:Nat):Int)=q at *;have HE:=Hm he;have HK0:=Hm K0;have HK1:=Hm K1;obtain ⟨hp0,hp1⟩:=hp;obtain ⟨hq0,hq1⟩:=hq;clear he K0 K1 hS e0 e1
 go_enter Tryz.func177,Tryz.ntmps177
 go_wp2_with fail
 refine HK0.o.mono ?_
 rintro e w1 ⟨rfl,rfl⟩
 go_wp2_with fail
 refine HK1.o.mono ?_
 rintro e w1 ⟨rfl,rfl⟩
 go_wp2
 go_ret
 have:=HE.o
 refine ⟨congrArg Ending.returned (congrArg (Value.int .u64) ?_),rfl⟩
 first|exact this|(show IntKind.u64.wrap _=_;rw [IntKind.wrap_u64];omega)
theorem bl_top {x m:Nat}(h:(dg x).length=m+1):bl x=32*m+bl (x / 4294967296 ^ m%4294967296):=by
 have h1:=dg_ge (x:=x) (i:=m) (by omega);have h2:=dg_lt x;rw [h,Nat.pow_succ] at h2;have hB:0<4294967296 ^ m:=Nat.pow_pos (by decide);have h3:x / 4294967296 ^ m<4294967296:=by rw [Nat.div_lt_iff_lt_mul hB,Nat.mul_comm];exact h2
 rw [Nat.mod_eq_of_lt h3];rw [pow32] at *;have h4:=lt_bl h1;rw [bl_div];omega
theorem bits_any (v:Value)(x:Nat)(w:World)(hx:bl x<=20000)(hS:SN w v x) :
    Calls Tryz.prog 172 #[v] w λe w'=>e=.returned (.int .i64 (bl x:Int))/\w=w':=by
 obtain ⟨a,cap,rfl,hH⟩:=hS;have hs:=Gh hx
 cases hm:(dg x).length with
|zero =>
  have e:x=0:=by
   have:=dg_lt x;rw [hm] at this;simpa using this
  subst e;clear hH
  go_enter Tryz.func172,Tryz.ntmps172
  go_wp2
  go_ret
  exact ⟨rfl,rfl⟩
|succ m =>
  have HT:=Hm (bl_top hm)
  rcases hH with h|⟨b,off,rfl,hc⟩
  . rw [h] at hm;simp at hm
  have hcm:=hc m (by omega);rw [dg_get] at hcm;have ht:x / 4294967296 ^ m%4294967296<4294967296:=Nat.mod_lt _ (by decide);generalize x / 4294967296 ^ m%4294967296=t at *;clear hc;have hm':m<=625:=by omega
  clear hm hs
  go_enter Tryz.func172,Tryz.ntmps172
  go_wp2
  go_loop [3,4] (λnv yv=>∃ k y:Nat,k<=32/\nv=.int .i64 (32*(m:Int)+k)/\yv=.int .u64 (y:Int)/\Hid (k+bl y=bl t)/\y<4294967296) (λ_ yv=>(intOf yv).toNat)
  case atStart=>exact ⟨0,t,by omega,by simp,rfl,(Nat.zero_add _),ht⟩
  case round =>
   obtain ⟨k,y,hk,rfl,rfl,HQ,hy⟩:=hrel
   by_cases h0:y=0
   . subst h0
     go_wp2
     go_ret
     have h1:=HQ.o;have h2:=HT.o;rw [bl_zero] at h1
     refine ⟨congrArg Ending.returned (congrArg (Value.int .i64) ?_),rfl⟩
     omega
   . have hpos:(0:Int)<(y:Int):=by omega
     have hb:k+1<=32:=by
      have h1:=HQ.o;have h2:=bl_pos h0;have h3:=bl_le (k:=32) (x:=t) ht
      omega
     go_wp2
     go_round
     case rel =>
      refine ⟨k+1,y / 2,hb,by congr 1,by congr 1,?_,by omega⟩
      show _=_
      have h1:=HQ.o;have h2:=bl_pos h0;have h3:=bl_div y 1;rw [Nat.pow_one] at h3
      omega
     case measure=>simp [intOf];omega
end Go.Proofs.YtipfjdogokanbaaGreatDoor.L3
set_option linter.all false
namespace Go.Proofs.YtipfjdogokanbaaGreatDoor.L3
open Go.RowKit
abbrev UN (ds:List Nat):List Value:=ds.map λd:Nat=>Value.int .u64 (d:Int)
theorem info22:(Tryz.prog.info? 23).map (λi=>(i.zero,i.size,i.bytes))=some (some (.int .u64 0),1,8):=by kernel_rfl
theorem XV (b:Int):∀ u ∈ [Value.int .u64 b],u.oneCell'=true:=by
 intro u hu;simp at hu;subst hu;rfl
theorem QJ {B:Nat}{w wr w1:World}{v:Value}{n:Nat}{xs:List Value}{o:Obj}(hown:wr.ownsRow B 23 1 v n xs)(hbel:Below B w wr)(hB:B<=wr.heap.size)(hgrow:(wr.alloc o).grownBy w1 v.ownBlock):Below B w w1 :=
 (hbel.alloc hB o).grown hgrow (by simp;omega) (λj hj=>(hown.lt j hj).1)
theorem Q0 {B:Nat}{w1:World}{v:Value}{pre:List Nat}{b:Nat}(h:w1.ownsRow B 23 1 v (pre.length+1) (UN pre++[.int .u64 (b:Int)])):w1.ownsRow B 23 1 v (pre++[b]).length (UN (pre++[b])):=by
 simpa using h
theorem own_hn {w:World}{B:Nat}{v:Value}{ds:List Nat}(h:w.ownsRow B 23 1 v ds.length (UN ds)):∃ a cap,v=.slice a ds.length cap/\ds.length<=cap/\Hn w a ds:=by
 rcases id h with ⟨h1,⟨rfl,h0⟩|⟨g,cap,cur,rfl,hB,hg,hn,r⟩⟩
 . refine ⟨none,0,by rw [h0],by omega,.inl (List.eq_nil_of_length_eq_zero h0)⟩
 . refine ⟨some ⟨g,0,none⟩,cap,rfl,hn,.inr ⟨g,0,rfl,λi hi=>?_⟩⟩
   rw [Nat.zero_add,h.cellAt i (by omega)]
   simp [List.getD,hi]
theorem trim_own {B:Nat}{v:Value}{ds:List Nat}(w:World)(x:Nat)(hl:ds.length<=1099511627776)(h:w.ownsRow B 23 1 v ds.length (UN ds))(hA:AllD ds)(hx:vl ds=x) :
    Calls Tryz.prog 180 #[v] w λe w'=>(∃ v',e=.returned v'/\SN w v' x)/\w=w':=by
 obtain ⟨a,cap,rfl,hc,hH⟩:=own_hn h
 refine (trim_any a cap ds w hA hc hl hH).mono ?_
 rintro e w' ⟨⟨a',rfl,hh⟩,rfl⟩;rw [hx] at hh⊢
 exact ⟨⟨_,rfl,a',cap,rfl,hh⟩,rfl⟩
theorem at_nat (v:Value)(x i:Nat)(w:World)(hx:bl x<=20000)(hS:SN w v x)(hi:i<=1000000) :
    Calls Tryz.prog 175 #[v,.int .i64 (i:Int)] w λe w'=>e=.returned (.int .u64 ((x / 4294967296 ^ i%4294967296:Nat):Int))/\w=w':=by
 have h:=at_any v x i w hx hS (by omega) (by omega);rw [if_neg (by omega),Int.toNat_natCast] at h
 exact h
end Go.Proofs.YtipfjdogokanbaaGreatDoor.L3
