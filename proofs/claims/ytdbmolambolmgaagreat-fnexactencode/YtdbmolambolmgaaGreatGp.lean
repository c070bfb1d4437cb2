import Derived.Test.YtdbmolambolmgaaGreatGn
import Derived.Test.YtdbmolambolmgaaGreatGo
import Derived.Laws.IdiomStrings
set_option linter.all false
set_option maxHeartbeats 16000000
set_option maxRecDepth 100000
namespace Go.Proofs.YtdbmolambolmgaaGreat
open Go.RowKit Go.Sort
set_option maxRecDepth 100000
def limB (l:Limits):Bool:=u32B l.min&&u32B l.max&&(l.has || l.max==0)
def kindB (k:Int):Bool:=decide (0≤k∧k≤3)
def grpB (g:Grp):Bool:=u32B g.n&&tyB g.ty
def stB (has:Bool) (start:Int):Bool:=u32B start&&(has || start==0)
def bytesOf (s:ByteArray):List Int:=s.data.toList.map fun b=>(b.toNat:Int)
def nameB (s:ByteArray):Bool:=decide (uf 0 0 0 0 (bytesOf s)=-1)
theorem uf_ge (l:Nat) (lo hi:Int) (p:Nat) (cs:List Int):uf l lo hi p cs=-1∨0≤uf l lo hi p cs:=by
 induction cs generalizing l lo hi p with
 | nil=>cases l <;> simp [uf]
 | cons c cs ih =>
  cases l with
  | zero => simp only [uf]; split
            · right;omega
            · exact ih _ _ _ _
  | succ l => simp only [uf]; split
              · right;omega
              · exact ih _ _ _ _
theorem ilim_c (l:Limits) (w:World):Calls Tryz.prog 54 #[.agg #[.int .i64 l.min,.int .i64 l.max,.bool l.has]] w fun e w'=>e=.returned (.bool (limB l))∧Below w.heap.size w w':=by
 obtain ⟨mi,ma,h⟩:=l
 cases h
 all_goals
  go_enter Tryz.func54,Tryz.ntmps54
  go_wp2_with (go_at_call 52;refine (iu32_c _ _).mono ?_;rintro e w1 ⟨rfl,rfl⟩)
  all_goals
   go_ret
   refine ⟨?_,(Below.refl _ _).alloc (Nat.le_refl _) _⟩
   simp_all [limB]
theorem slim_c (l:Limits) (w:World):Calls Tryz.prog 110 #[.agg #[.int .i64 l.min,.int .i64 l.max,.bool l.has]] w fun e w'=>e=.returned (.bool (limB l))∧Below w.heap.size w w':=by
 obtain ⟨mi,ma,h⟩:=l
 cases h
 all_goals
  go_enter Tryz.func110,Tryz.ntmps110
  go_wp2_with (go_at_call 31;refine (u32_c _ _).mono ?_;rintro e w1 ⟨rfl,rfl⟩)
  all_goals
   go_ret
   refine ⟨?_,(Below.refl _ _).alloc (Nat.le_refl _) _⟩
   simp_all [limB]
theorem igt_c (g:GType) (w:World):Calls Tryz.prog 125 #[.agg #[.int .i64 g.ty,.bool g.mu]] w fun e w'=>e=.returned (.bool (tyB g.ty))∧Below w.heap.size w w':=by
 go_enter Tryz.func125,Tryz.ntmps125
 go_wp2_with (go_at_call 124;refine (ity_c _ _).mono ?_;rintro e w1 ⟨rfl,rfl⟩)
 go_ret
 exact ⟨rfl,(Below.refl _ _).alloc (Nat.le_refl _) _⟩
theorem ikind_c (x:Int) (w:World):Calls Tryz.prog 128 #[.int .i64 x] w fun e w'=>e=.returned (.bool (kindB x))∧w=w':=by
 go_enter Tryz.func128,Tryz.ntmps128
 go_wp2
 all_goals
  go_ret
  refine ⟨?_,rfl⟩
  simp [kindB, *]
  try omega
theorem igrp_c (g:Grp) (w:World):Calls Tryz.prog 180 #[.agg #[.int .i64 g.n,.int .i64 g.ty]] w fun e w'=>e=.returned (.bool (grpB g))∧Below w.heap.size w w':=by
 go_enter Tryz.func180,Tryz.ntmps180
 go_wp2_with (first | (go_at_call 52;refine (iu32_c _ _).mono ?_;rintro e w1 ⟨rfl,rfl⟩) | (go_at_call 124;refine (ity_c _ _).mono ?_;rintro e w1 ⟨rfl,rfl⟩))
 all_goals
  go_ret
  refine ⟨?_,(Below.refl _ _).alloc (Nat.le_refl _) _⟩
  simp_all [grpB]
theorem istart_c (has:Bool) (x:Int) (w:World):Calls Tryz.prog 59 #[.bool has,.int .i64 x] w fun e w'=>e=.returned (.bool (stB has x))∧w=w':=by
 cases has
 all_goals
  go_enter Tryz.func59,Tryz.ntmps59
  go_wp2_with (go_at_call 52;refine (iu32_c _ _).mono ?_;rintro e w1 ⟨rfl,rfl⟩)
  all_goals
   go_ret
   refine ⟨?_,rfl⟩
   simp_all [stB]
theorem bytes_len (s:ByteArray):(bytesOf s).length=s.size:=by simp [bytesOf]
theorem bytes_at (s:ByteArray) (c i:Nat) (hi:i<(bytesOf s).length):(bytesRow s c)[i]?=some (.int .u8 ((bytesOf s).getD i 0)):=by
 have hl:i<s.data.size:=by simpa [bytesOf] using hi
 unfold bytesRow
 rw [Array.getElem?_append_left (by simpa using hl)]
 have e:s.data[i]?=some s.data[i]:=Array.getElem?_eq_getElem hl
 simp [bytesOf,List.getD,e]
theorem bytes_all (s:ByteArray):AllB (bytesOf s):=by
 intro i
 by_cases hi:i<s.data.toList.length
 · have hl:i<s.data.size:=by simpa using hi
   have e:s.data[i]?=some s.data[i]:=Array.getElem?_eq_getElem hl
   have:(bytesOf s).getD i 0=((s.data.toList[i]'hi).toNat:Int):=by simp [bytesOf,List.getD,e]
   rw [this]
   have:=(s.data.toList[i]'hi).toNat_lt
   omega
 · have:(bytesOf s).getD i 0=0:=by simp [bytesOf,List.getD];rw [Array.getElem?_eq_none (by simpa using hi)];rfl
   rw [this];omega
theorem bytesRow_cells (s:ByteArray) (c:Nat) (w:World) (e:TypeId) (f:Nat × Nat):∀ i,i<(bytesOf s).length→(w.drew.alloc (.cells (bytesRow s c) e f)).cell? ⟨w.heap.size,0+i,none⟩=some (.int .u8 ((bytesOf s).getD i 0)):=by
 intro i hi
 have h:(w.drew.alloc (.cells (bytesRow s c) e f)).heap[w.heap.size]?=some (.cells (bytesRow s c) e f):=heap_new w.drew _
 rw [Nat.zero_add]
 simp only [World.cell?,h]
 exact bytes_at s c i hi
theorem sname_ok (s:ByteArray) (w:World) (hn:s.size≤1048576):Calls Tryz.prog 36 #[.string s] w fun e w'=>e=.returned (.bool (nameB s))∧Below w.heap.size w w':=by
 have hcv:=fun w=>run_bytes_of_string (P:=Tryz.prog) w 9 50 5 s Tryz.underlying9 Tryz.underlying50 Tryz.underlying5
 have hl:(bytesOf s).length≤1099511627776:=by rw [bytes_len];omega
 have HU:=Hm (fun c f=>specUtf8_any (some ⟨w.heap.size,0,none⟩) c (bytesOf s) (w.drew.alloc (.cells (bytesRow s c) 5 f)) hl (.inr ⟨_,_,rfl,bytesRow_cells s c w 5 f⟩) (bytes_all s))
 rw [bytes_len] at HU
 generalize hu:uf 0 0 0 0 (bytesOf s)=u at HU
 have hne:nameB s=(u==-1):=by simp only [nameB,hu];by_cases h:u=-1 <;> simp [h]
 rw [hne]
 clear hne hu
 go_enter Tryz.func36,Tryz.ntmps36
 go_wp2_with fail
 refine (HU.out _ _).mono ?_
 rintro e w1 ⟨rfl,rfl⟩
 go_wp2
 go_ret
 exact ⟨rfl,⟨rfl,rfl,rfl,by simp,fun k hk=>heap_old w.drew _ k hk⟩⟩
theorem iname_ok (s:ByteArray) (w:World) (hn:s.size≤1048576):Calls Tryz.prog 126 #[.string s] w fun e w'=>e=.returned (.bool (nameB s))∧Below w.heap.size w w':=by
 have hcv:=fun w=>run_bytes_of_string (P:=Tryz.prog) w 9 50 5 s Tryz.underlying9 Tryz.underlying50 Tryz.underlying5
 have hl:(bytesOf s).length≤1099511627776:=by rw [bytes_len];omega
 have HU:=Hm (fun c f=>implUtf8_row w.heap.size 0 c (bytesOf s) (w.drew.alloc (.cells (bytesRow s c) 5 f)) hl (bytesRow_cells s c w 5 f) (bytes_all s))
 rw [bytes_len] at HU
 have hge:=uf_ge 0 0 0 0 (bytesOf s)
 generalize hu:uf 0 0 0 0 (bytesOf s)=u at HU hge
 have hne:nameB s=decide (u<0):=by simp only [nameB,hu];rcases hge with h | h <;> simp [h] <;> omega
 rw [hne]
 clear hne hu hge
 go_enter Tryz.func126,Tryz.ntmps126
 go_wp2_with fail
 refine (HU.out _ _).mono ?_
 rintro e w1 ⟨rfl,rfl⟩
 go_wp2
 go_ret
 exact ⟨rfl,⟨rfl,rfl,rfl,by simp,fun k hk=>heap_old w.drew _ k hk⟩⟩
open Go.RowKit Go.Sort
theorem alls_t {R:Type} (B:R→Bool) (xs:List R) (z:R) (h:∀ j,j<xs.length→B (xs.getD j z)=true):xs.all B=true:=by
 rw [List.all_eq_true]
 intro x hx
 obtain ⟨i,hi,rfl⟩:=List.getElem_of_mem hx
 have:=h i hi
 simpa [List.getD,List.getElem?_eq_getElem hi] using this
theorem alls_f {R:Type} (B:R→Bool) (xs:List R) (z:R) (k:Nat) (hk:k<xs.length) (h:B (xs.getD k z)=false):xs.all B=false:=by
 rw [List.all_eq_false]
 refine ⟨xs[k],List.getElem_mem hk,?_⟩
 have:xs.getD k z=xs[k]:=by simp [List.getD,List.getElem?_eq_getElem hk]
 rw [this] at h
 simp [h]
theorem allT_t (l:List Int) (h:∀ i,i<l.length→tyB (l.getD i 0)=true):l.all tyB=true:=alls_t tyB l 0 h
theorem allT_f (l:List Int) (i:Nat) (hi:i<l.length) (h:tyB (l.getD i 0)=false):l.all tyB=false:=alls_f tyB l 0 i hi h
theorem allAreT_c (a:Option Addr) (c:Nat) (l:List Int) (w:World) (hn:l.length≤1099511627776) (hH:Has w a l):Calls Tryz.prog 51 #[.slice a l.length c,.func (.func 124) #[] #[]] w fun e w'=>e=.returned (.bool (l.all tyB))∧w=w':=by
 have HH:=Hm hH
 clear hH
 go_enter Tryz.func51,Tryz.ntmps51
 go_wp2_with fail
 go_loop [9] (fun i=>∃ k:Nat,k≤l.length∧i=.int .i64 k∧∀ j,j<k→tyB (l.getD j 0)=true) (fun i=>l.length-(intOf i).toNat)
 case atStart=>exact ⟨0,Nat.zero_le _,rfl,fun j h=>by omega⟩
 case round =>
  obtain ⟨k,hk,rfl,hall⟩:=hrel
  by_cases hlt:k<l.length
  · have hki:(k:Int)<(l.length:Int):=by omega
    rcases HH.out with hx | ⟨b1,o1,ea,hc⟩
    · subst hx;simp at hlt
    have d:=hc k hlt
    subst ea
    have HK:=Hm (ity_c (l.getD k 0))
    generalize hy:l.getD k 0=y at *
    generalize hz:tyB y=z at *
    cases z
    · have HFIN:=Hm (allT_f l k hlt (by rw [hy];exact hz))
      clear hall hc hy hz HH
      go_wp2_with (refine (HK.out _).mono ?_;rintro e w1 ⟨rfl,rfl⟩)
      go_ret
      exact ⟨by rw [HFIN.out];rfl,rfl⟩
    · have HA2:Hid (∀ j,j<k+1→tyB (l.getD j 0)=true):=fun j hj=>by
        rcases (by omega:j<k∨j=k) with h | h
        · exact hall j h
        · subst h;rw [hy];exact hz
      clear hall hc hy hz HH
      go_wp2_with (refine (HK.out _).mono ?_;rintro e w1 ⟨rfl,rfl⟩)
      go_round
      case rel=>exact ⟨k+1,by omega,by go_num,HA2.out⟩
      case measure=>simp [intOf];omega
  · have e:k=l.length:=by omega
    subst e
    have HFIN:=Hm (allT_t l hall)
    clear hall HH
    go_wp2
    go_ret
    exact ⟨by rw [HFIN.out];rfl,rfl⟩
def ftB (t:FType):Bool:=t.ps.all tyB&&t.rs.all tyB&&decide (t.rs.length≤1)
def globB (g:Glob):Bool:=tyB g.ty.ty&&closedM g.ini
def expB (x:Exp):Bool:=nameB x.nm&&kindB x.kind&&u32B x.ix
def eleB (e:Ele):Bool:=closedM e.off&&e.fs.all u32B
def datB (d:Dat):Bool:=closedM d.off
def InsPos (xs:List In):Prop:=∀ i,0≤(xs.getD i I0).v
theorem same_below {P:Program} {f:FuncId} {args:Array Value} {w:World} {v:Value} (h:Calls P f args w fun e w'=>e=.returned v∧w=w'):Calls P f args w fun e w'=>e=.returned v∧Below w.heap.size w w' :=
 h.mono fun e w' ⟨a,b⟩=>⟨a,by subst b;exact Below.refl _ _⟩
theorem clo (a:Option Addr) (c:Nat) (xs:List In) (w:World) (hl:xs.length≤1048576∧∀ i,i<xs.length→In.LB 1048576 (xs.getD i I0)) (hv:InsPos xs) (hL:In.Ls 0 w a xs):Calls Tryz.prog 127 #[.slice a xs.length c] w fun e w'=>e=.returned (.bool (closedM xs))∧Below w.heap.size w w' :=
 iclosed_c a c xs w hl.1 hl.2 hv hL.lst
theorem sclo (a:Option Addr) (c:Nat) (xs:List In) (w:World) (hl:xs.length≤1048576∧∀ i,i<xs.length→In.LB 1048576 (xs.getD i I0)) (hv:InsPos xs) (hL:In.Ls 0 w a xs):Calls Tryz.prog 32 #[.slice a xs.length c] w fun e w'=>e=.returned (.bool (closedM xs))∧Below w.heap.size w w' :=
 sclosed_c a c xs w hl.1 hl.2 hv hL.lst
theorem ift_c (x:FType) (a1:Option Addr) (c1:Nat) (a2:Option Addr) (c2:Nat) (w:World) (hI:FType.Is 0 w x a1 a2) (hl:FType.LB 1048576 x) :
    Calls Tryz.prog 48 #[.agg #[.slice a1 x.ps.length c1,.slice a2 x.rs.length c2]] w fun e w'=>e=.returned (.bool (ftB x))∧Below w.heap.size w w':=by
 obtain ⟨l0,l1⟩:=hl
 obtain ⟨r1,r2⟩:=hI
 have R1:=Hm r1
 have R2:=Hm r2
 clear r1 r2
 go_enter Tryz.func48,Tryz.ntmps48
 go_upto_region 1 with fail
 refine wp_gen (fun W=>Bk W w.heap.size [.slice a1 x.ps.length c1,.slice a2 x.rs.length c2]∧Below w.heap.size w W) ⟨Bk.new,(Below.refl _ _).alloc (Nat.le_refl _) _⟩ ?_
 rintro W ⟨bb,hb⟩
 have q0:=bb.2.1 0 _ rfl
 have q1:=bb.2.1 1 _ rfl
 have HC0:=Hm (same_below (allAreT_c a1 c1 x.ps W (by omega) (R1.out.up (up_below hb)).has))
 generalize ht0:x.ps.all tyB=t0 at HC0
 cases t0
 · go_wp2_with fail
   refine HC0.out.mono ?_
   rintro e W1 ⟨rfl,hb0⟩
   have hb:=hb.trans (hb0.mono hb.size)
   clear hb0 bb
   go_wp2
   go_ret
   exact ⟨by simp [ftB,ht0],hb⟩
 go_wp2_with fail
 refine HC0.out.mono ?_
 rintro e W1 ⟨rfl,hb0⟩
 have bb:=bb.keep hb0
 have hb:=hb.trans (hb0.mono hb.size)
 clear hb0 HC0
 have q0:=bb.2.1 0 _ rfl
 have q1:=bb.2.1 1 _ rfl
 have HC1:=Hm (same_below (allAreT_c a2 c2 x.rs W1 (by omega) (R2.out.up (up_below hb)).has))
 generalize ht1:x.rs.all tyB=t1 at HC1
 cases t1
 · go_wp2_with fail
   refine HC1.out.mono ?_
   rintro e W2 ⟨rfl,hb1⟩
   have hb:=hb.trans (hb1.mono hb.size)
   clear hb1 bb
   go_wp2
   go_ret
   exact ⟨by simp [ftB,ht0,ht1],hb⟩
 go_wp2_with fail
 refine HC1.out.mono ?_
 rintro e W2 ⟨rfl,hb1⟩
 have bb:=bb.keep hb1
 have hb:=hb.trans (hb1.mono hb.size)
 clear hb1 HC1
 have q0:=bb.2.1 0 _ rfl
 have q1:=bb.2.1 1 _ rfl
 clear bb
 go_wp2
 all_goals
  go_ret
  refine ⟨?_,hb⟩
  simp [ftB,ht0,ht1]
  try omega
theorem iglob_c (x:Glob) (a1:Option Addr) (c1:Nat) (w:World) (hI:Glob.Is 0 w x a1) (hl:Glob.LB 1048576 x) (hp:InsPos x.ini) :
    Calls Tryz.prog 56 #[.agg #[.int .i64 x.ty.ty,.bool x.ty.mu,.slice a1 x.ini.length c1]] w fun e w'=>e=.returned (.bool (globB x))∧Below w.heap.size w w':=by
 have l2:=hl
 have r1:=hI
 clear hI
 have R1:=Hm r1
 clear r1
 go_enter Tryz.func56,Tryz.ntmps56
 go_upto_region 1 with fail
 refine wp_gen (fun W=>Bk W w.heap.size [.int .i64 x.ty.ty,.bool x.ty.mu,.slice a1 x.ini.length c1]∧Below w.heap.size w W) ⟨Bk.new,(Below.refl _ _).alloc (Nat.le_refl _) _⟩ ?_
 rintro W ⟨bb,hb⟩
 have q0:=bb.2.1 0 _ rfl
 have q1:=bb.2.1 1 _ rfl
 have q2:=bb.2.1 2 _ rfl
 have HC0:=Hm (igt_c x.ty W)
 generalize ht0:tyB x.ty.ty=t0 at HC0
 cases t0
 · go_wp2_with fail
   refine HC0.out.mono ?_
   rintro e W1 ⟨rfl,hb0⟩
   have hb:=hb.trans (hb0.mono hb.size)
   clear hb0 bb
   go_wp2
   go_ret
   exact ⟨by simp [globB,ht0],hb⟩
 go_wp2_with fail
 refine HC0.out.mono ?_
 rintro e W1 ⟨rfl,hb0⟩
 have bb:=bb.keep hb0
 have hb:=hb.trans (hb0.mono hb.size)
 clear hb0 HC0
 have q0:=bb.2.1 0 _ rfl
 have q1:=bb.2.1 1 _ rfl
 have q2:=bb.2.1 2 _ rfl
 have HC1:=Hm (clo a1 c1 x.ini W1 l2 hp (R1.out.up (up_below hb)))
 generalize ht1:closedM x.ini=t1 at HC1
 go_wp2_with fail
 refine HC1.out.mono ?_
 rintro e W2 ⟨rfl,hb1⟩
 have hb:=hb.trans (hb1.mono hb.size)
 clear hb1 bb
 go_wp2
 all_goals
  go_ret
  refine ⟨?_,hb⟩
  simp [globB,ht0,ht1]
theorem iexp_c (x:Exp) (w:World) (hI:Exp.Is 0 w x) (hl:Exp.LB 1048576 x) :
    Calls Tryz.prog 58 #[.agg #[.string x.nm,.int .i64 x.kind,.int .i64 x.ix]] w fun e w'=>e=.returned (.bool (expB x))∧Below w.heap.size w w':=by
 have l0:x.nm.size≤1048576:=hl
 go_enter Tryz.func58,Tryz.ntmps58
 go_upto_region 1 with fail
 refine wp_gen (fun W=>Bk W w.heap.size [.string x.nm,.int .i64 x.kind,.int .i64 x.ix]∧Below w.heap.size w W) ⟨Bk.new,(Below.refl _ _).alloc (Nat.le_refl _) _⟩ ?_
 rintro W ⟨bb,hb⟩
 have q0:=bb.2.1 0 _ rfl
 have q1:=bb.2.1 1 _ rfl
 have q2:=bb.2.1 2 _ rfl
 have HC0:=Hm (iname_ok x.nm W l0)
 generalize ht0:nameB x.nm=t0 at HC0
 cases t0
 · go_wp2_with fail
   refine HC0.out.mono ?_
   rintro e W1 ⟨rfl,hb0⟩
   have hb:=hb.trans (hb0.mono hb.size)
   clear hb0 bb
   go_wp2
   go_ret
   exact ⟨by simp [expB,ht0],hb⟩
 go_wp2_with fail
 refine HC0.out.mono ?_
 rintro e W1 ⟨rfl,hb0⟩
 have bb:=bb.keep hb0
 have hb:=hb.trans (hb0.mono hb.size)
 clear hb0 HC0
 have q0:=bb.2.1 0 _ rfl
 have q1:=bb.2.1 1 _ rfl
 have q2:=bb.2.1 2 _ rfl
 have HC1:=Hm (same_below (ikind_c x.kind W1))
 generalize ht1:kindB x.kind=t1 at HC1
 cases t1
 · go_wp2_with fail
   refine HC1.out.mono ?_
   rintro e W2 ⟨rfl,hb1⟩
   have hb:=hb.trans (hb1.mono hb.size)
   clear hb1 bb
   go_wp2
   go_ret
   exact ⟨by simp [expB,ht0,ht1],hb⟩
 go_wp2_with fail
 refine HC1.out.mono ?_
 rintro e W2 ⟨rfl,hb1⟩
 have bb:=bb.keep hb1
 have hb:=hb.trans (hb1.mono hb.size)
 clear hb1 HC1
 have q0:=bb.2.1 0 _ rfl
 have q1:=bb.2.1 1 _ rfl
 have q2:=bb.2.1 2 _ rfl
 have HC2:=Hm (same_below (iu32_c x.ix W2))
 generalize ht2:u32B x.ix=t2 at HC2
 go_wp2_with fail
 refine HC2.out.mono ?_
 rintro e W3 ⟨rfl,hb2⟩
 have hb:=hb.trans (hb2.mono hb.size)
 clear hb2 bb
 go_wp2
 all_goals
  go_ret
  refine ⟨?_,hb⟩
  simp [expB,ht0,ht1,ht2]
theorem iele_c (x:Ele) (a1:Option Addr) (c1:Nat) (a2:Option Addr) (c2:Nat) (w:World) (hI:Ele.Is 0 w x a1 a2) (hl:Ele.LB 1048576 x) (hp:InsPos x.off) :
    Calls Tryz.prog 61 #[.agg #[.slice a1 x.off.length c1,.slice a2 x.fs.length c2]] w fun e w'=>e=.returned (.bool (eleB x))∧Below w.heap.size w w':=by
 obtain ⟨l0,l1⟩:=hl
 obtain ⟨r1,r2⟩:=hI
 have R1:=Hm r1
 have R2:=Hm r2
 clear r1 r2
 go_enter Tryz.func61,Tryz.ntmps61
 go_upto_region 1 with fail
 refine wp_gen (fun W=>Bk W w.heap.size [.slice a1 x.off.length c1,.slice a2 x.fs.length c2]∧Below w.heap.size w W) ⟨Bk.new,(Below.refl _ _).alloc (Nat.le_refl _) _⟩ ?_
 rintro W ⟨bb,hb⟩
 have q0:=bb.2.1 0 _ rfl
 have q1:=bb.2.1 1 _ rfl
 have HC0:=Hm (clo a1 c1 x.off W l0 hp (R1.out.up (up_below hb)))
 generalize ht0:closedM x.off=t0 at HC0
 cases t0
 · go_wp2_with fail
   refine HC0.out.mono ?_
   rintro e W1 ⟨rfl,hb0⟩
   have hb:=hb.trans (hb0.mono hb.size)
   clear hb0 bb
   go_wp2
   go_ret
   exact ⟨by simp [eleB,ht0],hb⟩
 go_wp2_with fail
 refine HC0.out.mono ?_
 rintro e W1 ⟨rfl,hb0⟩
 have bb:=bb.keep hb0
 have hb:=hb.trans (hb0.mono hb.size)
 clear hb0 HC0
 have q0:=bb.2.1 0 _ rfl
 have q1:=bb.2.1 1 _ rfl
 have HC1:=Hm (same_below (allAre_c a2 c2 x.fs W1 (by omega) (R2.out.up (up_below hb)).has))
 generalize ht1:x.fs.all u32B=t1 at HC1
 go_wp2_with fail
 refine HC1.out.mono ?_
 rintro e W2 ⟨rfl,hb1⟩
 have hb:=hb.trans (hb1.mono hb.size)
 clear hb1 bb
 go_wp2
 all_goals
  go_ret
  refine ⟨?_,hb⟩
  simp [eleB,ht0,ht1]
theorem idat_c (x:Dat) (a1:Option Addr) (c1:Nat) (a2:Option Addr) (c2:Nat) (w:World) (hI:Dat.Is 0 w x a1 a2) (hl:Dat.LB 1048576 x) (hp:InsPos x.off) :
    Calls Tryz.prog 65 #[.agg #[.slice a1 x.off.length c1,.slice a2 x.bs.length c2]] w fun e w'=>e=.returned (.bool (datB x))∧Below w.heap.size w w':=by
 obtain ⟨l0,l1⟩:=hl
 obtain ⟨r1,r2⟩:=hI
 have R1:=Hm r1
 have R2:=Hm r2
 clear r1 r2
 go_enter Tryz.func65,Tryz.ntmps65
 go_upto_region 1 with fail
 refine wp_gen (fun W=>Bk W w.heap.size [.slice a1 x.off.length c1,.slice a2 x.bs.length c2]∧Below w.heap.size w W) ⟨Bk.new,(Below.refl _ _).alloc (Nat.le_refl _) _⟩ ?_
 rintro W ⟨bb,hb⟩
 have q0:=bb.2.1 0 _ rfl
 have q1:=bb.2.1 1 _ rfl
 have HC0:=Hm (clo a1 c1 x.off W l0 hp (R1.out.up (up_below hb)))
 generalize ht0:closedM x.off=t0 at HC0
 go_wp2_with fail
 refine HC0.out.mono ?_
 rintro e W1 ⟨rfl,hb0⟩
 have hb:=hb.trans (hb0.mono hb.size)
 clear hb0 bb
 go_wp2
 all_goals
  go_ret
  refine ⟨?_,hb⟩
  simp [datB,ht0]
open Go.RowKit Go.Sort
theorem ilim2 (x:Limits) (w:World) (hI:Limits.Is 0 w x) (hl:Limits.LB 1048576 x):Calls Tryz.prog 54 #[.agg #[.int .i64 x.min,.int .i64 x.max,.bool x.has]] w fun e w'=>e=.returned (.bool (limB x))∧Below w.heap.size w w':=ilim_c x w
theorem aaFType_c (a:Option Addr) (c:Nat) (xs:List FType) (w:World) (hl:xs.length≤1048576∧∀ i,i<xs.length→FType.LB 1048576 (xs.getD i FType.z)) (hL:FType.Ls 0 w a xs) :
    Calls Tryz.prog 47 #[.slice a xs.length c,.func (.func 48) #[] #[]] w fun e w'=>e=.returned (.bool (xs.all ftB))∧Below w.heap.size w w':=by
 obtain ⟨hn,hll⟩:=hl
 have HL:=Hm hL
 have Hl:=Hm hll
 skip
 clear hL hll
 go_enter Tryz.func47,Tryz.ntmps47
 go_wp2_with fail
 go_loopw [9] (fun i wr=>∃ k:Nat,k≤xs.length∧i=.int .i64 k∧(∀ j,j<k→ftB (xs.getD j FType.z)=true)∧Below w.heap.size w wr) (fun i _=>xs.length-(intOf i).toNat)
 case atStart=>exact ⟨0,Nat.zero_le _,rfl,fun j h=>by omega,Below.refl _ _⟩
 case round =>
  obtain ⟨k,hk,rfl,hall,hb⟩:=hrel
  by_cases hlt:k<xs.length
  · have hki:(k:Int)<(xs.length:Int):=by omega
    rcases HL.out.up (up_below hb) with hx | ⟨b,o,ea,_,hc⟩
    · subst hx;simp at hlt
    have hxk:=hc k hlt
    have hxl:=Hl.out k hlt
    skip
    subst ea
    obtain ⟨x,hx⟩:∃ x,x=xs.getD k FType.z:=⟨_,rfl⟩
    rw [← hx] at hxk hxl
    obtain ⟨a1,c1,a2,c2,⟨q0,q1⟩,hi⟩:=hxk
    have ba:Below wr.heap.size wr (wr.alloc (.cells #[.slice a1 x.ps.length c1,.slice a2 x.rs.length c2] 95)):=(Below.refl _ _).alloc (Nat.le_refl _) _
    have HI0:=Hm (ift_c x a1 c1 a2 c2 _ (hi.up (up_below ba)) hxl)
    have HB:=Hm hb
    have HBA:=Hm ba
    generalize hg:ftB x=gx at HI0
    have HG:Hid (ftB (xs.getD k FType.z)=gx):=by show _=_;rw [← hx];exact hg
    cases gx
    · have HFIN:=Hm (alls_f ftB xs FType.z k hlt HG.out)
      clear hall hc hb ba hi HL Hl hx hg
      go_wp2_with fail
      refine HI0.out.mono ?_
      rintro e w2 ⟨rfl,hb2⟩
      have hb3:Below w.heap.size w w2:=HB.out.trans ((HBA.out.trans (hb2.mono (by simp))).mono HB.out.size)
      clear hb2
      go_wp2
      go_ret
      exact ⟨by rw [HFIN.out];rfl,hb3⟩
    · have HA2:Hid (∀ j,j<k+1→ftB (xs.getD j FType.z)=true):=fun j hj=>by
        rcases (by omega:j<k∨j=k) with h | h
        · exact hall j h
        · subst h;exact HG.out
      clear hall hc hb ba hi HL Hl hx hg
      go_wp2_with fail
      refine HI0.out.mono ?_
      rintro e w2 ⟨rfl,hb2⟩
      have hb3:Below w.heap.size w w2:=HB.out.trans ((HBA.out.trans (hb2.mono (by simp))).mono HB.out.size)
      clear hb2
      go_wp2
      go_roundw
      case rel=>exact ⟨k+1,by omega,by go_num,HA2.out,hb3⟩
      case measure=>simp [intOf];omega
  · have e:k=xs.length:=by omega
    subst e
    have HFIN:=Hm (alls_t ftB xs FType.z hall)
    clear hall HL Hl
    go_wp2
    go_ret
    exact ⟨by rw [HFIN.out];rfl,hb⟩
theorem aaLimits_c (a:Option Addr) (c:Nat) (xs:List Limits) (w:World) (hl:xs.length≤1048576∧∀ i,i<xs.length→Limits.LB 1048576 (xs.getD i Limits.z)) (hL:Limits.Ls 0 w a xs) :
    Calls Tryz.prog 53 #[.slice a xs.length c,.func (.func 54) #[] #[]] w fun e w'=>e=.returned (.bool (xs.all limB))∧Below w.heap.size w w':=by
 obtain ⟨hn,hll⟩:=hl
 have HL:=Hm hL
 have Hl:=Hm hll
 skip
 clear hL hll
 go_enter Tryz.func53,Tryz.ntmps53
 go_wp2_with fail
 go_loopw [9] (fun i wr=>∃ k:Nat,k≤xs.length∧i=.int .i64 k∧(∀ j,j<k→limB (xs.getD j Limits.z)=true)∧Below w.heap.size w wr) (fun i _=>xs.length-(intOf i).toNat)
 case atStart=>exact ⟨0,Nat.zero_le _,rfl,fun j h=>by omega,Below.refl _ _⟩
 case round =>
  obtain ⟨k,hk,rfl,hall,hb⟩:=hrel
  by_cases hlt:k<xs.length
  · have hki:(k:Int)<(xs.length:Int):=by omega
    rcases HL.out.up (up_below hb) with hx | ⟨b,o,ea,_,hc⟩
    · subst hx;simp at hlt
    have hxk:=hc k hlt
    have hxl:=Hl.out k hlt
    skip
    subst ea
    obtain ⟨x,hx⟩:∃ x,x=xs.getD k Limits.z:=⟨_,rfl⟩
    rw [← hx] at hxk hxl
    obtain ⟨⟨q0,q1,q2⟩,hi⟩:=hxk
    have ba:Below wr.heap.size wr (wr.alloc (.cells #[.int .i64 x.min,.int .i64 x.max,.bool x.has] 99)):=(Below.refl _ _).alloc (Nat.le_refl _) _
    have HI0:=Hm (ilim2 x _ (hi.up (up_below ba)) hxl)
    have HB:=Hm hb
    have HBA:=Hm ba
    generalize hg:limB x=gx at HI0
    have HG:Hid (limB (xs.getD k Limits.z)=gx):=by show _=_;rw [← hx];exact hg
    cases gx
    · have HFIN:=Hm (alls_f limB xs Limits.z k hlt HG.out)
      clear hall hc hb ba hi HL Hl hx hg
      go_wp2_with fail
      refine HI0.out.mono ?_
      rintro e w2 ⟨rfl,hb2⟩
      have hb3:Below w.heap.size w w2:=HB.out.trans ((HBA.out.trans (hb2.mono (by simp))).mono HB.out.size)
      clear hb2
      go_wp2
      go_ret
      exact ⟨by rw [HFIN.out];rfl,hb3⟩
    · have HA2:Hid (∀ j,j<k+1→limB (xs.getD j Limits.z)=true):=fun j hj=>by
        rcases (by omega:j<k∨j=k) with h | h
        · exact hall j h
        · subst h;exact HG.out
      clear hall hc hb ba hi HL Hl hx hg
      go_wp2_with fail
      refine HI0.out.mono ?_
      rintro e w2 ⟨rfl,hb2⟩
      have hb3:Below w.heap.size w w2:=HB.out.trans ((HBA.out.trans (hb2.mono (by simp))).mono HB.out.size)
      clear hb2
      go_wp2
      go_roundw
      case rel=>exact ⟨k+1,by omega,by go_num,HA2.out,hb3⟩
      case measure=>simp [intOf];omega
  · have e:k=xs.length:=by omega
    subst e
    have HFIN:=Hm (alls_t limB xs Limits.z hall)
    clear hall HL Hl
    go_wp2
    go_ret
    exact ⟨by rw [HFIN.out];rfl,hb⟩
theorem aaExp_c (a:Option Addr) (c:Nat) (xs:List Exp) (w:World) (hl:xs.length≤1048576∧∀ i,i<xs.length→Exp.LB 1048576 (xs.getD i Exp.z)) (hL:Exp.Ls 0 w a xs) :
    Calls Tryz.prog 57 #[.slice a xs.length c,.func (.func 58) #[] #[]] w fun e w'=>e=.returned (.bool (xs.all expB))∧Below w.heap.size w w':=by
 obtain ⟨hn,hll⟩:=hl
 have HL:=Hm hL
 have Hl:=Hm hll
 skip
 clear hL hll
 go_enter Tryz.func57,Tryz.ntmps57
 go_wp2_with fail
 go_loopw [9] (fun i wr=>∃ k:Nat,k≤xs.length∧i=.int .i64 k∧(∀ j,j<k→expB (xs.getD j Exp.z)=true)∧Below w.heap.size w wr) (fun i _=>xs.length-(intOf i).toNat)
 case atStart=>exact ⟨0,Nat.zero_le _,rfl,fun j h=>by omega,Below.refl _ _⟩
 case round =>
  obtain ⟨k,hk,rfl,hall,hb⟩:=hrel
  by_cases hlt:k<xs.length
  · have hki:(k:Int)<(xs.length:Int):=by omega
    rcases HL.out.up (up_below hb) with hx | ⟨b,o,ea,_,hc⟩
    · subst hx;simp at hlt
    have hxk:=hc k hlt
    have hxl:=Hl.out k hlt
    skip
    subst ea
    obtain ⟨x,hx⟩:∃ x,x=xs.getD k Exp.z:=⟨_,rfl⟩
    rw [← hx] at hxk hxl
    obtain ⟨⟨q0,q1,q2⟩,hi⟩:=hxk
    have ba:Below wr.heap.size wr (wr.alloc (.cells #[.string x.nm,.int .i64 x.kind,.int .i64 x.ix] 114)):=(Below.refl _ _).alloc (Nat.le_refl _) _
    have HI0:=Hm (iexp_c x _ (hi.up (up_below ba)) hxl)
    have HB:=Hm hb
    have HBA:=Hm ba
    generalize hg:expB x=gx at HI0
    have HG:Hid (expB (xs.getD k Exp.z)=gx):=by show _=_;rw [← hx];exact hg
    cases gx
    · have HFIN:=Hm (alls_f expB xs Exp.z k hlt HG.out)
      clear hall hc hb ba hi HL Hl hx hg
      go_wp2_with fail
      refine HI0.out.mono ?_
      rintro e w2 ⟨rfl,hb2⟩
      have hb3:Below w.heap.size w w2:=HB.out.trans ((HBA.out.trans (hb2.mono (by simp))).mono HB.out.size)
      clear hb2
      go_wp2
      go_ret
      exact ⟨by rw [HFIN.out];rfl,hb3⟩
    · have HA2:Hid (∀ j,j<k+1→expB (xs.getD j Exp.z)=true):=fun j hj=>by
        rcases (by omega:j<k∨j=k) with h | h
        · exact hall j h
        · subst h;exact HG.out
      clear hall hc hb ba hi HL Hl hx hg
      go_wp2_with fail
      refine HI0.out.mono ?_
      rintro e w2 ⟨rfl,hb2⟩
      have hb3:Below w.heap.size w w2:=HB.out.trans ((HBA.out.trans (hb2.mono (by simp))).mono HB.out.size)
      clear hb2
      go_wp2
      go_roundw
      case rel=>exact ⟨k+1,by omega,by go_num,HA2.out,hb3⟩
      case measure=>simp [intOf];omega
  · have e:k=xs.length:=by omega
    subst e
    have HFIN:=Hm (alls_t expB xs Exp.z hall)
    clear hall HL Hl
    go_wp2
    go_ret
    exact ⟨by rw [HFIN.out];rfl,hb⟩
theorem aaGlob_c (a:Option Addr) (c:Nat) (xs:List Glob) (w:World) (hl:xs.length≤1048576∧∀ i,i<xs.length→Glob.LB 1048576 (xs.getD i Glob.z)) (hL:Glob.Ls 0 w a xs) (hP:∀ i,i<xs.length→InsPos (xs.getD i Glob.z).ini) :
    Calls Tryz.prog 55 #[.slice a xs.length c,.func (.func 56) #[] #[]] w fun e w'=>e=.returned (.bool (xs.all globB))∧Below w.heap.size w w':=by
 obtain ⟨hn,hll⟩:=hl
 have HL:=Hm hL
 have Hl:=Hm hll
 have HP:=Hm hP
 clear hL hll hP
 go_enter Tryz.func55,Tryz.ntmps55
 go_wp2_with fail
 go_loopw [9] (fun i wr=>∃ k:Nat,k≤xs.length∧i=.int .i64 k∧(∀ j,j<k→globB (xs.getD j Glob.z)=true)∧Below w.heap.size w wr) (fun i _=>xs.length-(intOf i).toNat)
 case atStart=>exact ⟨0,Nat.zero_le _,rfl,fun j h=>by omega,Below.refl _ _⟩
 case round =>
  obtain ⟨k,hk,rfl,hall,hb⟩:=hrel
  by_cases hlt:k<xs.length
  · have hki:(k:Int)<(xs.length:Int):=by omega
    rcases HL.out.up (up_below hb) with hx | ⟨b,o,ea,_,hc⟩
    · subst hx;simp at hlt
    have hxk:=hc k hlt
    have hxl:=Hl.out k hlt
    have hxp:=HP.out k hlt
    subst ea
    obtain ⟨x,hx⟩:∃ x,x=xs.getD k Glob.z:=⟨_,rfl⟩
    rw [← hx] at hxk hxl hxp
    obtain ⟨a1,c1,⟨q0,q1,q2⟩,hi⟩:=hxk
    have ba:Below wr.heap.size wr (wr.alloc (.cells #[.int .i64 x.ty.ty,.bool x.ty.mu,.slice a1 x.ini.length c1] 110)):=(Below.refl _ _).alloc (Nat.le_refl _) _
    have HI0:=Hm (iglob_c x a1 c1 _ (hi.up (up_below ba)) hxl hxp)
    have HB:=Hm hb
    have HBA:=Hm ba
    generalize hg:globB x=gx at HI0
    have HG:Hid (globB (xs.getD k Glob.z)=gx):=by show _=_;rw [← hx];exact hg
    cases gx
    · have HFIN:=Hm (alls_f globB xs Glob.z k hlt HG.out)
      clear hall hc hb ba hi HL Hl hx hg
      go_wp2_with fail
      refine HI0.out.mono ?_
      rintro e w2 ⟨rfl,hb2⟩
      have hb3:Below w.heap.size w w2:=HB.out.trans ((HBA.out.trans (hb2.mono (by simp))).mono HB.out.size)
      clear hb2
      go_wp2
      go_ret
      exact ⟨by rw [HFIN.out];rfl,hb3⟩
    · have HA2:Hid (∀ j,j<k+1→globB (xs.getD j Glob.z)=true):=fun j hj=>by
        rcases (by omega:j<k∨j=k) with h | h
        · exact hall j h
        · subst h;exact HG.out
      clear hall hc hb ba hi HL Hl hx hg
      go_wp2_with fail
      refine HI0.out.mono ?_
      rintro e w2 ⟨rfl,hb2⟩
      have hb3:Below w.heap.size w w2:=HB.out.trans ((HBA.out.trans (hb2.mono (by simp))).mono HB.out.size)
      clear hb2
      go_wp2
      go_roundw
      case rel=>exact ⟨k+1,by omega,by go_num,HA2.out,hb3⟩
      case measure=>simp [intOf];omega
  · have e:k=xs.length:=by omega
    subst e
    have HFIN:=Hm (alls_t globB xs Glob.z hall)
    clear hall HL Hl
    go_wp2
    go_ret
    exact ⟨by rw [HFIN.out];rfl,hb⟩
theorem aaEle_c (a:Option Addr) (c:Nat) (xs:List Ele) (w:World) (hl:xs.length≤1048576∧∀ i,i<xs.length→Ele.LB 1048576 (xs.getD i Ele.z)) (hL:Ele.Ls 0 w a xs) (hP:∀ i,i<xs.length→InsPos (xs.getD i Ele.z).off) :
    Calls Tryz.prog 60 #[.slice a xs.length c,.func (.func 61) #[] #[]] w fun e w'=>e=.returned (.bool (xs.all eleB))∧Below w.heap.size w w':=by
 obtain ⟨hn,hll⟩:=hl
 have HL:=Hm hL
 have Hl:=Hm hll
 have HP:=Hm hP
 clear hL hll hP
 go_enter Tryz.func60,Tryz.ntmps60
 go_wp2_with fail
 go_loopw [9] (fun i wr=>∃ k:Nat,k≤xs.length∧i=.int .i64 k∧(∀ j,j<k→eleB (xs.getD j Ele.z)=true)∧Below w.heap.size w wr) (fun i _=>xs.length-(intOf i).toNat)
 case atStart=>exact ⟨0,Nat.zero_le _,rfl,fun j h=>by omega,Below.refl _ _⟩
 case round =>
  obtain ⟨k,hk,rfl,hall,hb⟩:=hrel
  by_cases hlt:k<xs.length
  · have hki:(k:Int)<(xs.length:Int):=by omega
    rcases HL.out.up (up_below hb) with hx | ⟨b,o,ea,_,hc⟩
    · subst hx;simp at hlt
    have hxk:=hc k hlt
    have hxl:=Hl.out k hlt
    have hxp:=HP.out k hlt
    subst ea
    obtain ⟨x,hx⟩:∃ x,x=xs.getD k Ele.z:=⟨_,rfl⟩
    rw [← hx] at hxk hxl hxp
    obtain ⟨a1,c1,a2,c2,⟨q0,q1⟩,hi⟩:=hxk
    have ba:Below wr.heap.size wr (wr.alloc (.cells #[.slice a1 x.off.length c1,.slice a2 x.fs.length c2] 70)):=(Below.refl _ _).alloc (Nat.le_refl _) _
    have HI0:=Hm (iele_c x a1 c1 a2 c2 _ (hi.up (up_below ba)) hxl hxp)
    have HB:=Hm hb
    have HBA:=Hm ba
    generalize hg:eleB x=gx at HI0
    have HG:Hid (eleB (xs.getD k Ele.z)=gx):=by show _=_;rw [← hx];exact hg
    cases gx
    · have HFIN:=Hm (alls_f eleB xs Ele.z k hlt HG.out)
      clear hall hc hb ba hi HL Hl hx hg
      go_wp2_with fail
      refine HI0.out.mono ?_
      rintro e w2 ⟨rfl,hb2⟩
      have hb3:Below w.heap.size w w2:=HB.out.trans ((HBA.out.trans (hb2.mono (by simp))).mono HB.out.size)
      clear hb2
      go_wp2
      go_ret
      exact ⟨by rw [HFIN.out];rfl,hb3⟩
    · have HA2:Hid (∀ j,j<k+1→eleB (xs.getD j Ele.z)=true):=fun j hj=>by
        rcases (by omega:j<k∨j=k) with h | h
        · exact hall j h
        · subst h;exact HG.out
      clear hall hc hb ba hi HL Hl hx hg
      go_wp2_with fail
      refine HI0.out.mono ?_
      rintro e w2 ⟨rfl,hb2⟩
      have hb3:Below w.heap.size w w2:=HB.out.trans ((HBA.out.trans (hb2.mono (by simp))).mono HB.out.size)
      clear hb2
      go_wp2
      go_roundw
      case rel=>exact ⟨k+1,by omega,by go_num,HA2.out,hb3⟩
      case measure=>simp [intOf];omega
  · have e:k=xs.length:=by omega
    subst e
    have HFIN:=Hm (alls_t eleB xs Ele.z hall)
    clear hall HL Hl
    go_wp2
    go_ret
    exact ⟨by rw [HFIN.out];rfl,hb⟩
theorem aaDat_c (a:Option Addr) (c:Nat) (xs:List Dat) (w:World) (hl:xs.length≤1048576∧∀ i,i<xs.length→Dat.LB 1048576 (xs.getD i Dat.z)) (hL:Dat.Ls 0 w a xs) (hP:∀ i,i<xs.length→InsPos (xs.getD i Dat.z).off) :
    Calls Tryz.prog 64 #[.slice a xs.length c,.func (.func 65) #[] #[]] w fun e w'=>e=.returned (.bool (xs.all datB))∧Below w.heap.size w w':=by
 obtain ⟨hn,hll⟩:=hl
 have HL:=Hm hL
 have Hl:=Hm hll
 have HP:=Hm hP
 clear hL hll hP
 go_enter Tryz.func64,Tryz.ntmps64
 go_wp2_with fail
 go_loopw [9] (fun i wr=>∃ k:Nat,k≤xs.length∧i=.int .i64 k∧(∀ j,j<k→datB (xs.getD j Dat.z)=true)∧Below w.heap.size w wr) (fun i _=>xs.length-(intOf i).toNat)
 case atStart=>exact ⟨0,Nat.zero_le _,rfl,fun j h=>by omega,Below.refl _ _⟩
 case round =>
  obtain ⟨k,hk,rfl,hall,hb⟩:=hrel
  by_cases hlt:k<xs.length
  · have hki:(k:Int)<(xs.length:Int):=by omega
    rcases HL.out.up (up_below hb) with hx | ⟨b,o,ea,_,hc⟩
    · subst hx;simp at hlt
    have hxk:=hc k hlt
    have hxl:=Hl.out k hlt
    have hxp:=HP.out k hlt
    subst ea
    obtain ⟨x,hx⟩:∃ x,x=xs.getD k Dat.z:=⟨_,rfl⟩
    rw [← hx] at hxk hxl hxp
    obtain ⟨a1,c1,a2,c2,⟨q0,q1⟩,hi⟩:=hxk
    have ba:Below wr.heap.size wr (wr.alloc (.cells #[.slice a1 x.off.length c1,.slice a2 x.bs.length c2] 76)):=(Below.refl _ _).alloc (Nat.le_refl _) _
    have HI0:=Hm (idat_c x a1 c1 a2 c2 _ (hi.up (up_below ba)) hxl hxp)
    have HB:=Hm hb
    have HBA:=Hm ba
    generalize hg:datB x=gx at HI0
    have HG:Hid (datB (xs.getD k Dat.z)=gx):=by show _=_;rw [← hx];exact hg
    cases gx
    · have HFIN:=Hm (alls_f datB xs Dat.z k hlt HG.out)
      clear hall hc hb ba hi HL Hl hx hg
      go_wp2_with fail
      refine HI0.out.mono ?_
      rintro e w2 ⟨rfl,hb2⟩
      have hb3:Below w.heap.size w w2:=HB.out.trans ((HBA.out.trans (hb2.mono (by simp))).mono HB.out.size)
      clear hb2
      go_wp2
      go_ret
      exact ⟨by rw [HFIN.out];rfl,hb3⟩
    · have HA2:Hid (∀ j,j<k+1→datB (xs.getD j Dat.z)=true):=fun j hj=>by
        rcases (by omega:j<k∨j=k) with h | h
        · exact hall j h
        · subst h;exact HG.out
      clear hall hc hb ba hi HL Hl hx hg
      go_wp2_with fail
      refine HI0.out.mono ?_
      rintro e w2 ⟨rfl,hb2⟩
      have hb3:Below w.heap.size w w2:=HB.out.trans ((HBA.out.trans (hb2.mono (by simp))).mono HB.out.size)
      clear hb2
      go_wp2
      go_roundw
      case rel=>exact ⟨k+1,by omega,by go_num,HA2.out,hb3⟩
      case measure=>simp [intOf];omega
  · have e:k=xs.length:=by omega
    subst e
    have HFIN:=Hm (alls_t datB xs Dat.z hall)
    clear hall HL Hl
    go_wp2
    go_ret
    exact ⟨by rw [HFIN.out];rfl,hb⟩
end Go.Proofs.YtdbmolambolmgaaGreat
