import Derived.WalkKit
import Derived.Laws.BitsAllLaws
import Derived.Test.YtdbmolambolmgaaGreatGa
import Derived.WalkSpells
import Derived.WalkLawsBesides
import Derived.Test.YtdbmolambolmgaaGreatGe
set_option linter.all false
set_option maxHeartbeats 16000000
set_option maxRecDepth 100000
namespace Go.Proofs.YtdbmolambolmgaaGreat
open Go.RowKit
abbrev U (xs:List Int):List Value:=xs.map (Value.int .u8)
def lebU:Nat→Int→List Int
 | 0,x=>[x]
 | f+1,x=>if x<128 then [x] else (x%128+128)::lebU f (x / 128)
def lebS:Nat→Int→List Int
 | 0,x=>[x%128]
 | f+1,x=>if -64≤x∧x≤63 then [x%128] else (x%128+128)::lebS f (x / 128)
theorem lebU_small (f:Nat) (y:Int) (h:y<128):lebU f y=[y]:=by cases f <;> simp [lebU,h]
theorem lebU_step (f:Nat) (y:Int) (h:128≤y):lebU (f+1) y=(y%128+128)::lebU f (y / 128):=by
 simp [lebU];omega
theorem lebS_small (f:Nat) (y:Int) (h:-64≤y) (h':y≤63):lebS f y=[y%128]:=by cases f <;> simp [lebS,h,h']
theorem lebS_step (f:Nat) (y:Int) (h:y < -64∨63<y):lebS (f+1) y=(y%128+128)::lebS f (y / 128):=by
 simp [lebS];omega
def fitU (f:Nat) (y:Int):Prop:=y<128 ^ (f+1)
theorem fitU_zero {y:Int} (h:fitU 0 y):y<128:=by unfold fitU at h;simpa using h
theorem fitU_step {f:Nat} {y:Int} (h:fitU (f+1) y):fitU f (y / 128):=by
 unfold fitU at *
 rw [Int.pow_succ] at h
 exact Int.ediv_lt_of_lt_mul (by omega) h
theorem fitU_start {y:Int} (h:y≤18446744073709551615):fitU 9 y:=by
 unfold fitU
 have e:(128:Int) ^ (9+1)=1180591620717411303424:=by decide
 rw [e];omega
def fitS (f:Nat) (y:Int):Prop:=-(128 ^ f*64)≤y∧y<128 ^ f*64
theorem fitS_zero {y:Int} (h:fitS 0 y):-64≤y∧y≤63:=by unfold fitS at h;simp at h;omega
theorem fitS_step {f:Nat} {y:Int} (h:fitS (f+1) y):fitS f (y / 128):=by
 unfold fitS at *
 rw [Int.pow_succ] at h
 generalize (128:Int) ^ f=p at *
 omega
theorem fitS_start {y:Int} (h:-9223372036854775808≤y) (h':y≤9223372036854775807):fitS 9 y:=by
 unfold fitS
 have e:(128:Int) ^ 9=9223372036854775808:=by decide
 rw [e];omega
theorem lebU_len (f:Nat) (y:Int):1≤(lebU f y).length∧(lebU f y).length≤f+1:=by
 induction f generalizing y with
 | zero=>simp [lebU]
 | succ f ih=>simp only [lebU];split <;> simp;exact (ih _).2
theorem lebS_len (f:Nat) (y:Int):1≤(lebS f y).length∧(lebS f y).length≤f+1:=by
 induction f generalizing y with
 | zero=>simp [lebS]
 | succ f ih=>simp only [lebS];split <;> simp;exact (ih _).2
theorem lebU_bytes (f:Nat) (y:Int) (h0:0≤y) (h:fitU f y):∀ b ∈ lebU f y,0≤b∧b≤255:=by
 induction f generalizing y with
 | zero=>have:=fitU_zero h;simp [lebU];omega
 | succ f ih =>
  intro b hb
  simp only [lebU] at hb
  split at hb
  · simp at hb;omega
  · simp at hb
    rcases hb with rfl | hb
    · omega
    · exact ih (y / 128) (by omega) (fitU_step h) b hb
theorem lebS_bytes (f:Nat) (y:Int):∀ b ∈ lebS f y,0≤b∧b≤255:=by
 induction f generalizing y with
 | zero=>simp [lebS];omega
 | succ f ih =>
  intro b hb
  simp only [lebS] at hb
  split at hb
  · simp at hb;omega
  · simp at hb
    rcases hb with rfl | hb
    · omega
    · exact ih (y / 128) b hb
def cutU (x wd:Int):Int:=if 64≤wd then x else IntKind.u64.wrap (x*2 ^ (64-wd).toNat) / 2 ^ (64-wd).toNat
def cutS (x wd:Int):Int:=if 64≤wd then x else wrap64 (x*2 ^ (64-wd).toNat) / 2 ^ (64-wd).toNat
theorem cutU_7 (x:Int):cutU x 7=x%128:=by
 unfold cutU
 rw [if_neg (by omega),IntKind.wrap_u64]
 have e:(2:Int) ^ (64-(7:Int)).toNat=144115188075855872:=by decide
 rw [e];omega
theorem cutS_7 (x:Int):cutS x 7=(x+64)%128-64:=by
 unfold cutS wrap64
 rw [if_neg (by omega)]
 have e:(2:Int) ^ (64-(7:Int)).toNat=144115188075855872:=by decide
 rw [e];omega
theorem or128 (y:Int):bits .or .u8 (y%256) 128=y%128+128:=by
 rw [u8_or _ _ (by omega) (by omega) (by omega) (by omega)]
 have h:∀ n:Nat,n<256→n ||| 128=n%128+128:=by decide +kernel
 have:=h (y%256).toNat (by omega)
 show (((y%256).toNat ||| 128:Nat):Int)=_
 omega
theorem andNot128 (y:Int):bits .andNot .u8 (y%256) 128=y%128:=by
 rw [u8_andNot _ _ (by omega) (by omega) (by omega) (by omega)]
 have h:∀ n:Nat,n<256→n &&& (255-128)=n%128:=by decide +kernel
 have:=h (y%256).toNat (by omega)
 show (((y%256).toNat &&& (255-128):Nat):Int)=_
 omega
theorem u64w (y:Int):0≤IntKind.u64.wrap y∧IntKind.u64.wrap y≤18446744073709551615∧IntKind.u64.wrap y%128=y%128:=by
 rw [IntKind.wrap_u64];omega
theorem andNot128' (y:Int) (h0:0≤y) (h:y<128):bits .andNot .u8 y 128=y:=by
 have:=andNot128 y
 rw [show y%256=y by omega] at this
 omega
open Go.RowKit
theorem cutU_any (x wd:Int) (w:World) (_h0:0≤x) (_h1:x≤18446744073709551615) (hw:1≤wd) (hw2:wd≤1000) :
    Calls Tryz.prog 249 #[.int .u64 x,.int .i64 wd] w fun e w'=>e=.returned (.int .u64 (cutU x wd))∧w=w':=by
 by_cases h:64≤wd
 · have e:cutU x wd=x:=by unfold cutU;rw [if_pos h]
   rw [e]
   clear e
   go_enter Tryz.func249,Tryz.ntmps249
   go_wp2
   go_ret
   exact ⟨rfl,rfl⟩
 · have e:cutU x wd=IntKind.u64.wrap (x*2 ^ (64-wd).toNat) / 2 ^ (64-wd).toNat:=by unfold cutU;rw [if_neg h]
   rw [e]
   clear e
   go_enter Tryz.func249,Tryz.ntmps249
   go_wp2
   go_ret
   exact ⟨rfl,rfl⟩
theorem cutS_any (x wd:Int) (w:World) (_h0:-9223372036854775808≤x) (_h1:x≤9223372036854775807) (hw:1≤wd) (hw2:wd≤1000) :
    Calls Tryz.prog 254 #[.int .i64 x,.int .i64 wd] w fun e w'=>e=.returned (.int .i64 (cutS x wd))∧w=w':=by
 by_cases h:64≤wd
 · have e:cutS x wd=x:=by unfold cutS;rw [if_pos h]
   rw [e]
   clear e
   go_enter Tryz.func254,Tryz.ntmps254
   go_wp2
   go_ret
   exact ⟨rfl,rfl⟩
 · have e:cutS x wd=wrap64 (x*2 ^ (64-wd).toNat) / 2 ^ (64-wd).toNat:=by unfold cutS;rw [if_neg h]
   rw [e]
   clear e
   go_enter Tryz.func254,Tryz.ntmps254
   go_wp2
   go_ret
   exact ⟨rfl,rfl⟩
theorem Tryz.info5:(Tryz.prog.info? 5).map (fun i=>(i.zero,i.size,i.bytes))=some (some (.int .u8 0),1,1):=by kernel_rfl
theorem below_push {B:Nat} {w wr w1:World} {v:Value} {n:Nat} {xs:List Value} {o:Obj} (hown:wr.ownsRow B 5 1 v n xs) (hbel:Below B w wr) (hB:B≤wr.heap.size) (hgrow:(wr.alloc o).grownBy w1 v.ownBlock):Below B w w1 :=
 (hbel.alloc hB o).grown hgrow (by simp;omega) (fun j hj=>(hown.lt j hj).1)
theorem oneB (b:Int):∀ u ∈ [Value.int .u8 b],u.oneCell'=true:=by
 intro u hu;simp at hu;subst hu;rfl
theorem owns_push {B:Nat} {w1:World} {v:Value} {pre:List Int} {b:Int} (h:w1.ownsRow B 5 1 v (pre.length+1) (U pre++[.int .u8 b])):w1.ownsRow B 5 1 v (pre++[b]).length (U (pre++[b])):=by
 simpa using h
open Go.RowKit
theorem specPutU_any (x:Int) (w:World) (h0:0≤x) (h1:x≤18446744073709551615) :
    Calls Tryz.prog 77 #[.int .u64 x] w fun e w'=>∃ v,e=.returned v∧w'.ownsRow w.heap.size 5 1 v (lebU 9 x).length (U (lebU 9 x))∧Below w.heap.size w w':=by
 obtain ⟨i0,hi,hz0,hz1,hz2⟩:=info_parts Tryz.info5
 have hfit:=fitU_start h1
 go_enter Tryz.func77,Tryz.ntmps77
 go_wp2
 go_loopw [0,3] (fun xv v wr=>∃ (f:Nat) (y:Int) (pre:List Int),xv=.int .u64 y∧0≤y∧y≤18446744073709551615∧fitU f y∧pre.length+f≤9∧Hid (pre++lebU f y=lebU 9 x)∧wr.ownsRow w.heap.size 5 1 v pre.length (U pre)∧Below w.heap.size w wr)
  (fun xv _ _=>(intOf xv).toNat)
 case atStart =>
  exact ⟨9,x,[],rfl,h0,h1,hfit,by simp,rfl,World.ownsRow_lit w #[] 0 (Nat.le_refl _) (Nat.zero_le _) rfl,(Below.refl _ _).alloc (Nat.le_refl _) _⟩
 case round =>
  obtain ⟨f,y,pre,rfl,hy0,hy1,hf,hpl,HQ,hown,hbel⟩:=hrel
  have hsz:=hbel.size
  by_cases hc:128≤y
  · go_wp2_with (first | (at_builtin;refine wpList_append_own _ rfl _ _ 50 rfl w.heap.size 5 i0 (.int .u8 0) 1 1 Tryz.underlying50 hi hz0 hz1 hz2 rfl (by decide) _ _ _ rfl (hown.alloc _) ⟨wr.heap.size,0,none⟩ 1 1 [.int .u8 (y%128+128)] rfl rfl (cell_one_new _ _ _) (oneB _) (by unfold maxLen;omega) (by omega) (by simp;omega) ?_;intro v' w1 hown' hgrow hnn))
    have hbel':=below_push hown hbel hsz hgrow
    have hown2:=owns_push hown'
    clear hown' hgrow hown hbel hsz hnn
    go_wp2
    go_roundw
    case rel =>
     cases f with
     | zero=>have:=fitU_zero hf;omega
     | succ f=>exact ⟨f,y / 128,pre++[y%128+128],rfl,by omega,by omega,fitU_step hf,by simp;omega,(by show _=_;rw [← HQ.out,lebU_step f y (by omega)];simp),hown2,hbel'⟩
    case measure=>simp [intOf];omega
  · go_wp2_with (first | (at_builtin;refine wpList_append_own _ rfl _ _ 50 rfl w.heap.size 5 i0 (.int .u8 0) 1 1 Tryz.underlying50 hi hz0 hz1 hz2 rfl (by decide) _ _ _ rfl (hown.alloc _) ⟨wr.heap.size,0,none⟩ 1 1 [.int .u8 (y)] rfl rfl (cell_one_new _ _ _) (oneB _) (by unfold maxLen;omega) (by omega) (by simp;omega) ?_;intro v' w1 hown' hgrow hnn))
    have hbel':=below_push hown hbel hsz hgrow
    have hown2:=owns_push hown'
    have e:pre++[y]=lebU 9 x:=by rw [← HQ.out,lebU_small f y (by omega)]
    rw [e] at hown2
    clear hown' hgrow hown hbel hsz hnn e
    go_wp2
    go_ret
    exact ⟨v',rfl,hown2,hbel'⟩
theorem lebPutU_any (x:Int) (w:World) (h0:0≤x) (h1:x≤18446744073709551615) :
    Calls Tryz.prog 236 #[.int .u64 x] w fun e w'=>∃ v,e=.returned v∧w'.ownsRow w.heap.size 5 1 v (lebU 9 x).length (U (lebU 9 x))∧Below w.heap.size w w':=by
 obtain ⟨i0,hi,hz0,hz1,hz2⟩:=info_parts Tryz.info5
 have hfit:=fitU_start h1
 go_enter Tryz.func236,Tryz.ntmps236
 go_wp2
 go_loopw [0,3] (fun xv v wr=>∃ (f:Nat) (y:Int) (pre:List Int),xv=.int .u64 y∧0≤y∧y≤18446744073709551615∧fitU f y∧pre.length+f≤9∧Hid (pre++lebU f y=lebU 9 x)∧wr.ownsRow w.heap.size 5 1 v pre.length (U pre)∧Below w.heap.size w wr)
  (fun xv _ _=>(intOf xv).toNat)
 case atStart =>
  exact ⟨9,x,[],rfl,h0,h1,hfit,by simp,rfl,World.ownsRow_lit w #[] 0 (Nat.le_refl _) (Nat.zero_le _) rfl,(Below.refl _ _).alloc (Nat.le_refl _) _⟩
 case round =>
  obtain ⟨f,y,pre,rfl,hy0,hy1,hf,hpl,HQ,hown,hbel⟩:=hrel
  have hsz:=hbel.size
  by_cases hc:128≤y
  · have hne:(cutU y 7 != y)=true:=by rw [bne_iff_ne,cutU_7 y];omega
    go_wp2_with (first | (go_at_call 249;refine (cutU_any _ _ _ (by omega) (by omega) (by omega) (by omega)).mono ?_;rintro e w' ⟨rfl,rfl⟩) | (at_builtin;refine wpList_append_own _ rfl _ _ 50 rfl w.heap.size 5 i0 (.int .u8 0) 1 1 Tryz.underlying50 hi hz0 hz1 hz2 rfl (by decide) _ _ _ rfl (hown.alloc _) ⟨wr.heap.size,0,none⟩ 1 1 [.int .u8 (bits .or .u8 (y%256) 128)] rfl rfl (cell_one_new _ _ _) (oneB _) (by unfold maxLen;omega) (by omega) (by simp;omega) ?_;intro v' w1 hown' hgrow hnn))
    have hbel':=below_push hown hbel hsz hgrow
    rw [or128] at hown'
    have hown2:=owns_push hown'
    clear hown' hgrow hown hbel hsz hnn
    go_wp2
    go_roundw
    case rel =>
     cases f with
     | zero=>have:=fitU_zero hf;omega
     | succ f=>exact ⟨f,y / 128,pre++[y%128+128],rfl,by omega,by omega,fitU_step hf,by simp;omega,(by show _=_;rw [← HQ.out,lebU_step f y (by omega)];simp),hown2,hbel'⟩
    case measure=>simp [intOf];omega
  · have hne:(cutU y 7 != y)=false:=by rw [bne_eq_false_iff_eq,cutU_7 y];omega
    go_wp2_with (first | (go_at_call 249;refine (cutU_any _ _ _ (by omega) (by omega) (by omega) (by omega)).mono ?_;rintro e w' ⟨rfl,rfl⟩) | (at_builtin;refine wpList_append_own _ rfl _ _ 50 rfl w.heap.size 5 i0 (.int .u8 0) 1 1 Tryz.underlying50 hi hz0 hz1 hz2 rfl (by decide) _ _ _ rfl (hown.alloc _) ⟨wr.heap.size,0,none⟩ 1 1 [.int .u8 (bits .andNot .u8 y 128)] rfl rfl (cell_one_new _ _ _) (oneB _) (by unfold maxLen;omega) (by omega) (by simp;omega) ?_;intro v' w1 hown' hgrow hnn))
    have hbel':=below_push hown hbel hsz hgrow
    rw [andNot128' y hy0 (by omega)] at hown'
    have hown2:=owns_push hown'
    have e:pre++[y]=lebU 9 x:=by rw [← HQ.out,lebU_small f y (by omega)]
    rw [e] at hown2
    clear hown' hgrow hown hbel hsz hnn e
    go_wp2
    go_ret
    exact ⟨v',rfl,hown2,hbel'⟩
open Go.RowKit
theorem specPutS_any (x:Int) (w:World) (h0:-9223372036854775808≤x) (h1:x≤9223372036854775807) :
    Calls Tryz.prog 222 #[.int .i64 x] w fun e w'=>∃ v,e=.returned v∧w'.ownsRow w.heap.size 5 1 v (lebS 9 x).length (U (lebS 9 x))∧Below w.heap.size w w':=by
 obtain ⟨i0,hi,hz0,hz1,hz2⟩:=info_parts Tryz.info5
 have hfit:=fitS_start h0 h1
 go_enter Tryz.func222,Tryz.ntmps222
 go_wp2
 go_loopw [0,3] (fun xv v wr=>∃ (f:Nat) (y:Int) (pre:List Int),xv=.int .i64 y∧-9223372036854775808≤y∧y≤9223372036854775807∧fitS f y∧pre.length+f≤9∧Hid (pre++lebS f y=lebS 9 x)∧wr.ownsRow w.heap.size 5 1 v pre.length (U pre)∧Below w.heap.size w wr)
  (fun xv _ _=>(intOf xv).natAbs)
 case atStart =>
  exact ⟨9,x,[],rfl,h0,h1,hfit,by simp,rfl,World.ownsRow_lit w #[] 0 (Nat.le_refl _) (Nat.zero_le _) rfl,(Below.refl _ _).alloc (Nat.le_refl _) _⟩
 case round =>
  obtain ⟨f,y,pre,rfl,hy0,hy1,hf,hpl,HQ,hown,hbel⟩:=hrel
  have hsz:=hbel.size
  obtain ⟨hq0,hq1,hq2⟩:=u64w y
  by_cases hc:¬ (-64≤y∧y≤63)
  · rcases (show y < -64∨63<y by omega) with hc' | hc'
    · go_wp2_with (first | (at_builtin;refine wpList_append_own _ rfl _ _ 50 rfl w.heap.size 5 i0 (.int .u8 0) 1 1 Tryz.underlying50 hi hz0 hz1 hz2 rfl (by decide) _ _ _ rfl (hown.alloc _) ⟨wr.heap.size,0,none⟩ 1 1 [.int .u8 (y%128+128)] rfl rfl (cell_one_new _ _ _) (oneB _) (by unfold maxLen;omega) (by omega) (by simp;omega) ?_;intro v' w1 hown' hgrow hnn))
      have hbel':=below_push hown hbel hsz hgrow
      have hown2:=owns_push hown'
      clear hown' hgrow hown hbel hsz hnn hq0 hq1 hq2
      go_wp2
      go_roundw
      case rel =>
       cases f with
       | zero=>have:=fitS_zero hf;omega
       | succ f=>exact ⟨f,y / 128,pre++[y%128+128],rfl,by omega,by omega,fitS_step hf,by simp;omega,(by show _=_;rw [← HQ.out,lebS_step f y (by omega)];simp),hown2,hbel'⟩
      case measure=>simp [intOf];omega
    · go_wp2_with (first | (at_builtin;refine wpList_append_own _ rfl _ _ 50 rfl w.heap.size 5 i0 (.int .u8 0) 1 1 Tryz.underlying50 hi hz0 hz1 hz2 rfl (by decide) _ _ _ rfl (hown.alloc _) ⟨wr.heap.size,0,none⟩ 1 1 [.int .u8 (y%128+128)] rfl rfl (cell_one_new _ _ _) (oneB _) (by unfold maxLen;omega) (by omega) (by simp;omega) ?_;intro v' w1 hown' hgrow hnn))
      have hbel':=below_push hown hbel hsz hgrow
      have hown2:=owns_push hown'
      clear hown' hgrow hown hbel hsz hnn hq0 hq1 hq2
      go_wp2
      go_roundw
      case rel =>
       cases f with
       | zero=>have:=fitS_zero hf;omega
       | succ f=>exact ⟨f,y / 128,pre++[y%128+128],rfl,by omega,by omega,fitS_step hf,by simp;omega,(by show _=_;rw [← HQ.out,lebS_step f y (by omega)];simp),hown2,hbel'⟩
      case measure=>simp [intOf];omega
  · have hc1:-64≤y:=by omega
    have hc2:y≤63:=by omega
    clear hc
    go_wp2_with (first | (at_builtin;refine wpList_append_own _ rfl _ _ 50 rfl w.heap.size 5 i0 (.int .u8 0) 1 1 Tryz.underlying50 hi hz0 hz1 hz2 rfl (by decide) _ _ _ rfl (hown.alloc _) ⟨wr.heap.size,0,none⟩ 1 1 [.int .u8 (y%128)] rfl rfl (cell_one_new _ _ _) (oneB _) (by unfold maxLen;omega) (by omega) (by simp;omega) ?_;intro v' w1 hown' hgrow hnn))
    have hbel':=below_push hown hbel hsz hgrow
    have hown2:=owns_push hown'
    have e:pre++[y%128]=lebS 9 x:=by rw [← HQ.out,lebS_small f y (by omega) (by omega)]
    rw [e] at hown2
    clear hown' hgrow hown hbel hsz hnn e hq0 hq1 hq2
    go_wp2
    go_ret
    exact ⟨v',rfl,hown2,hbel'⟩
theorem lebPutS_any (x:Int) (w:World) (h0:-9223372036854775808≤x) (h1:x≤9223372036854775807) :
    Calls Tryz.prog 253 #[.int .i64 x] w fun e w'=>∃ v,e=.returned v∧w'.ownsRow w.heap.size 5 1 v (lebS 9 x).length (U (lebS 9 x))∧Below w.heap.size w w':=by
 obtain ⟨i0,hi,hz0,hz1,hz2⟩:=info_parts Tryz.info5
 have hfit:=fitS_start h0 h1
 go_enter Tryz.func253,Tryz.ntmps253
 go_wp2
 go_loopw [0,3] (fun xv v wr=>∃ (f:Nat) (y:Int) (pre:List Int),xv=.int .i64 y∧-9223372036854775808≤y∧y≤9223372036854775807∧fitS f y∧pre.length+f≤9∧Hid (pre++lebS f y=lebS 9 x)∧wr.ownsRow w.heap.size 5 1 v pre.length (U pre)∧Below w.heap.size w wr)
  (fun xv _ _=>(intOf xv).natAbs)
 case atStart =>
  exact ⟨9,x,[],rfl,h0,h1,hfit,by simp,rfl,World.ownsRow_lit w #[] 0 (Nat.le_refl _) (Nat.zero_le _) rfl,(Below.refl _ _).alloc (Nat.le_refl _) _⟩
 case round =>
  obtain ⟨f,y,pre,rfl,hy0,hy1,hf,hpl,HQ,hown,hbel⟩:=hrel
  have hsz:=hbel.size
  by_cases hc:¬ (-64≤y∧y≤63)
  · have hne:(cutS y 7 != y)=true:=by rw [bne_iff_ne,cutS_7 y];omega
    go_wp2_with (first | (go_at_call 254;refine (cutS_any _ _ _ (by omega) (by omega) (by omega) (by omega)).mono ?_;rintro e w' ⟨rfl,rfl⟩) | (at_builtin;refine wpList_append_own _ rfl _ _ 50 rfl w.heap.size 5 i0 (.int .u8 0) 1 1 Tryz.underlying50 hi hz0 hz1 hz2 rfl (by decide) _ _ _ rfl (hown.alloc _) ⟨wr.heap.size,0,none⟩ 1 1 [.int .u8 (bits .or .u8 (y%256) 128)] rfl rfl (cell_one_new _ _ _) (oneB _) (by unfold maxLen;omega) (by omega) (by simp;omega) ?_;intro v' w1 hown' hgrow hnn))
    have hbel':=below_push hown hbel hsz hgrow
    rw [or128] at hown'
    have hown2:=owns_push hown'
    clear hown' hgrow hown hbel hsz hnn
    go_wp2
    go_roundw
    case rel =>
     cases f with
     | zero=>have:=fitS_zero hf;omega
     | succ f=>exact ⟨f,y / 128,pre++[y%128+128],rfl,by omega,by omega,fitS_step hf,by simp;omega,(by show _=_;rw [← HQ.out,lebS_step f y (by omega)];simp),hown2,hbel'⟩
    case measure=>simp [intOf];omega
  · have hne:(cutS y 7 != y)=false:=by rw [bne_eq_false_iff_eq,cutS_7 y];omega
    go_wp2_with (first | (go_at_call 254;refine (cutS_any _ _ _ (by omega) (by omega) (by omega) (by omega)).mono ?_;rintro e w' ⟨rfl,rfl⟩) | (at_builtin;refine wpList_append_own _ rfl _ _ 50 rfl w.heap.size 5 i0 (.int .u8 0) 1 1 Tryz.underlying50 hi hz0 hz1 hz2 rfl (by decide) _ _ _ rfl (hown.alloc _) ⟨wr.heap.size,0,none⟩ 1 1 [.int .u8 (bits .andNot .u8 (y%256) 128)] rfl rfl (cell_one_new _ _ _) (oneB _) (by unfold maxLen;omega) (by omega) (by simp;omega) ?_;intro v' w1 hown' hgrow hnn))
    have hbel':=below_push hown hbel hsz hgrow
    rw [andNot128] at hown'
    have hown2:=owns_push hown'
    have e:pre++[y%128]=lebS 9 x:=by rw [← HQ.out,lebS_small f y (by omega) (by omega)]
    rw [e] at hown2
    clear hown' hgrow hown hbel hsz hnn e
    go_wp2
    go_ret
    exact ⟨v',rfl,hown2,hbel'⟩
open Go.RowKit
theorem implPutU_any (x:Int) (w:World) (h0:0≤x) (h1:x≤18446744073709551615) :
    Calls Tryz.prog 226 #[.int .u64 x] w fun e w'=>∃ v,e=.returned v∧w'.ownsRow w.heap.size 5 1 v (lebU 9 x).length (U (lebU 9 x))∧Below w.heap.size w w':=by
 go_enter Tryz.func226,Tryz.ntmps226
 go_wp2_with (go_at_call 236;refine (lebPutU_any _ _ h0 h1).mono ?_;rintro e w' ⟨v,rfl,ho,hb⟩)
 go_ret
 exact ⟨_,rfl,ho,hb⟩
theorem implPutS_any (x:Int) (w:World) (h0:-9223372036854775808≤x) (h1:x≤9223372036854775807) :
    Calls Tryz.prog 252 #[.int .i64 x] w fun e w'=>∃ v,e=.returned v∧w'.ownsRow w.heap.size 5 1 v (lebS 9 x).length (U (lebS 9 x))∧Below w.heap.size w w':=by
 go_enter Tryz.func252,Tryz.ntmps252
 go_wp2_with (go_at_call 253;refine (lebPutS_any _ _ h0 h1).mono ?_;rintro e w' ⟨v,rfl,ho,hb⟩)
 go_ret
 exact ⟨_,rfl,ho,hb⟩
end Go.Proofs.YtdbmolambolmgaaGreat
namespace Go.Proofs.YtdbmolambolmgaaGreat.By
open Go.RowKit
def Has (w:World) (a:Option Addr) (xs:List Int):Prop :=
 xs=[]∨∃ b off,a=some ⟨b,off,none⟩∧∀ i,i<xs.length→w.cell? ⟨b,off+i,none⟩=some (.int .u8 (xs.getD i 0))
theorem eq_any (a b:Option Addr) (ca cb:Nat) (xs:List Int) (w:World) (hl:xs.length≤1099511627776) (ha:Has w a xs) (hb:Has w b xs) :
    Calls Tryz.prog 13 #[.slice a xs.length ca,.slice b xs.length cb] w fun e w'=>e=.returned (.bool true)∧∃ n,w'=w.drewN n:=by
 by_cases hx:xs=[]
 · subst hx
   clear ha hb hl
   go_enter Tryz.func13,Tryz.ntmps13
   go_wp2
   refine wp_loop_rounds 1 ?_
   rw [rounds_succ]
   go_wp2
   go_ret
   exact ⟨rfl,0,rfl⟩
 · have hpos:0<xs.length:=List.length_pos_iff.2 hx
   rcases ha with h | ⟨b1,o1,rfl,hc1⟩
   · exact absurd h hx
   rcases hb with h | ⟨b2,o2,rfl,hc2⟩
   · exact absurd h hx
   have hpos':(0:Int)<(xs.length:Int):=by omega
   clear hx
   go_enter Tryz.func13,Tryz.ntmps13
   go_wp2
   go_loopw [5] (fun i wr=>∃ k:Nat,k≤xs.length∧i=.int .i64 k∧∃ m,wr=w.drewN m) (fun i _=>xs.length-(intOf i).toNat)
   case atStart=>exact ⟨0,Nat.zero_le _,rfl,0,rfl⟩
   case round =>
    obtain ⟨k,hk,rfl,m,rfl⟩:=hrel
    by_cases hlt:k<xs.length
    · have d1:(w.drewN m).cell? ⟨b1,o1+k,none⟩=some (.int .u8 (xs.getD k 0)):=hc1 k hlt
      have d2:(w.drewN m).cell? ⟨b2,o2+k,none⟩=some (.int .u8 (xs.getD k 0)):=hc2 k hlt
      have hki:(k:Int)<(xs.length:Int):=by omega
      go_wp2
      go_quiet (fail)
      go_wp2
      go_roundw
      case rel=>exact ⟨k+1,by omega,by go_num,_,rfl⟩
      case measure=>simp [intOf];omega
    · go_wp2
      go_ret
      exact ⟨rfl,m,rfl⟩
def marks (k n:Nat):List Int:=(List.range n).map fun i=>((k+i:Nat):Int)%256
theorem marks_len (k n:Nat):(marks k n).length=n:=by simp [marks]
theorem marks_at (k n i:Nat) (h:i<n):(marks k n).getD i 0=((k:Int)+i)%256:=by
 simp [marks,List.getD,h]
theorem held_any (a:Option Addr) (c n:Nat) (w:World) (hl:n≤1099511627776) (ha:Has w a (marks 1 n)) :
    Calls Tryz.prog 16 #[.slice a n c,.int .i64 1] w fun e w'=>e=.returned (.int .i64 ((1:Int)+n))∧w=w':=by
 by_cases hx:n=0
 · subst hx
   clear ha hl
   go_enter Tryz.func16,Tryz.ntmps16
   go_wp2
   refine wp_loop_rounds 1 ?_
   rw [rounds_succ]
   go_wp2
   go_ret
   exact ⟨rfl,rfl⟩
 · have hpos:0<n:=by omega
   rcases ha with h | ⟨b1,o1,rfl,hc1⟩
   · have:=marks_len 1 n;rw [h] at this;simp at this;omega
   rw [marks_len] at hc1
   clear hx
   go_enter Tryz.func16,Tryz.ntmps16
   go_wp2
   go_loop [1,5] (fun q i=>∃ k:Nat,k≤n∧i=.int .i64 k∧q=.int .i64 (1+k)) (fun _ i=>n-(intOf i).toNat)
   case atStart=>exact ⟨0,Nat.zero_le _,rfl,rfl⟩
   case round =>
    obtain ⟨k,hk,rfl,rfl⟩:=hrel
    by_cases hlt:k<n
    · have d1:w.cell? ⟨b1,o1+k,none⟩=some (.int .u8 ((1+(k:Int))%256)):=by rw [hc1 k hlt,marks_at 1 n k hlt];rfl
      have hki:(k:Int)<(n:Int):=by omega
      clear hc1
      go_wp2
      go_round
      case rel=>exact ⟨k+1,by omega,by go_num,by go_num⟩
      case measure=>simp [intOf];omega
    · have e:k=n:=by omega
      subst e
      go_wp2
      go_ret
      exact ⟨rfl,rfl⟩
theorem own_split {w:World} {B:Nat} {v:Value} {n:Nat} {L:List Int} (h:w.ownsRow B 5 1 v n (U L)) (hn:1≤n):∃ g cap,v=.slice (some ⟨g,0,none⟩) n cap∧B≤g∧g<w.heap.size:=by
 rcases h.2 with ⟨_,h0⟩ | ⟨g,cap,cur,hv,hB,hg,_⟩
 · omega
 · exact ⟨g,cap,hv,hB,(Array.getElem?_eq_some_iff.1 hg).1⟩
theorem own_has {w:World} {B g cap:Nat} {L:List Int} (h:w.ownsRow B 5 1 (.slice (some ⟨g,0,none⟩) L.length cap) L.length (U L)):Has w (some ⟨g,0,none⟩) L:=by
 refine .inr ⟨g,0,rfl,fun i hi=>?_⟩
 rw [Nat.zero_add,h.cellAt i (by omega)]
 simp [List.getD,hi]
theorem marks_step (k:Nat) (xs:List Int) (h:k<xs.length):(U (marks 1 k++xs.drop k)).set k (.int .u8 ((1+(k:Int))%256))=U (marks 1 (k+1)++xs.drop (k+1)):=by
 have e:marks 1 (k+1)=marks 1 k++[((1+k:Nat):Int)%256]:=by simp [marks,List.range_succ]
 rw [e,List.drop_eq_getElem_cons h]
 simp only [U,List.map_append,List.map_cons,List.append_assoc,List.cons_append,List.nil_append]
 rw [List.set_append_right _ _ (by simp [marks])]
 simp [marks]
theorem own_len {w:World} {B:Nat} {v:Value} {n:Nat} {L:List Int} (h:w.ownsRow B 5 1 v n (U L)):L.length=n:=by
 have:=h.1
 simpa using this
theorem mark_any (B g n cap:Nat) (xs:List Int) (w:World) (hl:n≤1099511627776) (hown:w.ownsRow B 5 1 (.slice (some ⟨g,0,none⟩) n cap) n (U xs)) :
    Calls Tryz.prog 15 #[.slice (some ⟨g,0,none⟩) n cap,.int .i64 1] w fun e w'=>e=.returned (.int .i64 ((1:Int)+n))∧w'.ownsRow B 5 1 (.slice (some ⟨g,0,none⟩) n cap) n (U (marks 1 n))∧w.grownBy w' (some g):=by
 have hxl:=own_len hown
 go_enter Tryz.func15,Tryz.ntmps15
 go_wp2
 go_loopw [1,5] (fun q i wr=>∃ k:Nat,k≤n∧i=.int .i64 k∧q=.int .i64 (1+k)∧wr.ownsRow B 5 1 (.slice (some ⟨g,0,none⟩) n cap) n (U (marks 1 k++xs.drop k))∧w.grownBy wr (some g)) (fun _ i _=>n-(intOf i).toNat)
 case atStart=>exact ⟨0,Nat.zero_le _,rfl,rfl,by simpa [marks] using hown,World.grownBy.refl _ _⟩
 case round =>
  obtain ⟨k,hk,rfl,rfl,ho,hg⟩:=hrel
  clear hown
  by_cases hlt:k<n
  · have hki:(k:Int)<(n:Int):=by omega
    have hcell:∃ u,wr.cell? ⟨g,k,none⟩=some u:=by
     rw [ho.cellAt k (by omega)]
     exact ⟨_,List.getElem?_eq_getElem (by simp [marks];omega)⟩
    obtain ⟨u,hu⟩:=hcell
    have hfz:=ho.frozenAt k
    obtain ⟨s1,s2⟩:=ho.stored k (.int .u8 ((1+(k:Int))%256))
    rw [marks_step k xs (by omega)] at s1
    have R:=And.intro s1 (grown_trans hg s2)
    clear s1 s2 ho hg hxl
    go_wp2
    go_roundw
    case rel=>exact ⟨k+1,by omega,by go_num,by go_num,R.1,R.2⟩
    case measure=>simp [intOf];omega
  · have e:k=n:=by omega
    subst e
    rw [List.drop_of_length_le (by omega),List.append_nil] at ho
    clear hxl
    go_wp2
    go_ret
    exact ⟨rfl,ho,hg⟩
end Go.Proofs.YtdbmolambolmgaaGreat.By
