import Derived.Test.YtipfjdogokanbaaGreatDoorGaa
import Derived.Test.YtipfjdogokanbaaGreatDoorGae
import Derived.Test.YtipfjdogokanbaaGreatDoorGaf
import Derived.Laws.AppendOwn
import Derived.Laws.OwnMore
import Derived.OwnWalk
import Derived.Deep.RegionLaw
set_option linter.all false
set_option maxHeartbeats 400000000
set_option maxRecDepth 100000
set_option linter.all false
namespace Go.Proofs.YtipfjdogokanbaaGreatDoor.Ed
open Go.RowKit
theorem JF (x:Int)(w:World)(h0:0<=x)(h1:x<=18446744073709551615) :
    Calls Tryz.prog 63 #[.int .u64 x] w λe w'=>∃ v,e=.returned v/\w'.ownsRow w.heap.size 5 1 v (QH 9 x).length (U (QH 9 x))/\Below w.heap.size w w':=by
 obtain ⟨i0,hi,hz0,hz1,hz2⟩:=info_parts Tryz.info5;have hfit:=fitU_start h1
 go_enter Tryz.func63,Tryz.ntmps63
 go_wp2
 go_loopw [0,3] (λxv v wr=>∃ (f:Nat) (y:Int) (pre:List Int),xv=.int .u64 y/\0<=y/\y<=18446744073709551615/\fitU f y/\pre.length+f<=9/\Hid (pre++QH f y=QH 9 x)/\wr.ownsRow w.heap.size 5 1 v pre.length (U pre)/\Below w.heap.size w wr)
  (λxv _ _=>(intOf xv).toNat)
 case atStart =>
  exact ⟨9,x,[],rfl,h0,h1,hfit,by simp,rfl,World.ownsRow_lit w #[] 0 (Nat.le_refl _) (Nat.zero_le _) rfl,(Below.refl _ _).alloc (Nat.le_refl _) _⟩
 case round =>
  obtain ⟨f,y,pre,rfl,hy0,hy1,hf,hpl,HQ,hown,hbel⟩:=hrel;have hsz:=hbel.size
  by_cases hc:128<=y
  . go_wp2_with (first|(at_builtin;refine wpList_append_own _ rfl _ _ 22 rfl w.heap.size 5 i0 (.int .u8 0) 1 1 Tryz.underlying22 hi hz0 hz1 hz2 rfl (by decide) _ _ _ rfl (hown.alloc _) ⟨wr.heap.size,0,none⟩ 1 1 [.int .u8 (y%128+128)] rfl rfl (cell_one_new _ _ _) (oneB _) (by unfold maxLen;omega) (by omega) (by simp;omega) ?_;intro v' w1 hown' hgrow hnn))
    have hbel':=QJ hown hbel hsz hgrow;have hown2:=Q0 hown';clear hown' hgrow hown hbel hsz hnn
    go_wp2
    go_roundw
    case rel =>
     cases f with
    |zero=>have:=Ge hf;omega
    |succ f=>exact ⟨f,y / 128,pre++[y%128+128],rfl,by omega,by omega,Gf hf,by simp;omega,(by show _=_;rw [<- HQ.o,lebU_step f y (by omega)];simp),hown2,hbel'⟩
    case measure=>simp [intOf];omega
  . go_wp2_with (first|(at_builtin;refine wpList_append_own _ rfl _ _ 22 rfl w.heap.size 5 i0 (.int .u8 0) 1 1 Tryz.underlying22 hi hz0 hz1 hz2 rfl (by decide) _ _ _ rfl (hown.alloc _) ⟨wr.heap.size,0,none⟩ 1 1 [.int .u8 (y)] rfl rfl (cell_one_new _ _ _) (oneB _) (by unfold maxLen;omega) (by omega) (by simp;omega) ?_;intro v' w1 hown' hgrow hnn))
    have hbel':=QJ hown hbel hsz hgrow;have hown2:=Q0 hown';have e:pre++[y]=QH 9 x:=by rw [<- HQ.o,J9 f y (by omega)]
    rw [e] at hown2;clear hown' hgrow hown hbel hsz hnn e
    go_wp2
    go_ret
    exact ⟨v',rfl,hown2,hbel'⟩
theorem lebPutU_any (x:Int)(w:World)(h0:0<=x)(h1:x<=18446744073709551615) :
    Calls Tryz.prog 147 #[.int .u64 x] w λe w'=>∃ v,e=.returned v/\w'.ownsRow w.heap.size 5 1 v (QH 9 x).length (U (QH 9 x))/\Below w.heap.size w w':=by
 obtain ⟨i0,hi,hz0,hz1,hz2⟩:=info_parts Tryz.info5;have hfit:=fitU_start h1
 go_enter Tryz.func147,Tryz.ntmps147
 go_wp2
 go_loopw [0,3] (λxv v wr=>∃ (f:Nat) (y:Int) (pre:List Int),xv=.int .u64 y/\0<=y/\y<=18446744073709551615/\fitU f y/\pre.length+f<=9/\Hid (pre++QH f y=QH 9 x)/\wr.ownsRow w.heap.size 5 1 v pre.length (U pre)/\Below w.heap.size w wr)
  (λxv _ _=>(intOf xv).toNat)
 case atStart =>
  exact ⟨9,x,[],rfl,h0,h1,hfit,by simp,rfl,World.ownsRow_lit w #[] 0 (Nat.le_refl _) (Nat.zero_le _) rfl,(Below.refl _ _).alloc (Nat.le_refl _) _⟩
 case round =>
  obtain ⟨f,y,pre,rfl,hy0,hy1,hf,hpl,HQ,hown,hbel⟩:=hrel;have hsz:=hbel.size
  by_cases hc:128<=y
  . have hne:(XP y 7 != y)=true:=by rw [bne_iff_ne,cutU_7 y];omega
    go_wp2_with (first|(go_at_call 181;refine (J2 _ _ _ (by omega) (by omega) (by omega) (by omega)).mono ?_;rintro e w' ⟨rfl,rfl⟩)|(at_builtin;refine wpList_append_own _ rfl _ _ 22 rfl w.heap.size 5 i0 (.int .u8 0) 1 1 Tryz.underlying22 hi hz0 hz1 hz2 rfl (by decide) _ _ _ rfl (hown.alloc _) ⟨wr.heap.size,0,none⟩ 1 1 [.int .u8 (bits .or .u8 (y%256) 128)] rfl rfl (cell_one_new _ _ _) (oneB _) (by unfold maxLen;omega) (by omega) (by simp;omega) ?_;intro v' w1 hown' hgrow hnn))
    have hbel':=QJ hown hbel hsz hgrow;rw [or128] at hown';have hown2:=Q0 hown';clear hown' hgrow hown hbel hsz hnn
    go_wp2
    go_roundw
    case rel =>
     cases f with
    |zero=>have:=Ge hf;omega
    |succ f=>exact ⟨f,y / 128,pre++[y%128+128],rfl,by omega,by omega,Gf hf,by simp;omega,(by show _=_;rw [<- HQ.o,lebU_step f y (by omega)];simp),hown2,hbel'⟩
    case measure=>simp [intOf];omega
  . have hne:(XP y 7 != y)=false:=by rw [bne_eq_false_iff_eq,cutU_7 y];omega
    go_wp2_with (first|(go_at_call 181;refine (J2 _ _ _ (by omega) (by omega) (by omega) (by omega)).mono ?_;rintro e w' ⟨rfl,rfl⟩)|(at_builtin;refine wpList_append_own _ rfl _ _ 22 rfl w.heap.size 5 i0 (.int .u8 0) 1 1 Tryz.underlying22 hi hz0 hz1 hz2 rfl (by decide) _ _ _ rfl (hown.alloc _) ⟨wr.heap.size,0,none⟩ 1 1 [.int .u8 (bits .andNot .u8 y 128)] rfl rfl (cell_one_new _ _ _) (oneB _) (by unfold maxLen;omega) (by omega) (by simp;omega) ?_;intro v' w1 hown' hgrow hnn))
    have hbel':=QJ hown hbel hsz hgrow;rw [andNot128' y hy0 (by omega)] at hown';have hown2:=Q0 hown';have e:pre++[y]=QH 9 x:=by rw [<- HQ.o,J9 f y (by omega)]
    rw [e] at hown2;clear hown' hgrow hown hbel hsz hnn e
    go_wp2
    go_ret
    exact ⟨v',rfl,hown2,hbel'⟩
end Go.Proofs.YtipfjdogokanbaaGreatDoor.Ed
set_option linter.all false
namespace Go.Proofs.YtipfjdogokanbaaGreatDoor.Ed
open Go.RowKit
theorem specPutS_any (x:Int)(w:World)(h0:-9223372036854775808<=x)(h1:x<=9223372036854775807) :
    Calls Tryz.prog 65 #[.int .i64 x] w λe w'=>∃ v,e=.returned v/\w'.ownsRow w.heap.size 5 1 v (Jn 9 x).length (U (Jn 9 x))/\Below w.heap.size w w':=by
 obtain ⟨i0,hi,hz0,hz1,hz2⟩:=info_parts Tryz.info5;have hfit:=fitS_start h0 h1
 go_enter Tryz.func65,Tryz.ntmps65
 go_wp2
 go_loopw [0,3] (λxv v wr=>∃ (f:Nat) (y:Int) (pre:List Int),xv=.int .i64 y/\-9223372036854775808<=y/\y<=9223372036854775807/\fitS f y/\pre.length+f<=9/\Hid (pre++Jn f y=Jn 9 x)/\wr.ownsRow w.heap.size 5 1 v pre.length (U pre)/\Below w.heap.size w wr)
  (λxv _ _=>(intOf xv).natAbs)
 case atStart =>
  exact ⟨9,x,[],rfl,h0,h1,hfit,by simp,rfl,World.ownsRow_lit w #[] 0 (Nat.le_refl _) (Nat.zero_le _) rfl,(Below.refl _ _).alloc (Nat.le_refl _) _⟩
 case round =>
  obtain ⟨f,y,pre,rfl,hy0,hy1,hf,hpl,HQ,hown,hbel⟩:=hrel;have hsz:=hbel.size;obtain ⟨hq0,hq1,hq2⟩:=QQ y
  by_cases hc:¬ (-64<=y/\y<=63)
  . rcases (show y < -64\/63<y by omega) with hc'|hc'
    . go_wp2_with (first|(at_builtin;refine wpList_append_own _ rfl _ _ 22 rfl w.heap.size 5 i0 (.int .u8 0) 1 1 Tryz.underlying22 hi hz0 hz1 hz2 rfl (by decide) _ _ _ rfl (hown.alloc _) ⟨wr.heap.size,0,none⟩ 1 1 [.int .u8 (y%128+128)] rfl rfl (cell_one_new _ _ _) (oneB _) (by unfold maxLen;omega) (by omega) (by simp;omega) ?_;intro v' w1 hown' hgrow hnn))
      have hbel':=QJ hown hbel hsz hgrow;have hown2:=Q0 hown';clear hown' hgrow hown hbel hsz hnn hq0 hq1 hq2
      go_wp2
      go_roundw
      case rel =>
       cases f with
      |zero=>have:=XA hf;omega
      |succ f=>exact ⟨f,y / 128,pre++[y%128+128],rfl,by omega,by omega,Gg hf,by simp;omega,(by show _=_;rw [<- HQ.o,X8 f y (by omega)];simp),hown2,hbel'⟩
      case measure=>simp [intOf];omega
    . go_wp2_with (first|(at_builtin;refine wpList_append_own _ rfl _ _ 22 rfl w.heap.size 5 i0 (.int .u8 0) 1 1 Tryz.underlying22 hi hz0 hz1 hz2 rfl (by decide) _ _ _ rfl (hown.alloc _) ⟨wr.heap.size,0,none⟩ 1 1 [.int .u8 (y%128+128)] rfl rfl (cell_one_new _ _ _) (oneB _) (by unfold maxLen;omega) (by omega) (by simp;omega) ?_;intro v' w1 hown' hgrow hnn))
      have hbel':=QJ hown hbel hsz hgrow;have hown2:=Q0 hown';clear hown' hgrow hown hbel hsz hnn hq0 hq1 hq2
      go_wp2
      go_roundw
      case rel =>
       cases f with
      |zero=>have:=XA hf;omega
      |succ f=>exact ⟨f,y / 128,pre++[y%128+128],rfl,by omega,by omega,Gg hf,by simp;omega,(by show _=_;rw [<- HQ.o,X8 f y (by omega)];simp),hown2,hbel'⟩
      case measure=>simp [intOf];omega
  . have hc1:-64<=y:=by omega
    have hc2:y<=63:=by omega
    clear hc
    go_wp2_with (first|(at_builtin;refine wpList_append_own _ rfl _ _ 22 rfl w.heap.size 5 i0 (.int .u8 0) 1 1 Tryz.underlying22 hi hz0 hz1 hz2 rfl (by decide) _ _ _ rfl (hown.alloc _) ⟨wr.heap.size,0,none⟩ 1 1 [.int .u8 (y%128)] rfl rfl (cell_one_new _ _ _) (oneB _) (by unfold maxLen;omega) (by omega) (by simp;omega) ?_;intro v' w1 hown' hgrow hnn))
    have hbel':=QJ hown hbel hsz hgrow;have hown2:=Q0 hown';have e:pre++[y%128]=Jn 9 x:=by rw [<- HQ.o,Xa f y (by omega) (by omega)]
    rw [e] at hown2;clear hown' hgrow hown hbel hsz hnn e hq0 hq1 hq2
    go_wp2
    go_ret
    exact ⟨v',rfl,hown2,hbel'⟩
theorem lebPutS_any (x:Int)(w:World)(h0:-9223372036854775808<=x)(h1:x<=9223372036854775807) :
    Calls Tryz.prog 148 #[.int .i64 x] w λe w'=>∃ v,e=.returned v/\w'.ownsRow w.heap.size 5 1 v (Jn 9 x).length (U (Jn 9 x))/\Below w.heap.size w w':=by
 obtain ⟨i0,hi,hz0,hz1,hz2⟩:=info_parts Tryz.info5;have hfit:=fitS_start h0 h1
 go_enter Tryz.func148,Tryz.ntmps148
 go_wp2
 go_loopw [0,3] (λxv v wr=>∃ (f:Nat) (y:Int) (pre:List Int),xv=.int .i64 y/\-9223372036854775808<=y/\y<=9223372036854775807/\fitS f y/\pre.length+f<=9/\Hid (pre++Jn f y=Jn 9 x)/\wr.ownsRow w.heap.size 5 1 v pre.length (U pre)/\Below w.heap.size w wr)
  (λxv _ _=>(intOf xv).natAbs)
 case atStart =>
  exact ⟨9,x,[],rfl,h0,h1,hfit,by simp,rfl,World.ownsRow_lit w #[] 0 (Nat.le_refl _) (Nat.zero_le _) rfl,(Below.refl _ _).alloc (Nat.le_refl _) _⟩
 case round =>
  obtain ⟨f,y,pre,rfl,hy0,hy1,hf,hpl,HQ,hown,hbel⟩:=hrel;have hsz:=hbel.size
  by_cases hc:¬ (-64<=y/\y<=63)
  . have hne:(Xv y 7 != y)=true:=by rw [bne_iff_ne,cutS_7 y];omega
    go_wp2_with (first|(go_at_call 158;refine (J3 _ _ _ (by omega) (by omega) (by omega) (by omega)).mono ?_;rintro e w' ⟨rfl,rfl⟩)|(at_builtin;refine wpList_append_own _ rfl _ _ 22 rfl w.heap.size 5 i0 (.int .u8 0) 1 1 Tryz.underlying22 hi hz0 hz1 hz2 rfl (by decide) _ _ _ rfl (hown.alloc _) ⟨wr.heap.size,0,none⟩ 1 1 [.int .u8 (bits .or .u8 (y%256) 128)] rfl rfl (cell_one_new _ _ _) (oneB _) (by unfold maxLen;omega) (by omega) (by simp;omega) ?_;intro v' w1 hown' hgrow hnn))
    have hbel':=QJ hown hbel hsz hgrow;rw [or128] at hown';have hown2:=Q0 hown';clear hown' hgrow hown hbel hsz hnn
    go_wp2
    go_roundw
    case rel =>
     cases f with
    |zero=>have:=XA hf;omega
    |succ f=>exact ⟨f,y / 128,pre++[y%128+128],rfl,by omega,by omega,Gg hf,by simp;omega,(by show _=_;rw [<- HQ.o,X8 f y (by omega)];simp),hown2,hbel'⟩
    case measure=>simp [intOf];omega
  . have hne:(Xv y 7 != y)=false:=by rw [bne_eq_false_iff_eq,cutS_7 y];omega
    go_wp2_with (first|(go_at_call 158;refine (J3 _ _ _ (by omega) (by omega) (by omega) (by omega)).mono ?_;rintro e w' ⟨rfl,rfl⟩)|(at_builtin;refine wpList_append_own _ rfl _ _ 22 rfl w.heap.size 5 i0 (.int .u8 0) 1 1 Tryz.underlying22 hi hz0 hz1 hz2 rfl (by decide) _ _ _ rfl (hown.alloc _) ⟨wr.heap.size,0,none⟩ 1 1 [.int .u8 (bits .andNot .u8 (y%256) 128)] rfl rfl (cell_one_new _ _ _) (oneB _) (by unfold maxLen;omega) (by omega) (by simp;omega) ?_;intro v' w1 hown' hgrow hnn))
    have hbel':=QJ hown hbel hsz hgrow;rw [andNot128] at hown';have hown2:=Q0 hown';have e:pre++[y%128]=Jn 9 x:=by rw [<- HQ.o,Xa f y (by omega) (by omega)]
    rw [e] at hown2;clear hown' hgrow hown hbel hsz hnn e
    go_wp2
    go_ret
    exact ⟨v',rfl,hown2,hbel'⟩
end Go.Proofs.YtipfjdogokanbaaGreatDoor.Ed
set_option linter.all false
namespace Go.Proofs.YtipfjdogokanbaaGreatDoor.Ed
open Go.RowKit
theorem implPutU_any (x:Int)(w:World)(h0:0<=x)(h1:x<=18446744073709551615) :
    Calls Tryz.prog 109 #[.int .u64 x] w λe w'=>∃ v,e=.returned v/\w'.ownsRow w.heap.size 5 1 v (QH 9 x).length (U (QH 9 x))/\Below w.heap.size w w':=by
 go_enter Tryz.func109,Tryz.ntmps109
 go_wp2_with (go_at_call 147;refine (lebPutU_any _ _ h0 h1).mono ?_;rintro e w' ⟨v,rfl,ho,hb⟩)
 go_ret
 exact ⟨_,rfl,ho,hb⟩
theorem implPutS_any (x:Int)(w:World)(h0:-9223372036854775808<=x)(h1:x<=9223372036854775807) :
    Calls Tryz.prog 110 #[.int .i64 x] w λe w'=>∃ v,e=.returned v/\w'.ownsRow w.heap.size 5 1 v (Jn 9 x).length (U (Jn 9 x))/\Below w.heap.size w w':=by
 go_enter Tryz.func110,Tryz.ntmps110
 go_wp2_with (go_at_call 148;refine (lebPutS_any _ _ h0 h1).mono ?_;rintro e w' ⟨v,rfl,ho,hb⟩)
 go_ret
 exact ⟨_,rfl,ho,hb⟩
end Go.Proofs.YtipfjdogokanbaaGreatDoor.Ed
namespace Go.Proofs.YtipfjdogokanbaaGreatDoor.Ed.By
open Go.RowKit
def Has (w:World)(a:Option Addr)(xs:List Int):Prop :=
 xs=[]\/∃ b off,a=some ⟨b,off,none⟩/\∀ i,i<xs.length->w.cell? ⟨b,off+i,none⟩=some (.int .u8 (xs.getD i 0))
theorem Q1 {w:World}{B:Nat}{v:Value}{n:Nat}{L:List Int}(h:w.ownsRow B 5 1 v n (U L))(hn:1<=n):∃ g cap,v=.slice (some ⟨g,0,none⟩) n cap/\B<=g/\g<w.heap.size:=by
 rcases h.2 with ⟨_,h0⟩|⟨g,cap,cur,hv,hB,hg,_⟩
 . omega
 . exact ⟨g,cap,hv,hB,(Array.getElem?_eq_some_iff.1 hg).1⟩
end Go.Proofs.YtipfjdogokanbaaGreatDoor.Ed.By
set_option linter.all false
namespace Go.Proofs.YtipfjdogokanbaaGreatDoor.Ed
open Go.RowKit Go.Sort
theorem Qx {w w':World}{B C e n:Nat}{v:Value}{xs:List Value}(h:w.ownsRow B e 1 v n xs)(hb:Below C w w')(hg:w.heap.size<=C):w'.ownsRow B e 1 v n xs:=by
 refine ⟨h.1,?_⟩
 rcases h.2 with h0|⟨g,cap,cur,hv,hB,hh,r⟩
 . exact .inl h0
 . subst hv
   exact .inr ⟨g,cap,cur,rfl,hB,(hb.block g (by have:=(h.lt g rfl).2;omega)).trans hh,r⟩
theorem Q8 {w:World}{B B' e n:Nat}{v:Value}{zs:List Value}(h:w.ownsRow B e 1 v n zs)(hB:B'<=B):w.ownsRow B' e 1 v n zs:=by
 refine ⟨h.1,?_⟩
 rcases h.2 with h0|⟨g,cap,cur,hv,hB',r⟩
 . exact .inl h0
 . exact .inr ⟨g,cap,cur,hv,by omega,r⟩
theorem XV (L:List Int):∀ u ∈ U L,u.oneCell'=true:=by
 intro u hu
 simp only [U,List.mem_map] at hu
 obtain ⟨y,_,rfl⟩:=hu
 rfl
theorem Q9 {w:World}{B g cap:Nat}{L:List Int}(h:w.ownsRow B 5 1 (.slice (some ⟨g,0,none⟩) L.length cap) L.length (U L)):∀ j u,(U L)[j]?=some u->w.cell? ((⟨g,0,none⟩:Addr).add j)=some u:=by
 intro j u hu
 have hj:j<L.length:=by
  rcases Nat.lt_or_ge j L.length with h|h
  . exact h
  . simp [U,List.getElem?_eq_none h] at hu
 have hadd:(⟨g,0,none⟩:Addr).add j=⟨g,j,none⟩:=by unfold Addr.add;split<;>simp_all
 rw [hadd,h.cellAt j (by omega)]
 exact hu
structure Jh (S:Nat->Prop)(w w':World):Prop where
 os:w'.os=w.os
 tape:w'.tape=w.tape
 output:w'.output=w.output
 size:w.heap.size<=w'.heap.size
 block:∀ k,S k->w'.heap[k]?=w.heap[k]?
theorem Jh.refl (S:Nat->Prop)(w:World):Jh S w w:=⟨rfl,rfl,rfl,Nat.le_refl _,λ_ _=>rfl⟩
theorem Jh.trans {S:Nat->Prop}{a b c:World}(h:Jh S a b)(k:Jh S b c):Jh S a c :=
 ⟨k.os.trans h.os,k.tape.trans h.tape,k.output.trans h.output,Nat.le_trans h.size k.size,λi hi=>(k.block i hi).trans (h.block i hi)⟩
theorem Jh.weak {S T:Nat->Prop}{a b:World}(h:Jh S a b)(hT:∀ k,T k->S k):Jh T a b:=⟨h.os,h.tape,h.output,h.size,λk hk=>h.block k (hT k hk)⟩
theorem Jh.of_below {S:Nat->Prop}{B:Nat}{a b:World}(h:Below B a b)(hS:∀ k,S k->k<B):Jh S a b:=⟨h.os,h.tape,h.output,h.size,λk hk=>h.block k (hS k hk)⟩
theorem Jh.below {B:Nat}{a b:World}(h:Jh (λk=>k<B) a b):Below B a b:=⟨h.os,h.tape,h.output,h.size,h.block⟩
theorem Jh.cell {S:Nat->Prop}{a b:World}(h:Jh S a b){g o:Nat}(hg:S g):b.cell? ⟨g,o,none⟩=a.cell? ⟨g,o,none⟩:=World.cell?_of_block (h.block g hg)
theorem Jh.frozen {S:Nat->Prop}{a b:World}(h:Jh S a b){g o:Nat}(hg:S g):b.frozen? ⟨g,o,none⟩=a.frozen? ⟨g,o,none⟩:=World.frozen?_of_block (h.block g hg)
theorem Jh.c5 {S:Nat->Prop}{x y:World}(h:Jh S x y){g o:Nat}{a b c d e:Value}(hc:C5 x g o a b c d e)(hg:S g):C5 y g o a b c d e:=by
 obtain ⟨⟨h0,h1,h2,h3,h4⟩,f⟩:=hc
 exact ⟨⟨(h.cell hg).trans h0,(h.cell hg).trans h1,(h.cell hg).trans h2,(h.cell hg).trans h3,(h.cell hg).trans h4⟩,λi=>(h.frozen hg).trans (f i)⟩
def Wr (w:World)(p:Nat)(S:Nat->Prop)(xs:List Int):Prop:=∃ v,w.cell? ⟨p,0,none⟩=some v/\w.frozen? ⟨p,0,none⟩=false/\w.ownsRow (p-1) 5 1 v xs.length (U xs)/\¬ S p/\(∀ k,v.ownBlock=some k->¬ S k/\k≠p)/\∀ k,S k->k<w.heap.size
theorem Wr.weak {w:World}{p:Nat}{S T:Nat->Prop}{xs:List Int}(h:Wr w p S xs)(hT:∀ k,T k->S k):Wr w p T xs:=by
 obtain ⟨v,c0,f0,ho,hp,hr,hS⟩:=h
 exact ⟨v,c0,f0,ho,λh=>hp (hT p h),λk hk=>⟨λh=>(hr k hk).1 (hT k h),(hr k hk).2⟩,λk hk=>hS k (hT k hk)⟩
theorem Wr.on {w w1:World}{p:Nat}{S:Nat->Prop}{xs:List Int}(h:Wr w p S xs)(hb:Below w.heap.size w w1):Wr w1 p (λk=>S k\/(w.heap.size<=k/\k<w1.heap.size)) xs:=by
 obtain ⟨v,c0,f0,ho,hp,hr,hS⟩:=h;have lt:p<w.heap.size:=World.block_lt_of_cell? w _ c0
 have:=hb.size
 refine ⟨v,(hb.cell (p:=⟨p,0,none⟩) lt).trans c0,(hb.frozen (p:=⟨p,0,none⟩) lt).trans f0,Qx ho hb (Nat.le_refl _),?_,?_,?_⟩
 . rintro (h|h)
   . exact hp h
   . omega
 . intro k hk
   have:=(ho.lt k hk).2
   refine ⟨?_,(hr k hk).2⟩
   rintro (h|h)
   . exact (hr k hk).1 h
   . omega
 . rintro k (h|h)
   . have:=hS k h;omega
   . omega
theorem wr_pushed {w W w1:World}{p:Nat}{S:Nat->Prop}{v v':Value}{xs ys:List Int}(c0:w.cell? ⟨p,0,none⟩=some v)(f0:w.frozen? ⟨p,0,none⟩=false)(ho:w.ownsRow (p-1) 5 1 v xs.length (U xs))(hp:¬ S p)(hr:∀ k,v.ownBlock=some k->¬ S k/\k≠p)(hS:∀ k,S k->k<w.heap.size)(hb:Below w.heap.size w W)(ho1:w1.ownsRow (p-1) 5 1 v' (xs.length+ys.length) (U xs++U ys))(hg:W.grownBy w1 v.ownBlock)(hl:v'.ownBlock=v.ownBlock\/v'.ownBlock=some W.heap.size) :
    Wr (w1.setCell ⟨p,0,none⟩ v') p S (xs++ys)/\Jh S w (w1.setCell ⟨p,0,none⟩ v')/\w1.cell? ⟨p,0,none⟩=some v/\w1.frozen? ⟨p,0,none⟩=false:=by
 have lt:p<w.heap.size:=World.block_lt_of_cell? w _ c0;have hs:=hb.size;have hs1:=hg.size;have hne:some p≠v.ownBlock:=λe=>(hr p e.symm).2 rfl;have hk:w1.heap[p]?=w.heap[p]?:=(hg.block p (by omega) hne).trans (hb.block p lt);have c1:w1.cell? ⟨p,0,none⟩=some v:=(World.cell?_of_block hk).trans c0;have f1:w1.frozen? ⟨p,0,none⟩=false:=(World.frozen?_of_block hk).trans f0
 have hne':v'.ownBlock≠some p:=λe=>by
  rcases hl with h|h
  . exact (hr p (h ▸ e)).2 rfl
  . rw [h] at e;injection e with e;omega
 refine ⟨⟨v',Qh c1,by rw [World.frozen?_setCell];exact f1,?_,hp,?_,?_⟩,?_,c1,f1⟩
 . have:w1.ownsRow (p-1) 5 1 v' (xs++ys).length (U (xs++ys)):=by simpa [U] using ho1
   exact Qs this hne'
 . intro k hk
   rcases hl with e|e
   . exact hr k (e ▸ hk)
   . rw [e] at hk
     injection hk with hk
     refine ⟨λhS'=>?_,by omega⟩
     have:=hS k hS'
     omega
 . intro k hk
   have:=hS k hk
   simp [World.setCell]
   omega
 . refine ⟨hg.os.trans hb.os,hg.tape.trans hb.tape,hg.output.trans hb.output,by simp [World.setCell];omega,λk hk=>?_⟩
   have:=hS k hk
   have hkp:k≠p:=λe=>hp (by rw [<- e];exact hk);rw [Below.heap_setCell w1 ⟨p,0,none⟩ v' k hkp,hg.block k (by omega) (λe=>(hr k e.symm).1 hk),hb.block k this]
theorem QG {P:Program}{w:World}{ops:Array Oper}{o:Oper}{a:Act}{K:Act->World->Prop}{Q:Exit->Act->World->Prop}{E:Prop}(hgd:o.guard=none)(s x:Operand)(t:TypeId)
    (ho:o.op=.call { callee:=.builtin .append,args:=#[s,x],argTypes:=#[t,t] })
    (base:Nat) (e:TypeId) (i:TypeInfo) (z:Value) (size bytes:Nat) (ht:P.underlying t=some (.slice e)) (hi:P.info? e=some i) (hz:i.zero=some z)
    (hsize:i.size=size) (hby:i.bytes=bytes) (hzs:z.cells.size=size) (hsz:0<size)
    (v:Value) (n:Nat) (xs:List Value) (hs:a.eval s=v) (hown:w.ownsRow base e size v n xs)
    (ad:Addr) (m c:Nat) (news:List Value) (hx:a.eval x=.slice (some ad) m c) (hl:news.length=m*size) (hn:∀ j u,news[j]?=some u->w.cell? (ad.add j)=some u) (h1:∀ u ∈ news,u.oneCell'=true)
    (h63:n+m<=maxLen) (hbytes:(n+m)*bytes<=140737488355328) (hbase:base<=w.heap.size)
    (h:∀ v' w',w'.ownsRow base e size v' (n+m) (xs++news)->w.grownBy w' v.ownBlock->(v'.ownBlock=v.ownBlock\/v'.ownBlock=some w.heap.size)->K (a.put o.dst v') w') :
    if Region.wanted o (yielded ops a.tmps)=true then Oper.wp P o a w K Q else E:=by
 have hw:Region.wanted o (yielded ops a.tmps)=true:=by simp [Region.wanted,hgd]
 rw [if_pos hw];obtain ⟨v',w',hr,h2,h3,h4,h5⟩:=run_append_own_at (P:=P) w base t o.type e i z size bytes ht hi hz hsize hby hzs hsz v n xs hown ad m c news hl hn h1 h63 hbytes hbase;unfold Oper.wp execOp
 simp only [ho,resolve,invoke,builtin,Sem.run_bind,Sem.run_pure,Result.andThen_ok,List.map_toArray,List.map_cons,List.map_nil,hs,hx,hr]
 exact h v' w' h2 h3 h5
theorem X0 (p:Nat)(S:Nat->Prop)(xs:List Int)(x:Int)(w:World)(hl:xs.length<=1099511627776)(hW:Wr w p S xs) :
    Calls Tryz.prog 53 #[.pointer (some ⟨p,0,none⟩),.int .i64 x] w λe w'=>e=.returned (.tuple #[])/\Wr w' p S (xs++[x%256])/\Jh S w w':=by
 obtain ⟨i0,hi,hz0,hz1,hz2⟩:=info_parts Tryz.info5;obtain ⟨v,c0,f0,own,hp,hr,hS⟩:=hW;have lt:p<w.heap.size:=World.block_lt_of_cell? w _ c0;obtain ⟨a,c,rfl⟩:=Qw own;have HP:=Hm (λ(W w1:World) (v':Value) (h1:Below w.heap.size w W) (h2:w1.ownsRow (p-1) 5 1 v' (xs.length+1) (U xs++[.int .u8 (x%256)])) (h3:W.grownBy w1 (Value.slice a xs.length c).ownBlock) (h4:v'.ownBlock=(Value.slice a xs.length c).ownBlock\/v'.ownBlock=some W.heap.size)=>wr_pushed (ys:=[x%256]) c0 f0 own hp hr hS h1 h2 h3 h4);clear hp hr hS
 go_enter Tryz.func53,Tryz.ntmps53
 go_wp2_with (at_builtin;refine wpList_append_own_at _ rfl _ _ 22 rfl (p-1) 5 i0 (.int .u8 0) 1 1 Tryz.underlying22 hi hz0 hz1 hz2 rfl (by decide) _ _ _ rfl (own.alloc _) ⟨w.heap.size,0,none⟩ 1 1 [.int .u8 (x%256)] rfl rfl (cell_one_new _ _ _) (oneB _) (by unfold maxLen;omega) (by omega) (by simp;omega) ?_;intro v' w2 hown' hgrow hnn hloc;have HQ:=Hm (HP.o _ _ _ ((Below.refl _ _).alloc (Nat.le_refl _) _) hown' hgrow hloc);have d0:=HQ.o.2.2.1;have df:=HQ.o.2.2.2;obtain ⟨va,vc,rfl⟩:=Qw hown';clear hown' hgrow hnn hloc own c0 f0 HP)
 go_end0
 exact ⟨rfl,HQ.o.1,HQ.o.2.1⟩
end Go.Proofs.YtipfjdogokanbaaGreatDoor.Ed
set_option linter.all false
namespace Go.Proofs.YtipfjdogokanbaaGreatDoor.Ed
open Go.RowKit Go.Sort
theorem wu32_c (p:Nat)(S:Nat->Prop)(xs:List Int)(x:Int)(w:World)(h0:0<=x)(h1:x<=9223372036854775807)(hl:xs.length<=1099511627776)(hW:Wr w p S xs) :
    Calls Tryz.prog 54 #[.pointer (some ⟨p,0,none⟩),.int .i64 x] w λe w'=>e=.returned (.tuple #[])/\Wr w' p S (xs++QH 9 x)/\Jh S w w':=by
 obtain ⟨i0,hi,hz0,hz1,hz2⟩:=info_parts Tryz.info5;obtain ⟨v,c0,f0,own,hp,hr,hS⟩:=hW;have lt:p<w.heap.size:=World.block_lt_of_cell? w _ c0;obtain ⟨a,c,rfl⟩:=Qw own;obtain ⟨L,hL⟩:∃ L,L=QH 9 x:=⟨_,rfl⟩;have hlen:=Jc 9 x;have KP:=Hm (λw=>implPutU_any x w h0 (by omega));rw [<- hL] at hlen KP⊢;have HP:=Hm (λ(W w1:World) (v':Value) (h1:Below w.heap.size w W) (h2:w1.ownsRow (p-1) 5 1 v' (xs.length+L.length) (U xs++U L)) (h3:W.grownBy w1 (Value.slice a xs.length c).ownBlock) (h4:v'.ownBlock=(Value.slice a xs.length c).ownBlock\/v'.ownBlock=some W.heap.size)=>wr_pushed (ys:=L) c0 f0 own hp hr hS h1 h2 h3 h4);have OW:=Hm own;obtain ⟨hl0,hl1⟩:=hlen;have hlU:(U L).length=L.length*1:=by simp
 have HC:=Hm c0;have hwx:IntKind.u64.wrap x=x:=by rw [IntKind.wrap_u64];omega
 clear hL own hp hr hS
 go_enter Tryz.func54,Tryz.ntmps54
 go_region_law (first
  | (refine QG rfl (.tmp 8) (.tmp 11) 22 rfl (p-1) 5 i0 (.int .u8 0) 1 1 Tryz.underlying22 hi hz0 hz1 hz2 rfl (by decide) (.slice a xs.length c) xs.length (U xs) (by simp [Act.eval,Act.put]) O1.o ⟨g,0,none⟩ L.length gc (U L) (by simp [Act.eval,Act.put]) hlU S1.o (XV _) (by simp [maxLen];omega) (by omega) Z1.o ?_
     intro v2 w2 own2 gr2 hloc
     have HQ:=Hm (HP.o _ _ _ B1.o own2 gr2 hloc);have d0:=HQ.o.2.2.1;have df:=HQ.o.2.2.2;obtain ⟨va,vc,rfl⟩:=Qw own2;clear own2 gr2 hloc)
  | (go_simp
     refine (KP.o _).mono ?_
     rintro e w1 ⟨v1,rfl,ho1,hb1⟩;obtain ⟨g,gc,rfl,hg,hg'⟩:=By.Q1 ho1 hl0;have hb2:Below w.heap.size w w1:=(Below.refl _ _).drew.trans hb1;have c1:w1.cell? ⟨p,0,none⟩=some (.slice a xs.length c):=(hb2.cell (p:=⟨p,0,none⟩) lt).trans HC.o;have O1:=Hm (Qx OW.o hb2 (Nat.le_refl _));have S1:=Hm (Q9 ho1);have B1:=Hm hb2;have Z1:Hid (p-1<=w1.heap.size):=by have:=hb2.size;show _<=_;omega
     clear ho1 hb1 hb2 hg hg'))
 all_goals
  go_wp2_with fail
  go_end0
  exact ⟨rfl,HQ.o.1,HQ.o.2.1⟩
end Go.Proofs.YtipfjdogokanbaaGreatDoor.Ed
namespace Go.Proofs.YtipfjdogokanbaaGreatDoor.Ed
open Go.RowKit Go.Sort
theorem wsig_c (p:Nat)(S:Nat->Prop)(xs:List Int)(x:Int)(w:World)(h0:-9223372036854775808<=x)(h1:x<=9223372036854775807)(hl:xs.length<=1099511627776)(hW:Wr w p S xs) :
    Calls Tryz.prog 56 #[.pointer (some ⟨p,0,none⟩),.int .i64 x] w λe w'=>e=.returned (.tuple #[])/\Wr w' p S (xs++Jn 9 x)/\Jh S w w':=by
 obtain ⟨i0,hi,hz0,hz1,hz2⟩:=info_parts Tryz.info5;obtain ⟨v,c0,f0,own,hp,hr,hS⟩:=hW;have lt:p<w.heap.size:=World.block_lt_of_cell? w _ c0;obtain ⟨a,c,rfl⟩:=Qw own;obtain ⟨L,hL⟩:∃ L,L=Jn 9 x:=⟨_,rfl⟩;have hlen:=lebS_len 9 x;have KP:=Hm (λw=>implPutS_any x w h0 h1);rw [<- hL] at hlen KP⊢;have HP:=Hm (λ(W w1:World) (v':Value) (h1:Below w.heap.size w W) (h2:w1.ownsRow (p-1) 5 1 v' (xs.length+L.length) (U xs++U L)) (h3:W.grownBy w1 (Value.slice a xs.length c).ownBlock) (h4:v'.ownBlock=(Value.slice a xs.length c).ownBlock\/v'.ownBlock=some W.heap.size)=>wr_pushed (ys:=L) c0 f0 own hp hr hS h1 h2 h3 h4);have OW:=Hm own;obtain ⟨hl0,hl1⟩:=hlen;have hlU:(U L).length=L.length*1:=by simp
 have HC:=Hm c0;clear hL own hp hr hS h0 h1
 go_enter Tryz.func56,Tryz.ntmps56
 go_region_law (first
  | (refine QG rfl (.tmp 8) (.tmp 10) 22 rfl (p-1) 5 i0 (.int .u8 0) 1 1 Tryz.underlying22 hi hz0 hz1 hz2 rfl (by decide) (.slice a xs.length c) xs.length (U xs) (by simp [Act.eval,Act.put]) O1.o ⟨g,0,none⟩ L.length gc (U L) (by simp [Act.eval,Act.put]) hlU S1.o (XV _) (by simp [maxLen];omega) (by omega) Z1.o ?_
     intro v2 w2 own2 gr2 hloc
     have HQ:=Hm (HP.o _ _ _ B1.o own2 gr2 hloc);have d0:=HQ.o.2.2.1;have df:=HQ.o.2.2.2;obtain ⟨va,vc,rfl⟩:=Qw own2;clear own2 gr2 hloc)
  | (go_simp
     refine (KP.o _).mono ?_
     rintro e w1 ⟨v1,rfl,ho1,hb1⟩;obtain ⟨g,gc,rfl,hg,hg'⟩:=By.Q1 ho1 hl0;have hb2:Below w.heap.size w w1:=(Below.refl _ _).drew.trans hb1;have c1:w1.cell? ⟨p,0,none⟩=some (.slice a xs.length c):=(hb2.cell (p:=⟨p,0,none⟩) lt).trans HC.o;have O1:=Hm (Qx OW.o hb2 (Nat.le_refl _));have S1:=Hm (Q9 ho1);have B1:=Hm hb2;have Z1:Hid (p-1<=w1.heap.size):=by have:=hb2.size;show _<=_;omega
     clear ho1 hb1 hb2 hg hg'))
 all_goals
  go_wp2_with fail
  go_end0
  exact ⟨rfl,HQ.o.1,HQ.o.2.1⟩
def fx (k:Nat)(v:Int):List Int:=(List.range k).map λi=>v / 2 ^ (8*i)%256
theorem fx_succ (k:Nat)(v:Int):fx (k+1) v=fx k v++[v / 2 ^ (8*k)%256]:=by simp [fx,List.range_succ]
theorem Xd (k:Nat)(v:Int):(fx k v).length=k:=by simp [fx]
theorem wrap_byte (y:Int):wrap64 y%256=y%256:=by unfold wrap64;omega
theorem wflt_c (p:Nat)(S:Nat->Prop)(xs:List Int)(v:Int)(n:Nat)(w:World)(hn:n=4\/n=8)(h0:0<=v)(h1:v<=18446744073709551615)(hl:xs.length<=549755813888)(hW:Wr w p S xs) :
    Calls Tryz.prog 57 #[.pointer (some ⟨p,0,none⟩),.int .u64 v,.int .i64 (8*(n:Int))] w λe w'=>e=.returned (.tuple #[])/\Wr w' p S (xs++fx n v)/\Jh S w w':=by
 have hn8:n<=8:=by omega
 have HN:=Hm hn;have HW:=Hm hW;clear hW hn
 go_enter Tryz.func57,Tryz.ntmps57
 go_wp2
 go_loopw [6] (λat_ wr=>∃ k:Nat,k<=n/\at_=.int .i64 (8*(k:Int))/\Wr wr p S (xs++fx k v)/\Jh S w wr) (λat_ _=>8*n-(intOf at_).toNat)
 case atStart=>exact ⟨0,Nat.zero_le _,rfl,by simpa [fx] using HW.o,Jh.refl _ _⟩
 case round =>
  obtain ⟨k,hk,rfl,hw,hkp⟩:=hrel
  by_cases hlt:k<n
  . have hki:8*(k:Int)<8*(n:Int):=by omega
    have hk8:(k:Int)<=7:=by omega
    have hlk:(xs++fx k v).length<=1099511627776:=by simp [Xd];omega
    have KO:=Hm (X0 p S (xs++fx k v) (wrap64 (v / 2 ^ (8*k))) wr hlk hw);have HKP:=Hm hkp;clear hw hkp HW
    go_wp2_with fail
    refine (KO.o).mono ?_
    rintro e w1 ⟨rfl,hw1,hk1⟩
    have HW1:Hid (Wr w1 p S (xs++fx (k+1) v)):=by
     rw [wrap_byte] at hw1
     show Wr _ _ _ _
     rw [fx_succ,<- List.append_assoc];exact hw1
    have HK1:=Hm (HKP.o.trans hk1);clear hw1 hk1 KO HKP
    go_wp2
    go_roundw
    case rel=>exact ⟨k+1,by omega,by go_num,HW1.o,HK1.o⟩
    case measure=>simp [intOf];omega
  . have e:k=n:=by omega
    subst e;have HQ:=Hm hw;have HK1:=Hm hkp;clear hw hkp HW
    go_wp2
    go_end0
    exact ⟨rfl,HQ.o,HK1.o⟩
end Go.Proofs.YtipfjdogokanbaaGreatDoor.Ed
namespace Go.Proofs.YtipfjdogokanbaaGreatDoor.Ed
open Go.RowKit Go.Sort
def Jm (l:List Int):List Int:=l.flatMap (QH 9)
theorem nums_step (l:List Int)(k:Nat)(h:k<l.length):Jm (l.take (k+1))=Jm (l.take k)++QH 9 (l.getD k 0):=by
 rw [List.take_add_one,List.getD_eq_getElem?_getD,List.getElem?_eq_getElem h]
 show Jm (l.take k++[l[k]])=Jm (l.take k)++QH 9 l[k]
 unfold Jm;rw [List.flatMap_append,List.flatMap_singleton]
theorem nums_len (l:List Int):(Jm l).length<=10*l.length:=by
 induction l with
|nil=>simp [Jm]
|cons x t ih =>
  have:=(Jc 9 x).2
  simp only [Jm,List.flatMap_cons,List.length_append,List.length_cons] at *
  omega
theorem nums_take_len (l:List Int)(k:Nat):(Jm (l.take k)).length<=10*l.length:=by
 have:=nums_len (l.take k)
 have h2:(l.take k).length<=l.length:=by simp;omega
 omega
theorem wvec_c (p:Nat)(S:Nat->Prop)(xs l:List Int)(la:Option Addr)(lc:Nat)(w:World)(hn:l.length<=1048576)(hu:∀ i,i<l.length->0<=l.getD i 0/\l.getD i 0<=4294967295)(hl:xs.length<=1000000100000)(hH:∀ w',Jh S w w'->Has w' la l)(hW:Wr w p S xs) :
    Calls Tryz.prog 55 #[.pointer (some ⟨p,0,none⟩),.slice la l.length lc,.func (.func 54) #[.pointer (some ⟨p,0,none⟩)] #[]] w λe w'=>e=.returned (.tuple #[])/\Wr w' p S (xs++(QH 9 l.length++Jm l))/\Jh S w w':=by
 have HU:=Hm hu;have HH:=Hm hH;have KL:=Hm (wu32_c p S xs l.length w (by omega) (by omega) (by omega) hW);have hll:=(Jc 9 l.length).2;generalize hQ:xs++QH 9 l.length=ys at *;have hys:ys.length<=1000000100010:=by rw [<- hQ];simp;omega
 have HQ:=Hm hQ;clear hW hu hH hQ hll
 go_enter Tryz.func55,Tryz.ntmps55
 go_wp2_with fail
 refine (KL.o).mono ?_
 rintro e w1 ⟨rfl,hw1,hk1⟩;have HW1:=Hm hw1;have HK1:=Hm hk1;clear hw1 hk1 KL
 go_wp2_with fail
 go_loopw [14] (λi wr=>∃ k:Nat,k<=l.length/\i=.int .i64 k/\Wr wr p S (ys++Jm (l.take k))/\Jh S w wr) (λi _=>l.length-(intOf i).toNat)
 case atStart=>exact ⟨0,Nat.zero_le _,rfl,by simpa [Jm] using HW1.o,HK1.o⟩
 case round =>
  obtain ⟨k,hk,rfl,hw,hkp⟩:=hrel;clear HW1 HK1
  by_cases hlt:k<l.length
  . have hki:(k:Int)<(l.length:Int):=by omega
    rcases HH.o wr hkp with hx|⟨b1,o1,ea,hc⟩
    . subst hx;simp at hlt
    have d:=hc k hlt;subst ea;obtain ⟨u0,u1⟩:=HU.o k hlt;have hs:=nums_step l k hlt
    have hlk:(ys++Jm (l.take k)).length<=1099511627776:=by
     have:=nums_take_len l k
     simp only [List.length_append];omega
    generalize hy:l.getD k 0=y at *;have KO:=Hm (wu32_c p S (ys++Jm (l.take k)) y wr u0 (by omega) hlk hw);have HS:=Hm hs;have HKP:=Hm hkp;clear hw hkp hc hs hy hlk HH HU
    go_wp2_with fail
    refine (KO.o).mono ?_
    rintro e w2 ⟨rfl,hw2,hk2⟩
    have HW2:Hid (Wr w2 p S (ys++Jm (l.take (k+1)))):=by
     show Wr _ _ _ _
     rw [HS.o,<- List.append_assoc];exact hw2
    have HK2:=Hm (HKP.o.trans hk2);clear hw2 hk2 KO HKP HS d u0 u1
    go_wp2
    go_roundw
    case rel=>exact ⟨k+1,by omega,by go_num,HW2.o,HK2.o⟩
    case measure=>simp [intOf];omega
  . have e:k=l.length:=by omega
    subst e
    have HW2:Hid (Wr wr p S (xs++(QH 9 l.length++Jm l))):=by
     rw [List.take_length,<- HQ.o,List.append_assoc] at hw
     exact hw
    have HK2:=Hm hkp;clear hw hkp HH HU
    go_wp2
    go_end0
    exact ⟨rfl,HW2.o,HK2.o⟩
end Go.Proofs.YtipfjdogokanbaaGreatDoor.Ed
namespace Go.Proofs.YtipfjdogokanbaaGreatDoor.Ed
open Go.RowKit Go.Sort
def s32 (v:Int):Int:=if v<2147483648 then v else v-4294967296
def QM (f:Int)(x:In):List Int :=
 if f=1 then [x.a%256] else if f=2 then QH 9 x.a else if f=3 then QH 9 x.l.length++Jm x.l++QH 9 x.a else if f=4 then QH 9 x.a++[0]
 else if f=5 then QH 9 x.a++QH 9 x.b else if f=6 then [0] else if f=7 then Jn 9 (s32 x.v) else if f=8 then Jn 9 (wrap64 x.v)
 else if f=9 then fx 4 x.v else if f=10 then fx 8 x.v else []
theorem Wr.keep {w w1:World}{p:Nat}{S:Nat->Prop}{xs:List Int}(h:Wr w p S xs)(hb:Below w.heap.size w w1):Wr w1 p S xs:=(h.on hb).weak λ_=>.inl
theorem Wr.lt {w:World}{p:Nat}{S:Nat->Prop}{xs:List Int}(h:Wr w p S xs):∀ k,S k->k<w.heap.size:=h.choose_spec.2.2.2.2.2
theorem Jh.wr {w w1 w2:World}{p:Nat}{S:Nat->Prop}{xs:List Int}(h:Jh S w w1)(hw:Wr w1 p S xs)(hb:Below w1.heap.size w1 w2):Jh S w w2:=h.trans (Jh.of_below hb hw.lt)
def Bx (S:Nat->Prop)(b k:Nat):Prop:=S k\/k=b
theorem Bx.box (S:Nat->Prop)(b:Nat):Bx S b b:=.inr rfl
theorem wr_box {w:World}{p:Nat}{S:Nat->Prop}{xs:List Int}(h:Wr w p S xs)(o:Obj):Wr (w.alloc o) p (Bx S w.heap.size) xs :=
 (h.on ((Below.refl _ _).alloc (Nat.le_refl _) o)).weak λk hk=>by
  rcases hk with hk|hk
  . exact .inl hk
  . exact .inr (by simp;omega)
theorem XC {w w1:World}{p:Nat}{S:Nat->Prop}{xs ys:List Int}{o:Obj}(hl:∀ k,S k->k<w.heap.size)(h:Wr w1 p (Bx S w.heap.size) ys)(hk:Jh (Bx S w.heap.size) (w.alloc o) w1)(e:ys=xs):Wr w1 p S xs/\Jh S w w1:=by
 subst e
 exact ⟨h.weak λk hk=>.inl hk,(Jh.of_below ((Below.refl w.heap.size w).alloc (Nat.le_refl _) o) hl).trans (hk.weak λk hk=>.inl hk)⟩
end Go.Proofs.YtipfjdogokanbaaGreatDoor.Ed
