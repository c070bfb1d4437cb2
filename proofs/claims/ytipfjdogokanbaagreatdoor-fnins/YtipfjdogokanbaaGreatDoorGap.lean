import Derived.Test.YtipfjdogokanbaaGreatDoorGaa
import Derived.Test.YtipfjdogokanbaaGreatDoorGam
import Derived.Test.YtipfjdogokanbaaGreatDoorGao
import Derived.Deep.RegionWith
import Derived.Deep.RegionHeld3
import Derived.Deep.CutRange
set_option linter.all false
set_option maxHeartbeats 400000000
set_option maxRecDepth 100000
set_option linter.all false
namespace Go.Proofs.YtipfjdogokanbaaGreatDoor.L3
open Go.RowKit Go.Sort
theorem rnd_n_le (s:Nat)(x:Int)(more:Bool):rnd 24 8 (-149) s x more<=2139095040:=by
 unfold rnd;have e:infM 24 8=2139095040:=by decide
 rw [e]
 split
 . omega
 . split
   . omega
   . omega
theorem JY (n v:Int)(w:World)(h0:0<=n)(h1:n<=63)(hv:P2 n=v):Calls Tryz.prog 101 #[.int .i64 n] w λe w'=>e=.returned (.int .u64 v)/\w=w':=by
 have h:=Qm n w h0 h1;rw [hv] at h
 exact h
def p_7:=λw=>JY 7 128 w (by decide) (by decide) (by decide)
def p_8:=λw=>JY 8 256 w (by decide) (by decide) (by decide)
def p_10:=λw=>JY 10 1024 w (by decide) (by decide) (by decide)
def p_11:=λw=>JY 11 2048 w (by decide) (by decide) (by decide)
def p_22:=λw=>JY 22 4194304 w (by decide) (by decide) (by decide)
def p_23:=λw=>JY 23 8388608 w (by decide) (by decide) (by decide)
def p_31:=λw=>JY 31 2147483648 w (by decide) (by decide) (by decide)
def p_51:=λw=>JY 51 2251799813685248 w (by decide) (by decide) (by decide)
def p_52:=λw=>JY 52 4503599627370496 w (by decide) (by decide) (by decide)
def p_63:=λw=>JY 63 9223372036854775808 w (by decide) (by decide) (by decide)
theorem pow_q (n v:Int)(V:World)(m:Nat)(h0:0<=n)(h1:n<=63)(hv:P2 n=v):Calls Tryz.prog 101 #[.int .i64 n] (V.drewN m) λe w'=>e=.returned (.int .u64 v)/\∃ k,w'=V.drewN k :=
 (JY n v _ h0 h1 hv).mono λe w' ⟨a,b⟩=>⟨a,m,b.symm⟩
theorem QU {w w':World}{r:Option Nat}(h:Below w.heap.size w w'):w.grownBy w' r:=⟨h.os,h.tape,h.output,h.size,λk hk _=>h.block k hk⟩
structure DS (w:World)(g:Nat)(a:Option Addr)(cap:Nat)(xs:List Int)(B:Nat)(p e l:Int)(V:World):Prop where
 cur:Cur V g a cap xs
 gr:w.grownBy V (some g)
 lt:B<V.heap.size
 ne:B≠g
 c0:V.cell? ⟨B,0,none⟩=some (.int .i64 p)
 c1:V.cell? ⟨B,1,none⟩=some (.int .i64 e)
 c2:V.cell? ⟨B,2,none⟩=some (.int .i64 l)
theorem DS.step {w V V':World}{g:Nat}{a:Option Addr}{cap:Nat}{xs:List Int}{B:Nat}{p e l:Int}(h:DS w g a cap xs B p e l V)(hc:Cur V' g a cap xs)(hg:V.grownBy V' (some g)):DS w g a cap xs B p e l V':=by
 have hb:V'.heap[B]?=V.heap[B]?:=hg.block B h.lt (λe=>h.ne (by simpa using e))
 exact ⟨hc,Qa h.gr hg,Nat.lt_of_lt_of_le h.lt hg.size,h.ne,(World.cell?_of_block hb).trans h.c0,(World.cell?_of_block hb).trans h.c1,(World.cell?_of_block hb).trans h.c2⟩
theorem DS.drew {w V:World}{g:Nat}{a:Option Addr}{cap:Nat}{xs:List Int}{B:Nat}{p e l:Int}(h:DS w g a cap xs B p e l V):DS w g a cap xs B p e l V.drew :=
 ⟨h.cur.of_heap rfl,Gd h.gr rfl rfl rfl rfl,h.lt,h.ne,h.c0,h.c1,h.c2⟩
theorem DS.drewN {w V:World}{g:Nat}{a:Option Addr}{cap:Nat}{xs:List Int}{B:Nat}{p e l:Int}(h:DS w g a cap xs B p e l V)(n:Nat):DS w g a cap xs B p e l (V.drewN n) :=
 ⟨h.cur.of_heap rfl,Gd h.gr rfl rfl rfl rfl,h.lt,h.ne,h.c0,h.c1,h.c2⟩
theorem Cur.lt {w:World}{g:Nat}{a:Option Addr}{cap:Nat}{xs:List Int}(h:Cur w g a cap xs):g<w.heap.size:=by
 obtain ⟨k,v,h0,h1,h2,r⟩:=h
 exact World.block_lt_of_cell? w _ h1
theorem DS.below {w V V':World}{g:Nat}{a:Option Addr}{cap:Nat}{xs:List Int}{B:Nat}{p e l:Int}(h:DS w g a cap xs B p e l V)(hb:Below V.heap.size V V'):DS w g a cap xs B p e l V' :=
 h.step (h.cur.below hb h.cur.lt) (QU hb)
theorem draw3_n (g:Nat)(a:Option Addr)(cap:Nat)(xs:List Int)(w:World)(hl:xs.length<=1099511627776)(hB:Qt xs)(hC:Cur w g a cap xs) :
    Calls Tryz.prog 102 #[.pointer (some ⟨g,0,none⟩),FSn] w λe w'=>∃ x:Int,e=.returned (.int .u64 x)/\0<=x/\x<=18446744073709551615/\Cur w' g a cap xs/\w.grownBy w' (some g):=by
 have KB:=Hm (λW n hC h1 h2=>JX g a cap xs n W hl hB hC h1 h2);have KD:=Hm (λW hC=>Xl g a cap xs W hl hB hC);have KO:=Hm (λW n hC h1 h2=>once_any g a cap xs n W hl hB hC h1 h2);have hlt:=hC.lt;have q32:IntKind.i64.wrap 32=32:=by decide
 have q31:IntKind.i64.wrap 31=31:=by decide
 have q23:IntKind.i64.wrap 23=23:=by decide
 have q22:IntKind.i64.wrap 22=22:=by decide
 have D0:DS w g a cap xs w.heap.size 24 8 (-149) (w.alloc (.cells #[.int .i64 24,.int .i64 8,.int .i64 (-149)] 157)) :=
  ⟨hC.below ((Below.refl _ _).alloc (Nat.le_refl _) _) hlt,QU ((Below.refl _ _).alloc (Nat.le_refl _) _),by simp,by omega,Qi rfl rfl,Qi rfl rfl,Qi rfl rfl⟩
 have HD0:=Hm D0;clear hB hl hC D0
 go_enter Tryz.func102,Tryz.ntmps102
 go_wp2_with fail
 refine (KB.o _ 14 HD0.o.cur (by omega) (by omega)).mono ?_
 rintro e w1 ⟨k,rfl,hk0,hk1,hC1,hg1⟩;have HD1:=Hm (HD0.o.step hC1 hg1);clear hC1 hg1 HD0
 go_wp2_with fail
 refine (KB.o _ 8 HD1.o.cur (by omega) (by omega)).mono ?_
 rintro e w2 ⟨x,rfl,hx0,hx1,hC1,hg1⟩;have HD:=Hm (HD1.o.step hC1 hg1);have f0:=HD.o.c0;have f1:=HD.o.c1;have f2:=HD.o.c2;clear hC1 hg1 HD1
 go_upto_region 5 with (first|(go_at_call 101;first|(with_reducible refine (p_8 _).mono ?_;rintro e w' ⟨rfl,rfl⟩)|(with_reducible refine (p_7 _).mono ?_;rintro e w' ⟨rfl,rfl⟩)|(with_reducible refine (p_31 _).mono ?_;rintro e w' ⟨rfl,rfl⟩)|(with_reducible refine (p_23 _).mono ?_;rintro e w' ⟨rfl,rfl⟩)|(with_reducible refine (p_22 _).mono ?_;rintro e w' ⟨rfl,rfl⟩)))
 go_cut [9] from 28 to 38 (λs V=>∃ y:Int,s=.int .u64 y/\0<=y/\y<=18446744073709551615/\DS w g a cap xs w.heap.size 24 8 (-149) V)
 case first =>
  go_region_held3 (fun w'=>w'.cell? ⟨w.heap.size,0,none⟩=some (.int .i64 24)/\w'.cell? ⟨w.heap.size,1,none⟩=some (.int .i64 8)/\w'.cell? ⟨w.heap.size,2,none⟩=some (.int .i64 (-149))) (first | exact ⟨f0,f1,f2⟩ | exact ⟨k0,k1,k2⟩ | exact ⟨k3,k4,k5⟩) (first
  |(go_at_call 33;refine (KB.o _ 2 ?hcur (by omega) (by omega)).mono ?_;(case hcur=>first|exact HD.o.cur|exact HD.o.drew.cur);rintro e w3 ⟨y,rfl,hy0,hy1,hC1,hg1⟩;have HDn:Hid (DS w g a cap xs w.heap.size 24 8 (-149) w3):=(by first|exact HD.o.drew.step hC1 hg1|exact HD.o.step hC1 hg1);have k0:=HDn.o.c0;have k1:=HDn.o.c1;have k2:=HDn.o.c2)
   | (go_at_call 101;first | (with_reducible refine (p_8 _).mono ?_;rintro e w' ⟨rfl,rfl⟩) | (with_reducible refine (p_7 _).mono ?_;rintro e w' ⟨rfl,rfl⟩) | (with_reducible refine (p_31 _).mono ?_;rintro e w' ⟨rfl,rfl⟩) | (with_reducible refine (p_23 _).mono ?_;rintro e w' ⟨rfl,rfl⟩) | (with_reducible refine (p_22 _).mono ?_;rintro e w' ⟨rfl,rfl⟩)))
  all_goals
   go_wp2_with fail
   go_meet
   case rel=>exact ⟨_,rfl,(QQ _).1,(QQ _).2,by first|exact HDn.o|exact HDn.o.drew⟩
 case rest =>
  obtain ⟨sg,rfl,sg0,sg1,hDD⟩:=hcut;clear f0 f1 f2 HD;have HD:=Hm hDD;have f0:=hDD.c0;have f1:=hDD.c1;have f2:=hDD.c2;clear hDD
  rcases (show k=0\/k=1\/k=2\/k=3\/k=4\/k=5\/k=6\/k=7\/k=8\/k=9\/k=10\/11<=k by omega) with rfl|rfl|rfl|rfl|rfl|rfl|rfl|rfl|rfl|rfl|rfl|hk11
  . go_wp2
    go_ret
    exact ⟨_,rfl,by omega,by omega,HD.o.cur,HD.o.gr⟩
  . go_wp2_with (first|(go_at_call 101;first|(with_reducible refine (p_8 _).mono ?_;rintro e w' ⟨rfl,rfl⟩)|(with_reducible refine (p_7 _).mono ?_;rintro e w' ⟨rfl,rfl⟩)|(with_reducible refine (p_31 _).mono ?_;rintro e w' ⟨rfl,rfl⟩)|(with_reducible refine (p_23 _).mono ?_;rintro e w' ⟨rfl,rfl⟩)|(with_reducible refine (p_22 _).mono ?_;rintro e w' ⟨rfl,rfl⟩)))
    go_ret
    exact ⟨_,rfl,(QQ _).1,(QQ _).2,HD.o.cur,HD.o.gr⟩
  . go_wp2_with (first|(go_at_call 101;first|(with_reducible refine (p_8 _).mono ?_;rintro e w' ⟨rfl,rfl⟩)|(with_reducible refine (p_7 _).mono ?_;rintro e w' ⟨rfl,rfl⟩)|(with_reducible refine (p_31 _).mono ?_;rintro e w' ⟨rfl,rfl⟩)|(with_reducible refine (p_23 _).mono ?_;rintro e w' ⟨rfl,rfl⟩)|(with_reducible refine (p_22 _).mono ?_;rintro e w' ⟨rfl,rfl⟩)))
    go_ret
    exact ⟨_,rfl,(QQ _).1,(QQ _).2,HD.o.cur,HD.o.gr⟩
  . -- a NaN
    go_upto_region 14 with fail
    go_cut [4] from 68 to 81 (λs V=>∃ y:Int,s=.int .u64 y/\0<=y/\y<=18446744073709551615/\DS w g a cap xs w.heap.size 24 8 (-149) V)
    case first =>
     go_region_held3 (fun w'=>w'.cell? ⟨w.heap.size,0,none⟩=some (.int .i64 24)/\w'.cell? ⟨w.heap.size,1,none⟩=some (.int .i64 8)/\w'.cell? ⟨w.heap.size,2,none⟩=some (.int .i64 (-149))) (first | exact ⟨f0,f1,f2⟩ | exact ⟨k0,k1,k2⟩ | exact ⟨k3,k4,k5⟩) (first
     |(go_at_call 138;refine (nan_n _).mono ?_;rintro e w3 ⟨rfl,hb⟩;have HDn:Hid (DS w g a cap xs w.heap.size 24 8 (-149) w3):=(by first|exact HD.o.drew.below hb|exact HD.o.below hb);have k0:=HDn.o.c0;have k1:=HDn.o.c1;have k2:=HDn.o.c2)
      | (go_at_call 101;first | (with_reducible refine (p_8 _).mono ?_;rintro e w' ⟨rfl,rfl⟩) | (with_reducible refine (p_7 _).mono ?_;rintro e w' ⟨rfl,rfl⟩) | (with_reducible refine (p_31 _).mono ?_;rintro e w' ⟨rfl,rfl⟩) | (with_reducible refine (p_23 _).mono ?_;rintro e w' ⟨rfl,rfl⟩) | (with_reducible refine (p_22 _).mono ?_;rintro e w' ⟨rfl,rfl⟩)))
     all_goals
      go_wp2_with fail
      go_meet
      case rel=>exact ⟨_,rfl,(QQ _).1,(QQ _).2,by first|exact HDn.o|exact HDn.o.drew⟩
    case rest =>
     obtain ⟨y,rfl,y0,y1,hDD⟩:=hcut
     go_wp2
     go_ret
     exact ⟨y,rfl,y0,y1,hDD.cur,hDD.gr⟩
  . go_wp2
    go_ret
    exact ⟨_,rfl,(QQ _).1,(QQ _).2,HD.o.cur,HD.o.gr⟩
  . go_wp2_with (first|(go_at_call 101;first|(with_reducible refine (p_8 _).mono ?_;rintro e w' ⟨rfl,rfl⟩)|(with_reducible refine (p_7 _).mono ?_;rintro e w' ⟨rfl,rfl⟩)|(with_reducible refine (p_31 _).mono ?_;rintro e w' ⟨rfl,rfl⟩)|(with_reducible refine (p_23 _).mono ?_;rintro e w' ⟨rfl,rfl⟩)|(with_reducible refine (p_22 _).mono ?_;rintro e w' ⟨rfl,rfl⟩)))
    go_ret
    exact ⟨_,rfl,(QQ _).1,(QQ _).2,HD.o.cur,HD.o.gr⟩
  . go_wp2_with (first|(go_at_call 101;first|(with_reducible refine (p_8 _).mono ?_;rintro e w' ⟨rfl,rfl⟩)|(with_reducible refine (p_7 _).mono ?_;rintro e w' ⟨rfl,rfl⟩)|(with_reducible refine (p_31 _).mono ?_;rintro e w' ⟨rfl,rfl⟩)|(with_reducible refine (p_23 _).mono ?_;rintro e w' ⟨rfl,rfl⟩)|(with_reducible refine (p_22 _).mono ?_;rintro e w' ⟨rfl,rfl⟩)))
    go_ret
    exact ⟨_,rfl,(QQ _).1,(QQ _).2,HD.o.cur,HD.o.gr⟩
  . -- 7
    go_upto_region 22 with fail
    go_cut [4] from 113 to 126 (λs V=>∃ y:Int,s=.int .u64 y/\0<=y/\y<=18446744073709551615/\DS w g a cap xs w.heap.size 24 8 (-149) V)
    case first =>
     go_region_held3 (fun w'=>w'.cell? ⟨w.heap.size,0,none⟩=some (.int .i64 24)/\w'.cell? ⟨w.heap.size,1,none⟩=some (.int .i64 8)/\w'.cell? ⟨w.heap.size,2,none⟩=some (.int .i64 (-149))) (first | exact ⟨f0,f1,f2⟩ | exact ⟨k0,k1,k2⟩ | exact ⟨k3,k4,k5⟩) (first
     |(go_at_call 33;refine (KB.o _ 70 ?hcur (by omega) (by omega)).mono ?_;(case hcur=>first|exact HD.o.cur|exact HD.o.drew.cur);rintro e w3 ⟨y,rfl,hy0,hy1,hC1,hg1⟩;have HDn:Hid (DS w g a cap xs w.heap.size 24 8 (-149) w3):=(by first|exact HD.o.drew.step hC1 hg1|exact HD.o.step hC1 hg1);have k0:=HDn.o.c0;have k1:=HDn.o.c1;have k2:=HDn.o.c2)
      | (go_at_call 101;first | (with_reducible refine (p_8 _).mono ?_;rintro e w' ⟨rfl,rfl⟩) | (with_reducible refine (p_7 _).mono ?_;rintro e w' ⟨rfl,rfl⟩) | (with_reducible refine (p_31 _).mono ?_;rintro e w' ⟨rfl,rfl⟩) | (with_reducible refine (p_23 _).mono ?_;rintro e w' ⟨rfl,rfl⟩) | (with_reducible refine (p_22 _).mono ?_;rintro e w' ⟨rfl,rfl⟩)))
     all_goals
      go_wp2_with fail
      go_meet
      case rel=>exact ⟨_,rfl,(QQ _).1,(QQ _).2,by first|exact HDn.o|exact HDn.o.drew⟩
    case rest =>
     obtain ⟨y,rfl,y0,y1,hDD⟩:=hcut
     go_wp2
     go_ret
     exact ⟨y,rfl,y0,y1,hDD.cur,hDD.gr⟩
  . -- 8
    go_wp2_with fail
    refine (KB.o _ 40 HD.o.cur (by omega) (by omega)).mono ?_
    rintro e w3 ⟨z,rfl,hz0,hz1,hC1,hg1⟩;have HE:=Hm (HD.o.step hC1 hg1);clear HD f0 f1 f2 hC1 hg1;have f0:=HE.o.c0;have f1:=HE.o.c1;have f2:=HE.o.c2;obtain ⟨zn,hzn⟩:∃ zn:Nat,z=(zn:Int):=⟨z.toNat,by omega⟩;subst hzn;have hzw:IntKind.u64.wrap (zn:Int)=(zn:Int):=by rw [IntKind.wrap_u64];omega
    have hbl:bl zn<=4000:=Nat.le_trans (bl_le (k:=6) (by omega)) (by decide);have LA:Hid (0<=sg_n false+(rnd 24 8 (-149) zn (-1) false:Nat)):=by have:=rnd_n_le zn (-1) false;show 0<=(0:Int)+_;omega
    have LB:Hid (sg_n false+(rnd 24 8 (-149) zn (-1) false:Nat)<=18446744073709551615):=by have:=rnd_n_le zn (-1) false;show (0:Int)+_<=_;omega
    go_upto_region 25 with fail
    go_cut [4] from 132 to 143 (λs V=>∃ y:Int,s=.int .u64 y/\0<=y/\y<=18446744073709551615/\DS w g a cap xs w.heap.size 24 8 (-149) V)
    case first =>
     go_region_held3 (fun w'=>w'.cell? ⟨w.heap.size,0,none⟩=some (.int .i64 24)/\w'.cell? ⟨w.heap.size,1,none⟩=some (.int .i64 8)/\w'.cell? ⟨w.heap.size,2,none⟩=some (.int .i64 (-149))) (first | exact ⟨f0,f1,f2⟩ | exact ⟨k0,k1,k2⟩ | exact ⟨k3,k4,k5⟩) (first
     |(go_at_call 140;refine (of_any zn _ (by omega)).mono ?_;rintro e w4 ⟨⟨v,rfl,hS⟩,hb⟩;have HDn:Hid (DS w g a cap xs w.heap.size 24 8 (-149) w4):=(by first|exact HE.o.drew.below hb|exact HE.o.below hb);have k0:=HDn.o.c0;have k1:=HDn.o.c1;have k2:=HDn.o.c2)
     |(go_at_call 139;refine (round_n false false zn (-1) v _ hbl (by omega) (by omega) hS).mono ?_;rintro e w5 ⟨rfl,hb'⟩;have HDm:Hid (DS w g a cap xs w.heap.size 24 8 (-149) w5):=HDn.o.below hb';have k3:=HDm.o.c0;have k4:=HDm.o.c1;have k5:=HDm.o.c2)
      | (go_at_call 44;refine (Xh _ _ LA.o LB.o).mono ?_;rintro e w6 ⟨rfl,rfl⟩))
     all_goals
      go_wp2_with fail
      go_meet
      case rel=>exact ⟨_,rfl,(QQ _).1,(QQ _).2,HDm.o⟩
    case rest =>
     obtain ⟨y,rfl,y0,y1,hDD⟩:=hcut
     go_wp2
     go_ret
     exact ⟨y,rfl,y0,y1,hDD.cur,hDD.gr⟩
  . -- 9
    go_upto_region 27 with fail
    go_cut [4] from 146 to 160 (λs V=>∃ y:Int,s=.int .u64 y/\0<=y/\y<=18446744073709551615/\DS w g a cap xs w.heap.size 24 8 (-149) V)
    case first =>
     go_quiet (first|(with_reducible exact (pow_q 23 8388608 _ _ (by decide) (by decide) (by decide)))|(with_reducible exact (pow_q 22 4194304 _ _ (by decide) (by decide) (by decide))))
     go_wp2_with fail
     go_meet
     case rel=>exact ⟨_,rfl,(QQ _).1,(QQ _).2,HD.o.drewN _⟩
    case rest =>
     obtain ⟨y,rfl,y0,y1,hDD⟩:=hcut
     go_wp2
     go_ret
     exact ⟨y,rfl,y0,y1,hDD.cur,hDD.gr⟩
  . -- 10
    obtain ⟨W,hW⟩:∃ W,W=wc.alloc (.cells #[.int .i64 31,.int .i64 32,.int .i64 63,.int .i64 64] 2):=⟨_,rfl⟩;have HW:=Hm hW;have HE:Hid (DS w g a cap xs w.heap.size 24 8 (-149) W):=by rw [hW];exact HD.o.below ((Below.refl _ _).alloc (Nat.le_refl _) _)
    have hg:g<wc.heap.size:=HD.o.cur.lt
    have HK:Hid (W.heap[wc.heap.size]?=some (.cells #[.int .i64 31,.int .i64 32,.int .i64 63,.int .i64 64] 2)/\wc.heap.size<W.heap.size):=by
     refine ⟨?_,?_⟩
     . rw [hW];show (wc.heap.push _)[wc.heap.size]?=_;simp
     . rw [hW];simp
    clear hW HD f0 f1 f2
    go_wp2_with fail
    rw [<- HW.o]
    refine (KB.o _ 4 HE.o.cur (by omega) (by omega)).mono ?_
    rintro e w3 ⟨z,rfl,hz0,hz1,hC1,hg1⟩;have HF:=Hm (HE.o.step hC1 hg1);have hb:w3.heap[wc.heap.size]?=some (.cells #[.int .i64 31,.int .i64 32,.int .i64 63,.int .i64 64] 2):=(hg1.block _ HK.o.2 (λe=>by simp at e;omega)).trans HK.o.1;have b0:w3.cell? ⟨wc.heap.size,0,none⟩=some (.int .i64 31):=by simp [World.cell?,hb]
    have b1:w3.cell? ⟨wc.heap.size,1,none⟩=some (.int .i64 32):=by simp [World.cell?,hb]
    have b2:w3.cell? ⟨wc.heap.size,2,none⟩=some (.int .i64 63):=by simp [World.cell?,hb]
    have b3:w3.cell? ⟨wc.heap.size,3,none⟩=some (.int .i64 64):=by simp [World.cell?,hb]
    have f0:=HF.o.c0;have f1:=HF.o.c1;have f2:=HF.o.c2;clear hb HK HE HW hC1 hg1
    rcases (show z=0\/z=1\/z=2\/z=3 by omega) with rfl|rfl|rfl|rfl
    . go_wp2_with (first|(go_at_call 101;first|(with_reducible refine (p_8 _).mono ?_;rintro e w' ⟨rfl,rfl⟩)|(with_reducible refine (p_7 _).mono ?_;rintro e w' ⟨rfl,rfl⟩)|(with_reducible refine (p_31 _).mono ?_;rintro e w' ⟨rfl,rfl⟩)|(with_reducible refine (p_23 _).mono ?_;rintro e w' ⟨rfl,rfl⟩)|(with_reducible refine (p_22 _).mono ?_;rintro e w' ⟨rfl,rfl⟩)))
      go_ret
      exact ⟨_,rfl,(QQ _).1,(QQ _).2,HF.o.cur,HF.o.gr⟩
    . go_wp2_with (first|(go_at_call 101;first|(with_reducible refine (p_8 _).mono ?_;rintro e w' ⟨rfl,rfl⟩)|(with_reducible refine (p_7 _).mono ?_;rintro e w' ⟨rfl,rfl⟩)|(with_reducible refine (p_31 _).mono ?_;rintro e w' ⟨rfl,rfl⟩)|(with_reducible refine (p_23 _).mono ?_;rintro e w' ⟨rfl,rfl⟩)|(with_reducible refine (p_22 _).mono ?_;rintro e w' ⟨rfl,rfl⟩)))
      go_ret
      exact ⟨_,rfl,(QQ _).1,(QQ _).2,HF.o.cur,HF.o.gr⟩
    . go_wp2_with (first|(go_at_call 101;first|(with_reducible refine (p_8 _).mono ?_;rintro e w' ⟨rfl,rfl⟩)|(with_reducible refine (p_7 _).mono ?_;rintro e w' ⟨rfl,rfl⟩)|(with_reducible refine (p_31 _).mono ?_;rintro e w' ⟨rfl,rfl⟩)|(with_reducible refine (p_23 _).mono ?_;rintro e w' ⟨rfl,rfl⟩)|(with_reducible refine (p_22 _).mono ?_;rintro e w' ⟨rfl,rfl⟩)))
      go_ret
      exact ⟨_,rfl,(QQ _).1,(QQ _).2,HF.o.cur,HF.o.gr⟩
    . go_wp2_with (first|(go_at_call 101;first|(with_reducible refine (p_8 _).mono ?_;rintro e w' ⟨rfl,rfl⟩)|(with_reducible refine (p_7 _).mono ?_;rintro e w' ⟨rfl,rfl⟩)|(with_reducible refine (p_31 _).mono ?_;rintro e w' ⟨rfl,rfl⟩)|(with_reducible refine (p_23 _).mono ?_;rintro e w' ⟨rfl,rfl⟩)|(with_reducible refine (p_22 _).mono ?_;rintro e w' ⟨rfl,rfl⟩)))
      go_ret
      exact ⟨_,rfl,(QQ _).1,(QQ _).2,HF.o.cur,HF.o.gr⟩
  . -- any fraction
    have e0:(k==0)=false:=beq_eq_false_iff_ne.2 (by omega);have e1:(k==1)=false:=beq_eq_false_iff_ne.2 (by omega);have e2:(k==2)=false:=beq_eq_false_iff_ne.2 (by omega);have e3:(k==3)=false:=beq_eq_false_iff_ne.2 (by omega);have e4:(k==4)=false:=beq_eq_false_iff_ne.2 (by omega);have e5:(k==5)=false:=beq_eq_false_iff_ne.2 (by omega);have e6:(k==6)=false:=beq_eq_false_iff_ne.2 (by omega);have e7:(k==7)=false:=beq_eq_false_iff_ne.2 (by omega);have e8:(k==8)=false:=beq_eq_false_iff_ne.2 (by omega);have e9:(k==9)=false:=beq_eq_false_iff_ne.2 (by omega);have e10:(k==10)=false:=beq_eq_false_iff_ne.2 (by omega)
    go_upto_region 31 with fail
    go_cut [12] from 182 to 188 (λs V=>∃ y:Int,s=.int .u64 y/\DS w g a cap xs w.heap.size 24 8 (-149) V)
    case first =>
     go_region_held3 (fun w'=>w'.cell? ⟨w.heap.size,0,none⟩=some (.int .i64 24)/\w'.cell? ⟨w.heap.size,1,none⟩=some (.int .i64 8)/\w'.cell? ⟨w.heap.size,2,none⟩=some (.int .i64 (-149))) (first | exact ⟨f0,f1,f2⟩ | exact ⟨k0,k1,k2⟩ | exact ⟨k3,k4,k5⟩) (first
     |(go_at_call 43;refine (KD.o _ ?hcur).mono ?_;(case hcur=>first|exact HD.o.cur|exact HD.o.drew.cur);rintro e w3 ⟨y,rfl,hy0,hy1,hC1,hg1⟩;have HDn:Hid (DS w g a cap xs w.heap.size 24 8 (-149) w3):=(by first|exact HD.o.drew.step hC1 hg1|exact HD.o.step hC1 hg1);have k0:=HDn.o.c0;have k1:=HDn.o.c1;have k2:=HDn.o.c2)
      | (go_at_call 101;first | (with_reducible refine (p_8 _).mono ?_;rintro e w' ⟨rfl,rfl⟩) | (with_reducible refine (p_7 _).mono ?_;rintro e w' ⟨rfl,rfl⟩) | (with_reducible refine (p_31 _).mono ?_;rintro e w' ⟨rfl,rfl⟩) | (with_reducible refine (p_23 _).mono ?_;rintro e w' ⟨rfl,rfl⟩) | (with_reducible refine (p_22 _).mono ?_;rintro e w' ⟨rfl,rfl⟩)))
     all_goals
      go_wp2_with fail
      go_meet
      case rel=>exact ⟨_,rfl,by first|exact HDn.o|exact HDn.o.drew⟩
    case rest =>
     rename_i wd _ _
     obtain ⟨fr,rfl,hDD⟩:=hcut;clear f0 f1 f2 HD;have HD:=Hm hDD;clear hDD
     go_wp2_with fail
     refine (KB.o _ 50 HD.o.cur (by omega) (by omega)).mono ?_
     rintro e w4 ⟨ee,rfl,he0,he1,hC1,hg1⟩;have HE:=Hm (HD.o.step hC1 hg1);clear HD hC1 hg1
     go_wp2_with fail
     refine (KO.o _ 3 HE.o.cur (by omega) (by omega)).mono ?_
     rintro e w5 ⟨r,rfl,hC1,hg1⟩;have HF:=Hm (HE.o.step hC1 hg1);clear HE hC1 hg1;have f0:=HF.o.c0;have f1:=HF.o.c1;have f2:=HF.o.c2
     cases r
     . go_wp2_with (first|(go_at_call 101;first|(with_reducible refine (p_8 _).mono ?_;rintro e w' ⟨rfl,rfl⟩)|(with_reducible refine (p_7 _).mono ?_;rintro e w' ⟨rfl,rfl⟩)|(with_reducible refine (p_31 _).mono ?_;rintro e w' ⟨rfl,rfl⟩)|(with_reducible refine (p_23 _).mono ?_;rintro e w' ⟨rfl,rfl⟩)|(with_reducible refine (p_22 _).mono ?_;rintro e w' ⟨rfl,rfl⟩)))
       go_ret
       exact ⟨_,rfl,(QQ _).1,(QQ _).2,HF.o.cur,HF.o.gr⟩
     . go_wp2
       go_quiet (first|(with_reducible exact (pow_q 23 8388608 _ _ (by decide) (by decide) (by decide)))|(with_reducible exact (pow_q 22 4194304 _ _ (by decide) (by decide) (by decide))))
       go_wp2
       go_ret
       exact ⟨_,rfl,(QQ _).1,(QQ _).2,HF.o.cur.of_heap rfl,Gd HF.o.gr rfl rfl rfl rfl⟩
theorem draw3_w (g:Nat)(a:Option Addr)(cap:Nat)(xs:List Int)(w:World)(hl:xs.length<=1099511627776)(hB:Qt xs)(hC:Cur w g a cap xs) :
    Calls Tryz.prog 102 #[.pointer (some ⟨g,0,none⟩),FSw] w λe w'=>∃ x:Int,e=.returned (.int .u64 x)/\0<=x/\x<=18446744073709551615/\Cur w' g a cap xs/\w.grownBy w' (some g):=by
 have KB:=Hm (λW n hC h1 h2=>JX g a cap xs n W hl hB hC h1 h2);have KD:=Hm (λW hC=>Xl g a cap xs W hl hB hC);have KO:=Hm (λW n hC h1 h2=>once_any g a cap xs n W hl hB hC h1 h2);have hlt:=hC.lt;have q64:IntKind.i64.wrap 64=64:=by decide
 have q63:IntKind.i64.wrap 63=63:=by decide
 have q52:IntKind.i64.wrap 52=52:=by decide
 have q51:IntKind.i64.wrap 51=51:=by decide
 have D0:DS w g a cap xs w.heap.size 53 11 (-1074) (w.alloc (.cells #[.int .i64 53,.int .i64 11,.int .i64 (-1074)] 157)) :=
  ⟨hC.below ((Below.refl _ _).alloc (Nat.le_refl _) _) hlt,QU ((Below.refl _ _).alloc (Nat.le_refl _) _),by simp,by omega,Qi rfl rfl,Qi rfl rfl,Qi rfl rfl⟩
 have HD0:=Hm D0;clear hB hl hC D0
 go_enter Tryz.func102,Tryz.ntmps102
 go_wp2_with fail
 refine (KB.o _ 14 HD0.o.cur (by omega) (by omega)).mono ?_
 rintro e w1 ⟨k,rfl,hk0,hk1,hC1,hg1⟩;have HD1:=Hm (HD0.o.step hC1 hg1);clear hC1 hg1 HD0
 go_wp2_with fail
 refine (KB.o _ 8 HD1.o.cur (by omega) (by omega)).mono ?_
 rintro e w2 ⟨x,rfl,hx0,hx1,hC1,hg1⟩;have HD:=Hm (HD1.o.step hC1 hg1);have f0:=HD.o.c0;have f1:=HD.o.c1;have f2:=HD.o.c2;clear hC1 hg1 HD1
 go_upto_region 5 with (first|(go_at_call 101;first|(with_reducible refine (p_11 _).mono ?_;rintro e w' ⟨rfl,rfl⟩)|(with_reducible refine (p_10 _).mono ?_;rintro e w' ⟨rfl,rfl⟩)|(with_reducible refine (p_63 _).mono ?_;rintro e w' ⟨rfl,rfl⟩)|(with_reducible refine (p_52 _).mono ?_;rintro e w' ⟨rfl,rfl⟩)|(with_reducible refine (p_51 _).mono ?_;rintro e w' ⟨rfl,rfl⟩)))
 go_cut [9] from 28 to 38 (λs V=>∃ y:Int,s=.int .u64 y/\0<=y/\y<=18446744073709551615/\DS w g a cap xs w.heap.size 53 11 (-1074) V)
 case first =>
  go_region_held3 (fun w'=>w'.cell? ⟨w.heap.size,0,none⟩=some (.int .i64 53)/\w'.cell? ⟨w.heap.size,1,none⟩=some (.int .i64 11)/\w'.cell? ⟨w.heap.size,2,none⟩=some (.int .i64 (-1074))) (first | exact ⟨f0,f1,f2⟩ | exact ⟨k0,k1,k2⟩ | exact ⟨k3,k4,k5⟩) (first
  |(go_at_call 33;refine (KB.o _ 2 ?hcur (by omega) (by omega)).mono ?_;(case hcur=>first|exact HD.o.cur|exact HD.o.drew.cur);rintro e w3 ⟨y,rfl,hy0,hy1,hC1,hg1⟩;have HDn:Hid (DS w g a cap xs w.heap.size 53 11 (-1074) w3):=(by first|exact HD.o.drew.step hC1 hg1|exact HD.o.step hC1 hg1);have k0:=HDn.o.c0;have k1:=HDn.o.c1;have k2:=HDn.o.c2)
   | (go_at_call 101;first | (with_reducible refine (p_11 _).mono ?_;rintro e w' ⟨rfl,rfl⟩) | (with_reducible refine (p_10 _).mono ?_;rintro e w' ⟨rfl,rfl⟩) | (with_reducible refine (p_63 _).mono ?_;rintro e w' ⟨rfl,rfl⟩) | (with_reducible refine (p_52 _).mono ?_;rintro e w' ⟨rfl,rfl⟩) | (with_reducible refine (p_51 _).mono ?_;rintro e w' ⟨rfl,rfl⟩)))
  all_goals
   go_wp2_with fail
   go_meet
   case rel=>exact ⟨_,rfl,(QQ _).1,(QQ _).2,by first|exact HDn.o|exact HDn.o.drew⟩
 case rest =>
  obtain ⟨sg,rfl,sg0,sg1,hDD⟩:=hcut;clear f0 f1 f2 HD;have HD:=Hm hDD;have f0:=hDD.c0;have f1:=hDD.c1;have f2:=hDD.c2;clear hDD
  rcases (show k=0\/k=1\/k=2\/k=3\/k=4\/k=5\/k=6\/k=7\/k=8\/k=9\/k=10\/11<=k by omega) with rfl|rfl|rfl|rfl|rfl|rfl|rfl|rfl|rfl|rfl|rfl|hk11
  . go_wp2
    go_ret
    exact ⟨_,rfl,by omega,by omega,HD.o.cur,HD.o.gr⟩
  . go_wp2_with (first|(go_at_call 101;first|(with_reducible refine (p_11 _).mono ?_;rintro e w' ⟨rfl,rfl⟩)|(with_reducible refine (p_10 _).mono ?_;rintro e w' ⟨rfl,rfl⟩)|(with_reducible refine (p_63 _).mono ?_;rintro e w' ⟨rfl,rfl⟩)|(with_reducible refine (p_52 _).mono ?_;rintro e w' ⟨rfl,rfl⟩)|(with_reducible refine (p_51 _).mono ?_;rintro e w' ⟨rfl,rfl⟩)))
    go_ret
    exact ⟨_,rfl,(QQ _).1,(QQ _).2,HD.o.cur,HD.o.gr⟩
  . go_wp2_with (first|(go_at_call 101;first|(with_reducible refine (p_11 _).mono ?_;rintro e w' ⟨rfl,rfl⟩)|(with_reducible refine (p_10 _).mono ?_;rintro e w' ⟨rfl,rfl⟩)|(with_reducible refine (p_63 _).mono ?_;rintro e w' ⟨rfl,rfl⟩)|(with_reducible refine (p_52 _).mono ?_;rintro e w' ⟨rfl,rfl⟩)|(with_reducible refine (p_51 _).mono ?_;rintro e w' ⟨rfl,rfl⟩)))
    go_ret
    exact ⟨_,rfl,(QQ _).1,(QQ _).2,HD.o.cur,HD.o.gr⟩
  . -- a NaN
    go_upto_region 14 with fail
    go_cut [4] from 68 to 81 (λs V=>∃ y:Int,s=.int .u64 y/\0<=y/\y<=18446744073709551615/\DS w g a cap xs w.heap.size 53 11 (-1074) V)
    case first =>
     go_region_held3 (fun w'=>w'.cell? ⟨w.heap.size,0,none⟩=some (.int .i64 53)/\w'.cell? ⟨w.heap.size,1,none⟩=some (.int .i64 11)/\w'.cell? ⟨w.heap.size,2,none⟩=some (.int .i64 (-1074))) (first | exact ⟨f0,f1,f2⟩ | exact ⟨k0,k1,k2⟩ | exact ⟨k3,k4,k5⟩) (first
     |(go_at_call 138;refine (nan_w _).mono ?_;rintro e w3 ⟨rfl,hb⟩;have HDn:Hid (DS w g a cap xs w.heap.size 53 11 (-1074) w3):=(by first|exact HD.o.drew.below hb|exact HD.o.below hb);have k0:=HDn.o.c0;have k1:=HDn.o.c1;have k2:=HDn.o.c2)
      | (go_at_call 101;first | (with_reducible refine (p_11 _).mono ?_;rintro e w' ⟨rfl,rfl⟩) | (with_reducible refine (p_10 _).mono ?_;rintro e w' ⟨rfl,rfl⟩) | (with_reducible refine (p_63 _).mono ?_;rintro e w' ⟨rfl,rfl⟩) | (with_reducible refine (p_52 _).mono ?_;rintro e w' ⟨rfl,rfl⟩) | (with_reducible refine (p_51 _).mono ?_;rintro e w' ⟨rfl,rfl⟩)))
     all_goals
      go_wp2_with fail
      go_meet
      case rel=>exact ⟨_,rfl,(QQ _).1,(QQ _).2,by first|exact HDn.o|exact HDn.o.drew⟩
    case rest =>
     obtain ⟨y,rfl,y0,y1,hDD⟩:=hcut
     go_wp2
     go_ret
     exact ⟨y,rfl,y0,y1,hDD.cur,hDD.gr⟩
  . go_wp2
    go_ret
    exact ⟨_,rfl,(QQ _).1,(QQ _).2,HD.o.cur,HD.o.gr⟩
  . go_wp2_with (first|(go_at_call 101;first|(with_reducible refine (p_11 _).mono ?_;rintro e w' ⟨rfl,rfl⟩)|(with_reducible refine (p_10 _).mono ?_;rintro e w' ⟨rfl,rfl⟩)|(with_reducible refine (p_63 _).mono ?_;rintro e w' ⟨rfl,rfl⟩)|(with_reducible refine (p_52 _).mono ?_;rintro e w' ⟨rfl,rfl⟩)|(with_reducible refine (p_51 _).mono ?_;rintro e w' ⟨rfl,rfl⟩)))
    go_ret
    exact ⟨_,rfl,(QQ _).1,(QQ _).2,HD.o.cur,HD.o.gr⟩
  . go_wp2_with (first|(go_at_call 101;first|(with_reducible refine (p_11 _).mono ?_;rintro e w' ⟨rfl,rfl⟩)|(with_reducible refine (p_10 _).mono ?_;rintro e w' ⟨rfl,rfl⟩)|(with_reducible refine (p_63 _).mono ?_;rintro e w' ⟨rfl,rfl⟩)|(with_reducible refine (p_52 _).mono ?_;rintro e w' ⟨rfl,rfl⟩)|(with_reducible refine (p_51 _).mono ?_;rintro e w' ⟨rfl,rfl⟩)))
    go_ret
    exact ⟨_,rfl,(QQ _).1,(QQ _).2,HD.o.cur,HD.o.gr⟩
  . -- 7
    go_upto_region 22 with fail
    go_cut [4] from 113 to 126 (λs V=>∃ y:Int,s=.int .u64 y/\0<=y/\y<=18446744073709551615/\DS w g a cap xs w.heap.size 53 11 (-1074) V)
    case first =>
     go_region_held3 (fun w'=>w'.cell? ⟨w.heap.size,0,none⟩=some (.int .i64 53)/\w'.cell? ⟨w.heap.size,1,none⟩=some (.int .i64 11)/\w'.cell? ⟨w.heap.size,2,none⟩=some (.int .i64 (-1074))) (first | exact ⟨f0,f1,f2⟩ | exact ⟨k0,k1,k2⟩ | exact ⟨k3,k4,k5⟩) (first
     |(go_at_call 33;refine (KB.o _ 70 ?hcur (by omega) (by omega)).mono ?_;(case hcur=>first|exact HD.o.cur|exact HD.o.drew.cur);rintro e w3 ⟨y,rfl,hy0,hy1,hC1,hg1⟩;have HDn:Hid (DS w g a cap xs w.heap.size 53 11 (-1074) w3):=(by first|exact HD.o.drew.step hC1 hg1|exact HD.o.step hC1 hg1);have k0:=HDn.o.c0;have k1:=HDn.o.c1;have k2:=HDn.o.c2)
      | (go_at_call 101;first | (with_reducible refine (p_11 _).mono ?_;rintro e w' ⟨rfl,rfl⟩) | (with_reducible refine (p_10 _).mono ?_;rintro e w' ⟨rfl,rfl⟩) | (with_reducible refine (p_63 _).mono ?_;rintro e w' ⟨rfl,rfl⟩) | (with_reducible refine (p_52 _).mono ?_;rintro e w' ⟨rfl,rfl⟩) | (with_reducible refine (p_51 _).mono ?_;rintro e w' ⟨rfl,rfl⟩)))
     all_goals
      go_wp2_with fail
      go_meet
      case rel=>exact ⟨_,rfl,(QQ _).1,(QQ _).2,by first|exact HDn.o|exact HDn.o.drew⟩
    case rest =>
     obtain ⟨y,rfl,y0,y1,hDD⟩:=hcut
     go_wp2
     go_ret
     exact ⟨y,rfl,y0,y1,hDD.cur,hDD.gr⟩
  . -- 8
    go_wp2_with fail
    refine (KB.o _ 40 HD.o.cur (by omega) (by omega)).mono ?_
    rintro e w3 ⟨z,rfl,hz0,hz1,hC1,hg1⟩;have HE:=Hm (HD.o.step hC1 hg1);clear HD f0 f1 f2 hC1 hg1;have f0:=HE.o.c0;have f1:=HE.o.c1;have f2:=HE.o.c2;obtain ⟨zn,hzn⟩:∃ zn:Nat,z=(zn:Int):=⟨z.toNat,by omega⟩;subst hzn;have hzw:IntKind.u64.wrap (zn:Int)=(zn:Int):=by rw [IntKind.wrap_u64];omega
    have hbl:bl zn<=4000:=Nat.le_trans (bl_le (k:=6) (by omega)) (by decide)
    go_upto_region 25 with fail
    go_cut [4] from 132 to 143 (λs V=>∃ y:Int,s=.int .u64 y/\0<=y/\y<=18446744073709551615/\DS w g a cap xs w.heap.size 53 11 (-1074) V)
    case first =>
     go_region_held3 (fun w'=>w'.cell? ⟨w.heap.size,0,none⟩=some (.int .i64 53)/\w'.cell? ⟨w.heap.size,1,none⟩=some (.int .i64 11)/\w'.cell? ⟨w.heap.size,2,none⟩=some (.int .i64 (-1074))) (first | exact ⟨f0,f1,f2⟩ | exact ⟨k0,k1,k2⟩ | exact ⟨k3,k4,k5⟩) (first
     |(go_at_call 140;refine (of_any zn _ (by omega)).mono ?_;rintro e w4 ⟨⟨v,rfl,hS⟩,hb⟩;have HDn:Hid (DS w g a cap xs w.heap.size 53 11 (-1074) w4):=(by first|exact HE.o.drew.below hb|exact HE.o.below hb);have k0:=HDn.o.c0;have k1:=HDn.o.c1;have k2:=HDn.o.c2)
     |(go_at_call 139;refine (round_w false false zn (-1) v _ hbl (by omega) (by omega) hS).mono ?_;rintro e w5 ⟨rfl,hb'⟩;have HDm:Hid (DS w g a cap xs w.heap.size 53 11 (-1074) w5):=HDn.o.below hb';have k3:=HDm.o.c0;have k4:=HDm.o.c1;have k5:=HDm.o.c2)
      | (go_at_call 44;refine (low64 _ _).mono ?_;rintro e w6 ⟨rfl,rfl⟩))
     all_goals
      go_wp2_with fail
      go_meet
      case rel=>exact ⟨_,rfl,(QQ _).1,(QQ _).2,HDm.o⟩
    case rest =>
     obtain ⟨y,rfl,y0,y1,hDD⟩:=hcut
     go_wp2
     go_ret
     exact ⟨y,rfl,y0,y1,hDD.cur,hDD.gr⟩
  . -- 9
    go_upto_region 27 with fail
    go_cut [4] from 146 to 160 (λs V=>∃ y:Int,s=.int .u64 y/\0<=y/\y<=18446744073709551615/\DS w g a cap xs w.heap.size 53 11 (-1074) V)
    case first =>
     go_quiet (first|(with_reducible exact (pow_q 52 4503599627370496 _ _ (by decide) (by decide) (by decide)))|(with_reducible exact (pow_q 51 2251799813685248 _ _ (by decide) (by decide) (by decide))))
     go_wp2_with fail
     go_meet
     case rel=>exact ⟨_,rfl,(QQ _).1,(QQ _).2,HD.o.drewN _⟩
    case rest =>
     obtain ⟨y,rfl,y0,y1,hDD⟩:=hcut
     go_wp2
     go_ret
     exact ⟨y,rfl,y0,y1,hDD.cur,hDD.gr⟩
  . -- 10
    obtain ⟨W,hW⟩:∃ W,W=wc.alloc (.cells #[.int .i64 31,.int .i64 32,.int .i64 63,.int .i64 64] 2):=⟨_,rfl⟩;have HW:=Hm hW;have HE:Hid (DS w g a cap xs w.heap.size 53 11 (-1074) W):=by rw [hW];exact HD.o.below ((Below.refl _ _).alloc (Nat.le_refl _) _)
    have hg:g<wc.heap.size:=HD.o.cur.lt
    have HK:Hid (W.heap[wc.heap.size]?=some (.cells #[.int .i64 31,.int .i64 32,.int .i64 63,.int .i64 64] 2)/\wc.heap.size<W.heap.size):=by
     refine ⟨?_,?_⟩
     . rw [hW];show (wc.heap.push _)[wc.heap.size]?=_;simp
     . rw [hW];simp
    clear hW HD f0 f1 f2
    go_wp2_with fail
    rw [<- HW.o]
    refine (KB.o _ 4 HE.o.cur (by omega) (by omega)).mono ?_
    rintro e w3 ⟨z,rfl,hz0,hz1,hC1,hg1⟩;have HF:=Hm (HE.o.step hC1 hg1);have hb:w3.heap[wc.heap.size]?=some (.cells #[.int .i64 31,.int .i64 32,.int .i64 63,.int .i64 64] 2):=(hg1.block _ HK.o.2 (λe=>by simp at e;omega)).trans HK.o.1;have b0:w3.cell? ⟨wc.heap.size,0,none⟩=some (.int .i64 31):=by simp [World.cell?,hb]
    have b1:w3.cell? ⟨wc.heap.size,1,none⟩=some (.int .i64 32):=by simp [World.cell?,hb]
    have b2:w3.cell? ⟨wc.heap.size,2,none⟩=some (.int .i64 63):=by simp [World.cell?,hb]
    have b3:w3.cell? ⟨wc.heap.size,3,none⟩=some (.int .i64 64):=by simp [World.cell?,hb]
    have f0:=HF.o.c0;have f1:=HF.o.c1;have f2:=HF.o.c2;clear hb HK HE HW hC1 hg1
    rcases (show z=0\/z=1\/z=2\/z=3 by omega) with rfl|rfl|rfl|rfl
    . go_wp2_with (first|(go_at_call 101;first|(with_reducible refine (p_11 _).mono ?_;rintro e w' ⟨rfl,rfl⟩)|(with_reducible refine (p_10 _).mono ?_;rintro e w' ⟨rfl,rfl⟩)|(with_reducible refine (p_63 _).mono ?_;rintro e w' ⟨rfl,rfl⟩)|(with_reducible refine (p_52 _).mono ?_;rintro e w' ⟨rfl,rfl⟩)|(with_reducible refine (p_51 _).mono ?_;rintro e w' ⟨rfl,rfl⟩)))
      go_ret
      exact ⟨_,rfl,(QQ _).1,(QQ _).2,HF.o.cur,HF.o.gr⟩
    . go_wp2_with (first|(go_at_call 101;first|(with_reducible refine (p_11 _).mono ?_;rintro e w' ⟨rfl,rfl⟩)|(with_reducible refine (p_10 _).mono ?_;rintro e w' ⟨rfl,rfl⟩)|(with_reducible refine (p_63 _).mono ?_;rintro e w' ⟨rfl,rfl⟩)|(with_reducible refine (p_52 _).mono ?_;rintro e w' ⟨rfl,rfl⟩)|(with_reducible refine (p_51 _).mono ?_;rintro e w' ⟨rfl,rfl⟩)))
      go_ret
      exact ⟨_,rfl,(QQ _).1,(QQ _).2,HF.o.cur,HF.o.gr⟩
    . go_wp2_with (first|(go_at_call 101;first|(with_reducible refine (p_11 _).mono ?_;rintro e w' ⟨rfl,rfl⟩)|(with_reducible refine (p_10 _).mono ?_;rintro e w' ⟨rfl,rfl⟩)|(with_reducible refine (p_63 _).mono ?_;rintro e w' ⟨rfl,rfl⟩)|(with_reducible refine (p_52 _).mono ?_;rintro e w' ⟨rfl,rfl⟩)|(with_reducible refine (p_51 _).mono ?_;rintro e w' ⟨rfl,rfl⟩)))
      go_ret
      exact ⟨_,rfl,(QQ _).1,(QQ _).2,HF.o.cur,HF.o.gr⟩
    . go_wp2_with (first|(go_at_call 101;first|(with_reducible refine (p_11 _).mono ?_;rintro e w' ⟨rfl,rfl⟩)|(with_reducible refine (p_10 _).mono ?_;rintro e w' ⟨rfl,rfl⟩)|(with_reducible refine (p_63 _).mono ?_;rintro e w' ⟨rfl,rfl⟩)|(with_reducible refine (p_52 _).mono ?_;rintro e w' ⟨rfl,rfl⟩)|(with_reducible refine (p_51 _).mono ?_;rintro e w' ⟨rfl,rfl⟩)))
      go_ret
      exact ⟨_,rfl,(QQ _).1,(QQ _).2,HF.o.cur,HF.o.gr⟩
  . -- any fraction
    have e0:(k==0)=false:=beq_eq_false_iff_ne.2 (by omega);have e1:(k==1)=false:=beq_eq_false_iff_ne.2 (by omega);have e2:(k==2)=false:=beq_eq_false_iff_ne.2 (by omega);have e3:(k==3)=false:=beq_eq_false_iff_ne.2 (by omega);have e4:(k==4)=false:=beq_eq_false_iff_ne.2 (by omega);have e5:(k==5)=false:=beq_eq_false_iff_ne.2 (by omega);have e6:(k==6)=false:=beq_eq_false_iff_ne.2 (by omega);have e7:(k==7)=false:=beq_eq_false_iff_ne.2 (by omega);have e8:(k==8)=false:=beq_eq_false_iff_ne.2 (by omega);have e9:(k==9)=false:=beq_eq_false_iff_ne.2 (by omega);have e10:(k==10)=false:=beq_eq_false_iff_ne.2 (by omega)
    go_upto_region 31 with fail
    go_cut [12] from 182 to 188 (λs V=>∃ y:Int,s=.int .u64 y/\DS w g a cap xs w.heap.size 53 11 (-1074) V)
    case first =>
     go_region_held3 (fun w'=>w'.cell? ⟨w.heap.size,0,none⟩=some (.int .i64 53)/\w'.cell? ⟨w.heap.size,1,none⟩=some (.int .i64 11)/\w'.cell? ⟨w.heap.size,2,none⟩=some (.int .i64 (-1074))) (first | exact ⟨f0,f1,f2⟩ | exact ⟨k0,k1,k2⟩ | exact ⟨k3,k4,k5⟩) (first
     |(go_at_call 43;refine (KD.o _ ?hcur).mono ?_;(case hcur=>first|exact HD.o.cur|exact HD.o.drew.cur);rintro e w3 ⟨y,rfl,hy0,hy1,hC1,hg1⟩;have HDn:Hid (DS w g a cap xs w.heap.size 53 11 (-1074) w3):=(by first|exact HD.o.drew.step hC1 hg1|exact HD.o.step hC1 hg1);have k0:=HDn.o.c0;have k1:=HDn.o.c1;have k2:=HDn.o.c2)
      | (go_at_call 101;first | (with_reducible refine (p_11 _).mono ?_;rintro e w' ⟨rfl,rfl⟩) | (with_reducible refine (p_10 _).mono ?_;rintro e w' ⟨rfl,rfl⟩) | (with_reducible refine (p_63 _).mono ?_;rintro e w' ⟨rfl,rfl⟩) | (with_reducible refine (p_52 _).mono ?_;rintro e w' ⟨rfl,rfl⟩) | (with_reducible refine (p_51 _).mono ?_;rintro e w' ⟨rfl,rfl⟩)))
     all_goals
      go_wp2_with fail
      go_meet
      case rel=>exact ⟨_,rfl,by first|exact HDn.o|exact HDn.o.drew⟩
    case rest =>
     rename_i wd _ _
     obtain ⟨fr,rfl,hDD⟩:=hcut;clear f0 f1 f2 HD;have HD:=Hm hDD;clear hDD
     go_wp2_with fail
     refine (KB.o _ 50 HD.o.cur (by omega) (by omega)).mono ?_
     rintro e w4 ⟨ee,rfl,he0,he1,hC1,hg1⟩;have HE:=Hm (HD.o.step hC1 hg1);clear HD hC1 hg1
     go_wp2_with fail
     refine (KO.o _ 3 HE.o.cur (by omega) (by omega)).mono ?_
     rintro e w5 ⟨r,rfl,hC1,hg1⟩;have HF:=Hm (HE.o.step hC1 hg1);clear HE hC1 hg1;have f0:=HF.o.c0;have f1:=HF.o.c1;have f2:=HF.o.c2
     cases r
     . go_wp2_with (first|(go_at_call 101;first|(with_reducible refine (p_11 _).mono ?_;rintro e w' ⟨rfl,rfl⟩)|(with_reducible refine (p_10 _).mono ?_;rintro e w' ⟨rfl,rfl⟩)|(with_reducible refine (p_63 _).mono ?_;rintro e w' ⟨rfl,rfl⟩)|(with_reducible refine (p_52 _).mono ?_;rintro e w' ⟨rfl,rfl⟩)|(with_reducible refine (p_51 _).mono ?_;rintro e w' ⟨rfl,rfl⟩)))
       go_ret
       exact ⟨_,rfl,(QQ _).1,(QQ _).2,HF.o.cur,HF.o.gr⟩
     . go_wp2
       go_quiet (first|(with_reducible exact (pow_q 52 4503599627370496 _ _ (by decide) (by decide) (by decide)))|(with_reducible exact (pow_q 51 2251799813685248 _ _ (by decide) (by decide) (by decide))))
       go_wp2
       go_ret
       exact ⟨_,rfl,(QQ _).1,(QQ _).2,HF.o.cur.of_heap rfl,Gd HF.o.gr rfl rfl rfl rfl⟩
end Go.Proofs.YtipfjdogokanbaaGreatDoor.L3
