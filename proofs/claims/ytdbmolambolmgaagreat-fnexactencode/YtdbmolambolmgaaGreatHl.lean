import Derived.Test.YtdbmolambolmgaaGreatGu
import Derived.Test.YtdbmolambolmgaaGreatHk
set_option linter.all false
set_option maxHeartbeats 16000000
set_option maxRecDepth 100000
namespace Go.Proofs.YtdbmolambolmgaaGreat
open Go.RowKit Go.Sort
set_option maxRecDepth 100000
def gpB (x:Mod):Bool:=x.types.all ftB&&(x.imps.all impB&&((x.tabs++x.mems).all limB&&(x.globs.all globB&&(x.exps.all expB))))
theorem Tryz.infoLim:(Tryz.prog.info? 99).map (fun i=>(i.zero,i.size,i.bytes))=some (some (.agg #[.int .i64 0,.int .i64 0,.bool false]),3,24):=by kernel_rfl
theorem Tryz.underLimS:Tryz.prog.underlying 38=some (.slice 99):=by kernel_rfl
theorem own_zeroL (W:World):((W.alloc (.cells #[] 99)).drew).ownsRow W.heap.size 99 3 (.slice (some ⟨W.heap.size,0,none⟩) 0 0) 0 []:=by
 refine ⟨rfl,.inr ⟨W.heap.size,0,#[],rfl,Nat.le_refl _,?_,Nat.le_refl _,by decide,rfl,rfl⟩⟩
 exact Array.getElem?_push_size
theorem own_twoL {w:World} {B:Nat} {v:Value} {ps rs:List Limits} (h:w.ownsRow B 99 3 v (0+ps.length+rs.length) (([]++LCs ps)++LCs rs)):∃ a c,v=.slice a (ps++rs).length c∧Limits.Ls 0 w a (ps++rs):=by
 have e:([]++LCs ps)++LCs rs=LCs (ps++rs):=by rw [LCs_app];rfl
 have e2:0+ps.length+rs.length=(ps++rs).length:=by simp
 rw [e,e2] at h
 exact own_lims h
theorem sgp_c (x:Mod) (a1:Option Addr) (c1:Nat) (a2:Option Addr) (c2:Nat) (a3:Option Addr) (c3:Nat) (a4:Option Addr) (c4:Nat) (a5:Option Addr) (c5:Nat) (a6:Option Addr) (c6:Nat) (a7:Option Addr) (c7:Nat) (a8:Option Addr) (c8:Nat) (a9:Option Addr) (c9:Nat) (a10:Option Addr) (c10:Nat) (a11:Option Addr) (c11:Nat) (w:World) (hI:Mod.Is 0 w x a1 a2 a3 a4 a5 a6 a7 a8 a9 a10 a11) (hl:Mod.LB 1048576 x) (hp:x.Pos) :
    Calls Tryz.prog 29 #[.agg #[.slice a1 x.types.length c1,.slice a2 x.imps.length c2,.slice a3 x.funcs.length c3,.slice a4 x.tabs.length c4,.slice a5 x.mems.length c5,.slice a6 x.globs.length c6,.slice a7 x.exps.length c7,.bool x.hasS,.int .i64 x.start,.slice a8 x.elems.length c8,.slice a9 x.codes.length c9,.slice a10 x.datas.length c10,.slice a11 x.customs.length c11]] w fun e w'=>e=.returned (.bool (gpB x))∧Below w.heap.size w w':=by
 have ⟨l1,l2,l3,l4,l5,l6,l7,l8,l9,l10,l11⟩:=modLn hl
 obtain ⟨r1,r2,r3,r4,r5,r6,r7,r8,r9,r10,r11⟩:=hI
 have R1:=Hm r1
 have R2:=Hm r2
 have R4:=Hm r4
 have R5:=Hm r5
 have R6:=Hm r6
 have R7:=Hm r7
 clear r1 r2 r3 r4 r5 r6 r7 r8 r9 r10 r11
 have LL:=Hm hl
 have PP:=Hm hp
 have HW:Hid (gpB x=(x.types.all ftB&&(x.imps.all impB&&((x.tabs++x.mems).all limB&&(x.globs.all globB&&(x.exps.all expB)))))):=rfl
 clear hl hp
 go_enter Tryz.func29,Tryz.ntmps29
 go_upto_region 1 with fail
 refine wp_gen (fun W=>Bk W w.heap.size [.slice a1 x.types.length c1,.slice a2 x.imps.length c2,.slice a3 x.funcs.length c3,.slice a4 x.tabs.length c4,.slice a5 x.mems.length c5,.slice a6 x.globs.length c6,.slice a7 x.exps.length c7,.bool x.hasS,.int .i64 x.start,.slice a8 x.elems.length c8,.slice a9 x.codes.length c9,.slice a10 x.datas.length c10,.slice a11 x.customs.length c11]∧Below w.heap.size w W) ⟨Bk.new,(Below.refl _ _).alloc (Nat.le_refl _) _⟩ ?_
 rintro W0 ⟨bb,hb⟩
 have q0:=bb.2.1 0 _ rfl
 have q1:=bb.2.1 1 _ rfl
 have q2:=bb.2.1 2 _ rfl
 have q3:=bb.2.1 3 _ rfl
 have q4:=bb.2.1 4 _ rfl
 have q5:=bb.2.1 5 _ rfl
 have q6:=bb.2.1 6 _ rfl
 have q7:=bb.2.1 7 _ rfl
 have q8:=bb.2.1 8 _ rfl
 have q9:=bb.2.1 9 _ rfl
 have q10:=bb.2.1 10 _ rfl
 have q11:=bb.2.1 11 _ rfl
 have q12:=bb.2.1 12 _ rfl
 go_wp2_with fail
 go_loopw [3] (fun i wr=>∃ k:Nat,k≤x.types.length∧i=.int .i64 k∧(∀ j,j<k→ftB (x.types.getD j FType.z)=true)∧Bk wr w.heap.size [.slice a1 x.types.length c1,.slice a2 x.imps.length c2,.slice a3 x.funcs.length c3,.slice a4 x.tabs.length c4,.slice a5 x.mems.length c5,.slice a6 x.globs.length c6,.slice a7 x.exps.length c7,.bool x.hasS,.int .i64 x.start,.slice a8 x.elems.length c8,.slice a9 x.codes.length c9,.slice a10 x.datas.length c10,.slice a11 x.customs.length c11]∧Below w.heap.size w wr) (fun i _=>x.types.length-(intOf i).toNat)
 case atStart=>exact ⟨0,Nat.zero_le _,rfl,fun j h=>by omega,bb,hb⟩
 case round =>
  clear bb hb q0 q1 q2 q3 q4 q5 q6 q7 q8 q9 q10 q11 q12
  obtain ⟨k,hk,rfl,hall,bb,hb⟩:=hrel
  have q0:=bb.2.1 0 _ rfl
  have q1:=bb.2.1 1 _ rfl
  have q2:=bb.2.1 2 _ rfl
  have q3:=bb.2.1 3 _ rfl
  have q4:=bb.2.1 4 _ rfl
  have q5:=bb.2.1 5 _ rfl
  have q6:=bb.2.1 6 _ rfl
  have q7:=bb.2.1 7 _ rfl
  have q8:=bb.2.1 8 _ rfl
  have q9:=bb.2.1 9 _ rfl
  have q10:=bb.2.1 10 _ rfl
  have q11:=bb.2.1 11 _ rfl
  have q12:=bb.2.1 12 _ rfl
  by_cases hlt:k<x.types.length
  · have hki:(k:Int)<(x.types.length:Int):=by omega
    rcases R1.out.up (up_below hb) with hx | ⟨b,o,ea,_,hc⟩
    · rw [hx] at hlt;simp at hlt
    have hxk:=hc k hlt
    have hxl:=(LL.out.1).2 k hlt
    subst ea
    obtain ⟨y,hy⟩:∃ y,y=x.types.getD k FType.z:=⟨_,rfl⟩
    rw [← hy] at hxk hxl
    obtain ⟨e1,d1,e2,d2,⟨g0,g1⟩,hi⟩:=hxk
    have HC:=Hm (sft_c y e1 d1 e2 d2 wr hi hxl)
    generalize hg:ftB y=gy at HC
    have HG:Hid (ftB (x.types.getD k FType.z)=gy):=by show _=_;rw [← hy];exact hg
    have HB:=Hm hb
    have BB:=Hm bb
    cases gy
    · have HFIN:Hid (gpB x=false):=by show _=_;rw [HW.out,alls_f ftB x.types FType.z k hlt HG.out];rfl
      clear hall hc hb bb hi hy hg HW HG
      go_wp2_with fail
      refine HC.out.mono ?_
      rintro e w2 ⟨rfl,hb2⟩
      have hb3:=HB.out.trans (hb2.mono HB.out.size)
      clear hb2
      go_wp2
      go_ret
      exact ⟨by rw [HFIN.out];rfl,hb3⟩
    · have HA2:Hid (∀ j,j<k+1→ftB (x.types.getD j FType.z)=true):=fun j hj=>by
        rcases (by omega:j<k∨j=k) with h | h
        · exact hall j h
        · subst h;exact HG.out
      clear hall hc hb bb hi hy hg HG
      go_wp2_with fail
      refine HC.out.mono ?_
      rintro e w2 ⟨rfl,hb2⟩
      have hb3:=HB.out.trans (hb2.mono HB.out.size)
      have bb3:=BB.out.keep hb2
      clear hb2
      go_wp2
      go_roundw
      case rel=>exact ⟨k+1,by omega,by go_num,HA2.out,bb3,hb3⟩
      case measure=>simp [intOf];omega
  · have e:k=x.types.length:=by omega
    subst e
    have HW2:Hid (gpB x=(x.imps.all impB&&((x.tabs++x.mems).all limB&&(x.globs.all globB&&(x.exps.all expB))))):=by show _=_;rw [HW.out,alls_t ftB x.types FType.z hall,Bool.true_and]
    clear hall HW hk hlt
    have HW:=HW2
    clear HW2
    go_wp2_with fail
    go_loopw [4] (fun i wr=>∃ k:Nat,k≤x.imps.length∧i=.int .i64 k∧(∀ j,j<k→impB (x.imps.getD j Imp.z)=true)∧Bk wr w.heap.size [.slice a1 x.types.length c1,.slice a2 x.imps.length c2,.slice a3 x.funcs.length c3,.slice a4 x.tabs.length c4,.slice a5 x.mems.length c5,.slice a6 x.globs.length c6,.slice a7 x.exps.length c7,.bool x.hasS,.int .i64 x.start,.slice a8 x.elems.length c8,.slice a9 x.codes.length c9,.slice a10 x.datas.length c10,.slice a11 x.customs.length c11]∧Below w.heap.size w wr) (fun i _=>x.imps.length-(intOf i).toNat)
    case atStart=>exact ⟨0,Nat.zero_le _,rfl,fun j h=>by omega,bb,hb⟩
    case round =>
     clear bb hb q0 q1 q2 q3 q4 q5 q6 q7 q8 q9 q10 q11 q12
     obtain ⟨k,hk,rfl,hall,bb,hb⟩:=hrel
     have q0:=bb.2.1 0 _ rfl
     have q1:=bb.2.1 1 _ rfl
     have q2:=bb.2.1 2 _ rfl
     have q3:=bb.2.1 3 _ rfl
     have q4:=bb.2.1 4 _ rfl
     have q5:=bb.2.1 5 _ rfl
     have q6:=bb.2.1 6 _ rfl
     have q7:=bb.2.1 7 _ rfl
     have q8:=bb.2.1 8 _ rfl
     have q9:=bb.2.1 9 _ rfl
     have q10:=bb.2.1 10 _ rfl
     have q11:=bb.2.1 11 _ rfl
     have q12:=bb.2.1 12 _ rfl
     by_cases hlt:k<x.imps.length
     · have hki:(k:Int)<(x.imps.length:Int):=by omega
       rcases R2.out.up (up_below hb) with hx | ⟨b,o,ea,_,hc⟩
       · rw [hx] at hlt;simp at hlt
       have hxk:=hc k hlt
       have hxl:=(LL.out.2.1).2 k hlt
       subst ea
       obtain ⟨y,hy⟩:∃ y,y=x.imps.getD k Imp.z:=⟨_,rfl⟩
       rw [← hy] at hxk hxl
       obtain ⟨⟨g0,g1,g2,g3,g4,g5,g6,g7,g8⟩,hi⟩:=hxk
       have HC:=Hm (simp_c y  wr hi hxl)
       generalize hg:impB y=gy at HC
       have HG:Hid (impB (x.imps.getD k Imp.z)=gy):=by show _=_;rw [← hy];exact hg
       have HB:=Hm hb
       have BB:=Hm bb
       cases gy
       · have HFIN:Hid (gpB x=false):=by show _=_;rw [HW.out,alls_f impB x.imps Imp.z k hlt HG.out];rfl
         clear hall hc hb bb hi hy hg HW HG
         go_wp2_with fail
         refine HC.out.mono ?_
         rintro e w2 ⟨rfl,hb2⟩
         have hb3:=HB.out.trans (hb2.mono HB.out.size)
         clear hb2
         go_wp2
         go_ret
         exact ⟨by rw [HFIN.out];rfl,hb3⟩
       · have HA2:Hid (∀ j,j<k+1→impB (x.imps.getD j Imp.z)=true):=fun j hj=>by
           rcases (by omega:j<k∨j=k) with h | h
           · exact hall j h
           · subst h;exact HG.out
         clear hall hc hb bb hi hy hg HG
         go_wp2_with fail
         refine HC.out.mono ?_
         rintro e w2 ⟨rfl,hb2⟩
         have hb3:=HB.out.trans (hb2.mono HB.out.size)
         have bb3:=BB.out.keep hb2
         clear hb2
         go_wp2
         go_roundw
         case rel=>exact ⟨k+1,by omega,by go_num,HA2.out,bb3,hb3⟩
         case measure=>simp [intOf];omega
     · have e:k=x.imps.length:=by omega
       subst e
       have HW2:Hid (gpB x=((x.tabs++x.mems).all limB&&(x.globs.all globB&&(x.exps.all expB)))):=by show _=_;rw [HW.out,alls_t impB x.imps Imp.z hall,Bool.true_and]
       clear hall HW hk hlt
       have HW:=HW2
       clear HW2
       go_upto_region 11 with fail
       obtain ⟨i0,hi,hz0,hz1,hz2⟩:=info_parts Tryz.infoLim
       have OWN:=Hm (own_zeroL wr)
       have bd:Bk (wr.alloc (.cells #[] 99)) w.heap.size [.slice a1 x.types.length c1,.slice a2 x.imps.length c2,.slice a3 x.funcs.length c3,.slice a4 x.tabs.length c4,.slice a5 x.mems.length c5,.slice a6 x.globs.length c6,.slice a7 x.exps.length c7,.bool x.hasS,.int .i64 x.start,.slice a8 x.elems.length c8,.slice a9 x.codes.length c9,.slice a10 x.datas.length c10,.slice a11 x.customs.length c11]:=bb.past
       have s3:=bd.2.1 3 _ rfl
       have s4:=bd.2.1 4 _ rfl
       clear bd
       have b0:Below wr.heap.size wr ((wr.alloc (.cells #[] 99)).drew):=((Below.refl _ wr).alloc (Nat.le_refl _) _).drew
       have N1:=Hm ((R4.out.up (up_below hb)).src.on b0)
       have N2:=Hm ((R5.out.up (up_below hb)).src)
       have B0:=Hm b0
       have BB:=Hm bb
       have HB:=Hm hb
       clear b0 bb hb
       go_cut [5] from 37 (fun s V=>∃ a c,s=.slice a (x.tabs++x.mems).length c∧Limits.Ls 0 V a (x.tabs++x.mems)∧Bk V w.heap.size [.slice a1 x.types.length c1,.slice a2 x.imps.length c2,.slice a3 x.funcs.length c3,.slice a4 x.tabs.length c4,.slice a5 x.mems.length c5,.slice a6 x.globs.length c6,.slice a7 x.exps.length c7,.bool x.hasS,.int .i64 x.start,.slice a8 x.elems.length c8,.slice a9 x.codes.length c9,.slice a10 x.datas.length c10,.slice a11 x.customs.length c11]∧Below w.heap.size w V)
       case first =>
        go_region_law (first
         | (refine step_append_own rfl (.tmp 37) (.tmp 39) 38 rfl wr.heap.size 99 i0 (.agg #[.int .i64 0,.int .i64 0,.bool false]) 3 24 Tryz.underLimS hi hz0 hz1 hz2 rfl (by decide) (.slice (some ⟨wr.heap.size,0,none⟩) 0 0) 0 [] (by simp [Act.eval,Act.put]) OWN.out a4 x.tabs.length c4 (LCs x.tabs) (by simp [Act.eval,Act.put]) (LCs_len _) N1.out (LCs_one _) (by simp [maxLen];omega) (by omega) (by simp) ?_
            intro v1 w1 own1 gr1
            have b1:=Hm (B0.out.grown gr1 (by simp) (fun k hk=>by simp [Value.ownBlock] at hk;omega))
            have t1:w1.cell? ⟨w.heap.size,4,none⟩=some (.slice a5 x.mems.length c5):=(BB.out.keep b1.out).2.1 4 _ rfl
            have O1:=Hm own1
            clear own1 gr1)
         | (refine step_append_own rfl (.tmp 40) (.tmp 42) 38 rfl wr.heap.size 99 i0 (.agg #[.int .i64 0,.int .i64 0,.bool false]) 3 24 Tryz.underLimS hi hz0 hz1 hz2 rfl (by decide) v1 (0+x.tabs.length) ([]++LCs x.tabs) (by simp [Act.eval,Act.put]) O1.out a5 x.mems.length c5 (LCs x.mems) (by simp [Act.eval,Act.put]) (LCs_len _) (N2.out.on b1.out) (LCs_one _) (by simp [maxLen];omega) (by omega) b1.out.size ?_
            intro v2 w2 own2 gr2
            have b2:=Hm (b1.out.grown gr2 b1.out.size (own_ge O1.out))
            have O2:=Hm own2
            clear own2 gr2))
        all_goals
         go_wp2_with fail
         go_meet
         obtain ⟨a,c,e,hh⟩:=own_twoL O2.out
         exact ⟨a,c,e,hh,BB.out.keep b2.out,HB.out.trans (b2.out.mono HB.out.size)⟩
       case rest =>
        obtain ⟨a,c,rfl,hh,bb,hb⟩:=hcut
        clear OWN N1 N2 B0 BB HB s3 s4 hi hz0 hz1 hz2 q0 q1 q2 q3 q4 q5 q6 q7 q8 q9 q10 q11 q12
        have hle:(x.tabs++x.mems).length≤2097152:=by simp;omega
        generalize hlx:x.tabs++x.mems=l at *
        have HH:=Hm hh
        have BB:=Hm bb
        have HB:=Hm hb
        have HLX:=Hm hlx
        clear hh bb hb hlx
        go_wp2_with fail
        go_loopw [6] (fun i wr=>∃ k:Nat,k≤l.length∧i=.int .i64 k∧(∀ j,j<k→limB (l.getD j Limits.z)=true)∧Below wc.heap.size wc wr) (fun i _=>l.length-(intOf i).toNat)
        case atStart=>exact ⟨0,Nat.zero_le _,rfl,fun j h=>by omega,Below.refl _ _⟩
        case round =>
         obtain ⟨k,hk,rfl,hall,hbw⟩:=hrel
         by_cases hlt:k<l.length
         · have hki:(k:Int)<(l.length:Int):=by omega
           rcases HH.out.up (up_below hbw) with hx | ⟨b,o,ea,_,hc⟩
           · rw [hx] at hlt;simp at hlt
           have hxk:=hc k hlt
           subst ea
           obtain ⟨y,hy⟩:∃ y,y=l.getD k Limits.z:=⟨_,rfl⟩
           rw [← hy] at hxk
           obtain ⟨⟨g0,g1,g2⟩,hi⟩:=hxk
           have HC:=Hm (slim_c y wr)
           generalize hg:limB y=gy at HC
           have HG:Hid (limB (l.getD k Limits.z)=gy):=by show _=_;rw [← hy];exact hg
           have HBW:=Hm hbw
           cases gy
           · have HFIN:Hid (gpB x=false):=by show _=_;rw [HW.out,alls_f limB l Limits.z k hlt HG.out];rfl
             clear hall hc hbw hi hy hg HW HG
             go_wp2_with fail
             refine HC.out.mono ?_
             rintro e w2 ⟨rfl,hb2⟩
             have hb3:=HB.out.trans ((HBW.out.trans (hb2.mono HBW.out.size)).mono HB.out.size)
             clear hb2
             go_wp2
             go_ret
             exact ⟨by rw [HFIN.out];rfl,hb3⟩
           · have HA2:Hid (∀ j,j<k+1→limB (l.getD j Limits.z)=true):=fun j hj=>by
               rcases (by omega:j<k∨j=k) with h | h
               · exact hall j h
               · subst h;exact HG.out
             clear hall hc hbw hi hy hg HG
             go_wp2_with fail
             refine HC.out.mono ?_
             rintro e w2 ⟨rfl,hb2⟩
             have hb3:=HBW.out.trans (hb2.mono HBW.out.size)
             clear hb2
             go_wp2
             go_roundw
             case rel=>exact ⟨k+1,by omega,by go_num,HA2.out,hb3⟩
             case measure=>simp [intOf];omega
         · have e:k=l.length:=by omega
           subst e
           have HW2:Hid (gpB x=(x.globs.all globB&&(x.exps.all expB))):=by show _=_;rw [HW.out,alls_t limB l Limits.z hall,Bool.true_and]
           have bb:=BB.out.keep hbw
           have hb:=HB.out.trans (hbw.mono HB.out.size)
           clear hall HW hk hlt HH BB HB HLX hbw
           have HW:=HW2
           clear HW2
           have q0:=bb.2.1 0 _ rfl
           have q1:=bb.2.1 1 _ rfl
           have q2:=bb.2.1 2 _ rfl
           have q3:=bb.2.1 3 _ rfl
           have q4:=bb.2.1 4 _ rfl
           have q5:=bb.2.1 5 _ rfl
           have q6:=bb.2.1 6 _ rfl
           have q7:=bb.2.1 7 _ rfl
           have q8:=bb.2.1 8 _ rfl
           have q9:=bb.2.1 9 _ rfl
           have q10:=bb.2.1 10 _ rfl
           have q11:=bb.2.1 11 _ rfl
           have q12:=bb.2.1 12 _ rfl
           go_wp2_with fail
           go_loopw [7] (fun i wr=>∃ k:Nat,k≤x.globs.length∧i=.int .i64 k∧(∀ j,j<k→globB (x.globs.getD j Glob.z)=true)∧Bk wr w.heap.size [.slice a1 x.types.length c1,.slice a2 x.imps.length c2,.slice a3 x.funcs.length c3,.slice a4 x.tabs.length c4,.slice a5 x.mems.length c5,.slice a6 x.globs.length c6,.slice a7 x.exps.length c7,.bool x.hasS,.int .i64 x.start,.slice a8 x.elems.length c8,.slice a9 x.codes.length c9,.slice a10 x.datas.length c10,.slice a11 x.customs.length c11]∧Below w.heap.size w wr) (fun i _=>x.globs.length-(intOf i).toNat)
           case atStart=>exact ⟨0,Nat.zero_le _,rfl,fun j h=>by omega,bb,hb⟩
           case round =>
            clear bb hb q0 q1 q2 q3 q4 q5 q6 q7 q8 q9 q10 q11 q12
            obtain ⟨k,hk,rfl,hall,bb,hb⟩:=hrel
            have q0:=bb.2.1 0 _ rfl
            have q1:=bb.2.1 1 _ rfl
            have q2:=bb.2.1 2 _ rfl
            have q3:=bb.2.1 3 _ rfl
            have q4:=bb.2.1 4 _ rfl
            have q5:=bb.2.1 5 _ rfl
            have q6:=bb.2.1 6 _ rfl
            have q7:=bb.2.1 7 _ rfl
            have q8:=bb.2.1 8 _ rfl
            have q9:=bb.2.1 9 _ rfl
            have q10:=bb.2.1 10 _ rfl
            have q11:=bb.2.1 11 _ rfl
            have q12:=bb.2.1 12 _ rfl
            by_cases hlt:k<x.globs.length
            · have hki:(k:Int)<(x.globs.length:Int):=by omega
              rcases R6.out.up (up_below hb) with hx | ⟨b,o,ea,_,hc⟩
              · rw [hx] at hlt;simp at hlt
              have hxk:=hc k hlt
              have hxl:=(LL.out.2.2.2.2.2.1).2 k hlt
              have hxp:=PP.out.1 k hlt
              subst ea
              obtain ⟨y,hy⟩:∃ y,y=x.globs.getD k Glob.z:=⟨_,rfl⟩
              rw [← hy] at hxk hxl hxp
              have HB:=Hm hb
              have BB:=Hm bb
              obtain ⟨e1,d1,⟨g0,g1,g2⟩,hi⟩:=hxk
              have HT:=Hm (ty_c y.ty.ty wr)
              have HC:=Hm (sclo e1 d1 y.ini wr hxl hxp hi)
              generalize hg1:tyB y.ty.ty=t1 at HT
              generalize hg2:closedM y.ini=t2 at HC
              have HG:Hid (globB (x.globs.getD k Glob.z)=(t1&&t2)):=by show _=_;rw [← hy];simp [globB,hg1,hg2]
              cases t1
              · have HG:Hid (globB (x.globs.getD k Glob.z)=false):=HG.out
                have HFIN:Hid (gpB x=false):=by show _=_;rw [HW.out,alls_f globB x.globs Glob.z k hlt HG.out];rfl
                clear hall hc hb bb hi hy hg1 hg2 HW HG HC
                go_wp2_with (go_at_call 111;with_reducible refine HT.out.mono ?_;rintro e w1 ⟨rfl,rfl⟩)
                go_ret
                exact ⟨by rw [HFIN.out];rfl,HB.out⟩
              cases t2
              · have HG:Hid (globB (x.globs.getD k Glob.z)=false):=HG.out
                have HFIN:Hid (gpB x=false):=by show _=_;rw [HW.out,alls_f globB x.globs Glob.z k hlt HG.out];rfl
                clear hall hc hb bb hi hy hg1 hg2 HW HG
                go_wp2_with (go_at_call 111;with_reducible refine HT.out.mono ?_;rintro e w1 ⟨rfl,rfl⟩)
                refine HC.out.mono ?_
                rintro e w2 ⟨rfl,hb2⟩
                have hb3:=HB.out.trans (hb2.mono HB.out.size)
                clear hb2
                go_wp2
                go_ret
                exact ⟨by rw [HFIN.out];rfl,hb3⟩
              · have HG:Hid (globB (x.globs.getD k Glob.z)=true):=HG.out
                have HA2:Hid (∀ j,j<k+1→globB (x.globs.getD j Glob.z)=true):=fun j hj=>by
                 rcases (by omega:j<k∨j=k) with h | h
                 · exact hall j h
                 · subst h;exact HG.out
                clear hall hc hb bb hi hy hg1 hg2 HG
                go_wp2_with (go_at_call 111;with_reducible refine HT.out.mono ?_;rintro e w1 ⟨rfl,rfl⟩)
                refine HC.out.mono ?_
                rintro e w2 ⟨rfl,hb2⟩
                have hb3:=HB.out.trans (hb2.mono HB.out.size)
                have bb3:=BB.out.keep hb2
                clear hb2
                go_wp2
                go_roundw
                case rel=>exact ⟨k+1,by omega,by go_num,HA2.out,bb3,hb3⟩
                case measure=>simp [intOf];omega
            · have e:k=x.globs.length:=by omega
              subst e
              have HW2:Hid (gpB x=(x.exps.all expB)):=by show _=_;rw [HW.out,alls_t globB x.globs Glob.z hall,Bool.true_and]
              clear hall HW hk hlt
              have HW:=HW2
              clear HW2
              go_wp2_with fail
              go_loopw [8] (fun i wr=>∃ k:Nat,k≤x.exps.length∧i=.int .i64 k∧(∀ j,j<k→expB (x.exps.getD j Exp.z)=true)∧Bk wr w.heap.size [.slice a1 x.types.length c1,.slice a2 x.imps.length c2,.slice a3 x.funcs.length c3,.slice a4 x.tabs.length c4,.slice a5 x.mems.length c5,.slice a6 x.globs.length c6,.slice a7 x.exps.length c7,.bool x.hasS,.int .i64 x.start,.slice a8 x.elems.length c8,.slice a9 x.codes.length c9,.slice a10 x.datas.length c10,.slice a11 x.customs.length c11]∧Below w.heap.size w wr) (fun i _=>x.exps.length-(intOf i).toNat)
              case atStart=>exact ⟨0,Nat.zero_le _,rfl,fun j h=>by omega,bb,hb⟩
              case round =>
               clear bb hb q0 q1 q2 q3 q4 q5 q6 q7 q8 q9 q10 q11 q12
               obtain ⟨k,hk,rfl,hall,bb,hb⟩:=hrel
               have q0:=bb.2.1 0 _ rfl
               have q1:=bb.2.1 1 _ rfl
               have q2:=bb.2.1 2 _ rfl
               have q3:=bb.2.1 3 _ rfl
               have q4:=bb.2.1 4 _ rfl
               have q5:=bb.2.1 5 _ rfl
               have q6:=bb.2.1 6 _ rfl
               have q7:=bb.2.1 7 _ rfl
               have q8:=bb.2.1 8 _ rfl
               have q9:=bb.2.1 9 _ rfl
               have q10:=bb.2.1 10 _ rfl
               have q11:=bb.2.1 11 _ rfl
               have q12:=bb.2.1 12 _ rfl
               by_cases hlt:k<x.exps.length
               · have hki:(k:Int)<(x.exps.length:Int):=by omega
                 rcases R7.out.up (up_below hb) with hx | ⟨b,o,ea,_,hc⟩
                 · rw [hx] at hlt;simp at hlt
                 have hxk:=hc k hlt
                 have hxl:=(LL.out.2.2.2.2.2.2.1).2 k hlt
                 skip
                 subst ea
                 obtain ⟨y,hy⟩:∃ y,y=x.exps.getD k Exp.z:=⟨_,rfl⟩
                 rw [← hy] at hxk hxl
                 have HB:=Hm hb
                 have BB:=Hm bb
                 have HX:=Hm hxk
                 obtain ⟨⟨g0,g1,g2⟩,hi⟩:=hxk
                 have HN:=Hm (sname_ok y.nm wr hxl)
                 have HK:=Hm (l1In_c y.kind 0 3)
                 have HU:=Hm (u32_c y.ix)
                 generalize hg1:nameB y.nm=t1 at HN
                 generalize hg2:decide (0≤y.kind∧y.kind≤3)=t2 at HK
                 generalize hg3:u32B y.ix=t3 at HU
                 have HG:Hid (expB (x.exps.getD k Exp.z)=(t1&&t2&&t3)):=by show _=_;rw [← hy,expB,kindB,hg1,hg2,hg3]
                 cases t1
                 · have HG:Hid (expB (x.exps.getD k Exp.z)=false):=HG.out
                   have HFIN:Hid (gpB x=false):=by show _=_;rw [HW.out,alls_f expB x.exps Exp.z k hlt HG.out]
                   clear hall hc hb bb hi hy hg1 hg2 hg3 HW HG HK HU HX
                   go_wp2_with fail
                   refine HN.out.mono ?_
                   rintro e w2 ⟨rfl,hb2⟩
                   have hb3:=HB.out.trans (hb2.mono HB.out.size)
                   clear hb2
                   go_wp2
                   go_ret
                   exact ⟨by rw [HFIN.out];rfl,hb3⟩
                 cases t2
                 · have HG:Hid (expB (x.exps.getD k Exp.z)=false):=HG.out
                   have HFIN:Hid (gpB x=false):=by show _=_;rw [HW.out,alls_f expB x.exps Exp.z k hlt HG.out]
                   clear hall hc hb bb hi hy hg1 hg2 hg3 HW HG HU
                   go_wp2_with fail
                   refine HN.out.mono ?_
                   rintro e w2 ⟨rfl,hb2⟩
                   have hb3:=HB.out.trans (hb2.mono HB.out.size)
                   have bb3:=BB.out.keep hb2
                   obtain ⟨⟨g0,g1,g2⟩,hi⟩:=HX.out.up (up_below hb2) (Nat.zero_le _)
                   have q6:=bb3.2.1 6 _ rfl
                   clear hb2 bb3 HX
                   go_wp2_with (go_at_call 35;with_reducible refine (HK.out _).mono ?_;rintro e w1 ⟨rfl,rfl⟩)
                   go_ret
                   exact ⟨by rw [HFIN.out];rfl,hb3⟩
                 cases t3
                 · have HG:Hid (expB (x.exps.getD k Exp.z)=false):=HG.out
                   have HFIN:Hid (gpB x=false):=by show _=_;rw [HW.out,alls_f expB x.exps Exp.z k hlt HG.out]
                   clear hall hc hb bb hi hy hg1 hg2 hg3 HW HG
                   go_wp2_with fail
                   refine HN.out.mono ?_
                   rintro e w2 ⟨rfl,hb2⟩
                   have hb3:=HB.out.trans (hb2.mono HB.out.size)
                   have bb3:=BB.out.keep hb2
                   obtain ⟨⟨g0,g1,g2⟩,hi⟩:=HX.out.up (up_below hb2) (Nat.zero_le _)
                   have q6:=bb3.2.1 6 _ rfl
                   clear hb2 bb3 HX
                   go_wp2_with (first | (go_at_call 35;with_reducible refine (HK.out _).mono ?_;rintro e w1 ⟨rfl,rfl⟩) | (go_at_call 31;with_reducible refine (HU.out _).mono ?_;rintro e w1 ⟨rfl,rfl⟩))
                   go_ret
                   exact ⟨by rw [HFIN.out];rfl,hb3⟩
                 · have HG:Hid (expB (x.exps.getD k Exp.z)=true):=HG.out
                   have HA2:Hid (∀ j,j<k+1→expB (x.exps.getD j Exp.z)=true):=fun j hj=>by
                    rcases (by omega:j<k∨j=k) with h | h
                    · exact hall j h
                    · subst h;exact HG.out
                   clear hall hc hb bb hi hy hg1 hg2 hg3 HG
                   go_wp2_with fail
                   refine HN.out.mono ?_
                   rintro e w2 ⟨rfl,hb2⟩
                   have hb3:=HB.out.trans (hb2.mono HB.out.size)
                   have bb3:=BB.out.keep hb2
                   obtain ⟨⟨g0,g1,g2⟩,hi⟩:=HX.out.up (up_below hb2) (Nat.zero_le _)
                   have q6:=bb3.2.1 6 _ rfl
                   have BB3:=Hm bb3
                   clear hb2 bb3 HX
                   go_wp2_with (first | (go_at_call 35;with_reducible refine (HK.out _).mono ?_;rintro e w1 ⟨rfl,rfl⟩) | (go_at_call 31;with_reducible refine (HU.out _).mono ?_;rintro e w1 ⟨rfl,rfl⟩))
                   go_roundw
                   case rel=>exact ⟨k+1,by omega,by go_num,HA2.out,BB3.out,hb3⟩
                   case measure=>simp [intOf];omega
               · have e:k=x.exps.length:=by omega
                 subst e
                 have HW2:Hid (gpB x=true):=by show _=_;rw [HW.out,alls_t expB x.exps Exp.z hall]
                 clear hall HW hk hlt
                 go_wp2
                 go_ret
                 exact ⟨by rw [HW2.out];rfl,hb⟩
end Go.Proofs.YtdbmolambolmgaaGreat
