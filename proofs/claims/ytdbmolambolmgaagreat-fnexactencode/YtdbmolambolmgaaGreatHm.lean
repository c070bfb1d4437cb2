import Derived.Test.YtdbmolambolmgaaGreatHl
import Derived.Test.YtdbmolambolmgaaGreatGu
import Derived.Deep.CutRange
import Derived.Lib.QuietBelow
import Derived.Deep.RegionHeld3
set_option linter.all false
set_option maxHeartbeats 16000000
set_option maxRecDepth 100000
namespace Go.Proofs.YtdbmolambolmgaaGreat
open Go.RowKit Go.Sort
set_option maxRecDepth 100000
def hdB (x:Mod):Bool:=gpB x&&(x.funcs.all u32B&&(u32B x.start&&((x.hasS || x.start==0)&&decide (x.codes.length=x.funcs.length))))
def cuB (x:Mod) (k:Nat):Bool:=decide (0≤(x.customs.getD k Cus.z).aft∧(x.customs.getD k Cus.z).aft≤11)&&(nameB (x.customs.getD k Cus.z).nm&&(!(decide (0<(x.customs.getD k Cus.z).aft)&&((szs x).getD (x.customs.getD k Cus.z).aft.toNat 0==0))&&!(decide (0<k)&&decide ((x.customs.getD k Cus.z).aft<(x.customs.getD (k-1) Cus.z).aft))))
def cusA (x:Mod):Bool:=(List.range x.customs.length).all (cuB x)
def swfB (x:Mod):Bool:=hdB x&&(x.elems.all eleB&&(x.codes.all codB&&(x.datas.all datB&&cusA x)))
theorem range_t (B:Nat→Bool) (n:Nat) (h:∀ j,j<n→B j=true):(List.range n).all B=true:=by
 rw [List.all_eq_true];intro j hj;exact h j (by simpa using hj)
theorem range_f (B:Nat→Bool) (n k:Nat) (hk:k<n) (h:B k=false):(List.range n).all B=false:=by
 rw [List.all_eq_false];exact ⟨k,by simpa using hk,by simp [h]⟩
theorem swf_c (x:Mod) (a1:Option Addr) (c1:Nat) (a2:Option Addr) (c2:Nat) (a3:Option Addr) (c3:Nat) (a4:Option Addr) (c4:Nat) (a5:Option Addr) (c5:Nat) (a6:Option Addr) (c6:Nat) (a7:Option Addr) (c7:Nat) (a8:Option Addr) (c8:Nat) (a9:Option Addr) (c9:Nat) (a10:Option Addr) (c10:Nat) (a11:Option Addr) (c11:Nat) (w:World) (hI:Mod.Is 0 w x a1 a2 a3 a4 a5 a6 a7 a8 a9 a10 a11) (hl:Mod.LB 1048576 x) (hp:x.Pos) :
    Calls Tryz.prog 7 #[.agg #[.slice a1 x.types.length c1,.slice a2 x.imps.length c2,.slice a3 x.funcs.length c3,.slice a4 x.tabs.length c4,.slice a5 x.mems.length c5,.slice a6 x.globs.length c6,.slice a7 x.exps.length c7,.bool x.hasS,.int .i64 x.start,.slice a8 x.elems.length c8,.slice a9 x.codes.length c9,.slice a10 x.datas.length c10,.slice a11 x.customs.length c11]] w fun e w'=>e=.returned (.bool (swfB x))∧Below w.heap.size w w':=by
 have ⟨l1,l2,l3,l4,l5,l6,l7,l8,l9,l10,l11⟩:=modLn hl
 have HI2:=Hm hI
 obtain ⟨r1,r2,r3,r4,r5,r6,r7,r8,r9,r10,r11⟩:=hI
 have R3:=Hm r3
 have R8:=Hm r8
 have R9:=Hm r9
 have R10:=Hm r10
 have R11:=Hm r11
 clear r1 r2 r3 r4 r5 r6 r7 r8 r9 r10 r11
 have LL:=Hm hl
 have PP:=Hm hp
 have HW:Hid (swfB x=(hdB x&&(x.elems.all eleB&&(x.codes.all codB&&(x.datas.all datB&&cusA x))))):=rfl
 clear hl hp
 go_enter Tryz.func7,Tryz.ntmps7
 go_upto_region 1 with fail
 refine wp_gen (fun W=>Bk W w.heap.size [.slice a1 x.types.length c1,.slice a2 x.imps.length c2,.slice a3 x.funcs.length c3,.slice a4 x.tabs.length c4,.slice a5 x.mems.length c5,.slice a6 x.globs.length c6,.slice a7 x.exps.length c7,.bool x.hasS,.int .i64 x.start,.slice a8 x.elems.length c8,.slice a9 x.codes.length c9,.slice a10 x.datas.length c10,.slice a11 x.customs.length c11]∧Below w.heap.size w W) ⟨Bk.new,(Below.refl _ _).alloc (Nat.le_refl _) _⟩ ?_
 rintro W0 ⟨bb,hb⟩
 go_cut [42] from 9 to 42 (fun s V=>(∃ nb:Bool,s=.bool nb∧(!hdB x)=nb)∧Bk V w.heap.size [.slice a1 x.types.length c1,.slice a2 x.imps.length c2,.slice a3 x.funcs.length c3,.slice a4 x.tabs.length c4,.slice a5 x.mems.length c5,.slice a6 x.globs.length c6,.slice a7 x.exps.length c7,.bool x.hasS,.int .i64 x.start,.slice a8 x.elems.length c8,.slice a9 x.codes.length c9,.slice a10 x.datas.length c10,.slice a11 x.customs.length c11]∧Below w.heap.size w V)
 case first =>
  have q0:=bb.2.1 0 _ rfl
  have q1:=bb.2.1 1 _ rfl
  have q2:=bb.2.1 2 _ rfl
  have q3:=bb.2.1 3 _ rfl
  have q4:=bb.2.1 4 _ rfl
  have q5:=bb.2.1 5 _ rfl
  have q6:=bb.2.1 6 _ rfl
  have q7:=bb.2.1 7 _ rfl
  have q8:=bb.2.1 8 _ rfl
  have q9:=bb.2.1 9 _ rfl
  have q10:=bb.2.1 10 _ rfl
  have q11:=bb.2.1 11 _ rfl
  have q12:=bb.2.1 12 _ rfl
  have KG:=Hm (sgp_c x a1 c1 a2 c2 a3 c3 a4 c4 a5 c5 a6 c6 a7 c7 a8 c8 a9 c9 a10 c10 a11 c11 W0 (HI2.out.up (up_below hb)) LL.out PP.out)
  have KA:=Hm (fun (V:World) (h:Below w.heap.size w V)=>sall_c a3 c3 x.funcs V (by have:=LL.out.2.2.1;omega) (R3.out.up (up_below h)).has)
  have KU:=Hm (u32_c x.start)
  have HH:Hid (hdB x=(gpB x&&(x.funcs.all u32B&&(u32B x.start&&((x.hasS || x.start==0)&&decide (x.codes.length=x.funcs.length)))))):=rfl
  generalize hg1:gpB x=t1 at KG
  generalize hg2:x.funcs.all u32B=t2 at KA
  generalize hg3:u32B x.start=t3 at KU
  rw [hg1,hg2,hg3] at HH
  clear hg1 hg2 hg3 HW
  cases t1
  · have HX:Hid (hdB x=false):=HH.out
    clear HH KA KU
    go_wp2_with fail
    refine KG.out.mono ?_
    rintro e W1 ⟨rfl,hb0⟩
    have bc:=bb.keep hb0
    have hb2:=hb.trans (hb0.mono hb.size)
    clear hb0 KG bb hb q0 q1 q2 q3 q4 q5 q6 q7 q8 q9 q10 q11 q12
    go_wp2_with fail
    go_meet
    case rel=>exact ⟨⟨_,rfl,by rw [HX.out];rfl⟩,bc,hb2⟩
  go_wp2_with fail
  refine KG.out.mono ?_
  rintro e W1 ⟨rfl,hb0⟩
  have bc:=bb.keep hb0
  have hb2:=hb.trans (hb0.mono hb.size)
  clear hb0 KG bb hb q0 q1 q2 q3 q4 q5 q6 q7 q8 q9 q10 q11 q12
  have bb:=bc
  clear bc
  have q2:=bb.2.1 2 _ rfl
  have q7:=bb.2.1 7 _ rfl
  have q8:=bb.2.1 8 _ rfl
  have q10:=bb.2.1 10 _ rfl
  have BB:=Hm bb
  clear bb
  cases t2
  · have HX:Hid (hdB x=false):=HH.out
    clear HH KU
    go_wp2_with fail
    refine (KA.out _ hb2).mono ?_
    rintro e W2 ⟨rfl,rfl⟩
    clear KA
    go_wp2_with fail
    go_meet
    case rel=>exact ⟨⟨_,rfl,by rw [HX.out];rfl⟩,BB.out,hb2⟩
  go_wp2_with fail
  refine (KA.out _ hb2).mono ?_
  rintro e W2 ⟨rfl,rfl⟩
  clear KA
  cases t3
  · have HX:Hid (hdB x=false):=HH.out
    clear HH
    go_wp2_with fail
    refine (KU.out _).mono ?_
    rintro e W2 ⟨rfl,rfl⟩
    clear KU
    go_wp2_with fail
    go_meet
    case rel=>exact ⟨⟨_,rfl,by rw [HX.out];rfl⟩,BB.out,hb2⟩
  go_wp2_with fail
  refine (KU.out _).mono ?_
  rintro e W2 ⟨rfl,rfl⟩
  clear KU
  have HH2:Hid (hdB x=((x.hasS || x.start==0)&&decide (x.codes.length=x.funcs.length))):=HH.out
  clear HH
  have fin:∀ (b:Bool),((x.hasS || x.start==0)=b)→True:=fun _ _=>trivial
  clear fin
  by_cases hlen:x.codes.length=x.funcs.length
  · have hn1:((x.codes.length:Int)==(x.funcs.length:Int))=true:=by simp [hlen]
    have hn2:((x.codes.length:Int) != (x.funcs.length:Int))=false:=by simp [hlen]
    have HH3:Hid (hdB x=(x.hasS || x.start==0)):=by show _=_;rw [HH2.out,decide_eq_true hlen,Bool.and_true]
    clear HH2 hlen
    by_cases hst:x.start=0
    · have e1:(x.start==0)=true:=by simp [hst]
      have e2:(x.start != 0)=false:=by simp [hst]
      have HX:Hid (hdB x=true):=by show _=_;rw [HH3.out,e1,Bool.or_true]
      clear HH3 hst
      obtain ⟨hs,hhs⟩:∃ hs,hs=x.hasS:=⟨_,rfl⟩
      rw [← hhs] at q7
      have HHS:=Hm hhs
      clear hhs
      cases hs
      · go_wp2_with fail
        go_meet
        case rel=>exact ⟨⟨_,rfl,by rw [HX.out];rfl⟩,BB.out,hb2⟩
      · go_wp2_with fail
        go_meet
        case rel=>exact ⟨⟨_,rfl,by rw [HX.out];rfl⟩,BB.out,hb2⟩
    · have e1:(x.start==0)=false:=by simpa using hst
      have e2:(x.start != 0)=true:=by simpa using hst
      have HX1:Hid (hdB x=x.hasS):=by show _=_;rw [HH3.out,e1,Bool.or_false]
      clear HH3 hst
      obtain ⟨hs,hhs⟩:∃ hs,hs=x.hasS:=⟨_,rfl⟩
      rw [← hhs] at q7
      have HHS:=Hm hhs
      clear hhs
      cases hs
      · go_wp2_with fail
        go_meet
        case rel=>exact ⟨⟨_,rfl,by rw [HX1.out,← HHS.out];rfl⟩,BB.out,hb2⟩
      · go_wp2_with fail
        go_meet
        case rel=>exact ⟨⟨_,rfl,by rw [HX1.out,← HHS.out];rfl⟩,BB.out,hb2⟩
  · have hnn:¬ ((x.codes.length:Int)=(x.funcs.length:Int)):=by omega
    have hn1:((x.codes.length:Int)==(x.funcs.length:Int))=false:=by simpa using hnn
    have hn2:((x.codes.length:Int) != (x.funcs.length:Int))=true:=by simpa using hnn
    have HX:Hid (hdB x=false):=by show _=_;rw [HH2.out,decide_eq_false hlen,Bool.and_false]
    clear HH2 hlen hnn
    by_cases hst:x.start=0
    · have e1:(x.start==0)=true:=by simp [hst]
      have e2:(x.start != 0)=false:=by simp [hst]
      clear hst
      obtain ⟨hs,hhs⟩:∃ hs,hs=x.hasS:=⟨_,rfl⟩
      rw [← hhs] at q7
      have HHS:=Hm hhs
      clear hhs
      cases hs
      · go_wp2_with fail
        go_meet
        case rel=>exact ⟨⟨_,rfl,by rw [HX.out];rfl⟩,BB.out,hb2⟩
      · go_wp2_with fail
        go_meet
        case rel=>exact ⟨⟨_,rfl,by rw [HX.out];rfl⟩,BB.out,hb2⟩
    · have e1:(x.start==0)=false:=by simpa using hst
      have e2:(x.start != 0)=true:=by simpa using hst
      clear hst
      obtain ⟨hs,hhs⟩:∃ hs,hs=x.hasS:=⟨_,rfl⟩
      rw [← hhs] at q7
      have HHS:=Hm hhs
      clear hhs
      cases hs
      · go_wp2_with fail
        go_meet
        case rel=>exact ⟨⟨_,rfl,by rw [HX.out];rfl⟩,BB.out,hb2⟩
      · go_wp2_with fail
        go_meet
        case rel=>exact ⟨⟨_,rfl,by rw [HX.out];rfl⟩,BB.out,hb2⟩
 case rest =>
  obtain ⟨⟨nb,rfl,hnb⟩,bb,hb⟩:=hcut
  have HW0:Hid (swfB x=(hdB x&&(x.elems.all eleB&&(x.codes.all codB&&(x.datas.all datB&&cusA x))))):=HW.out
  clear HW
  cases nb
  case true =>
   have h0:hdB x=false:=by simpa using hnb
   have HFIN:Hid (swfB x=false):=by show _=_;rw [HW0.out,h0];rfl
   clear bb hnb h0 HW0
   go_wp2
   go_ret
   exact ⟨by rw [HFIN.out];rfl,hb⟩
  have h0:hdB x=true:=by simpa using hnb
  have HW:Hid (swfB x=(x.elems.all eleB&&(x.codes.all codB&&(x.datas.all datB&&cusA x)))):=by show _=_;rw [HW0.out,h0];rfl
  clear HW0 h0 hnb
  have q0:=bb.2.1 0 _ rfl
  have q1:=bb.2.1 1 _ rfl
  have q2:=bb.2.1 2 _ rfl
  have q3:=bb.2.1 3 _ rfl
  have q4:=bb.2.1 4 _ rfl
  have q5:=bb.2.1 5 _ rfl
  have q6:=bb.2.1 6 _ rfl
  have q7:=bb.2.1 7 _ rfl
  have q8:=bb.2.1 8 _ rfl
  have q9:=bb.2.1 9 _ rfl
  have q10:=bb.2.1 10 _ rfl
  have q11:=bb.2.1 11 _ rfl
  have q12:=bb.2.1 12 _ rfl
  go_wp2_with fail
  go_loopw [3] (fun i wr=>∃ k:Nat,k≤x.elems.length∧i=.int .i64 k∧(∀ j,j<k→eleB (x.elems.getD j Ele.z)=true)∧Bk wr w.heap.size [.slice a1 x.types.length c1,.slice a2 x.imps.length c2,.slice a3 x.funcs.length c3,.slice a4 x.tabs.length c4,.slice a5 x.mems.length c5,.slice a6 x.globs.length c6,.slice a7 x.exps.length c7,.bool x.hasS,.int .i64 x.start,.slice a8 x.elems.length c8,.slice a9 x.codes.length c9,.slice a10 x.datas.length c10,.slice a11 x.customs.length c11]∧Below w.heap.size w wr) (fun i _=>x.elems.length-(intOf i).toNat)
  case atStart=>exact ⟨0,Nat.zero_le _,rfl,fun j h=>by omega,bb,hb⟩
  case round =>
   clear bb hb q0 q1 q2 q3 q4 q5 q6 q7 q8 q9 q10 q11 q12
   obtain ⟨k,hk,rfl,hall,bb,hb⟩:=hrel
   have q0:=bb.2.1 0 _ rfl
   have q1:=bb.2.1 1 _ rfl
   have q2:=bb.2.1 2 _ rfl
   have q3:=bb.2.1 3 _ rfl
   have q4:=bb.2.1 4 _ rfl
   have q5:=bb.2.1 5 _ rfl
   have q6:=bb.2.1 6 _ rfl
   have q7:=bb.2.1 7 _ rfl
   have q8:=bb.2.1 8 _ rfl
   have q9:=bb.2.1 9 _ rfl
   have q10:=bb.2.1 10 _ rfl
   have q11:=bb.2.1 11 _ rfl
   have q12:=bb.2.1 12 _ rfl
   by_cases hlt:k<x.elems.length
   · have hki:(k:Int)<(x.elems.length:Int):=by omega
     rcases R8.out.up (up_below hb) with hx | ⟨b,o,ea,_,hc⟩
     · rw [hx] at hlt;simp at hlt
     have hxk:=hc k hlt
     have hxl:=(LL.out.2.2.2.2.2.2.2.1).2 k hlt
     have hxp:=PP.out.2.1 k hlt
     subst ea
     obtain ⟨y,hy⟩:∃ y,y=x.elems.getD k Ele.z:=⟨_,rfl⟩
     rw [← hy] at hxk hxl hxp
     have HXK:=Hm hxk
     obtain ⟨e1,d1,e2,d2,⟨g0,g1⟩,hi⟩:=hxk
     have HB:=Hm hb
     have BB:=Hm bb
     have HC:=Hm (sclo e1 d1 y.off wr hxl.1 hxp hi.1)
     have HA:=Hm (fun (V:World) (h:Below wr.heap.size wr V)=>sall_c e2 d2 y.fs V (by have:=hxl.2;omega) (hi.2.up (up_below h)).has)
     generalize hg1:closedM y.off=t1 at HC
     generalize hg2:y.fs.all u32B=t2 at HA
     have HG:Hid (eleB (x.elems.getD k Ele.z)=(t1&&t2)):=by show _=_;rw [← hy,eleB,hg1,hg2]
     cases t1
     · have HG1:Hid (eleB (x.elems.getD k Ele.z)=false):=HG.out
       have HFIN:Hid (swfB x=false):=by show _=_;rw [HW.out,alls_f eleB x.elems Ele.z k hlt HG1.out];rfl
       clear hall hc hb bb hi hy hg1 hg2 HW HG HG1 HA
       go_wp2_with fail
       refine HC.out.mono ?_
       rintro e w2 ⟨rfl,hb2⟩
       have hb3:=HB.out.trans (hb2.mono HB.out.size)
       clear hb2
       go_wp2
       go_ret
       exact ⟨by rw [HFIN.out];rfl,hb3⟩
     cases t2
     · have HG1:Hid (eleB (x.elems.getD k Ele.z)=false):=HG.out
       have HFIN:Hid (swfB x=false):=by show _=_;rw [HW.out,alls_f eleB x.elems Ele.z k hlt HG1.out];rfl
       clear hall hc hb bb hi hy hg1 hg2 HW HG HG1
       go_wp2_with fail
       refine HC.out.mono ?_
       rintro e w2 ⟨rfl,hb2⟩
       have hb3:=HB.out.trans (hb2.mono HB.out.size)
       have bb3:=BB.out.keep hb2
       have f1:w2.cell? ⟨b,o+k*2+1,none⟩=some (.slice e2 y.fs.length d2):=(hb2.cell (p:=⟨b,o+k*2+1,none⟩) (World.block_lt_of_cell? wr _ g1)).trans g1
       have q9:=bb3.2.1 9 _ rfl
       have HA2:=Hm (HA.out _ hb2)
       clear hb2 bb3 HA
       go_wp2_with fail
       refine HA2.out.mono ?_
       rintro e w3 ⟨rfl,rfl⟩
       go_wp2
       go_ret
       exact ⟨by rw [HFIN.out];rfl,hb3⟩
     have HG1:Hid (eleB (x.elems.getD k Ele.z)=true):=HG.out
     have HALL:Hid (∀ j,j<k+1→eleB (x.elems.getD j Ele.z)=true):=fun j hj=>by
      rcases (by omega:j<k∨j=k) with h | h
      · exact hall j h
      · subst h;exact HG1.out
     clear hall hc hb bb hi hy hg1 hg2 HG HG1
     go_wp2_with fail
     refine HC.out.mono ?_
     rintro e w2 ⟨rfl,hb2⟩
     have hb3:=HB.out.trans (hb2.mono HB.out.size)
     have bb3:=BB.out.keep hb2
     have f1:w2.cell? ⟨b,o+k*2+1,none⟩=some (.slice e2 y.fs.length d2):=(hb2.cell (p:=⟨b,o+k*2+1,none⟩) (World.block_lt_of_cell? wr _ g1)).trans g1
     have q9:=bb3.2.1 9 _ rfl
     have HA2:=Hm (HA.out _ hb2)
     have BB3:=Hm bb3
     clear hb2 bb3 HA
     go_wp2_with fail
     refine HA2.out.mono ?_
     rintro e w3 ⟨rfl,rfl⟩
     go_wp2
     go_roundw
     case rel=>exact ⟨k+1,by omega,by go_num,HALL.out,BB3.out,hb3⟩
     case measure=>simp [intOf];omega
   · have e:k=x.elems.length:=by omega
     subst e
     have HW2:Hid (swfB x=(x.codes.all codB&&(x.datas.all datB&&cusA x))):=by show _=_;rw [HW.out,alls_t eleB x.elems Ele.z hall,Bool.true_and]
     clear hall HW hk hlt
     have HW:=HW2
     clear HW2
     go_wp2_with fail
     go_loopw [4] (fun i wr=>∃ k:Nat,k≤x.codes.length∧i=.int .i64 k∧(∀ j,j<k→codB (x.codes.getD j Cod.z)=true)∧Bk wr w.heap.size [.slice a1 x.types.length c1,.slice a2 x.imps.length c2,.slice a3 x.funcs.length c3,.slice a4 x.tabs.length c4,.slice a5 x.mems.length c5,.slice a6 x.globs.length c6,.slice a7 x.exps.length c7,.bool x.hasS,.int .i64 x.start,.slice a8 x.elems.length c8,.slice a9 x.codes.length c9,.slice a10 x.datas.length c10,.slice a11 x.customs.length c11]∧Below w.heap.size w wr) (fun i _=>x.codes.length-(intOf i).toNat)
     case atStart=>exact ⟨0,Nat.zero_le _,rfl,fun j h=>by omega,bb,hb⟩
     case round =>
      clear bb hb q0 q1 q2 q3 q4 q5 q6 q7 q8 q9 q10 q11 q12
      obtain ⟨k,hk,rfl,hall,bb,hb⟩:=hrel
      have q0:=bb.2.1 0 _ rfl
      have q1:=bb.2.1 1 _ rfl
      have q2:=bb.2.1 2 _ rfl
      have q3:=bb.2.1 3 _ rfl
      have q4:=bb.2.1 4 _ rfl
      have q5:=bb.2.1 5 _ rfl
      have q6:=bb.2.1 6 _ rfl
      have q7:=bb.2.1 7 _ rfl
      have q8:=bb.2.1 8 _ rfl
      have q9:=bb.2.1 9 _ rfl
      have q10:=bb.2.1 10 _ rfl
      have q11:=bb.2.1 11 _ rfl
      have q12:=bb.2.1 12 _ rfl
      by_cases hlt:k<x.codes.length
      · have hki:(k:Int)<(x.codes.length:Int):=by omega
        rcases R9.out.up (up_below hb) with hx | ⟨b,o,ea,_,hc⟩
        · rw [hx] at hlt;simp at hlt
        have hxk:=hc k hlt
        have hxl:=(LL.out.2.2.2.2.2.2.2.2.1).2 k hlt
        have hxp:=PP.out.2.2.1 k hlt
        subst ea
        obtain ⟨y,hy⟩:∃ y,y=x.codes.getD k Cod.z:=⟨_,rfl⟩
        rw [← hy] at hxk hxl hxp
        have HXK:=Hm hxk
        obtain ⟨e1,d1,e2,d2,⟨g0,g1⟩,hi⟩:=hxk
        have HB:=Hm hb
        have BB:=Hm bb
        have HC:=Hm (scod_c y e1 d1 e2 d2 wr hi hxl hxp)
        generalize hg:codB y=gy at HC
        have HG:Hid (codB (x.codes.getD k Cod.z)=gy):=by show _=_;rw [← hy];exact hg
        cases gy
        · have HFIN:Hid (swfB x=false):=by show _=_;rw [HW.out,alls_f codB x.codes Cod.z k hlt HG.out];rfl
          clear hall hc hb bb hi hy hg HW HG
          go_wp2_with fail
          refine HC.out.mono ?_
          rintro e w2 ⟨rfl,hb2⟩
          have hb3:=HB.out.trans (hb2.mono HB.out.size)
          clear hb2
          go_wp2
          go_ret
          exact ⟨by rw [HFIN.out];rfl,hb3⟩
        have HALL:Hid (∀ j,j<k+1→codB (x.codes.getD j Cod.z)=true):=fun j hj=>by
         rcases (by omega:j<k∨j=k) with h | h
         · exact hall j h
         · subst h;exact HG.out
        clear hall hc hb bb hi hy hg HG
        go_wp2_with fail
        refine HC.out.mono ?_
        rintro e w2 ⟨rfl,hb2⟩
        have hb3:=HB.out.trans (hb2.mono HB.out.size)
        have bb3:=BB.out.keep hb2
        clear hb2
        go_wp2
        go_roundw
        case rel=>exact ⟨k+1,by omega,by go_num,HALL.out,bb3,hb3⟩
        case measure=>simp [intOf];omega
      · have e:k=x.codes.length:=by omega
        subst e
        have HW2:Hid (swfB x=(x.datas.all datB&&cusA x)):=by show _=_;rw [HW.out,alls_t codB x.codes Cod.z hall,Bool.true_and]
        clear hall HW hk hlt
        have HW:=HW2
        clear HW2
        go_wp2_with fail
        go_loopw [5] (fun i wr=>∃ k:Nat,k≤x.datas.length∧i=.int .i64 k∧(∀ j,j<k→datB (x.datas.getD j Dat.z)=true)∧Bk wr w.heap.size [.slice a1 x.types.length c1,.slice a2 x.imps.length c2,.slice a3 x.funcs.length c3,.slice a4 x.tabs.length c4,.slice a5 x.mems.length c5,.slice a6 x.globs.length c6,.slice a7 x.exps.length c7,.bool x.hasS,.int .i64 x.start,.slice a8 x.elems.length c8,.slice a9 x.codes.length c9,.slice a10 x.datas.length c10,.slice a11 x.customs.length c11]∧Below w.heap.size w wr) (fun i _=>x.datas.length-(intOf i).toNat)
        case atStart=>exact ⟨0,Nat.zero_le _,rfl,fun j h=>by omega,bb,hb⟩
        case round =>
         clear bb hb q0 q1 q2 q3 q4 q5 q6 q7 q8 q9 q10 q11 q12
         obtain ⟨k,hk,rfl,hall,bb,hb⟩:=hrel
         have q0:=bb.2.1 0 _ rfl
         have q1:=bb.2.1 1 _ rfl
         have q2:=bb.2.1 2 _ rfl
         have q3:=bb.2.1 3 _ rfl
         have q4:=bb.2.1 4 _ rfl
         have q5:=bb.2.1 5 _ rfl
         have q6:=bb.2.1 6 _ rfl
         have q7:=bb.2.1 7 _ rfl
         have q8:=bb.2.1 8 _ rfl
         have q9:=bb.2.1 9 _ rfl
         have q10:=bb.2.1 10 _ rfl
         have q11:=bb.2.1 11 _ rfl
         have q12:=bb.2.1 12 _ rfl
         by_cases hlt:k<x.datas.length
         · have hki:(k:Int)<(x.datas.length:Int):=by omega
           rcases R10.out.up (up_below hb) with hx | ⟨b,o,ea,_,hc⟩
           · rw [hx] at hlt;simp at hlt
           have hxk:=hc k hlt
           have hxl:=(LL.out.2.2.2.2.2.2.2.2.2.1).2 k hlt
           have hxp:=PP.out.2.2.2 k hlt
           subst ea
           obtain ⟨y,hy⟩:∃ y,y=x.datas.getD k Dat.z:=⟨_,rfl⟩
           rw [← hy] at hxk hxl hxp
           have HXK:=Hm hxk
           obtain ⟨e1,d1,e2,d2,⟨g0,g1⟩,hi⟩:=hxk
           have HB:=Hm hb
           have BB:=Hm bb
           have HC:=Hm (sclo e1 d1 y.off wr hxl.1 hxp hi.1)
           generalize hg:closedM y.off=gy at HC
           have HG:Hid (datB (x.datas.getD k Dat.z)=gy):=by show _=_;rw [← hy];exact hg
           cases gy
           · have HFIN:Hid (swfB x=false):=by show _=_;rw [HW.out,alls_f datB x.datas Dat.z k hlt HG.out];rfl
             clear hall hc hb bb hi hy hg HW HG
             go_wp2_with fail
             refine HC.out.mono ?_
             rintro e w2 ⟨rfl,hb2⟩
             have hb3:=HB.out.trans (hb2.mono HB.out.size)
             clear hb2
             go_wp2
             go_ret
             exact ⟨by rw [HFIN.out];rfl,hb3⟩
           have HALL:Hid (∀ j,j<k+1→datB (x.datas.getD j Dat.z)=true):=fun j hj=>by
            rcases (by omega:j<k∨j=k) with h | h
            · exact hall j h
            · subst h;exact HG.out
           clear hall hc hb bb hi hy hg HG
           go_wp2_with fail
           refine HC.out.mono ?_
           rintro e w2 ⟨rfl,hb2⟩
           have hb3:=HB.out.trans (hb2.mono HB.out.size)
           have bb3:=BB.out.keep hb2
           clear hb2
           go_wp2
           go_roundw
           case rel=>exact ⟨k+1,by omega,by go_num,HALL.out,bb3,hb3⟩
           case measure=>simp [intOf];omega
         · have e:k=x.datas.length:=by omega
           subst e
           have HW2:Hid (swfB x=cusA x):=by show _=_;rw [HW.out,alls_t datB x.datas Dat.z hall,Bool.true_and]
           clear hall HW hk hlt
           have HW:=HW2
           clear HW2
           obtain ⟨ss,hss⟩:∃ ss:Int,(if x.hasS then 1 else 0:Int)=ss:=⟨_,rfl⟩
           have KZ:=Hm (ssz_c x a1 c1 a2 c2 a3 c3 a4 c4 a5 c5 a6 c6 a7 c7 a8 c8 a9 c9 a10 c10 a11 c11 wr (modLn LL.out) ss hss)
           have HSS:=Hm hss
           clear hss
           have BB:=Hm bb
           have HB:=Hm hb
           clear bb hb
           go_wp2_with fail
           with_reducible refine KZ.out.mono ?_
           rintro e w2 ⟨gs,rfl,hgs,bz,hb2⟩
           have hb3:=HB.out.trans (hb2.mono HB.out.size)
           have bb3:=BB.out.keep hb2
           clear KZ BB HB hb2 q0 q1 q2 q3 q4 q5 q6 q7 q8 q9 q10 q11 q12
           go_wp2_with fail
           go_loopw [7] (fun i wr=>∃ k:Nat,k≤x.customs.length∧i=.int .i64 k∧(∀ j,j<k→cuB x j=true)∧Bk wr w.heap.size [.slice a1 x.types.length c1,.slice a2 x.imps.length c2,.slice a3 x.funcs.length c3,.slice a4 x.tabs.length c4,.slice a5 x.mems.length c5,.slice a6 x.globs.length c6,.slice a7 x.exps.length c7,.bool x.hasS,.int .i64 x.start,.slice a8 x.elems.length c8,.slice a9 x.codes.length c9,.slice a10 x.datas.length c10,.slice a11 x.customs.length c11]∧Bk wr gs [.int .i64 0,.int .i64 x.types.length,.int .i64 x.imps.length,.int .i64 x.funcs.length,.int .i64 x.tabs.length,.int .i64 x.mems.length,.int .i64 x.globs.length,.int .i64 x.exps.length,.int .i64 ss,.int .i64 x.elems.length,.int .i64 x.codes.length,.int .i64 x.datas.length]∧Below w.heap.size w wr) (fun i _=>x.customs.length-(intOf i).toNat)
           case atStart=>exact ⟨0,Nat.zero_le _,rfl,fun j h=>by omega,bb3,bz,hb3⟩
           case round =>
            clear bb3 bz hb3
            obtain ⟨k,hk,rfl,hall,bb,bz,hb⟩:=hrel
            have q12:=bb.2.1 12 _ rfl
            by_cases hlt:k<x.customs.length
            · have hki:(k:Int)<(x.customs.length:Int):=by omega
              rcases R11.out.up (up_below hb) with hx | ⟨b,o,ea,_,hc⟩
              · rw [hx] at hlt;simp at hlt
              have hxk:=hc k hlt
              have hxl:=(LL.out.2.2.2.2.2.2.2.2.2.2).2 k hlt
              subst ea
              obtain ⟨e1,d1,⟨g0,g1,g2⟩,hi⟩:=hxk
              obtain ⟨y,hy⟩:∃ y,y=x.customs.getD k Cus.z:=⟨_,rfl⟩
              rw [← hy] at g0 g1 g2 hxl
              obtain ⟨af,haf⟩:∃ af,af=y.aft:=⟨_,rfl⟩
              rw [← haf] at g0
              obtain ⟨Pv,hPv⟩:∃ Pv,Pv=(x.customs.getD (k-1) Cus.z).aft:=⟨_,rfl⟩
              have HCU:Hid (cuB x k=(decide (0≤af∧af≤11)&&(nameB y.nm&&(!(decide (0<af)&&((szs x).getD af.toNat 0==0))&&!(decide (0<k)&&decide (af<Pv)))))):=by show _=_;rw [cuB,← hy,← haf,← hPv]
              have HPV:Hid (∀ m:Nat,(m:Int)=(k:Int)-1→wr.cell? ⟨b,o+m*3,none⟩=some (.int .i64 Pv)):=fun m hm=>by
               have em:m=k-1:=by omega
               obtain ⟨_,_,⟨p0,_,_⟩,_⟩:=hc m (by omega)
               rw [em,← hPv] at p0
               rw [em];exact p0
              have HSZ:Hid (∀ n:Nat,n≤11→wr.cell? ⟨gs,n,none⟩=some (.int .i64 ((szs x).getD n 0))):=fun n hn=>by
               have e0:(szs x).map (fun z=>Value.int .i64 z)=[.int .i64 0,.int .i64 x.types.length,.int .i64 x.imps.length,.int .i64 x.funcs.length,.int .i64 x.tabs.length,.int .i64 x.mems.length,.int .i64 x.globs.length,.int .i64 x.exps.length,.int .i64 ss,.int .i64 x.elems.length,.int .i64 x.codes.length,.int .i64 x.datas.length]:=by rw [szs,← HSS.out];rfl
               refine bz.2.1 n _ ?_
               rw [← e0,List.getElem?_map]
               have hl12:n<(szs x).length:=by simp [szs];omega
               simp [List.getD,List.getElem?_eq_getElem hl12]
              have HB:=Hm hb
              have BB:=Hm bb
              have BZ:=Hm bz
              have HALL0:=Hm hall
              have HI1:=Hm (l1In_c af 0 11)
              have HNM:=Hm (fun V=>sname_ok y.nm V hxl.1)
              clear hc hb bb bz hi hy haf hPv hall
              generalize nameB y.nm=nm at *
              generalize y.nm=ynm at *
              obtain ⟨W2,hW2⟩:∃ W2,W2=wr.alloc (.cells #[.int .i64 af,.string ynm,.slice e1 y.bs.length d1] 80):=⟨_,rfl⟩
              obtain ⟨g8,hg8⟩:∃ g8,g8=wr.heap.size:=⟨_,rfl⟩
              have al:Below wr.heap.size wr W2:=by rw [hW2];exact (Below.refl _ _).alloc (Nat.le_refl _) _
              have c0:W2.cell? ⟨g8,0,none⟩=some (.int .i64 af):=by rw [hW2,hg8];exact cell_new rfl rfl
              have c1:W2.cell? ⟨g8,1,none⟩=some (.string ynm):=by rw [hW2,hg8];exact cell_new rfl rfl
              have HAL:=Hm al
              have HW2':=Hm hW2
              have HG8:=Hm hg8
              have p12:W2.cell? ⟨w.heap.size,12,none⟩=some (.slice (some ⟨b,o,none⟩) x.customs.length c11):=(al.cell (p:=⟨w.heap.size,12,none⟩) (World.block_lt_of_cell? wr _ q12)).trans q12
              clear hW2 hg8 al
              go_upto_region 23 with fail
              rw [← HW2'.out,← HG8.out]
              clear HW2' HG8 g0 g1 g2 q12
              go_cut [149] from 111 to 149 (fun s V=>(∃ nb:Bool,s=.bool nb∧(!cuB x k)=nb)∧Below W2.heap.size W2 V)
              case first =>
               by_cases hin:0≤af∧af≤11
               case neg =>
                have HNB:Hid ((!cuB x k)=true):=by show _=_;rw [HCU.out,decide_eq_false hin];rfl
                have HI2':=HI1.out
                rw [decide_eq_false hin] at HI2'
                clear HI1
                have HI1:=Hm HI2'
                clear HCU HPV HSZ hin HI2'
                have rc0:=cell_regrown c0
                have rc1:=cell_regrown c1
                have rp12:=cell_regrown p12
                have T1:Hid (∀ d os,Calls Tryz.prog 35 #[.int .i64 af,.int .i64 0,.int .i64 11] (grow (redrawn W2 d) os) fun e w''=>e=.returned (.bool false)∧∃ p:Regrown,w''=grow (redrawn W2 p.d) p.os):=fun d os=>(HI1.out _).mono fun e w' ⟨h1,h2⟩=>⟨h1,⟨d,os⟩,h2.symm⟩
                have T2:Hid (∀ d os,Calls Tryz.prog 36 #[.string ynm] (grow (redrawn W2 d) os) fun e w''=>e=.returned (.bool nm)∧∃ p:Regrown,w''=grow (redrawn W2 p.d) p.os):=fun d os=>Calls.regrown_of (HNM.out _)
                clear c0 c1 p12 HI1 HNM
                refine wp_region_quiet_below (by kernel_rfl) (by kernel_rfl) ?_
                repeat ((with_reducible refine wpQuiet_step (fun K hK=>?_));go_simp;first | (refine hK _ ?_;clear hK K) | (apply Exists.intro;refine ⟨fun _=>?_,hK _ ?_⟩;(first | with_reducible exact T1.out _ _ | with_reducible exact T2.out _ _);clear hK K) | (rw [if_neg (by simp [Region.wanted,yielded,undef])];go_simp;refine hK _ ?_;clear hK K))
                with_reducible refine wpQuiet_nil ?_
                intro _ hw'
                obtain ⟨⟨dq,osq⟩,hw''⟩:=hw'
                subst hw''
                have hbq:=below_regrown W2 dq osq
                clear rc0 rc1 rp12 T1 T2
                generalize grow (redrawn W2 dq) osq=w8 at *
                try show Exit.then _ _ Exit.normal _ w8
                go_wp2_with fail
                go_meet
                case rel=>exact ⟨⟨_,rfl,HNB.out⟩,hbq⟩
               have HI2':=HI1.out
               rw [decide_eq_true hin] at HI2' HCU
               clear HI1
               have HI1:=Hm HI2'
               clear HI2'
               cases nm
               case false =>
                have HNB:Hid ((!cuB x k)=true):=by show _=_;rw [HCU.out];rfl
                clear HCU HPV HSZ hin
                have rc0:=cell_regrown c0
                have rc1:=cell_regrown c1
                have rp12:=cell_regrown p12
                have T1:Hid (∀ d os,Calls Tryz.prog 35 #[.int .i64 af,.int .i64 0,.int .i64 11] (grow (redrawn W2 d) os) fun e w''=>e=.returned (.bool true)∧∃ p:Regrown,w''=grow (redrawn W2 p.d) p.os):=fun d os=>(HI1.out _).mono fun e w' ⟨h1,h2⟩=>⟨h1,⟨d,os⟩,h2.symm⟩
                have T2:Hid (∀ d os,Calls Tryz.prog 36 #[.string ynm] (grow (redrawn W2 d) os) fun e w''=>e=.returned (.bool false)∧∃ p:Regrown,w''=grow (redrawn W2 p.d) p.os):=fun d os=>Calls.regrown_of (HNM.out _)
                clear c0 c1 p12 HI1 HNM
                refine wp_region_quiet_below (by kernel_rfl) (by kernel_rfl) ?_
                repeat ((with_reducible refine wpQuiet_step (fun K hK=>?_));go_simp;first | (refine hK _ ?_;clear hK K) | (apply Exists.intro;refine ⟨fun _=>?_,hK _ ?_⟩;(first | with_reducible exact T1.out _ _ | with_reducible exact T2.out _ _);clear hK K) | (rw [if_neg (by simp [Region.wanted,yielded,undef])];go_simp;refine hK _ ?_;clear hK K))
                with_reducible refine wpQuiet_nil ?_
                intro _ hw'
                obtain ⟨⟨dq,osq⟩,hw''⟩:=hw'
                subst hw''
                have hbq:=below_regrown W2 dq osq
                clear rc0 rc1 rp12 T1 T2
                generalize grow (redrawn W2 dq) osq=w8 at *
                try show Exit.then _ _ Exit.normal _ w8
                go_wp2_with fail
                go_meet
                case rel=>exact ⟨⟨_,rfl,HNB.out⟩,hbq⟩
               obtain ⟨n,hn⟩:∃ n:Nat,af=(n:Int):=⟨af.toNat,by omega⟩
               subst hn
               have hn11:n≤11:=by omega
               have hn12:(n:Int)<12:=by omega
               have z0:=(HAL.out.cell (p:=⟨gs,n,none⟩) (World.block_lt_of_cell? wr _ (HSZ.out n hn11))).trans (HSZ.out n hn11)
               have HCU2:Hid (cuB x k=(!(decide (0<(n:Int))&&((szs x).getD n 0==0))&&!(decide (0<k)&&decide ((n:Int)<Pv)))):=HCU.out
               generalize (szs x).getD n 0=Z at *
               clear HCU HSZ hin
               by_cases hpos:(0:Int)<(n:Int)
               case pos =>
                have hpd1:decide ((0:Int)<(n:Int))=true:=decide_eq_true hpos
                have hpd2:decide (0<n)=true:=decide_eq_true (by omega)
                by_cases hZ:Z=0
                case pos =>
                 subst hZ
                 have HNB:Hid ((!cuB x k)=true):=by show _=_;rw [HCU2.out,decide_eq_true hpos];rfl
                 clear HCU2 HPV hpos
                 have rc0:=cell_regrown c0
                 have rc1:=cell_regrown c1
                 have rp12:=cell_regrown p12
                 have rz0:=cell_regrown z0
                 have T1:Hid (∀ d os,Calls Tryz.prog 35 #[.int .i64 (n:Int),.int .i64 0,.int .i64 11] (grow (redrawn W2 d) os) fun e w''=>e=.returned (.bool true)∧∃ p:Regrown,w''=grow (redrawn W2 p.d) p.os):=fun d os=>(HI1.out _).mono fun e w' ⟨h1,h2⟩=>⟨h1,⟨d,os⟩,h2.symm⟩
                 have T2:Hid (∀ d os,Calls Tryz.prog 36 #[.string ynm] (grow (redrawn W2 d) os) fun e w''=>e=.returned (.bool true)∧∃ p:Regrown,w''=grow (redrawn W2 p.d) p.os):=fun d os=>Calls.regrown_of (HNM.out _)
                 clear c0 c1 p12 z0 HI1 HNM
                 refine wp_region_quiet_below (by kernel_rfl) (by kernel_rfl) ?_
                 repeat ((with_reducible refine wpQuiet_step (fun K hK=>?_));go_simp;first | (refine hK _ ?_;clear hK K) | (apply Exists.intro;refine ⟨fun _=>?_,hK _ ?_⟩;(first | with_reducible exact T1.out _ _ | with_reducible exact T2.out _ _);clear hK K) | (rw [if_neg (by simp [Region.wanted,yielded,undef])];go_simp;refine hK _ ?_;clear hK K))
                 with_reducible refine wpQuiet_nil ?_
                 intro _ hw'
                 obtain ⟨⟨dq,osq⟩,hw''⟩:=hw'
                 subst hw''
                 have hbq:=below_regrown W2 dq osq
                 clear rc0 rc1 rp12 rz0 T1 T2
                 generalize grow (redrawn W2 dq) osq=w8 at *
                 try show Exit.then _ _ Exit.normal _ w8
                 go_wp2_with fail
                 go_meet
                 case rel=>exact ⟨⟨_,rfl,HNB.out⟩,hbq⟩
                case neg =>
                 have hZ1:(Z==0)=false:=by simpa using hZ
                 have HCU3:Hid (cuB x k=!(decide (0<k)&&decide ((n:Int)<Pv))):=by show _=_;rw [HCU2.out,hZ1];simp
                 clear hZ HCU2 hpos
                 by_cases hk0:0<k
                 case pos =>
                  have hkd1:decide ((0:Int)<(k:Int))=true:=decide_eq_true (by omega)
                  have hkd2:decide (0<k)=true:=decide_eq_true hk0
                  obtain ⟨m,hm⟩:∃ m:Nat,(m:Int)=(k:Int)-1:=⟨k-1,by omega⟩
                  have hm1:IntKind.i64.wrap ((k:Int)-1)=(m:Int):=by rw [IntKind.wrap_i64];omega
                  have hm2:wrap64 ((k:Int)-1)=(m:Int):=by unfold wrap64;omega
                  have hm3:(m:Int)<(x.customs.length:Int):=by omega
                  have hm5:m<x.customs.length:=by omega
                  have v0:=(HAL.out.cell (p:=⟨b,o+m*3,none⟩) (World.block_lt_of_cell? wr _ (HPV.out m hm))).trans (HPV.out m hm)
                  clear HPV hm
                  by_cases hlt2:(n:Int)<Pv
                  case pos =>
                   have HNB:Hid ((!cuB x k)=true):=by show _=_;rw [HCU3.out,hkd2,decide_eq_true hlt2];rfl
                   have hld:decide ((n:Int)<Pv)=true:=decide_eq_true hlt2
                   clear HCU3 hk0 hlt2
                   have rc0:=cell_regrown c0
                   have rc1:=cell_regrown c1
                   have rp12:=cell_regrown p12
                   have rz0:=cell_regrown z0
                   have rv0:=cell_regrown v0
                   have T1:Hid (∀ d os,Calls Tryz.prog 35 #[.int .i64 (n:Int),.int .i64 0,.int .i64 11] (grow (redrawn W2 d) os) fun e w''=>e=.returned (.bool true)∧∃ p:Regrown,w''=grow (redrawn W2 p.d) p.os):=fun d os=>(HI1.out _).mono fun e w' ⟨h1,h2⟩=>⟨h1,⟨d,os⟩,h2.symm⟩
                   have T2:Hid (∀ d os,Calls Tryz.prog 36 #[.string ynm] (grow (redrawn W2 d) os) fun e w''=>e=.returned (.bool true)∧∃ p:Regrown,w''=grow (redrawn W2 p.d) p.os):=fun d os=>Calls.regrown_of (HNM.out _)
                   clear c0 c1 p12 z0 v0 HI1 HNM
                   refine wp_region_quiet_below (by kernel_rfl) (by kernel_rfl) ?_
                   repeat ((with_reducible refine wpQuiet_step (fun K hK=>?_));go_simp;first | (refine hK _ ?_;clear hK K) | (apply Exists.intro;refine ⟨fun _=>?_,hK _ ?_⟩;(first | with_reducible exact T1.out _ _ | with_reducible exact T2.out _ _);clear hK K) | (rw [if_neg (by simp [Region.wanted,yielded,undef])];go_simp;refine hK _ ?_;clear hK K))
                   with_reducible refine wpQuiet_nil ?_
                   intro _ hw'
                   obtain ⟨⟨dq,osq⟩,hw''⟩:=hw'
                   subst hw''
                   have hbq:=below_regrown W2 dq osq
                   clear rc0 rc1 rp12 rz0 rv0 T1 T2
                   generalize grow (redrawn W2 dq) osq=w8 at *
                   try show Exit.then _ _ Exit.normal _ w8
                   go_wp2_with fail
                   go_meet
                   case rel=>exact ⟨⟨_,rfl,HNB.out⟩,hbq⟩
                  case neg =>
                   have HNB:Hid ((!cuB x k)=false):=by show _=_;rw [HCU3.out,hkd2,decide_eq_false hlt2];rfl
                   have hld:decide ((n:Int)<Pv)=false:=decide_eq_false hlt2
                   clear HCU3 hk0 hlt2
                   have rc0:=cell_regrown c0
                   have rc1:=cell_regrown c1
                   have rp12:=cell_regrown p12
                   have rz0:=cell_regrown z0
                   have rv0:=cell_regrown v0
                   have T1:Hid (∀ d os,Calls Tryz.prog 35 #[.int .i64 (n:Int),.int .i64 0,.int .i64 11] (grow (redrawn W2 d) os) fun e w''=>e=.returned (.bool true)∧∃ p:Regrown,w''=grow (redrawn W2 p.d) p.os):=fun d os=>(HI1.out _).mono fun e w' ⟨h1,h2⟩=>⟨h1,⟨d,os⟩,h2.symm⟩
                   have T2:Hid (∀ d os,Calls Tryz.prog 36 #[.string ynm] (grow (redrawn W2 d) os) fun e w''=>e=.returned (.bool true)∧∃ p:Regrown,w''=grow (redrawn W2 p.d) p.os):=fun d os=>Calls.regrown_of (HNM.out _)
                   clear c0 c1 p12 z0 v0 HI1 HNM
                   refine wp_region_quiet_below (by kernel_rfl) (by kernel_rfl) ?_
                   repeat ((with_reducible refine wpQuiet_step (fun K hK=>?_));go_simp;first | (refine hK _ ?_;clear hK K) | (apply Exists.intro;refine ⟨fun _=>?_,hK _ ?_⟩;(first | with_reducible exact T1.out _ _ | with_reducible exact T2.out _ _);clear hK K) | (rw [if_neg (by simp [Region.wanted,yielded,undef])];go_simp;refine hK _ ?_;clear hK K))
                   with_reducible refine wpQuiet_nil ?_
                   intro _ hw'
                   obtain ⟨⟨dq,osq⟩,hw''⟩:=hw'
                   subst hw''
                   have hbq:=below_regrown W2 dq osq
                   clear rc0 rc1 rp12 rz0 rv0 T1 T2
                   generalize grow (redrawn W2 dq) osq=w8 at *
                   try show Exit.then _ _ Exit.normal _ w8
                   go_wp2_with fail
                   go_meet
                   case rel=>exact ⟨⟨_,rfl,HNB.out⟩,hbq⟩
                 case neg =>
                  have hkd1:decide ((0:Int)<(k:Int))=false:=decide_eq_false (by omega)
                  have hkd2:decide (0<k)=false:=decide_eq_false hk0
                  have HNB:Hid ((!cuB x k)=false):=by show _=_;rw [HCU3.out,hkd2];rfl
                  clear HCU3 HPV hk0
                  have rc0:=cell_regrown c0
                  have rc1:=cell_regrown c1
                  have rp12:=cell_regrown p12
                  have rz0:=cell_regrown z0
                  have T1:Hid (∀ d os,Calls Tryz.prog 35 #[.int .i64 (n:Int),.int .i64 0,.int .i64 11] (grow (redrawn W2 d) os) fun e w''=>e=.returned (.bool true)∧∃ p:Regrown,w''=grow (redrawn W2 p.d) p.os):=fun d os=>(HI1.out _).mono fun e w' ⟨h1,h2⟩=>⟨h1,⟨d,os⟩,h2.symm⟩
                  have T2:Hid (∀ d os,Calls Tryz.prog 36 #[.string ynm] (grow (redrawn W2 d) os) fun e w''=>e=.returned (.bool true)∧∃ p:Regrown,w''=grow (redrawn W2 p.d) p.os):=fun d os=>Calls.regrown_of (HNM.out _)
                  clear c0 c1 p12 z0 HI1 HNM
                  refine wp_region_quiet_below (by kernel_rfl) (by kernel_rfl) ?_
                  repeat ((with_reducible refine wpQuiet_step (fun K hK=>?_));go_simp;first | (refine hK _ ?_;clear hK K) | (apply Exists.intro;refine ⟨fun _=>?_,hK _ ?_⟩;(first | with_reducible exact T1.out _ _ | with_reducible exact T2.out _ _);clear hK K) | (rw [if_neg (by simp [Region.wanted,yielded,undef])];go_simp;refine hK _ ?_;clear hK K))
                  with_reducible refine wpQuiet_nil ?_
                  intro _ hw'
                  obtain ⟨⟨dq,osq⟩,hw''⟩:=hw'
                  subst hw''
                  have hbq:=below_regrown W2 dq osq
                  clear rc0 rc1 rp12 rz0 T1 T2
                  generalize grow (redrawn W2 dq) osq=w8 at *
                  try show Exit.then _ _ Exit.normal _ w8
                  go_wp2_with fail
                  go_meet
                  case rel=>exact ⟨⟨_,rfl,HNB.out⟩,hbq⟩
               case neg =>
                have hpd1:decide ((0:Int)<(n:Int))=false:=decide_eq_false hpos
                have hpd2:decide (0<n)=false:=decide_eq_false (by omega)
                have HCU3:Hid (cuB x k=!(decide (0<k)&&decide ((n:Int)<Pv))):=by show _=_;rw [HCU2.out,decide_eq_false hpos];rfl
                clear HCU2 hpos
                by_cases hk0:0<k
                case pos =>
                 have hkd1:decide ((0:Int)<(k:Int))=true:=decide_eq_true (by omega)
                 have hkd2:decide (0<k)=true:=decide_eq_true hk0
                 obtain ⟨m,hm⟩:∃ m:Nat,(m:Int)=(k:Int)-1:=⟨k-1,by omega⟩
                 have hm1:IntKind.i64.wrap ((k:Int)-1)=(m:Int):=by rw [IntKind.wrap_i64];omega
                 have hm2:wrap64 ((k:Int)-1)=(m:Int):=by unfold wrap64;omega
                 have hm3:(m:Int)<(x.customs.length:Int):=by omega
                 have hm5:m<x.customs.length:=by omega
                 have v0:=(HAL.out.cell (p:=⟨b,o+m*3,none⟩) (World.block_lt_of_cell? wr _ (HPV.out m hm))).trans (HPV.out m hm)
                 clear HPV hm
                 by_cases hlt2:(n:Int)<Pv
                 case pos =>
                  have HNB:Hid ((!cuB x k)=true):=by show _=_;rw [HCU3.out,hkd2,decide_eq_true hlt2];rfl
                  have hld:decide ((n:Int)<Pv)=true:=decide_eq_true hlt2
                  clear HCU3 hk0 hlt2
                  have rc0:=cell_regrown c0
                  have rc1:=cell_regrown c1
                  have rp12:=cell_regrown p12
                  have rz0:=cell_regrown z0
                  have rv0:=cell_regrown v0
                  have T1:Hid (∀ d os,Calls Tryz.prog 35 #[.int .i64 (n:Int),.int .i64 0,.int .i64 11] (grow (redrawn W2 d) os) fun e w''=>e=.returned (.bool true)∧∃ p:Regrown,w''=grow (redrawn W2 p.d) p.os):=fun d os=>(HI1.out _).mono fun e w' ⟨h1,h2⟩=>⟨h1,⟨d,os⟩,h2.symm⟩
                  have T2:Hid (∀ d os,Calls Tryz.prog 36 #[.string ynm] (grow (redrawn W2 d) os) fun e w''=>e=.returned (.bool true)∧∃ p:Regrown,w''=grow (redrawn W2 p.d) p.os):=fun d os=>Calls.regrown_of (HNM.out _)
                  clear c0 c1 p12 z0 v0 HI1 HNM
                  refine wp_region_quiet_below (by kernel_rfl) (by kernel_rfl) ?_
                  repeat ((with_reducible refine wpQuiet_step (fun K hK=>?_));go_simp;first | (refine hK _ ?_;clear hK K) | (apply Exists.intro;refine ⟨fun _=>?_,hK _ ?_⟩;(first | with_reducible exact T1.out _ _ | with_reducible exact T2.out _ _);clear hK K) | (rw [if_neg (by simp [Region.wanted,yielded,undef])];go_simp;refine hK _ ?_;clear hK K))
                  with_reducible refine wpQuiet_nil ?_
                  intro _ hw'
                  obtain ⟨⟨dq,osq⟩,hw''⟩:=hw'
                  subst hw''
                  have hbq:=below_regrown W2 dq osq
                  clear rc0 rc1 rp12 rz0 rv0 T1 T2
                  generalize grow (redrawn W2 dq) osq=w8 at *
                  try show Exit.then _ _ Exit.normal _ w8
                  go_wp2_with fail
                  go_meet
                  case rel=>exact ⟨⟨_,rfl,HNB.out⟩,hbq⟩
                 case neg =>
                  have HNB:Hid ((!cuB x k)=false):=by show _=_;rw [HCU3.out,hkd2,decide_eq_false hlt2];rfl
                  have hld:decide ((n:Int)<Pv)=false:=decide_eq_false hlt2
                  clear HCU3 hk0 hlt2
                  have rc0:=cell_regrown c0
                  have rc1:=cell_regrown c1
                  have rp12:=cell_regrown p12
                  have rz0:=cell_regrown z0
                  have rv0:=cell_regrown v0
                  have T1:Hid (∀ d os,Calls Tryz.prog 35 #[.int .i64 (n:Int),.int .i64 0,.int .i64 11] (grow (redrawn W2 d) os) fun e w''=>e=.returned (.bool true)∧∃ p:Regrown,w''=grow (redrawn W2 p.d) p.os):=fun d os=>(HI1.out _).mono fun e w' ⟨h1,h2⟩=>⟨h1,⟨d,os⟩,h2.symm⟩
                  have T2:Hid (∀ d os,Calls Tryz.prog 36 #[.string ynm] (grow (redrawn W2 d) os) fun e w''=>e=.returned (.bool true)∧∃ p:Regrown,w''=grow (redrawn W2 p.d) p.os):=fun d os=>Calls.regrown_of (HNM.out _)
                  clear c0 c1 p12 z0 v0 HI1 HNM
                  refine wp_region_quiet_below (by kernel_rfl) (by kernel_rfl) ?_
                  repeat ((with_reducible refine wpQuiet_step (fun K hK=>?_));go_simp;first | (refine hK _ ?_;clear hK K) | (apply Exists.intro;refine ⟨fun _=>?_,hK _ ?_⟩;(first | with_reducible exact T1.out _ _ | with_reducible exact T2.out _ _);clear hK K) | (rw [if_neg (by simp [Region.wanted,yielded,undef])];go_simp;refine hK _ ?_;clear hK K))
                  with_reducible refine wpQuiet_nil ?_
                  intro _ hw'
                  obtain ⟨⟨dq,osq⟩,hw''⟩:=hw'
                  subst hw''
                  have hbq:=below_regrown W2 dq osq
                  clear rc0 rc1 rp12 rz0 rv0 T1 T2
                  generalize grow (redrawn W2 dq) osq=w8 at *
                  try show Exit.then _ _ Exit.normal _ w8
                  go_wp2_with fail
                  go_meet
                  case rel=>exact ⟨⟨_,rfl,HNB.out⟩,hbq⟩
                case neg =>
                 have hkd1:decide ((0:Int)<(k:Int))=false:=decide_eq_false (by omega)
                 have hkd2:decide (0<k)=false:=decide_eq_false hk0
                 have HNB:Hid ((!cuB x k)=false):=by show _=_;rw [HCU3.out,hkd2];rfl
                 clear HCU3 HPV hk0
                 have rc0:=cell_regrown c0
                 have rc1:=cell_regrown c1
                 have rp12:=cell_regrown p12
                 have rz0:=cell_regrown z0
                 have T1:Hid (∀ d os,Calls Tryz.prog 35 #[.int .i64 (n:Int),.int .i64 0,.int .i64 11] (grow (redrawn W2 d) os) fun e w''=>e=.returned (.bool true)∧∃ p:Regrown,w''=grow (redrawn W2 p.d) p.os):=fun d os=>(HI1.out _).mono fun e w' ⟨h1,h2⟩=>⟨h1,⟨d,os⟩,h2.symm⟩
                 have T2:Hid (∀ d os,Calls Tryz.prog 36 #[.string ynm] (grow (redrawn W2 d) os) fun e w''=>e=.returned (.bool true)∧∃ p:Regrown,w''=grow (redrawn W2 p.d) p.os):=fun d os=>Calls.regrown_of (HNM.out _)
                 clear c0 c1 p12 z0 HI1 HNM
                 refine wp_region_quiet_below (by kernel_rfl) (by kernel_rfl) ?_
                 repeat ((with_reducible refine wpQuiet_step (fun K hK=>?_));go_simp;first | (refine hK _ ?_;clear hK K) | (apply Exists.intro;refine ⟨fun _=>?_,hK _ ?_⟩;(first | with_reducible exact T1.out _ _ | with_reducible exact T2.out _ _);clear hK K) | (rw [if_neg (by simp [Region.wanted,yielded,undef])];go_simp;refine hK _ ?_;clear hK K))
                 with_reducible refine wpQuiet_nil ?_
                 intro _ hw'
                 obtain ⟨⟨dq,osq⟩,hw''⟩:=hw'
                 subst hw''
                 have hbq:=below_regrown W2 dq osq
                 clear rc0 rc1 rp12 rz0 T1 T2
                 generalize grow (redrawn W2 dq) osq=w8 at *
                 try show Exit.then _ _ Exit.normal _ w8
                 go_wp2_with fail
                 go_meet
                 case rel=>exact ⟨⟨_,rfl,HNB.out⟩,hbq⟩
              case rest =>
               obtain ⟨⟨nb,rfl,hnb⟩,hbq⟩:=hcut
               have hb4:Below wr.heap.size wr wc:=HAL.out.trans (hbq.mono HAL.out.size)
               have hb5:=HB.out.trans (hb4.mono HB.out.size)
               have bb5:=BB.out.keep hb4
               have bz5:=BZ.out.keep hb4
               clear HCU HPV HSZ HAL hbq hb4 BB BZ HB HI1 HNM c0 c1 p12
               cases nb
               case true =>
                have h0:cuB x k=false:=by simpa using hnb
                have HFIN:Hid (swfB x=false):=by show _=_;rw [HW.out,cusA,range_f (cuB x) x.customs.length k hlt h0]
                clear hnb h0 HW bb5 bz5
                go_wp2
                go_ret
                exact ⟨by rw [HFIN.out];rfl,hb5⟩
               have h0:cuB x k=true:=by simpa using hnb
               have HALL:Hid (∀ j,j<k+1→cuB x j=true):=fun j hj=>by
                rcases (by omega:j<k∨j=k) with h | h
                · exact HALL0.out j h
                · subst h;exact h0
               have BB5:=Hm bb5
               have BZ5:=Hm bz5
               clear hnb h0 HALL0 bb5 bz5
               go_wp2
               go_roundw
               case rel=>exact ⟨k+1,by omega,by go_num,HALL.out,BB5.out,BZ5.out,hb5⟩
               case measure=>simp [intOf];omega
            · have e:k=x.customs.length:=by omega
              subst e
              have HFIN:Hid (swfB x=true):=by show _=_;rw [HW.out,cusA,range_t (cuB x) _ hall]
              clear hall HW hk hlt bb bz
              go_wp2
              go_ret
              exact ⟨by rw [HFIN.out];rfl,hb⟩
end Go.Proofs.YtdbmolambolmgaaGreat
