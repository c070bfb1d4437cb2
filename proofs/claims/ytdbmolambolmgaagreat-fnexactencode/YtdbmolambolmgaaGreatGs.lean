import Derived.Test.YtdbmolambolmgaaGreatGp
set_option linter.all false
set_option maxHeartbeats 16000000
set_option maxRecDepth 100000
namespace Go.Proofs.YtdbmolambolmgaaGreat
open Go.RowKit Go.Sort
set_option maxRecDepth 100000
def locsM:List Grp→Int→Bool
 | [],_=>true
 | g::gs,n=>grpB g&&u32B (n+g.n)&&locsM gs (n+g.n)
def codB (c:Cod):Bool:=locsM c.locs 0&&closedM c.body
theorem locs_at (l:List Grp) (k:Nat) (n:Int) (h:k<l.length):locsM (l.drop k) n=(grpB (l.getD k Grp.z)&&u32B (n+(l.getD k Grp.z).n)&&locsM (l.drop (k+1)) (n+(l.getD k Grp.z).n)):=by
 rw [List.drop_eq_getElem_cons h]
 simp [locsM,List.getD,List.getElem?_eq_getElem h]
theorem u32_r {n:Int} (h:u32B n=true):0≤n∧n<4294967296:=by
 simp [u32B] at h
 omega
theorem igs_c (x:Cod) (a1:Option Addr) (c1:Nat) (a2:Option Addr) (w:World) (hI:Cod.Is 0 w x a1 a2) (hl:Cod.LB 1048576 x) :
    Calls Tryz.prog 129 #[.slice a1 x.locs.length c1] w fun e w'=>e=.returned (.bool (locsM x.locs 0))∧Below w.heap.size w w':=by
 obtain ⟨⟨l0,_⟩,l1⟩:=hl
 obtain ⟨r1,r2⟩:=hI
 have R1:=Hm r1
 clear r1 r2 l1
 go_enter Tryz.func129,Tryz.ntmps129
 go_wp2_with fail
 go_loopw [3,8] (fun s i wr=>∃ (k:Nat) (n:Int),k≤x.locs.length∧i=.int .i64 k∧s=.int .i64 n∧0≤n∧n<4294967296∧locsM (x.locs.drop k) n=locsM x.locs 0∧Below w.heap.size w wr) (fun _ i _=>x.locs.length-(intOf i).toNat)
 case atStart=>exact ⟨0,0,Nat.zero_le _,rfl,rfl,by omega,by omega,rfl,Below.refl _ _⟩
 case round =>
  obtain ⟨k,n,hk,rfl,rfl,n0,n1,hm,hb⟩:=hrel
  by_cases hlt:k<x.locs.length
  · have hki:(k:Int)<(x.locs.length:Int):=by omega
    rcases R1.out.up (up_below hb) with hx | ⟨b,o,ea,_,hc⟩
    · rw [hx] at hlt;simp at hlt
    have hxk:=hc k hlt
    subst ea
    have HM:=Hm (hm.symm.trans (locs_at x.locs k n hlt))
    generalize x.locs.getD k Grp.z=g at hxk HM
    obtain ⟨⟨g0,g1⟩,_⟩:=hxk
    have HB:=Hm hb
    clear hm hc hb
    have ba:Below wr.heap.size wr (wr.alloc (.cells #[.int .i64 g.n,.int .i64 g.ty] 191)):=(Below.refl _ _).alloc (Nat.le_refl _) _
    have HBA:=Hm ba
    clear ba
    have HG:=Hm (igrp_c g (wr.alloc (.cells #[.int .i64 g.n,.int .i64 g.ty] 191)))
    by_cases hg:grpB g=true
    · rw [hg] at HG
      obtain ⟨e0,e1⟩:=u32_r (by have:=hg;simp [grpB] at this;exact this.1:u32B g.n=true)
      rw [hg,Bool.true_and] at HM
      have HU:=fun W=>same_below (iu32_c (n+g.n) W)
      have HU:=Hm HU
      by_cases hu:u32B (n+g.n)=true
      · rw [hu] at HU
        rw [hu,Bool.true_and] at HM
        obtain ⟨s0,s1⟩:=u32_r hu
        clear hg hu
        go_wp2_with fail
        refine HG.out.mono ?_
        rintro e w2 ⟨rfl,hb2⟩
        have h3:=Hm (HBA.out.trans (hb2.mono (by simp)))
        clear hb2
        go_wp2_with fail
        refine (HU.out _).mono ?_
        rintro e w3 ⟨rfl,hb3⟩
        have h4:=h3.out.trans (hb3.mono h3.out.size)
        have hb:=HB.out.trans (h4.mono HB.out.size)
        clear h3 h4 hb3
        go_wp2
        go_roundw
        case rel=>exact ⟨k+1,n+g.n,by omega,by go_num,rfl,by omega,by omega,HM.out.symm,hb⟩
        case measure=>simp [intOf];omega
      · simp only [Bool.not_eq_true] at hu
        rw [hu] at HU
        rw [hu,Bool.false_and] at HM
        clear hg hu
        go_wp2_with fail
        refine HG.out.mono ?_
        rintro e w2 ⟨rfl,hb2⟩
        have h3:=Hm (HBA.out.trans (hb2.mono (by simp)))
        clear hb2
        go_wp2_with fail
        refine (HU.out _).mono ?_
        rintro e w3 ⟨rfl,hb3⟩
        have h4:=h3.out.trans (hb3.mono h3.out.size)
        have hb:=HB.out.trans (h4.mono HB.out.size)
        clear h3 h4 hb3
        go_wp2
        go_ret
        exact ⟨by rw [HM.out];rfl,hb⟩
    · simp only [Bool.not_eq_true] at hg
      rw [hg] at HG
      rw [hg,Bool.false_and,Bool.false_and] at HM
      clear hg
      go_wp2_with fail
      refine HG.out.mono ?_
      rintro e w2 ⟨rfl,hb2⟩
      have h4:=HBA.out.trans (hb2.mono (by simp))
      have hb:=HB.out.trans (h4.mono HB.out.size)
      clear h4 hb2
      go_wp2
      go_ret
      exact ⟨by rw [HM.out];rfl,hb⟩
  · have e:k=x.locs.length:=by omega
    subst e
    have HM:Hid (locsM x.locs 0=true):=by show _=_;rw [← hm,List.drop_length];rfl
    have HB:=Hm hb
    clear hm hb
    go_wp2
    go_ret
    exact ⟨by rw [HM.out];rfl,HB.out⟩
theorem icod_c (x:Cod) (a1:Option Addr) (c1:Nat) (a2:Option Addr) (c2:Nat) (w:World) (hI:Cod.Is 0 w x a1 a2) (hl:Cod.LB 1048576 x) (hp:InsPos x.body) :
    Calls Tryz.prog 63 #[.agg #[.slice a1 x.locs.length c1,.slice a2 x.body.length c2]] w fun e w'=>e=.returned (.bool (codB x))∧Below w.heap.size w w':=by
 have KG:=Hm (fun (W:World) (h:Cod.Is 0 W x a1 a2)=>igs_c x a1 c1 a2 W h hl)
 obtain ⟨⟨l0,_⟩,l1⟩:=hl
 have HI:=Hm (fun (W:World) (hb:Below w.heap.size w W)=>Cod.Is.up hI (up_below hb))
 have R2:=Hm hI.2
 have L1:=Hm l1
 have HP:=Hm hp
 clear hI l1 hp
 go_enter Tryz.func63,Tryz.ntmps63
 go_upto_region 1 with fail
 refine wp_gen (fun W=>Bk W w.heap.size [.slice a1 x.locs.length c1,.slice a2 x.body.length c2]∧Below w.heap.size w W) ⟨Bk.new,(Below.refl _ _).alloc (Nat.le_refl _) _⟩ ?_
 rintro W ⟨bb,hb⟩
 have q0:=bb.2.1 0 _ rfl
 have BB:=Hm bb
 have HB:=Hm hb
 have KGW:=Hm (KG.out W (HI.out W hb))
 clear bb hb KG
 cases hM:locsM x.locs 0
 · have HM:Hid (codB x=false):=by show _=_;simp [codB,hM]
   rw [hM] at KGW
   clear hM
   go_wp2_with fail
   refine KGW.out.mono ?_
   rintro e w2 ⟨rfl,hb2⟩
   have hb:=HB.out.trans (hb2.mono HB.out.size)
   clear hb2
   go_wp2
   go_ret
   exact ⟨by rw [HM.out];rfl,hb⟩
 · have HM:Hid (codB x=closedM x.body):=by show _=_;simp [codB,hM]
   rw [hM] at KGW
   clear hM
   go_wp2_with fail
   refine KGW.out.mono ?_
   rintro e w2 ⟨rfl,hb2⟩
   have hb:=HB.out.trans (hb2.mono HB.out.size)
   have q1:w2.cell? ⟨w.heap.size,1,none⟩=some (.slice a2 x.body.length c2):=(BB.out.keep hb2).2.1 1 _ rfl
   have HC:=Hm (clo a2 c2 x.body w2 L1.out HP.out (R2.out.up (up_below hb)))
   have HB2:=Hm hb
   clear hb2 hb q0
   go_wp2_with fail
   refine HC.out.mono ?_
   rintro e w3 ⟨rfl,hb3⟩
   have hb:=HB2.out.trans (hb3.mono HB2.out.size)
   clear hb3
   go_wp2
   go_ret
   exact ⟨by rw [HM.out];rfl,hb⟩
theorem scod_c (x:Cod) (a1:Option Addr) (c1:Nat) (a2:Option Addr) (c2:Nat) (w:World) (hI:Cod.Is 0 w x a1 a2) (hl:Cod.LB 1048576 x) (hp:InsPos x.body) :
    Calls Tryz.prog 33 #[.agg #[.slice a1 x.locs.length c1,.slice a2 x.body.length c2]] w fun e w'=>e=.returned (.bool (codB x))∧Below w.heap.size w w':=by
 obtain ⟨⟨l0,_⟩,l1⟩:=hl
 obtain ⟨r1,r2⟩:=hI
 have R1:=Hm r1
 have R2:=Hm r2
 have L1:=Hm l1
 have HP:=Hm hp
 clear r1 r2 l1 hp
 go_enter Tryz.func33,Tryz.ntmps33
 go_upto_region 1 with fail
 refine wp_gen (fun W=>Bk W w.heap.size [.slice a1 x.locs.length c1,.slice a2 x.body.length c2]∧Below w.heap.size w W) ⟨Bk.new,(Below.refl _ _).alloc (Nat.le_refl _) _⟩ ?_
 rintro W ⟨bb,hb⟩
 have q0:=bb.2.1 0 _ rfl
 have q1:=bb.2.1 1 _ rfl
 go_wp2_with fail
 go_loopw [3,4] (fun s i wr=>∃ (k:Nat) (n:Int),k≤x.locs.length∧i=.int .i64 k∧s=.int .i64 n∧0≤n∧n<4294967296∧locsM (x.locs.drop k) n=locsM x.locs 0∧Bk wr w.heap.size [.slice a1 x.locs.length c1,.slice a2 x.body.length c2]∧Below w.heap.size w wr) (fun _ i _=>x.locs.length-(intOf i).toNat)
 case atStart=>exact ⟨0,0,Nat.zero_le _,rfl,rfl,by omega,by omega,rfl,bb,hb⟩
 case round =>
  clear bb hb q0 q1
  obtain ⟨k,n,hk,rfl,rfl,n0,n1,hm,bb,hb⟩:=hrel
  have q0:=bb.2.1 0 _ rfl
  have q1:=bb.2.1 1 _ rfl
  by_cases hlt:k<x.locs.length
  · have hki:(k:Int)<(x.locs.length:Int):=by omega
    rcases R1.out.up (up_below hb) with hx | ⟨b,o,ea,_,hc⟩
    · rw [hx] at hlt;simp at hlt
    have hxk:=hc k hlt
    subst ea
    have HM:=Hm (hm.symm.trans (locs_at x.locs k n hlt))
    generalize x.locs.getD k Grp.z=g at hxk HM
    obtain ⟨⟨g0,g1⟩,_⟩:=hxk
    have HB:=Hm hb
    have BB:=Hm bb
    clear hm hc hb bb
    have HN:=Hm (u32_c g.n wr)
    have HT:=Hm (ty_c g.ty wr)
    have HU:=Hm (u32_c (n+g.n) wr)
    rw [show grpB g=(u32B g.n&&tyB g.ty) from rfl] at HM
    by_cases hg:u32B g.n=true
    · rw [hg] at HN
      rw [hg,Bool.true_and] at HM
      obtain ⟨e0,e1⟩:=u32_r hg
      by_cases ht:tyB g.ty=true
      · rw [ht] at HT
        rw [ht,Bool.true_and] at HM
        by_cases hu:u32B (n+g.n)=true
        · rw [hu] at HU
          rw [hu,Bool.true_and] at HM
          obtain ⟨s0,s1⟩:=u32_r hu
          clear hg hu ht
          go_wp2_with (first | (refine HN.out.mono ?_;rintro e w1 ⟨rfl,rfl⟩) | (refine HT.out.mono ?_;rintro e w1 ⟨rfl,rfl⟩) | (refine HU.out.mono ?_;rintro e w1 ⟨rfl,rfl⟩))
          go_roundw
          case rel=>exact ⟨k+1,n+g.n,by omega,by go_num,rfl,by omega,by omega,HM.out.symm,BB.out,HB.out⟩
          case measure=>simp [intOf];omega
        · simp only [Bool.not_eq_true] at hu
          rw [hu] at HU
          rw [hu,Bool.false_and] at HM
          clear hg hu ht
          go_wp2_with (first | (refine HN.out.mono ?_;rintro e w1 ⟨rfl,rfl⟩) | (refine HT.out.mono ?_;rintro e w1 ⟨rfl,rfl⟩) | (refine HU.out.mono ?_;rintro e w1 ⟨rfl,rfl⟩))
          go_ret
          exact ⟨by rw [codB,HM.out];rfl,HB.out⟩
      · simp only [Bool.not_eq_true] at ht
        rw [ht] at HT
        rw [ht,Bool.false_and,Bool.false_and] at HM
        clear hg ht HU
        go_wp2_with (first | (refine HN.out.mono ?_;rintro e w1 ⟨rfl,rfl⟩) | (refine HT.out.mono ?_;rintro e w1 ⟨rfl,rfl⟩))
        go_ret
        exact ⟨by rw [codB,HM.out];rfl,HB.out⟩
    · simp only [Bool.not_eq_true] at hg
      rw [hg] at HN
      rw [hg,Bool.false_and,Bool.false_and,Bool.false_and] at HM
      clear hg HT HU
      go_wp2_with (refine HN.out.mono ?_;rintro e w1 ⟨rfl,rfl⟩)
      go_ret
      exact ⟨by rw [codB,HM.out];rfl,HB.out⟩
  · have e:k=x.locs.length:=by omega
    subst e
    have HM:Hid (locsM x.locs 0=true):=by show _=_;rw [← hm,List.drop_length];rfl
    have HC:=Hm (sclo a2 c2 x.body wr L1.out HP.out (R2.out.up (up_below hb)))
    have HB:=Hm hb
    clear hm hb bb
    go_wp2_with fail
    refine HC.out.mono ?_
    rintro e w2 ⟨rfl,hb2⟩
    have hb:=HB.out.trans (hb2.mono HB.out.size)
    clear hb2
    go_wp2
    go_ret
    exact ⟨by rw [codB,HM.out,Bool.true_and];rfl,hb⟩
end Go.Proofs.YtdbmolambolmgaaGreat
