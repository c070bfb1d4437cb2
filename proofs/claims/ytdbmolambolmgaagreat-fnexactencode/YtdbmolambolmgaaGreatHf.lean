import Derived.Test.YtdbmolambolmgaaGreatHe
import Derived.Test.YtdbmolambolmgaaGreatHi
set_option linter.all false
set_option maxHeartbeats 16000000
set_option maxRecDepth 100000
namespace Go.Proofs.YtdbmolambolmgaaGreat
open Go.RowKit Go.Sort
set_option maxRecDepth 100000
theorem nm_len (s:ByteArray):1≤(nmE s).length:=by
 have:=(lebU_len 9 (bytesOf s).length).1
 rw [nmE,szE,List.length_append];omega
theorem nm_le (s:ByteArray) (h:s.size≤1048576):(nmE s).length≤1048600:=by
 have:=(lebU_len 9 (bytesOf s).length).2
 have e:=bytes_len s
 rw [nmE,szE,List.length_append];omega
theorem bk_own {w w':World} {g B n:Nat} {cs:List Value} {v:Value} {xs:List Value} (h:Bk w g cs) (ho:w.ownsRow B 5 1 v n xs) (hg:w.grownBy w' v.ownBlock) (hB:g<B):Bk w' g cs:=by
 have e:w'.heap[g]?=w.heap[g]?:=hg.block g h.1 (fun e=>by have:=(ho.lt g e.symm).1;omega)
 exact ⟨Nat.lt_of_lt_of_le h.1 hg.size,fun j v hv=>(World.cell?_of_block (a:=⟨g,j,none⟩) e).trans (h.2.1 j v hv),fun j=>(World.frozen?_of_block (a:=⟨g,j,none⟩) e).trans (h.2.2 j)⟩
theorem s5imp_c (md nm:ByteArray) (k ty:Int) (l:Limits) (g:GType) (w:World) (hm:md.size≤1048576) (hn:nm.size≤1048576) (hK:impK ⟨md,nm,k,ty,l,g⟩=true) :
    Calls Tryz.prog 140 #[.agg #[.string md,.string nm,.int .i64 k,.int .i64 ty,.int .i64 l.min,.int .i64 l.max,.bool l.has,.int .i64 g.ty,.bool g.mu]] w fun e w'=>∃ u,e=.returned u∧Out w w' u (impE ⟨md,nm,k,ty,l,g⟩):=by
 obtain ⟨i0,hi,hz0,hz1,hz2⟩:=info_parts Tryz.info5
 have KM:=Hm (fun W=>s5name_c md W hm)
 have KN:=Hm (fun W=>s5name_c nm W hn)
 have hM1:=nm_len md
 have hN1:=nm_len nm
 have hM2:=nm_le md hm
 have hN2:=nm_le nm hn
 have HX:Hid (impE ⟨md,nm,k,ty,l,g⟩=nmE md++nmE nm++[k%256]++(if k=0 then lebU 9 ty else if k=1 then [112]++limE l else if k=2 then limE l else gtE g)):=rfl
 have HK0:=Hm hK
 clear hK
 generalize nmE md=LM at *
 generalize nmE nm=LN at *
 generalize impE ⟨md,nm,k,ty,l,g⟩=RES at *
 obtain ⟨W,hW⟩:∃ W,W=w.alloc (.cells #[.string md,.string nm,.int .i64 k,.int .i64 ty,.int .i64 l.min,.int .i64 l.max,.bool l.has,.int .i64 g.ty,.bool g.mu] 103):=⟨_,rfl⟩
 have hBk:Bk W w.heap.size [.string md,.string nm,.int .i64 k,.int .i64 ty,.int .i64 l.min,.int .i64 l.max,.bool l.has,.int .i64 g.ty,.bool g.mu]:=by rw [hW];exact Bk.new
 have bW:Below w.heap.size w W:=by rw [hW];exact (Below.refl _ _).alloc (Nat.le_refl _) _
 have HsW:Hid (W.heap.size=w.heap.size+1):=by show _=_;rw [hW];simp
 have BK:=Hm hBk
 have BKd:Hid (Bk W.drew w.heap.size [.string md,.string nm,.int .i64 k,.int .i64 ty,.int .i64 l.min,.int .i64 l.max,.bool l.has,.int .i64 g.ty,.bool g.mu]):=BK.out
 have hw8:IntKind.u8.wrap k=k%256:=wu8 k
 have q0:=hBk.2.1 0 _ rfl
 have q1:=hBk.2.1 1 _ rfl
 have q2:=hBk.2.1 2 _ rfl
 have k0:=BKd.out.2.1 0 _ rfl
 have k1:=BKd.out.2.1 1 _ rfl
 have k2:=BKd.out.2.1 2 _ rfl
 have m0:∀ o,(W.alloc o).cell? ⟨w.heap.size,0,none⟩=some (.string md):=fun o=>((BK.out).below ((Below.refl W.heap.size W).alloc (Nat.le_refl _) o) (Hid.out BK).1).2.1 0 _ rfl
 have m1:∀ o,(W.alloc o).cell? ⟨w.heap.size,1,none⟩=some (.string nm):=fun o=>((BK.out).below ((Below.refl W.heap.size W).alloc (Nat.le_refl _) o) (Hid.out BK).1).2.1 1 _ rfl
 have m2:∀ o,(W.alloc o).cell? ⟨w.heap.size,2,none⟩=some (.int .i64 k):=fun o=>((BK.out).below ((Below.refl W.heap.size W).alloc (Nat.le_refl _) o) (Hid.out BK).1).2.1 2 _ rfl
 have n0:∀ o,(W.drew.alloc o).cell? ⟨w.heap.size,0,none⟩=some (.string md):=fun o=>((BKd.out).below ((Below.refl W.drew.heap.size W.drew).alloc (Nat.le_refl _) o) (Hid.out BKd).1).2.1 0 _ rfl
 have n1:∀ o,(W.drew.alloc o).cell? ⟨w.heap.size,1,none⟩=some (.string nm):=fun o=>((BKd.out).below ((Below.refl W.drew.heap.size W.drew).alloc (Nat.le_refl _) o) (Hid.out BKd).1).2.1 1 _ rfl
 have n2:∀ o,(W.drew.alloc o).cell? ⟨w.heap.size,2,none⟩=some (.int .i64 k):=fun o=>((BKd.out).below ((Below.refl W.drew.heap.size W.drew).alloc (Nat.le_refl _) o) (Hid.out BKd).1).2.1 2 _ rfl
 have HW:=Hm hW
 have HBW:=Hm bW
 clear hW bW hBk
 go_enter Tryz.func140,Tryz.ntmps140
 go_wp2_with fail
 rw [show w.alloc (.cells #[.string md,.string nm,.int .i64 k,.int .i64 ty,.int .i64 l.min,.int .i64 l.max,.bool l.has,.int .i64 g.ty,.bool g.mu] 103)=W from HW.out.symm]
 clear HW
 go_cut [3] from 4 (fun s V=>V.ownsRow (w.heap.size+1) 5 1 s (LM.length+LN.length+1) (U LM++U LN++U [k%256])∧Below w.heap.size w V∧Bk V w.heap.size [.string md,.string nm,.int .i64 k,.int .i64 ty,.int .i64 l.min,.int .i64 l.max,.bool l.has,.int .i64 g.ty,.bool g.mu])
 case first =>
  go_region_law (first
   | (refine step_append_src rfl (.tmp 6) (.tmp 9) 50 rfl (w.heap.size+1) 5 i0 (.int .u8 0) 1 1 Tryz.underlying50 hi hz0 hz1 hz2 rfl (by decide) (.slice (some ⟨g1,0,none⟩) LM.length gc1) LM.length (U LM) (by simp [Act.eval,Act.put]) N1.out ⟨g2,0,none⟩ LN.length gc2 (U LN) (by simp [Act.eval,Act.put]) (by simp) (own_src N2.out) (oneU _) (by simp only [maxLen];omega) (by omega) Z2.out ?_
      intro v3 w3 own3 gr3' hloc
      have gr3:w2.grownBy w3 (some g1):=gr3'
      have O3:=Hm own3
      have B3:=Hm (B2.out.grown gr3 (Nat.le_of_succ_le Z2.out) (fun j hj=>by simp at hj;have:=L1.out;omega))
      have K3:=Hm (K2.out.grown gr3 (by have:=L1.out;omega))
      have Z3:Hid (w.heap.size+1≤w3.heap.size):=Nat.le_trans Z2.out gr3.size
      have Z3a:Hid (∀ o,w.heap.size+1≤(w3.alloc o).heap.size):=fun o=>by have:=Z3.out;simp;omega
      (try have OL:=Hm (own_grownE OL.out gr3 qL.out))
      have f0:=K3.out.2.1 0 _ rfl
      have f1:=K3.out.2.1 1 _ rfl
      have f2:=K3.out.2.1 2 _ rfl
      have fa0:∀ o,(w3.alloc o).cell? ⟨w.heap.size,0,none⟩=some (.string md):=fun o=>((K3.out).below ((Below.refl w3.heap.size w3).alloc (Nat.le_refl _) o) (Hid.out K3).1).2.1 0 _ rfl
      have fa1:∀ o,(w3.alloc o).cell? ⟨w.heap.size,1,none⟩=some (.string nm):=fun o=>((K3.out).below ((Below.refl w3.heap.size w3).alloc (Nat.le_refl _) o) (Hid.out K3).1).2.1 1 _ rfl
      have fa2:∀ o,(w3.alloc o).cell? ⟨w.heap.size,2,none⟩=some (.int .i64 k):=fun o=>((K3.out).below ((Below.refl w3.heap.size w3).alloc (Nat.le_refl _) o) (Hid.out K3).1).2.1 2 _ rfl
      clear own3 gr3 gr3' hloc)
   | (refine step_append_src rfl (.tmp 6) (.tmp 9) 50 rfl (w.heap.size+1) 5 i0 (.int .u8 0) 1 1 Tryz.underlying50 hi hz0 hz1 hz2 rfl (by decide) (.slice (some ⟨g1,0,none⟩) LM.length gc1) LM.length (U LM) (by simp [Act.eval,Act.put]) (ownE_keep N1.out ((Below.refl w2.heap.size w2).alloc (Nat.le_refl _) _) (Nat.le_refl _)) ⟨g2,0,none⟩ LN.length gc2 (U LN) (by simp [Act.eval,Act.put]) (by simp) (own_src (ownE_keep N2.out ((Below.refl w2.heap.size w2).alloc (Nat.le_refl _) _) (Nat.le_refl _))) (oneU _) (by simp only [maxLen];omega) (by omega) (Z2a.out _) ?_
      intro v3 w3 own3 gr3' hloc
      have gr3:World.grownBy _ w3 (some g1):=gr3'
      have O3:=Hm own3
      have B3:=Hm ((B2.out.alloc (Nat.le_of_succ_le Z2.out) _).grown gr3 (Nat.le_of_succ_le (Z2a.out _)) (fun j hj=>by simp at hj;have:=L1.out;omega))
      have K3:=Hm ((K2.out.below ((Below.refl w2.heap.size w2).alloc (Nat.le_refl _) _) K2.out.1).grown gr3 (by have:=L1.out;omega))
      have Z3:Hid (w.heap.size+1≤w3.heap.size):=Nat.le_trans (Z2a.out _) gr3.size
      have OL:=Hm (own_grownE (World.ownsRow_lit (size:=1) (e:=5) w2 #[.int .u8 (k%256)] 1 Z2.out (by decide) rfl) gr3 q2L.out)
      have f0:=K3.out.2.1 0 _ rfl
      have f1:=K3.out.2.1 1 _ rfl
      have f2:=K3.out.2.1 2 _ rfl
      clear own3 gr3 gr3' hloc)
   | (refine step_append_src rfl (.tmp 10) (.tmp 14) 50 rfl (w.heap.size+1) 5 i0 (.int .u8 0) 1 1 Tryz.underlying50 hi hz0 hz1 hz2 rfl (by decide) v3 (LM.length+LN.length) (U LM++U LN) (by simp [Act.eval,Act.put]) O3.out ⟨W.heap.size,0,none⟩ 1 1 (U [k%256]) (by simp [Act.eval,Act.put]) (by simp) (own_src OL.out) (oneU _) (by simp only [maxLen];omega) (by omega) Z3.out ?_
      intro v4 w4 own4 gr4 hloc
      have O4:=Hm own4
      have B4:=Hm (below_own B3.out (Nat.le_of_succ_le Z3.out) (ownE_down O3.out (Nat.le_succ _)) gr4)
      have K4:=Hm (bk_own K3.out O3.out gr4 (Nat.lt_succ_self _))
      clear own4 gr4 hloc)
   | (refine step_append_src rfl (.tmp 10) (.tmp 14) 50 rfl (w.heap.size+1) 5 i0 (.int .u8 0) 1 1 Tryz.underlying50 hi hz0 hz1 hz2 rfl (by decide) v3 (LM.length+LN.length) (U LM++U LN) (by simp [Act.eval,Act.put]) O3.out ⟨w1.heap.size,0,none⟩ 1 1 (U [k%256]) (by simp [Act.eval,Act.put]) (by simp) (own_src OL.out) (oneU _) (by simp only [maxLen];omega) (by omega) Z3.out ?_
      intro v4 w4 own4 gr4 hloc
      have O4:=Hm own4
      have B4:=Hm (below_own B3.out (Nat.le_of_succ_le Z3.out) (ownE_down O3.out (Nat.le_succ _)) gr4)
      have K4:=Hm (bk_own K3.out O3.out gr4 (Nat.lt_succ_self _))
      clear own4 gr4 hloc)
   | (refine step_append_src rfl (.tmp 10) (.tmp 14) 50 rfl (w.heap.size+1) 5 i0 (.int .u8 0) 1 1 Tryz.underlying50 hi hz0 hz1 hz2 rfl (by decide) v3 (LM.length+LN.length) (U LM++U LN) (by simp [Act.eval,Act.put]) O3.out ⟨w2.heap.size,0,none⟩ 1 1 (U [k%256]) (by simp [Act.eval,Act.put]) (by simp) (own_src OL.out) (oneU _) (by simp only [maxLen];omega) (by omega) Z3.out ?_
      intro v4 w4 own4 gr4 hloc
      have O4:=Hm own4
      have B4:=Hm (below_own B3.out (Nat.le_of_succ_le Z3.out) (ownE_down O3.out (Nat.le_succ _)) gr4)
      have K4:=Hm (bk_own K3.out O3.out gr4 (Nat.lt_succ_self _))
      clear own4 gr4 hloc)
   | (refine step_append_src rfl (.tmp 10) (.tmp 14) 50 rfl (w.heap.size+1) 5 i0 (.int .u8 0) 1 1 Tryz.underlying50 hi hz0 hz1 hz2 rfl (by decide) v3 (LM.length+LN.length) (U LM++U LN) (by simp [Act.eval,Act.put]) (ownE_keep O3.out ((Below.refl w3.heap.size w3).alloc (Nat.le_refl _) _) (Nat.le_refl _)) ⟨w3.heap.size,0,none⟩ 1 1 (U [k%256]) (by simp [Act.eval,Act.put]) (by simp) (own_src (World.ownsRow_lit (size:=1) (e:=5) w3 #[.int .u8 (k%256)] 1 Z3.out (by decide) rfl)) (oneU _) (by simp only [maxLen];omega) (by omega) (Z3a.out _) ?_
      intro v4 w4 own4 gr4 hloc
      have O4:=Hm own4
      have B4:=Hm (below_own (B3.out.alloc (Nat.le_of_succ_le Z3.out) _) (Nat.le_of_succ_le (Z3a.out _)) (ownE_down (ownE_keep O3.out ((Below.refl w3.heap.size w3).alloc (Nat.le_refl _) _) (Nat.le_refl _)) (Nat.le_succ _)) gr4)
      have K4:=Hm (bk_own (K3.out.below ((Below.refl w3.heap.size w3).alloc (Nat.le_refl _) _) K3.out.1) (ownE_keep O3.out ((Below.refl w3.heap.size w3).alloc (Nat.le_refl _) _) (Nat.le_refl _)) gr4 (Nat.lt_succ_self _))
      clear own4 gr4 hloc)
   | (go_simp
      go_at_call_of 80 (Value.string md)
      refine (KM.out _).mono ?_
      rintro e w1 ⟨v1,rfl,ho1,hb1⟩
      obtain ⟨g1,gc1,rfl,hg1,hg1'⟩:=By.own_split ho1 hM1
      have L1:Hid (w.heap.size<g1):=by show _<_;have:=HsW.out;simp at hg1;omega
      have L1':Hid (g1<w1.heap.size):=hg1'
      first
       | (have hbW:Below W.heap.size W w1:=((Below.refl W.heap.size W).drew.alloc (Nat.le_refl _) _).trans (hb1.mono (by show W.heap.size≤_;simp))
          have OL:=Hm (ownE_keep (World.ownsRow_lit (size:=1) (e:=5) W.drew #[.int .u8 (k%256)] 1 (show w.heap.size+1≤W.heap.size by rw [HsW.out];exact Nat.le_refl _) (by decide) rfl) hb1 (Nat.le_refl _))
          have qL:Hid (W.heap.size≠g1):=by show _≠_;simp at hg1;omega
          have BW:=Hm hbW
          clear hbW)
       | (have BW:=Hm ((Below.refl W.heap.size W).drew.trans hb1))
      have N1:=Hm (ownE_down ho1 (show w.heap.size+1≤_ by have:=HsW.out;simp;omega))
      have K1:=Hm (BK.out.below BW.out (by have:=HsW.out;omega))
      have c0:=K1.out.2.1 0 _ rfl
      have c1:=K1.out.2.1 1 _ rfl
      have c2:=K1.out.2.1 2 _ rfl
      have ca0:∀ o,(w1.alloc o).cell? ⟨w.heap.size,0,none⟩=some (.string md):=fun o=>((K1.out).below ((Below.refl w1.heap.size w1).alloc (Nat.le_refl _) o) (Hid.out K1).1).2.1 0 _ rfl
      have ca1:∀ o,(w1.alloc o).cell? ⟨w.heap.size,1,none⟩=some (.string nm):=fun o=>((K1.out).below ((Below.refl w1.heap.size w1).alloc (Nat.le_refl _) o) (Hid.out K1).1).2.1 1 _ rfl
      have ca2:∀ o,(w1.alloc o).cell? ⟨w.heap.size,2,none⟩=some (.int .i64 k):=fun o=>((K1.out).below ((Below.refl w1.heap.size w1).alloc (Nat.le_refl _) o) (Hid.out K1).1).2.1 2 _ rfl
      clear ho1 hb1 hg1 hg1')
   | (go_simp
      go_at_call_of 80 (Value.string nm)
      refine (KN.out _).mono ?_
      rintro e w2 ⟨v2,rfl,ho2,hb2⟩
      obtain ⟨g2,gc2,rfl,hg2,hg2'⟩:=By.own_split ho2 hN1
      first
       | (have hbW:Below w1.heap.size w1 w2:=((Below.refl w1.heap.size w1).alloc (Nat.le_refl _) _).trans (hb2.mono (by simp))
          have OL:=Hm (ownE_keep (World.ownsRow_lit (size:=1) (e:=5) w1 #[.int .u8 (k%256)] 1 (show w.heap.size+1≤w1.heap.size by have:=HsW.out;have:=BW.out.size;omega) (by decide) rfl) hb2 (Nat.le_refl _))
          have qL:Hid (w1.heap.size≠g1):=by show _≠_;have:=L1'.out;omega
          have B12:=Hm hbW
          clear hbW)
       | (have B12:=Hm hb2
          (try have OL:=Hm (ownE_keep OL.out hb2 (Nat.le_refl _))))
      have N1:=Hm (ownE_keep N1.out B12.out (Nat.le_refl _))
      have N2:=Hm ho2
      have B2:=Hm ((HBW.out.trans (BW.out.mono HBW.out.size)).trans (B12.out.mono (Nat.le_trans HBW.out.size BW.out.size)))
      have K2:=Hm (K1.out.below B12.out K1.out.1)
      have Z2:Hid (w.heap.size+1≤w2.heap.size):=by show _≤_;have:=HsW.out;have:=BW.out.size;have:=B12.out.size;omega
      have Z2a:Hid (∀ o,w.heap.size+1≤(w2.alloc o).heap.size):=fun o=>by have:=Z2.out;simp;omega
      have q2L:Hid (w2.heap.size≠g1):=by show _≠_;have:=L1'.out;have:=B12.out.size;omega
      have d0:=K2.out.2.1 0 _ rfl
      have d1:=K2.out.2.1 1 _ rfl
      have d2:=K2.out.2.1 2 _ rfl
      have da0:∀ o,(w2.alloc o).cell? ⟨w.heap.size,0,none⟩=some (.string md):=fun o=>((K2.out).below ((Below.refl w2.heap.size w2).alloc (Nat.le_refl _) o) (Hid.out K2).1).2.1 0 _ rfl
      have da1:∀ o,(w2.alloc o).cell? ⟨w.heap.size,1,none⟩=some (.string nm):=fun o=>((K2.out).below ((Below.refl w2.heap.size w2).alloc (Nat.le_refl _) o) (Hid.out K2).1).2.1 1 _ rfl
      have da2:∀ o,(w2.alloc o).cell? ⟨w.heap.size,2,none⟩=some (.int .i64 k):=fun o=>((K2.out).below ((Below.refl w2.heap.size w2).alloc (Nat.le_refl _) o) (Hid.out K2).1).2.1 2 _ rfl
      clear ho2 hb2 hg2 hg2'))
  all_goals
   go_wp2_with fail
   go_meet
   exact ⟨O4.out,B4.out,K4.out⟩
 case rest =>
  obtain ⟨hO,hB,hK⟩:=hcut
  have O5:=Hm hO
  have B5:=Hm hB
  have K5:=Hm hK
  have Z5:Hid (w.heap.size+1≤wc.heap.size):=hK.1
  clear hO hB hK q0 q1 q2 k0 k1 k2 m0 m1 m2 n0 n1 n2 KM KN BK BKd hw8 HsW HBW
  have ht:(k=0→0≤ty∧ty≤4294967295)∧(k=1∨k=2→limB l=true)∧(k=0∨k=1∨k=2∨k=3):=by
   have h:=HK0.out
   simp only [impK] at h
   split at h
   · rename_i e;simp only [Bool.and_eq_true,u32B_iff] at h;exact ⟨fun _=>h.1.1,fun e'=>by omega,.inl e⟩
   · split at h
     · rename_i e0 e;simp only [Bool.and_eq_true] at h;exact ⟨fun e'=>absurd e' e0,fun _=>h.1.2,by omega⟩
     · split at h
       · rename_i e0 e1 e;exact ⟨fun e'=>absurd e' e0,fun e'=>absurd e' e1,by omega⟩
       · simp at h
  obtain ⟨t0,t1,hc⟩:=ht
  have HR0:Hid (k=0→RES=LM++LN++[k%256]++lebU 9 ty):=fun e=>by rw [HX.out,if_pos e]
  have HR1:Hid (k=1→RES=LM++LN++[k%256]++([112]++limE l)):=fun e=>by rw [HX.out,if_neg (by omega),if_pos e]
  have HR2:Hid (k=2→RES=LM++LN++[k%256]++limE l):=fun e=>by rw [HX.out,if_neg (by omega),if_neg (by omega),if_pos e]
  have HR3:Hid (k=3→RES=LM++LN++[k%256]++gtE g):=fun e=>by rw [HX.out,if_neg (by omega),if_neg (by omega),if_neg (by omega)]
  clear HX HK0
  rcases hc with e | e | e | e
  · have HR:=Hm (HR0.out e)
    have KX:=Hm (fun V=>specPutU_any ty V (t0 e).1 (by have:=(t0 e).2;omega))
    have hlx:(lebU 9 ty).length≤100:=by have:=(lebU_len 9 ty).2;omega
    have hwt:IntKind.u64.wrap ty=ty:=by rw [IntKind.wrap_u64];have:=t0 e;omega
    subst e
    obtain ⟨va,vc,rfl⟩:=ownE_slice O5.out
    have q2:=K5.out.2.1 2 _ rfl
    have q3:=K5.out.2.1 3 _ rfl
    clear HR0 HR1 HR2 HR3 K5 t0 t1
    generalize lebU 9 ty=LX at *
    go_wp2_with fail
    refine (KX.out _).mono ?_
    rintro e w6 ⟨v6,rfl,ho6,hb6⟩
    obtain ⟨a6,c6,rfl,hs6⟩:=own_srcC ho6
    have S6:=Hm hs6
    have O6:=Hm (ownE_keep O5.out hb6 (Nat.le_refl _))
    have B6:=Hm (B5.out.trans (hb6.mono B5.out.size))
    have Z6:Hid (w.heap.size+1≤w6.heap.size):=Nat.le_trans Z5.out hb6.size
    clear ho6 hb6 hs6 q2 q3
    go_wp2_with (at_builtin;refine wpList_append_any rfl _ _ 50 rfl (w.heap.size+1) 5 i0 (.int .u8 0) 1 1 Tryz.underlying50 hi hz0 hz1 hz2 rfl (by decide) _ (LM.length+LN.length+1) (U LM++U LN++U [(0:Int)%256]) rfl O6.out a6 (LX.length) c6 (U LX) rfl (by simp) S6.out (oneU _) (by unfold maxLen;omega) (by omega) Z6.out ?_;intro v7 w7 own' gr' hloc;have O7:=Hm own';have B7:=Hm (below_own B6.out (Nat.le_of_succ_le Z6.out) (ownE_down O6.out (Nat.le_succ _)) gr');clear own' gr' hloc)
    go_ret
    refine ⟨_,rfl,?_,B7.out⟩
    rw [HR.out]
    have h:=ownE_down O7.out (Nat.le_succ _)
    simpa [U,Nat.add_comm,Nat.add_left_comm,Nat.add_assoc] using h
  · have HR:=Hm (HR1.out e)
    have KX:=Hm (fun V=>s5lim_c l V (t1 (.inl e)))
    have hlx:(limE l).length≤100:=by have:=limE_le l;omega
    have hl1:1≤(limE l).length:=by have:=flB_len l.has;simp only [limE,List.length_append];omega
    subst e
    obtain ⟨va,vc,rfl⟩:=ownE_slice O5.out
    have K5d:Hid (Bk wc.drew w.heap.size [.string md,.string nm,.int .i64 1,.int .i64 ty,.int .i64 l.min,.int .i64 l.max,.bool l.has,.int .i64 g.ty,.bool g.mu]):=K5.out
    have OA:=Hm (fun ob=>ownE_keep O5.out ((Below.refl wc.heap.size wc).drew.alloc (Nat.le_refl _) ob) (Nat.le_refl _))
    have KA:=Hm (fun ob=>K5.out.below ((Below.refl wc.heap.size wc).drew.alloc (Nat.le_refl _) ob) K5.out.1)
    have BA:=Hm (fun ob=>B5.out.trans (((Below.refl wc.heap.size wc).drew.alloc (Nat.le_refl _) ob).mono B5.out.size))
    have ZA:Hid (∀ ob,w.heap.size+1≤(wc.drew.alloc ob).heap.size):=fun ob=>by have:=Z5.out;simp;omega
    have q2:=K5.out.2.1 2 _ rfl
    have q4:=K5.out.2.1 4 _ rfl
    have q5:=K5.out.2.1 5 _ rfl
    have q6:=K5.out.2.1 6 _ rfl
    have r4:=K5d.out.2.1 4 _ rfl
    have r5:=K5d.out.2.1 5 _ rfl
    have r6:=K5d.out.2.1 6 _ rfl
    have s4:∀ o,(wc.drew.alloc o).cell? ⟨w.heap.size,4,none⟩=some (.int .i64 l.min):=fun o=>(KA.out o).2.1 4 _ rfl
    have s4':∀ o,(wc.alloc o).drew.cell? ⟨w.heap.size,4,none⟩=some (.int .i64 l.min):=s4
    have s4'':∀ o,(wc.alloc o).cell? ⟨w.heap.size,4,none⟩=some (.int .i64 l.min):=s4
    have s5:∀ o,(wc.drew.alloc o).cell? ⟨w.heap.size,5,none⟩=some (.int .i64 l.max):=fun o=>(KA.out o).2.1 5 _ rfl
    have s5':∀ o,(wc.alloc o).drew.cell? ⟨w.heap.size,5,none⟩=some (.int .i64 l.max):=s5
    have s5'':∀ o,(wc.alloc o).cell? ⟨w.heap.size,5,none⟩=some (.int .i64 l.max):=s5
    have s6:∀ o,(wc.drew.alloc o).cell? ⟨w.heap.size,6,none⟩=some (.bool l.has):=fun o=>(KA.out o).2.1 6 _ rfl
    have s6':∀ o,(wc.alloc o).drew.cell? ⟨w.heap.size,6,none⟩=some (.bool l.has):=s6
    have s6'':∀ o,(wc.alloc o).cell? ⟨w.heap.size,6,none⟩=some (.bool l.has):=s6
    generalize limE l=LX at *
    clear HR0 HR2 HR3 t0 t1
    go_wp2_with fail
    go_region_law (first
     | (refine step_append_src rfl (.tmp 28) (.tmp 29) 50 rfl (w.heap.size+1) 5 i0 (.int .u8 0) 1 1 Tryz.underlying50 hi hz0 hz1 hz2 rfl (by decide) (.slice va (LM.length+LN.length+1) vc) (LM.length+LN.length+1) (U LM++U LN++U [(1:Int)%256]) (by simp [Act.eval,Act.put]) (OA.out _) ⟨wc.heap.size,0,none⟩ 1 1 (U [112]) (by simp [Act.eval,Act.put]) (by simp) (own_src (World.ownsRow_lit (size:=1) (e:=5) wc.drew #[.int .u8 112] 1 Z5.out (by decide) rfl)) (oneU _) (by simp only [maxLen];omega) (by omega) (ZA.out _) ?_
        intro v6 w6 own6 gr6 hloc
        have O6:=Hm own6
        have B6:=Hm (below_own (BA.out _) (Nat.le_of_succ_le (ZA.out _)) (ownE_down (OA.out _) (Nat.le_succ _)) gr6)
        have K6:=Hm (bk_own (KA.out _) (OA.out _) gr6 (Nat.lt_succ_self _))
        have Z6:Hid (w.heap.size+1≤w6.heap.size):=Nat.le_trans (ZA.out _) gr6.size
        have x4:=K6.out.2.1 4 _ rfl
        have x5:=K6.out.2.1 5 _ rfl
        have x6:=K6.out.2.1 6 _ rfl
        clear own6 gr6 hloc)
     | (refine step_append_src rfl (.tmp 30) (.tmp 33) 50 rfl (w.heap.size+1) 5 i0 (.int .u8 0) 1 1 Tryz.underlying50 hi hz0 hz1 hz2 rfl (by decide) v6 (LM.length+LN.length+1+1) (U LM++U LN++U [(1:Int)%256]++U [112]) (by simp [Act.eval,Act.put]) O8.out ⟨g8,0,none⟩ LX.length gc8 (U LX) (by simp [Act.eval,Act.put]) (by simp) (own_src N8.out) (oneU _) (by simp only [maxLen];omega) (by omega) Z8.out ?_
        intro v9 w9 own9 gr9 hloc
        have O9:=Hm own9
        have B9:=Hm (below_own B8.out (Nat.le_of_succ_le Z8.out) (ownE_down O8.out (Nat.le_succ _)) gr9)
        clear own9 gr9 hloc)
     | (go_simp
        go_at_call 141
        refine (KX.out _).mono ?_
        rintro e w8 ⟨v8,rfl,ho8,hb8⟩
        obtain ⟨g8,gc8,rfl,hg8,hg8'⟩:=By.own_split ho8 hl1
        have N8:=Hm ho8
        have O8:=Hm (ownE_keep O6.out hb8 (Nat.le_refl _))
        have B8:=Hm (B6.out.trans (hb8.mono B6.out.size))
        have Z8:Hid (w.heap.size+1≤w8.heap.size):=Nat.le_trans Z6.out hb8.size
        clear ho8 hb8 hg8 hg8'))
    all_goals
     go_wp2_with fail
     go_ret
     refine ⟨v9,rfl,?_,B9.out⟩
     rw [HR.out]
     have h:=ownE_down O9.out (Nat.le_succ _)
     simpa [U,Nat.add_comm,Nat.add_left_comm,Nat.add_assoc] using h
  · have HR:=Hm (HR2.out e)
    have KX:=Hm (fun V=>s5lim_c l V (t1 (.inr e)))
    have hlx:(limE l).length≤100:=by have:=limE_le l;omega
    subst e
    obtain ⟨va,vc,rfl⟩:=ownE_slice O5.out
    have q2:=K5.out.2.1 2 _ rfl
    have q4:=K5.out.2.1 4 _ rfl
    have q5:=K5.out.2.1 5 _ rfl
    have q6:=K5.out.2.1 6 _ rfl
    clear HR0 HR1 HR2 HR3 K5 t0 t1
    generalize limE l=LX at *
    go_wp2_with fail
    refine (KX.out _).mono ?_
    rintro e w6 ⟨v6,rfl,ho6,hb6⟩
    obtain ⟨a6,c6,rfl,hs6⟩:=own_srcC ho6
    have S6:=Hm hs6
    have O6:=Hm (ownE_keep O5.out hb6 (Nat.le_refl _))
    have B6:=Hm (B5.out.trans (hb6.mono B5.out.size))
    have Z6:Hid (w.heap.size+1≤w6.heap.size):=Nat.le_trans Z5.out hb6.size
    clear ho6 hb6 hs6 q2 q4 q5 q6
    go_wp2_with (at_builtin;refine wpList_append_any rfl _ _ 50 rfl (w.heap.size+1) 5 i0 (.int .u8 0) 1 1 Tryz.underlying50 hi hz0 hz1 hz2 rfl (by decide) _ (LM.length+LN.length+1) (U LM++U LN++U [(2:Int)%256]) rfl O6.out a6 (LX.length) c6 (U LX) rfl (by simp) S6.out (oneU _) (by unfold maxLen;omega) (by omega) Z6.out ?_;intro v7 w7 own' gr' hloc;have O7:=Hm own';have B7:=Hm (below_own B6.out (Nat.le_of_succ_le Z6.out) (ownE_down O6.out (Nat.le_succ _)) gr');clear own' gr' hloc)
    go_ret
    refine ⟨_,rfl,?_,B7.out⟩
    rw [HR.out]
    have h:=ownE_down O7.out (Nat.le_succ _)
    simpa [U,Nat.add_comm,Nat.add_left_comm,Nat.add_assoc] using h
  · have HR:=Hm (HR3.out e)
    have KX:=Hm (fun V=>s5gt_c g V)
    have hlx:(gtE g).length≤100:=by have:=gtE_le g;omega
    subst e
    obtain ⟨va,vc,rfl⟩:=ownE_slice O5.out
    have q2:=K5.out.2.1 2 _ rfl
    have q7:=K5.out.2.1 7 _ rfl
    have q8:=K5.out.2.1 8 _ rfl
    clear HR0 HR1 HR2 HR3 K5 t0 t1
    generalize gtE g=LX at *
    go_wp2_with fail
    refine (KX.out _).mono ?_
    rintro e w6 ⟨v6,rfl,ho6,hb6⟩
    obtain ⟨a6,c6,rfl,hs6⟩:=own_srcC ho6
    have S6:=Hm hs6
    have O6:=Hm (ownE_keep O5.out hb6 (Nat.le_refl _))
    have B6:=Hm (B5.out.trans (hb6.mono B5.out.size))
    have Z6:Hid (w.heap.size+1≤w6.heap.size):=Nat.le_trans Z5.out hb6.size
    clear ho6 hb6 hs6 q2 q7 q8
    go_wp2_with (at_builtin;refine wpList_append_any rfl _ _ 50 rfl (w.heap.size+1) 5 i0 (.int .u8 0) 1 1 Tryz.underlying50 hi hz0 hz1 hz2 rfl (by decide) _ (LM.length+LN.length+1) (U LM++U LN++U [(3:Int)%256]) rfl O6.out a6 (LX.length) c6 (U LX) rfl (by simp) S6.out (oneU _) (by unfold maxLen;omega) (by omega) Z6.out ?_;intro v7 w7 own' gr' hloc;have O7:=Hm own';have B7:=Hm (below_own B6.out (Nat.le_of_succ_le Z6.out) (ownE_down O6.out (Nat.le_succ _)) gr');clear own' gr' hloc)
    go_ret
    refine ⟨_,rfl,?_,B7.out⟩
    rw [HR.out]
    have h:=ownE_down O7.out (Nat.le_succ _)
    simpa [U,Nat.add_comm,Nat.add_left_comm,Nat.add_assoc] using h
end Go.Proofs.YtdbmolambolmgaaGreat
