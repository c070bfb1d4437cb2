import Derived.Test.YtdbmolambolmgaaGreatGm
import Derived.Test.YtdbmolambolmgaaGreatGz
import Derived.Lib.AppendStr
set_option linter.all false
set_option maxHeartbeats 16000000
set_option maxRecDepth 100000
namespace Go.Proofs.YtdbmolambolmgaaGreat
open Go.RowKit Go.Sort
set_option maxRecDepth 100000
theorem sflag_c (b:Bool) (w:World):Calls Tryz.prog 184 #[.bool b] w fun e w'=>e=.returned (.int .u8 (if b then 1 else 0))∧w=w':=by
 cases b
 all_goals
  go_enter Tryz.func184,Tryz.ntmps184
  go_wp2
  go_ret
  exact ⟨rfl,rfl⟩
theorem strCells_U (s:ByteArray):Lib.strCells s=U (bytesOf s):=by simp [Lib.strCells,U,bytesOf]
theorem s5name_c (s:ByteArray) (w:World) (hl:s.size≤1048576):Calls Tryz.prog 80 #[.string s] w fun e w'=>∃ u,e=.returned u∧Out w w' u (nmE s):=by
 obtain ⟨i0,hi,hz0,hz1,hz2⟩:=info_parts Tryz.info5
 have hbl:=bytes_len s
 have KP:=Hm (specPutU_any s.size w (by omega) (by omega))
 have hll:=(lebU_len 9 s.size).2
 have HE:Hid (nmE s=lebU 9 s.size++bytesOf s):=by show _=_;rw [nmE,szE,hbl]
 have HSC:=Hm (strCells_U s)
 generalize lebU 9 (s.size:Int)=L at *
 have hw:IntKind.u64.wrap (s.size:Int)=(s.size:Int):=by rw [IntKind.wrap_u64];omega
 go_enter Tryz.func80,Tryz.ntmps80
 go_wp2_with (first
  | (go_at_call 77
     refine KP.out.mono ?_
     rintro e w1 ⟨v1,rfl,ho1,hb1⟩
     have O1:=Hm ho1
     have B1:=Hm hb1
     clear ho1 hb1 KP)
  | (at_builtin
     refine Lib.wpList_append_own_string _ rfl _ _ 50 9 rfl w.heap.size 5 i0 Tryz.underlying50 Tryz.underlying9 hi hz0 hz1 hz2 v1 L.length (U L) rfl O1.out s rfl (by unfold maxLen;omega) (by omega) B1.out.size ?_
     intro v2 w2 own2 gr2 hnn2
     have O2:=Hm own2
     have B2:=Hm (B1.out.grown gr2 B1.out.size (fun k hk=>(O1.out.lt k hk).1))
     clear own2 gr2 hnn2))
 go_ret
 refine ⟨_,rfl,?_,B2.out⟩
 rw [HE.out]
 have h:=O2.out
 rw [HSC.out] at h
 rw [List.length_append,hbl]
 simpa [U] using h
theorem s5types_c (l:List Int) (a:Option Addr) (c:Nat) (w:World) (hn:l.length≤1048576) (hH:Has w a l):Calls Tryz.prog 139 #[.slice a l.length c] w fun e w'=>∃ u,e=.returned u∧Out w w' u (lebU 9 l.length++onesE l):=by
 obtain ⟨i0,hi,hz0,hz1,hz2⟩:=info_parts Tryz.info5
 have HH:=Hm hH
 have KP:=Hm (specPutU_any l.length w (by omega) (by omega))
 have hll:=(lebU_len 9 l.length).2
 generalize lebU 9 (l.length:Int)=L at *
 have hw:IntKind.u64.wrap (l.length:Int)=(l.length:Int):=by rw [IntKind.wrap_u64];omega
 clear hH
 go_enter Tryz.func139,Tryz.ntmps139
 go_wp2_with fail
 refine KP.out.mono ?_
 rintro e w1 ⟨v1,rfl,ho1,hb1⟩
 have O1:=Hm ho1
 have B1:=Hm hb1
 clear ho1 hb1 KP
 go_wp2_with fail
 go_loopw [3,4] (fun v i wr=>∃ k:Nat,k≤l.length∧i=.int .i64 k∧wr.ownsRow w.heap.size 5 1 v (L++onesE (l.take k)).length (U (L++onesE (l.take k)))∧Below w.heap.size w wr) (fun _ i _=>l.length-(intOf i).toNat)
 case atStart=>exact ⟨0,Nat.zero_le _,rfl,by simpa [onesE] using O1.out,B1.out⟩
 case round =>
  obtain ⟨k,hk,rfl,ho,hb⟩:=hrel
  clear O1 B1
  by_cases hlt:k<l.length
  · have hki:(k:Int)<(l.length:Int):=by omega
    rcases HH.out.keep hb with hx | ⟨b1,o1,ea,hc⟩
    · subst hx;simp at hlt
    have d:=hc k hlt
    subst ea
    have HS:=Hm (ones_step l k hlt)
    have hlk:(L++onesE (l.take k)).length≤1099511627776:=by
     simp only [List.length_append,onesE,List.length_map,List.length_take];omega
    generalize hy:l.getD k 0=y at *
    generalize hpre:L++onesE (l.take k)=pre at *
    have HPre:=Hm hpre
    have hsz:=hb.size
    clear hc hy hpre HH
    go_wp2_with (at_builtin;refine wpList_append_own _ rfl _ _ 50 rfl w.heap.size 5 i0 (.int .u8 0) 1 1 Tryz.underlying50 hi hz0 hz1 hz2 rfl (by decide) _ _ _ rfl (ho.alloc _) ⟨wr.heap.size,0,none⟩ 1 1 [.int .u8 (y%256)] rfl rfl (cell_one_new _ _ _) (oneB _) (by unfold maxLen;omega) (by omega) (by simp;omega) ?_;intro v' w2 hown' hgrow hnn;have hbel':=below_push ho hb hsz hgrow;have hown2:=owns_push hown';clear hown' hgrow ho hb hsz hnn)
    go_roundw
    case rel=>exact ⟨k+1,by omega,by go_num,by rw [HS.out,← List.append_assoc,HPre.out];exact hown2,hbel'⟩
    case measure=>simp [intOf];omega
  · have e:k=l.length:=by omega
    subst e
    rw [List.take_length] at ho
    clear HH
    go_wp2
    go_ret
    exact ⟨_,rfl,ho,hb⟩
open Go.RowKit Go.Sort
theorem own_srcC {w:World} {B:Nat} {v:Value} {L:List Int} (h:w.ownsRow B 5 1 v L.length (U L)):∃ a c,v=.slice a L.length c∧SrcC w a (U L):=by
 rcases h.2 with ⟨h0,h1⟩ | ⟨g,cap,cur,hv,hB,hh,_⟩
 · have e:L=[]:=List.eq_nil_of_length_eq_zero h1
   subst e
   exact ⟨none,0,h0,.inl ⟨rfl,rfl⟩⟩
 · subst hv
   exact ⟨_,cap,rfl,.inr ⟨_,rfl,own_src h⟩⟩
theorem below_own {w0 w w':World} {B n e:Nat} {v:Value} {xs:List Value} (hb:Below B w0 w) (hs:B≤w.heap.size) (h:w.ownsRow B e 1 v n xs) (hg:w.grownBy w' v.ownBlock):Below B w0 w' :=
 hb.grown hg hs (fun k hk=>(h.lt k hk).1)
theorem slist_c (l:List In) (a:Option Addr) (c:Nat) (w0 w:World) (hb0:Below w0.heap.size w0 w) (hL:In.Ls 0 w0 a l) (hg:LG l) (hl:(catE encI l).length≤400000000000) :
    Calls Tryz.prog 143 #[.slice a l.length c] w fun e w'=>∃ u,e=.returned u∧Out w w' u (catE encI l):=by
 obtain ⟨i0,hi,hz0,hz1,hz2⟩:=info_parts Tryz.info5
 have HB:=Hm hb0
 have hn:l.length≤1048576:=hg.1
 have HG:=Hm hg.2
 have HLs:=Hm hL
 clear hb0 hg hL
 go_enter Tryz.func143,Tryz.ntmps143
 go_wp2_with fail
 go_loopw [3,4] (fun v i wr=>∃ k:Nat,k≤l.length∧i=.int .i64 k∧wr.ownsRow w.heap.size 5 1 v (catE encI (l.take k)).length (U (catE encI (l.take k)))∧Below w.heap.size w wr) (fun _ i _=>l.length-(intOf i).toNat)
 case atStart=>exact ⟨0,Nat.zero_le _,rfl,World.ownsRow_lit w #[] 0 (Nat.le_refl _) (Nat.zero_le _) rfl,(Below.refl _ _).alloc (Nat.le_refl _) _⟩
 case round =>
  obtain ⟨k,hk,rfl,ho,hb⟩:=hrel
  by_cases hlt:k<l.length
  · have hki:(k:Int)<(l.length:Int):=by omega
    have hbr:Below w0.heap.size w0 wr:=HB.out.trans (hb.mono HB.out.size)
    rcases HLs.out with hx | ⟨b,o,ea,_,hc⟩
    · subst hx;simp at hlt
    have hxk:=hc k hlt
    subst ea
    obtain ⟨g0,g1,g2,g3⟩:=HG.out k hlt
    have HSt:=Hm (catE_step encI I0 l k hlt)
    have hle2:=catE_le encI l (k+1)
    rw [HSt.out,List.length_append] at hle2
    generalize hx:l.getD k I0=x at *
    obtain ⟨a1,c1,⟨q0,q1,q2,q3,q4⟩,hi1⟩:=hxk
    have lb:b<w0.heap.size:=World.block_lt_of_cell? w0 _ q0
    have q0:=(hbr.cell (p:=⟨b,o+k*5,none⟩) lb).trans q0
    have q1:=(hbr.cell (p:=⟨b,o+k*5+1,none⟩) lb).trans q1
    have q2:=(hbr.cell (p:=⟨b,o+k*5+2,none⟩) lb).trans q2
    have q3:=(hbr.cell (p:=⟨b,o+k*5+3,none⟩) lb).trans q3
    have q4:=(hbr.cell (p:=⟨b,o+k*5+4,none⟩) lb).trans q4
    generalize hpre:catE encI (l.take k)=pre at *
    have hpl:pre.length+(encI x).length≤400000000000:=by omega
    have KI:=Hm (s5_c x a1 c1 wr g0 g1 g2 g3 (HI.has (hi1.up (up_below hbr))))
    have HO:=Hm ho
    have HBe:=Hm hb
    clear ho hb hc hx hpre hle2 hi1 hbr lb g0 g1 g2 g3 HG HLs HB
    go_wp2_with fail
    refine KI.out.mono ?_
    rintro e w2 ⟨v2,rfl,ho2,hb2⟩
    obtain ⟨a2,c2,rfl,hs2⟩:=own_srcC ho2
    have HS2:=Hm hs2
    have HO2:=Hm (ownE_keep HO.out hb2 (Nat.le_refl _))
    have HB2:=Hm (HBe.out.trans (hb2.mono HBe.out.size))
    have hz:=HB2.out.size
    clear ho2 hb2 hs2 KI q0 q1 q2 q3 q4
    go_wp2_with (at_builtin;refine wpList_append_any rfl _ _ 50 rfl w.heap.size 5 i0 (.int .u8 0) 1 1 Tryz.underlying50 hi hz0 hz1 hz2 rfl (by decide) _ pre.length (U pre) rfl HO2.out a2 (encI x).length c2 (U (encI x)) rfl (by simp) HS2.out (oneU _) (by unfold maxLen;omega) (by omega) (by omega) ?_;intro v3 w3 own3 gr3 hloc;have O3:=Hm own3;have B3:=Hm (below_own HB2.out hz HO2.out gr3);clear own3 gr3 hloc)
    go_roundw
    case rel =>
     refine ⟨k+1,by omega,by go_num,?_,B3.out⟩
     rw [HSt.out,List.length_append,show U (pre++encI x)=U pre++U (encI x) by simp [U]]
     exact O3.out
    case measure=>simp [intOf];omega
  · have e:k=l.length:=by omega
    subst e
    rw [List.take_length] at ho
    clear HG HLs HB
    go_wp2
    go_ret
    exact ⟨_,rfl,ho,hb⟩
end Go.Proofs.YtdbmolambolmgaaGreat
