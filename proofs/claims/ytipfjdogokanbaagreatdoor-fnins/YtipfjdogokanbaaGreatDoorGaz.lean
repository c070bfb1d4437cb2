import Derived.Test.YtipfjdogokanbaaGreatDoorGaa
import Derived.Test.YtipfjdogokanbaaGreatDoorGax
import Derived.Laws.AppendOwn
import Derived.Test.YtipfjdogokanbaaGreatDoorGay
set_option linter.all false
set_option maxHeartbeats 400000000
set_option maxRecDepth 100000
set_option linter.all false
namespace Go.Proofs.YtipfjdogokanbaaGreatDoor.Pr
open Go.RowKit Go.Sort
theorem sprt2_c (x:In)(la:Option Addr)(lc:Nat)(w:World)(hv0:0<=x.v)(hv1:x.v<=18446744073709551615)(hn:x.l.length<=1048576)(hH:Has w la x.l) :
    Calls Tryz.prog 40 #[inV x la lc] w λe w'=>∃ pa pc,e=.returned (.slice (some ⟨pa,0,none⟩) (JH x).length pc)/\(JH x).length<=pc/\(∀ i,i<(JH x).length->w'.cell? ⟨pa,i,none⟩=some (.int .u8 ((JH x).getD i 0)))/\w.heap.size<=pa/\pa<w'.heap.size/\Below w.heap.size w w':=by
 have b0:∀ o,Below w.heap.size w (w.alloc o):=λo=>(Below.refl _ _).alloc (Nat.le_refl _) o;have KG:=Hm (λo=>good_c x la lc (w.alloc o) hv0 (by omega) (hH.keep (b0 o)));have HC:=Hm (C5.new (w:=w) (a:=.int .i64 x.op) (b:=.int .i64 x.a) (c:=.int .i64 x.b) (d:=.int .u64 x.v) (e:=.slice la x.l.length lc) (t:=26));have HHH:=Hm hH;have B0:=Hm b0
 cases hg:gd x
 . have HE:Hid (JH x=[]):=by show _=_;simp [JH,hg]
   rw [hg] at KG;clear hg hH b0
   go_enter Tryz.func40,Tryz.ntmps40
   go_wp2_with fail
   refine (KG.o _).mono ?_
   rintro e w1 ⟨rfl,hb⟩;have HB:=Hm ((B0.o _).trans (hb.mono (by simp)));clear hb KG HC
   go_wp2
   go_ret
   rw [HE.o]
   exact ⟨_,_,rfl,Nat.le_refl _,λi hi=>by simp at hi,HB.o.size,by simp,HB.o.alloc HB.o.size _⟩
 . have HE:Hid (JH x=bI (lnX x)):=by show _=_;simp [JH,hg]
   have HG:=Hm hg;rw [hg] at KG;have hcv:=λ(w:World) (s:ByteArray)=>run_bytes_of_string (P:=Tryz.prog) w 9 22 5 s Tryz.underlying9 Tryz.underlying22 Tryz.underlying5;have HCV:=Hm hcv;clear hg hH b0 hcv
   go_enter Tryz.func40,Tryz.ntmps40
   go_wp2_with fail
   refine (KG.o _).mono ?_
   rintro e w1 ⟨rfl,hb⟩;have HB:=Hm ((B0.o _).trans (hb.mono (by simp)));obtain ⟨⟨d0,d1,d2,d3,d4⟩,df⟩:=HC.o.keep hb;have KW:=Hm (s8_c x la lc w1 HG.o hv0 hv1 hn (HHH.o.keep HB.o));clear hb KG HC df
   go_wp2_with fail
   refine (KW.o).mono ?_
   rintro e w2 ⟨rfl,hk⟩;have HK:=Hm (HB.o.trans (hk.mono HB.o.size));have hcv:=HCV.o w2 (S (lnX x));clear KW d0 d1 d2 d3 d4 hk
   go_wp2
   go_ret
   rw [HE.o];have hl:(S (lnX x)).size=(bI (lnX x)).length:=by rw [Qn,bI_len]
   refine ⟨_,_,by rw [hl];rfl,by rw [<- hl];exact grownCap_ge _ _ _ _,λi hi=>?_,HK.o.size,by simp,(HK.o.drew).alloc HK.o.size _⟩
   have:=bytesRow_cells (S (lnX x)) (grownCap w2 (S (lnX x)).size 0 5) w2 5 ((bytesRow (S (lnX x)) (grownCap w2 (S (lnX x)).size 0 5)).size,(bytesRow (S (lnX x)) (grownCap w2 (S (lnX x)).size 0 5)).size+1) i (by rw [bytesOf_S];exact hi)
   rw [bytesOf_S,Nat.zero_add] at this
   exact this
end Go.Proofs.YtipfjdogokanbaaGreatDoor.Pr
set_option linter.all false
namespace Go.Proofs.YtipfjdogokanbaaGreatDoor.Pr
open Go.RowKit Go.Sort
theorem fld_short (x:In)(hg:gd x=true)(hv0:0<=x.v)(hv1:x.v<=18446744073709551615)(hn:x.l.length<=4):(fld (Qd (Qb x.op)) x).length<=5/\(lnX x).length<=1000:=by
 have h1:(fld (Qd (Qb x.op)) x).length<=5:=by
  unfold fld
  repeat' split
  all_goals simp
  all_goals omega
 have h2:∀ y ∈ fld (Qd (Qb x.op)) x,y.length<=21:=by
  intro y hy
  have hi:∀ n:Int,-9223372036854775808<=n->n<=9223372036854775807->(Lib.itoa n).length<=21:=λn a b=>JE n a b;have h3:-9223372036854775808<=wrap32 x.v/\wrap32 x.v<=9223372036854775807:=by unfold wrap32;omega
  have h4:-9223372036854775808<=wrap64 x.v/\wrap64 x.v<=9223372036854775807:=by unfold wrap64;omega
  obtain ⟨op,a,b,v,l⟩:=x
  simp only [gd] at *
  rcases QA op with h|h|h|h|h|h|h|h|h|h|h|h
  all_goals rw [h] at hg hy
  all_goals simp [Qg,QK,fld] at hg hy
  . obtain ⟨_,rfl⟩:=hy;rw [typT_len];omega
  . subst hy;exact hi a (by omega) (by omega)
  . rcases hy with ⟨z,hz,rfl⟩|rfl
    . have:=hg.1.1.1 z hz;exact hi z (by omega) (by omega)
    . exact hi a (by omega) (by omega)
  . subst hy;exact hi a (by omega) (by omega)
  . rcases hy with rfl|rfl
    . exact hi a (by omega) (by omega)
    . exact hi b (by omega) (by omega)
  . subst hy;exact hi _ h3.1 h3.2
  . subst hy;exact hi _ h4.1 h4.2
  . subst hy;rw [Gi];omega
  . subst hy;rw [Gi];omega
 refine ⟨by omega,?_⟩
 have:=tl_len 21 _ h2
 have h5:=J0 x.op
 simp only [lnX,lnT,List.length_append]
 omega
theorem prt_short (x:In)(hv0:0<=x.v)(hv1:x.v<=18446744073709551615)(hn:x.l.length<=4):(JH x).length<=1000:=by
 unfold JH
 split
 . rename_i h
   rw [bI_len]
   exact (fld_short x h hv0 hv1 hn).2
 . simp
theorem prt_bytes (x:In):∀ i,0<=(JH x).getD i 0/\(JH x).getD i 0<=255:=by
 intro i
 have key:∀ l:List UInt8,∀ b ∈ bI l,0<=b/\b<=255:=λl b hb=>by
  simp only [bI,List.mem_map] at hb
  obtain ⟨c,_,rfl⟩:=hb
  have:=c.toNat_lt
  omega
 have hm:∀ b ∈ JH x,0<=b/\b<=255:=by
  unfold JH
  split
  . exact key _
  . intro b hb;cases hb
 by_cases hi:i<(JH x).length
 . rw [List.getD_eq_getElem?_getD,List.getElem?_eq_getElem hi];exact hm _ (List.getElem_mem hi)
 . rw [List.getD_eq_getElem?_getD,List.getElem?_eq_none (by omega)];simp
end Go.Proofs.YtipfjdogokanbaaGreatDoor.Pr
