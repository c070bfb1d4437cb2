import Derived.Test.YtipfjdogokanbaaGreatDoorGaa
import Derived.WalkKit
import Derived.WalkSpells
import Derived.WalkLawsBesides
import Derived.Test.YtipfjdogokanbaaGreatDoorGab
import Derived.Test.YtipfjdogokanbaaGreatDoorGac
import Derived.Test.YtipfjdogokanbaaGreatDoorGad
import Derived.OwnWalk
import Derived.Handy
set_option linter.all false
set_option maxHeartbeats 400000000
set_option maxRecDepth 100000
set_option linter.all false
namespace Go.Proofs.YtipfjdogokanbaaGreatDoor
open Go.RowKit
theorem nbF (p k:Int)(h:p≠k):(p==k)=false:=by simpa using h
theorem sform_0 (p:Int)(w:World)(h2:p<=-1):Calls Tryz.prog 37 #[.int .i64 p] w λe w'=>e=.returned (.int .i64 (-1))/\w=w':=by
 go_enter Tryz.func37,Tryz.ntmps37
 go_wp2_with (refine (known_0 _ _ (by omega)).mono ?_;rintro e w1 ⟨rfl,rfl⟩)
 go_ret
 exact ⟨rfl,rfl⟩
theorem sform_1 (p:Int)(w:World)(h1:0<=p)(h2:p<=1):Calls Tryz.prog 37 #[.int .i64 p] w λe w'=>e=.returned (.int .i64 (0))/\w=w':=by
 have f3:=nbF p 12 (by omega);have f4:=nbF p 13 (by omega);have f5:=nbF p 16 (by omega);have f8:=nbF p 14 (by omega);have f9:=nbF p 17 (by omega);have f12:=nbF p 63 (by omega);have f13:=nbF p 64 (by omega)
 go_enter Tryz.func37,Tryz.ntmps37
 go_wp2_with (refine (known_1 _ _ (by omega) (by omega)).mono ?_;rintro e w1 ⟨rfl,rfl⟩)
 go_ret
 exact ⟨rfl,rfl⟩
theorem sform_2 (p:Int)(w:World)(h1:2<=p)(h2:p<=4):Calls Tryz.prog 37 #[.int .i64 p] w λe w'=>e=.returned (.int .i64 (1))/\w=w':=by
 go_enter Tryz.func37,Tryz.ntmps37
 go_wp2_with (refine (known_1 _ _ (by omega) (by omega)).mono ?_;rintro e w1 ⟨rfl,rfl⟩)
 go_ret
 exact ⟨rfl,rfl⟩
theorem sform_3 (p:Int)(w:World)(h1:5<=p)(h2:p<=5):Calls Tryz.prog 37 #[.int .i64 p] w λe w'=>e=.returned (.int .i64 (0))/\w=w':=by
 have f1:¬ p<2:=by omega
 have f3:=nbF p 12 (by omega);have f4:=nbF p 13 (by omega);have f5:=nbF p 16 (by omega);have f8:=nbF p 14 (by omega);have f9:=nbF p 17 (by omega);have f12:=nbF p 63 (by omega);have f13:=nbF p 64 (by omega)
 go_enter Tryz.func37,Tryz.ntmps37
 go_wp2_with (refine (known_1 _ _ (by omega) (by omega)).mono ?_;rintro e w1 ⟨rfl,rfl⟩)
 go_ret
 exact ⟨rfl,rfl⟩
theorem sform_4 (p:Int)(w:World)(h1:6<=p)(h2:p<=10):Calls Tryz.prog 37 #[.int .i64 p] w λe w'=>e=.returned (.int .i64 (-1))/\w=w':=by
 go_enter Tryz.func37,Tryz.ntmps37
 go_wp2_with (refine (known_2 _ _ (by omega) (by omega)).mono ?_;rintro e w1 ⟨rfl,rfl⟩)
 go_ret
 exact ⟨rfl,rfl⟩
theorem sform_5 (p:Int)(w:World)(h1:11<=p)(h2:p<=11):Calls Tryz.prog 37 #[.int .i64 p] w λe w'=>e=.returned (.int .i64 (0))/\w=w':=by
 have f1:¬ p<2:=by omega
 have f3:=nbF p 12 (by omega);have f4:=nbF p 13 (by omega);have f5:=nbF p 16 (by omega);have f8:=nbF p 14 (by omega);have f9:=nbF p 17 (by omega);have f12:=nbF p 63 (by omega);have f13:=nbF p 64 (by omega)
 go_enter Tryz.func37,Tryz.ntmps37
 go_wp2_with (refine (Gv _ _ (by omega) (by omega)).mono ?_;rintro e w1 ⟨rfl,rfl⟩)
 go_ret
 exact ⟨rfl,rfl⟩
theorem sform_6_0 (p:Int)(w:World)(h1:12<=p)(h2:p<=12):Calls Tryz.prog 37 #[.int .i64 p] w λe w'=>e=.returned (.int .i64 (2))/\w=w':=by
 have f1:¬ p<2:=by omega
 have f3:(p==(12:Int))=true:=by simp;omega
 go_enter Tryz.func37,Tryz.ntmps37
 go_wp2_with (refine (Gv _ _ (by omega) (by omega)).mono ?_;rintro e w1 ⟨rfl,rfl⟩)
 go_ret
 exact ⟨rfl,rfl⟩
theorem sform_6_1 (p:Int)(w:World)(h1:13<=p)(h2:p<=13):Calls Tryz.prog 37 #[.int .i64 p] w λe w'=>e=.returned (.int .i64 (2))/\w=w':=by
 have f1:¬ p<2:=by omega
 have f3:=nbF p 12 (by omega);have f4:(p==(13:Int))=true:=by simp;omega
 go_enter Tryz.func37,Tryz.ntmps37
 go_wp2_with (refine (Gv _ _ (by omega) (by omega)).mono ?_;rintro e w1 ⟨rfl,rfl⟩)
 go_ret
 exact ⟨rfl,rfl⟩
theorem sform_6 (p:Int)(w:World)(h1:12<=p)(h2:p<=13):Calls Tryz.prog 37 #[.int .i64 p] w λe w'=>e=.returned (.int .i64 (2))/\w=w':=by
 rcases (by omega:p=12\/p=13) with h|h
 . exact sform_6_0 p w (by omega) (by omega)
 . exact sform_6_1 p w (by omega) (by omega)
theorem sform_7 (p:Int)(w:World)(h1:14<=p)(h2:p<=14):Calls Tryz.prog 37 #[.int .i64 p] w λe w'=>e=.returned (.int .i64 (3))/\w=w':=by
 have f1:¬ p<2:=by omega
 have f3:=nbF p 12 (by omega);have f4:=nbF p 13 (by omega);have f5:=nbF p 16 (by omega);have f8:(p==(14:Int))=true:=by simp;omega
 go_enter Tryz.func37,Tryz.ntmps37
 go_wp2_with (refine (Gv _ _ (by omega) (by omega)).mono ?_;rintro e w1 ⟨rfl,rfl⟩)
 go_ret
 exact ⟨rfl,rfl⟩
theorem sform_8 (p:Int)(w:World)(h1:15<=p)(h2:p<=15):Calls Tryz.prog 37 #[.int .i64 p] w λe w'=>e=.returned (.int .i64 (0))/\w=w':=by
 have f1:¬ p<2:=by omega
 have f3:=nbF p 12 (by omega);have f4:=nbF p 13 (by omega);have f5:=nbF p 16 (by omega);have f8:=nbF p 14 (by omega);have f9:=nbF p 17 (by omega);have f12:=nbF p 63 (by omega);have f13:=nbF p 64 (by omega)
 go_enter Tryz.func37,Tryz.ntmps37
 go_wp2_with (refine (Gv _ _ (by omega) (by omega)).mono ?_;rintro e w1 ⟨rfl,rfl⟩)
 go_ret
 exact ⟨rfl,rfl⟩
theorem sform_9 (p:Int)(w:World)(h1:16<=p)(h2:p<=16):Calls Tryz.prog 37 #[.int .i64 p] w λe w'=>e=.returned (.int .i64 (2))/\w=w':=by
 have f1:¬ p<2:=by omega
 have f3:=nbF p 12 (by omega);have f4:=nbF p 13 (by omega);have f5:(p==(16:Int))=true:=by simp;omega
 go_enter Tryz.func37,Tryz.ntmps37
 go_wp2_with (refine (Gv _ _ (by omega) (by omega)).mono ?_;rintro e w1 ⟨rfl,rfl⟩)
 go_ret
 exact ⟨rfl,rfl⟩
theorem sform_10 (p:Int)(w:World)(h1:17<=p)(h2:p<=17):Calls Tryz.prog 37 #[.int .i64 p] w λe w'=>e=.returned (.int .i64 (4))/\w=w':=by
 have f1:¬ p<2:=by omega
 have f3:=nbF p 12 (by omega);have f4:=nbF p 13 (by omega);have f5:=nbF p 16 (by omega);have f8:=nbF p 14 (by omega);have f9:(p==(17:Int))=true:=by simp;omega
 go_enter Tryz.func37,Tryz.ntmps37
 go_wp2_with (refine (Gv _ _ (by omega) (by omega)).mono ?_;rintro e w1 ⟨rfl,rfl⟩)
 go_ret
 exact ⟨rfl,rfl⟩
theorem sform_11 (p:Int)(w:World)(h1:18<=p)(h2:p<=25):Calls Tryz.prog 37 #[.int .i64 p] w λe w'=>e=.returned (.int .i64 (-1))/\w=w':=by
 go_enter Tryz.func37,Tryz.ntmps37
 go_wp2_with (refine (known_4 _ _ (by omega) (by omega)).mono ?_;rintro e w1 ⟨rfl,rfl⟩)
 go_ret
 exact ⟨rfl,rfl⟩
theorem sform_12 (p:Int)(w:World)(h1:26<=p)(h2:p<=26):Calls Tryz.prog 37 #[.int .i64 p] w λe w'=>e=.returned (.int .i64 (0))/\w=w':=by
 have f1:¬ p<2:=by omega
 have f3:=nbF p 12 (by omega);have f4:=nbF p 13 (by omega);have f5:=nbF p 16 (by omega);have f8:=nbF p 14 (by omega);have f9:=nbF p 17 (by omega);have f12:=nbF p 63 (by omega);have f13:=nbF p 64 (by omega)
 go_enter Tryz.func37,Tryz.ntmps37
 go_wp2_with (refine (known_5 _ _ (by omega) (by omega)).mono ?_;rintro e w1 ⟨rfl,rfl⟩)
 go_ret
 exact ⟨rfl,rfl⟩
theorem sform_13 (p:Int)(w:World)(h1:27<=p)(h2:p<=27):Calls Tryz.prog 37 #[.int .i64 p] w λe w'=>e=.returned (.int .i64 (0))/\w=w':=by
 have f1:¬ p<2:=by omega
 have f3:=nbF p 12 (by omega);have f4:=nbF p 13 (by omega);have f5:=nbF p 16 (by omega);have f8:=nbF p 14 (by omega);have f9:=nbF p 17 (by omega);have f12:=nbF p 63 (by omega);have f13:=nbF p 64 (by omega)
 go_enter Tryz.func37,Tryz.ntmps37
 go_wp2_with (refine (known_6 _ _ (by omega) (by omega)).mono ?_;rintro e w1 ⟨rfl,rfl⟩)
 go_ret
 exact ⟨rfl,rfl⟩
theorem sform_14 (p:Int)(w:World)(h1:28<=p)(h2:p<=31):Calls Tryz.prog 37 #[.int .i64 p] w λe w'=>e=.returned (.int .i64 (-1))/\w=w':=by
 go_enter Tryz.func37,Tryz.ntmps37
 go_wp2_with (refine (known_7 _ _ (by omega) (by omega)).mono ?_;rintro e w1 ⟨rfl,rfl⟩)
 go_ret
 exact ⟨rfl,rfl⟩
theorem sform_15 (p:Int)(w:World)(h1:32<=p)(h2:p<=36):Calls Tryz.prog 37 #[.int .i64 p] w λe w'=>e=.returned (.int .i64 (2))/\w=w':=by
 have f1:¬ p<2:=by omega
 have f3:=nbF p 12 (by omega);have f4:=nbF p 13 (by omega);have f5:=nbF p 16 (by omega);have f7:p<=36:=by omega
 go_enter Tryz.func37,Tryz.ntmps37
 go_wp2_with (refine (known_8 _ _ (by omega) (by omega)).mono ?_;rintro e w1 ⟨rfl,rfl⟩)
 go_ret
 exact ⟨rfl,rfl⟩
theorem sform_16 (p:Int)(w:World)(h1:37<=p)(h2:p<=39):Calls Tryz.prog 37 #[.int .i64 p] w λe w'=>e=.returned (.int .i64 (-1))/\w=w':=by
 go_enter Tryz.func37,Tryz.ntmps37
 go_wp2_with (refine (known_9 _ _ (by omega) (by omega)).mono ?_;rintro e w1 ⟨rfl,rfl⟩)
 go_ret
 exact ⟨rfl,rfl⟩
theorem sform_17 (p:Int)(w:World)(h1:40<=p)(h2:p<=62):Calls Tryz.prog 37 #[.int .i64 p] w λe w'=>e=.returned (.int .i64 (5))/\w=w':=by
 have f1:¬ p<2:=by omega
 have f3:=nbF p 12 (by omega);have f4:=nbF p 13 (by omega);have f5:=nbF p 16 (by omega);have f6:¬ p<32:=by omega
 have f8:=nbF p 14 (by omega);have f9:=nbF p 17 (by omega)
 go_enter Tryz.func37,Tryz.ntmps37
 go_wp2_with (refine (known_10 _ _ (by omega) (by omega)).mono ?_;rintro e w1 ⟨rfl,rfl⟩)
 go_ret
 exact ⟨rfl,rfl⟩
theorem sform_18_0 (p:Int)(w:World)(h1:63<=p)(h2:p<=63):Calls Tryz.prog 37 #[.int .i64 p] w λe w'=>e=.returned (.int .i64 (6))/\w=w':=by
 have f1:¬ p<2:=by omega
 have f3:=nbF p 12 (by omega);have f4:=nbF p 13 (by omega);have f5:=nbF p 16 (by omega);have f6:¬ p<32:=by omega
 have f8:=nbF p 14 (by omega);have f9:=nbF p 17 (by omega);have f10:¬ p<40:=by omega
 have f12:(p==(63:Int))=true:=by simp;omega
 go_enter Tryz.func37,Tryz.ntmps37
 go_wp2_with (refine (known_10 _ _ (by omega) (by omega)).mono ?_;rintro e w1 ⟨rfl,rfl⟩)
 go_ret
 exact ⟨rfl,rfl⟩
theorem sform_18_1 (p:Int)(w:World)(h1:64<=p)(h2:p<=64):Calls Tryz.prog 37 #[.int .i64 p] w λe w'=>e=.returned (.int .i64 (6))/\w=w':=by
 have f1:¬ p<2:=by omega
 have f3:=nbF p 12 (by omega);have f4:=nbF p 13 (by omega);have f5:=nbF p 16 (by omega);have f6:¬ p<32:=by omega
 have f8:=nbF p 14 (by omega);have f9:=nbF p 17 (by omega);have f10:¬ p<40:=by omega
 have f12:=nbF p 63 (by omega);have f13:(p==(64:Int))=true:=by simp;omega
 go_enter Tryz.func37,Tryz.ntmps37
 go_wp2_with (refine (known_10 _ _ (by omega) (by omega)).mono ?_;rintro e w1 ⟨rfl,rfl⟩)
 go_ret
 exact ⟨rfl,rfl⟩
theorem sform_18 (p:Int)(w:World)(h1:63<=p)(h2:p<=64):Calls Tryz.prog 37 #[.int .i64 p] w λe w'=>e=.returned (.int .i64 (6))/\w=w':=by
 rcases (by omega:p=63\/p=64) with h|h
 . exact sform_18_0 p w (by omega) (by omega)
 . exact sform_18_1 p w (by omega) (by omega)
theorem sform_19 (p:Int)(w:World)(h1:65<=p)(h2:p<=68):Calls Tryz.prog 37 #[.int .i64 p] w λe w'=>e=.returned (.int .i64 (p-58))/\w=w':=by
 have f1:¬ p<2:=by omega
 have f3:=nbF p 12 (by omega);have f4:=nbF p 13 (by omega);have f5:=nbF p 16 (by omega);have f6:¬ p<32:=by omega
 have f8:=nbF p 14 (by omega);have f9:=nbF p 17 (by omega);have f10:¬ p<40:=by omega
 have f12:=nbF p 63 (by omega);have f13:=nbF p 64 (by omega)
 go_enter Tryz.func37,Tryz.ntmps37
 go_wp2_with (refine (known_10 _ _ (by omega) (by omega)).mono ?_;rintro e w1 ⟨rfl,rfl⟩)
 go_ret
 exact ⟨by simp;omega,rfl⟩
theorem sform_20 (p:Int)(w:World)(h1:69<=p)(h2:p<=191):Calls Tryz.prog 37 #[.int .i64 p] w λe w'=>e=.returned (.int .i64 (0))/\w=w':=by
 have f1:¬ p<2:=by omega
 have f3:=nbF p 12 (by omega);have f4:=nbF p 13 (by omega);have f5:=nbF p 16 (by omega);have f6:¬ p<32:=by omega
 have f8:=nbF p 14 (by omega);have f9:=nbF p 17 (by omega);have f10:¬ p<40:=by omega
 have f12:=nbF p 63 (by omega);have f13:=nbF p 64 (by omega);have f14:¬ p<65:=by omega
 go_enter Tryz.func37,Tryz.ntmps37
 go_wp2_with (refine (known_10 _ _ (by omega) (by omega)).mono ?_;rintro e w1 ⟨rfl,rfl⟩)
 go_ret
 exact ⟨rfl,rfl⟩
theorem sform_21 (p:Int)(w:World)(h1:192<=p):Calls Tryz.prog 37 #[.int .i64 p] w λe w'=>e=.returned (.int .i64 (-1))/\w=w':=by
 go_enter Tryz.func37,Tryz.ntmps37
 go_wp2_with (refine (known_11 _ _ (by omega)).mono ?_;rintro e w1 ⟨rfl,rfl⟩)
 go_ret
 exact ⟨rfl,rfl⟩
theorem Qr (p:Int)(w:World):Calls Tryz.prog 37 #[.int .i64 p] w λe w'=>e=.returned (.int .i64 (Qd (Qb p)))/\w=w':=by
 have hc:(p<=-1)\/(0<=p/\p<=1)\/(2<=p/\p<=4)\/(5<=p/\p<=5)\/(6<=p/\p<=10)\/(11<=p/\p<=11)\/(12<=p/\p<=13)\/(14<=p/\p<=14)\/(15<=p/\p<=15)\/(16<=p/\p<=16)\/(17<=p/\p<=17)\/(18<=p/\p<=25)\/(26<=p/\p<=26)\/(27<=p/\p<=27)\/(28<=p/\p<=31)\/(32<=p/\p<=36)\/(37<=p/\p<=39)\/(40<=p/\p<=62)\/(63<=p/\p<=64)\/(65<=p/\p<=68)\/(69<=p/\p<=191)\/(192<=p):=by omega
 rcases hc with h|h|h|h|h|h|h|h|h|h|h|h|h|h|h|h|h|h|h|h|h|h
 . have e:Qd (Qb p)=-1:=by
     simp only [Qb,show ¬ (0<=p/\p<192) by omega,if_false];rfl
   rw [e];exact sform_0 p w h
 . have e:=of_decide_eq_true (rng 0 2 (λi=>decide (Qd (tbl.getD i Z0)=0)) (by decide +kernel) p (by omega) (by omega))
   have e':Qd (Qb p)=0:=by
    simp only [Qb,show (0<=p/\p<192) by omega,and_self,if_true];rw [e]
   rw [e'];exact sform_1 p w h.1 h.2
 . have e:=of_decide_eq_true (rng 2 3 (λi=>decide (Qd (tbl.getD i Z0)=1)) (by decide +kernel) p (by omega) (by omega))
   have e':Qd (Qb p)=1:=by
    simp only [Qb,show (0<=p/\p<192) by omega,and_self,if_true];rw [e]
   rw [e'];exact sform_2 p w h.1 h.2
 . have e:=of_decide_eq_true (rng 5 1 (λi=>decide (Qd (tbl.getD i Z0)=0)) (by decide +kernel) p (by omega) (by omega))
   have e':Qd (Qb p)=0:=by
    simp only [Qb,show (0<=p/\p<192) by omega,and_self,if_true];rw [e]
   rw [e'];exact sform_3 p w h.1 h.2
 . have e:=of_decide_eq_true (rng 6 5 (λi=>decide (Qd (tbl.getD i Z0)=-1)) (by decide +kernel) p (by omega) (by omega))
   have e':Qd (Qb p)=-1:=by
    simp only [Qb,show (0<=p/\p<192) by omega,and_self,if_true];rw [e]
   rw [e'];exact sform_4 p w h.1 h.2
 . have e:=of_decide_eq_true (rng 11 1 (λi=>decide (Qd (tbl.getD i Z0)=0)) (by decide +kernel) p (by omega) (by omega))
   have e':Qd (Qb p)=0:=by
    simp only [Qb,show (0<=p/\p<192) by omega,and_self,if_true];rw [e]
   rw [e'];exact sform_5 p w h.1 h.2
 . have e:=of_decide_eq_true (rng 12 2 (λi=>decide (Qd (tbl.getD i Z0)=2)) (by decide +kernel) p (by omega) (by omega))
   have e':Qd (Qb p)=2:=by
    simp only [Qb,show (0<=p/\p<192) by omega,and_self,if_true];rw [e]
   rw [e'];exact sform_6 p w h.1 h.2
 . have e:=of_decide_eq_true (rng 14 1 (λi=>decide (Qd (tbl.getD i Z0)=3)) (by decide +kernel) p (by omega) (by omega))
   have e':Qd (Qb p)=3:=by
    simp only [Qb,show (0<=p/\p<192) by omega,and_self,if_true];rw [e]
   rw [e'];exact sform_7 p w h.1 h.2
 . have e:=of_decide_eq_true (rng 15 1 (λi=>decide (Qd (tbl.getD i Z0)=0)) (by decide +kernel) p (by omega) (by omega))
   have e':Qd (Qb p)=0:=by
    simp only [Qb,show (0<=p/\p<192) by omega,and_self,if_true];rw [e]
   rw [e'];exact sform_8 p w h.1 h.2
 . have e:=of_decide_eq_true (rng 16 1 (λi=>decide (Qd (tbl.getD i Z0)=2)) (by decide +kernel) p (by omega) (by omega))
   have e':Qd (Qb p)=2:=by
    simp only [Qb,show (0<=p/\p<192) by omega,and_self,if_true];rw [e]
   rw [e'];exact sform_9 p w h.1 h.2
 . have e:=of_decide_eq_true (rng 17 1 (λi=>decide (Qd (tbl.getD i Z0)=4)) (by decide +kernel) p (by omega) (by omega))
   have e':Qd (Qb p)=4:=by
    simp only [Qb,show (0<=p/\p<192) by omega,and_self,if_true];rw [e]
   rw [e'];exact sform_10 p w h.1 h.2
 . have e:=of_decide_eq_true (rng 18 8 (λi=>decide (Qd (tbl.getD i Z0)=-1)) (by decide +kernel) p (by omega) (by omega))
   have e':Qd (Qb p)=-1:=by
    simp only [Qb,show (0<=p/\p<192) by omega,and_self,if_true];rw [e]
   rw [e'];exact sform_11 p w h.1 h.2
 . have e:=of_decide_eq_true (rng 26 1 (λi=>decide (Qd (tbl.getD i Z0)=0)) (by decide +kernel) p (by omega) (by omega))
   have e':Qd (Qb p)=0:=by
    simp only [Qb,show (0<=p/\p<192) by omega,and_self,if_true];rw [e]
   rw [e'];exact sform_12 p w h.1 h.2
 . have e:=of_decide_eq_true (rng 27 1 (λi=>decide (Qd (tbl.getD i Z0)=0)) (by decide +kernel) p (by omega) (by omega))
   have e':Qd (Qb p)=0:=by
    simp only [Qb,show (0<=p/\p<192) by omega,and_self,if_true];rw [e]
   rw [e'];exact sform_13 p w h.1 h.2
 . have e:=of_decide_eq_true (rng 28 4 (λi=>decide (Qd (tbl.getD i Z0)=-1)) (by decide +kernel) p (by omega) (by omega))
   have e':Qd (Qb p)=-1:=by
    simp only [Qb,show (0<=p/\p<192) by omega,and_self,if_true];rw [e]
   rw [e'];exact sform_14 p w h.1 h.2
 . have e:=of_decide_eq_true (rng 32 5 (λi=>decide (Qd (tbl.getD i Z0)=2)) (by decide +kernel) p (by omega) (by omega))
   have e':Qd (Qb p)=2:=by
    simp only [Qb,show (0<=p/\p<192) by omega,and_self,if_true];rw [e]
   rw [e'];exact sform_15 p w h.1 h.2
 . have e:=of_decide_eq_true (rng 37 3 (λi=>decide (Qd (tbl.getD i Z0)=-1)) (by decide +kernel) p (by omega) (by omega))
   have e':Qd (Qb p)=-1:=by
    simp only [Qb,show (0<=p/\p<192) by omega,and_self,if_true];rw [e]
   rw [e'];exact sform_16 p w h.1 h.2
 . have e:=of_decide_eq_true (rng 40 23 (λi=>decide (Qd (tbl.getD i Z0)=5)) (by decide +kernel) p (by omega) (by omega))
   have e':Qd (Qb p)=5:=by
    simp only [Qb,show (0<=p/\p<192) by omega,and_self,if_true];rw [e]
   rw [e'];exact sform_17 p w h.1 h.2
 . have e:=of_decide_eq_true (rng 63 2 (λi=>decide (Qd (tbl.getD i Z0)=6)) (by decide +kernel) p (by omega) (by omega))
   have e':Qd (Qb p)=6:=by
    simp only [Qb,show (0<=p/\p<192) by omega,and_self,if_true];rw [e]
   rw [e'];exact sform_18 p w h.1 h.2
 . have e:=of_decide_eq_true (rng 65 4 (λi=>decide (Qd (tbl.getD i Z0)=(i:Int)-58)) (by decide +kernel) p (by omega) (by omega))
   have e':Qd (Qb p)=p-58:=by
    simp only [Qb,show (0<=p/\p<192) by omega,and_self,if_true];rw [e];omega
   rw [e'];exact sform_19 p w h.1 h.2
 . have e:=of_decide_eq_true (rng 69 123 (λi=>decide (Qd (tbl.getD i Z0)=0)) (by decide +kernel) p (by omega) (by omega))
   have e':Qd (Qb p)=0:=by
    simp only [Qb,show (0<=p/\p<192) by omega,and_self,if_true];rw [e]
   rw [e'];exact sform_20 p w h.1 h.2
 . have e:Qd (Qb p)=-1:=by
     simp only [Qb,show ¬ (0<=p/\p<192) by omega,if_false];rfl
   rw [e];exact sform_21 p w h
end Go.Proofs.YtipfjdogokanbaaGreatDoor
set_option linter.all false
namespace Go.Proofs.YtipfjdogokanbaaGreatDoor
open Go.RowKit
theorem J2 (x wd:Int)(w:World)(_h0:0<=x)(_h1:x<=18446744073709551615)(hw:1<=wd)(hw2:wd<=1000) :
    Calls Tryz.prog 181 #[.int .u64 x,.int .i64 wd] w λe w'=>e=.returned (.int .u64 (XP x wd))/\w=w':=by
 by_cases h:64<=wd
 . have e:XP x wd=x:=by unfold XP;rw [if_pos h]
   rw [e];clear e
   go_enter Tryz.func181,Tryz.ntmps181
   go_wp2
   go_ret
   exact ⟨rfl,rfl⟩
 . have e:XP x wd=IntKind.u64.wrap (x*2 ^ (64-wd).toNat) / 2 ^ (64-wd).toNat:=by unfold XP;rw [if_neg h]
   rw [e];clear e
   go_enter Tryz.func181,Tryz.ntmps181
   go_wp2
   go_ret
   exact ⟨rfl,rfl⟩
theorem J3 (x wd:Int)(w:World)(_h0:-9223372036854775808<=x)(_h1:x<=9223372036854775807)(hw:1<=wd)(hw2:wd<=1000) :
    Calls Tryz.prog 158 #[.int .i64 x,.int .i64 wd] w λe w'=>e=.returned (.int .i64 (Xv x wd))/\w=w':=by
 by_cases h:64<=wd
 . have e:Xv x wd=x:=by unfold Xv;rw [if_pos h]
   rw [e];clear e
   go_enter Tryz.func158,Tryz.ntmps158
   go_wp2
   go_ret
   exact ⟨rfl,rfl⟩
 . have e:Xv x wd=wrap64 (x*2 ^ (64-wd).toNat) / 2 ^ (64-wd).toNat:=by unfold Xv;rw [if_neg h]
   rw [e];clear e
   go_enter Tryz.func158,Tryz.ntmps158
   go_wp2
   go_ret
   exact ⟨rfl,rfl⟩
theorem Tryz.info5:(Tryz.prog.info? 5).map (λi=>(i.zero,i.size,i.bytes))=some (some (.int .u8 0),1,1):=by kernel_rfl
theorem QJ {B:Nat}{w wr w1:World}{v:Value}{n:Nat}{xs:List Value}{o:Obj}(hown:wr.ownsRow B 5 1 v n xs)(hbel:Below B w wr)(hB:B<=wr.heap.size)(hgrow:(wr.alloc o).grownBy w1 v.ownBlock):Below B w w1 :=
 (hbel.alloc hB o).grown hgrow (by simp;omega) (λj hj=>(hown.lt j hj).1)
theorem oneB (b:Int):∀ u ∈ [Value.int .u8 b],u.oneCell'=true:=by
 intro u hu;simp at hu;subst hu;rfl
theorem Q0 {B:Nat}{w1:World}{v:Value}{pre:List Int}{b:Int}(h:w1.ownsRow B 5 1 v (pre.length+1) (U pre++[.int .u8 b])):w1.ownsRow B 5 1 v (pre++[b]).length (U (pre++[b])):=by
 simpa using h
end Go.Proofs.YtipfjdogokanbaaGreatDoor
set_option linter.all false
namespace Go.Proofs.YtipfjdogokanbaaGreatDoor
open Go.RowKit
theorem up1 {w w1:World}{o:Obj}(h:Below (w.alloc o).heap.size (w.alloc o) w1):Below w.heap.size w w1:=Below.trans ((Below.refl _ _).alloc (Nat.le_refl _) _) (h.mono (by simp))
theorem up2 {w w1:World}{o o':Obj}(h:Below ((w.alloc o).alloc o').heap.size ((w.alloc o).alloc o') w1):Below w.heap.size w w1:=up1 (up1 h)
theorem rowNew (w w1:World)(r:Row)(t:TypeId)(h:Below (w.alloc (.cells (rowL r).toArray t)).heap.size (w.alloc (.cells (rowL r).toArray t)) w1):Below w.heap.size w w1/\w1.cell? ⟨w.heap.size,0,none⟩=some (.string r.nm)/\w1.cell? ⟨w.heap.size,1,none⟩=some (.int .i64 r.f)/\w1.cell? ⟨w.heap.size,2,none⟩=some (.int .i64 r.a)/\w1.cell? ⟨w.heap.size,3,none⟩=some (.int .i64 r.b)/\w1.cell? ⟨w.heap.size,4,none⟩=some (.int .i64 r.g)/\(∀ i,w1.frozen? ⟨w.heap.size,i,none⟩=false):=by
 have hl:w.heap.size<(w.alloc (.cells (rowL r).toArray t)).heap.size:=by simp
 refine ⟨up1 h,?_,?_,?_,?_,?_,?_⟩
 . rw [h.cell (p:=⟨w.heap.size,0,none⟩) hl];exact Qi rfl rfl
 . rw [h.cell (p:=⟨w.heap.size,1,none⟩) hl];exact Qi rfl rfl
 . rw [h.cell (p:=⟨w.heap.size,2,none⟩) hl];exact Qi rfl rfl
 . rw [h.cell (p:=⟨w.heap.size,3,none⟩) hl];exact Qi rfl rfl
 . rw [h.cell (p:=⟨w.heap.size,4,none⟩) hl];exact Qi rfl rfl
 . intro i;rw [h.frozen (p:=⟨w.heap.size,i,none⟩) hl];exact World.frozen?_alloc_new w _ t i
theorem set5 {w w1:World}(v0 v1 v2 v3 v4:Value)(b0:Below w.heap.size w w1):Below w.heap.size w (((((w1.setCell ⟨w.heap.size,0,none⟩ v0).setCell ⟨w.heap.size,1,none⟩ v1).setCell ⟨w.heap.size,2,none⟩ v2).setCell ⟨w.heap.size,3,none⟩ v3).setCell ⟨w.heap.size,4,none⟩ v4) :=
 ((((b0.setCell (by simp) _).setCell (by simp) _).setCell (by simp) _).setCell (by simp) _).setCell (by simp) _
theorem find_o0 (p:Int)(w:World)(h2:p<=-1):Calls Tryz.prog 107 #[.int .i64 p] w λe w'=>e=.returned (JR Z0)/\Below w.heap.size w w':=by
 have f1:p<0:=by omega
 go_enter Tryz.func107,Tryz.ntmps107
 go_wp2
 exact bodyPost_ret (v:=JR Z0) (by simp [results,Tryz.results107,go_sem,Z0]) rfl ⟨rfl,by repeat (first|exact Below.refl _ _|assumption|refine Below.setCell ?_ (by first|(simp;done)|(simp;omega)) _|refine Below.alloc ?_ (by first|(simp;done)|(simp;omega)) _|apply Below.drew)⟩
theorem find_o1 (p:Int)(w:World)(h1:192<=p):Calls Tryz.prog 107 #[.int .i64 p] w λe w'=>e=.returned (JR Z0)/\Below w.heap.size w w':=by
 have f1:¬ p<0:=by omega
 go_enter Tryz.func107,Tryz.ntmps107
 go_wp2
 exact bodyPost_ret (v:=JR Z0) (by simp [results,Tryz.results107,go_sem,Z0]) rfl ⟨rfl,by repeat (first|exact Below.refl _ _|assumption|refine Below.setCell ?_ (by first|(simp;done)|(simp;omega)) _|refine Below.alloc ?_ (by first|(simp;done)|(simp;omega)) _|apply Below.drew)⟩
theorem find_opControl (p:Nat)(w:World)(h1:0<=p)(h2:p<=39):Calls Tryz.prog 107 #[.int .i64 p] w λe w'=>e=.returned (JR (Qb p))/\Below w.heap.size w w':=by
 have hc:=Hm (opControl_c p (w.alloc (.cells (rowL Z0).toArray 164)) (by omega) (by omega));generalize hr:Qb p=r at *;generalize hq:(p:Int)=q at *;have f1:¬ q<0:=by omega
 have f3:q<40:=by omega
 go_enter Tryz.func107,Tryz.ntmps107
 go_wp2_with fail
 refine (hc.o).mono ?_
 rintro e w1 ⟨rfl,hb⟩;obtain ⟨b0,c0,c1,c2,c3,c4,fz⟩:=rowNew w w1 Z0 164 hb
 go_wp2
 exact bodyPost_ret (v:=JR r) (by simp [results,Tryz.results107,go_sem,c0,c1,c2,c3,c4]) rfl ⟨rfl,set5 _ _ _ _ _ b0⟩
theorem find_opMemory (p:Nat)(w:World)(h1:40<=p)(h2:p<=68):Calls Tryz.prog 107 #[.int .i64 p] w λe w'=>e=.returned (JR (Qb p))/\Below w.heap.size w w':=by
 have hc:=Hm (opMemory_c p (w.alloc (.cells (rowL Z0).toArray 164)) (by omega) (by omega));generalize hr:Qb p=r at *;generalize hq:(p:Int)=q at *;have f1:¬ q<0:=by omega
 have f3:¬ q<40:=by omega
 have f4:q<69:=by omega
 go_enter Tryz.func107,Tryz.ntmps107
 go_wp2_with fail
 refine (hc.o).mono ?_
 rintro e w1 ⟨rfl,hb⟩;obtain ⟨b0,c0,c1,c2,c3,c4,fz⟩:=rowNew w w1 Z0 164 hb
 go_wp2
 exact bodyPost_ret (v:=JR r) (by simp [results,Tryz.results107,go_sem,c0,c1,c2,c3,c4]) rfl ⟨rfl,set5 _ _ _ _ _ b0⟩
theorem find_opTests (p:Nat)(w:World)(h1:69<=p)(h2:p<=102):Calls Tryz.prog 107 #[.int .i64 p] w λe w'=>e=.returned (JR (Qb p))/\Below w.heap.size w w':=by
 have hc:=Hm (opTests_c p (w.alloc (.cells (rowL Z0).toArray 164)) (by omega) (by omega));generalize hr:Qb p=r at *;generalize hq:(p:Int)=q at *;have f1:¬ q<0:=by omega
 have f3:¬ q<40:=by omega
 have f4:¬ q<69:=by omega
 have f5:q<103:=by omega
 go_enter Tryz.func107,Tryz.ntmps107
 go_wp2_with fail
 refine (hc.o).mono ?_
 rintro e w1 ⟨rfl,hb⟩;obtain ⟨b0,c0,c1,c2,c3,c4,fz⟩:=rowNew w w1 Z0 164 hb
 go_wp2
 exact bodyPost_ret (v:=JR r) (by simp [results,Tryz.results107,go_sem,c0,c1,c2,c3,c4]) rfl ⟨rfl,set5 _ _ _ _ _ b0⟩
theorem find_opIntegers (p:Nat)(w:World)(h1:103<=p)(h2:p<=138):Calls Tryz.prog 107 #[.int .i64 p] w λe w'=>e=.returned (JR (Qb p))/\Below w.heap.size w w':=by
 have hc:=Hm (opIntegers_c p (w.alloc (.cells (rowL Z0).toArray 164)) (by omega) (by omega));generalize hr:Qb p=r at *;generalize hq:(p:Int)=q at *;have f1:¬ q<0:=by omega
 have f3:¬ q<40:=by omega
 have f4:¬ q<69:=by omega
 have f5:¬ q<103:=by omega
 have f6:q<139:=by omega
 go_enter Tryz.func107,Tryz.ntmps107
 go_wp2_with fail
 refine (hc.o).mono ?_
 rintro e w1 ⟨rfl,hb⟩;obtain ⟨b0,c0,c1,c2,c3,c4,fz⟩:=rowNew w w1 Z0 164 hb
 go_wp2
 exact bodyPost_ret (v:=JR r) (by simp [results,Tryz.results107,go_sem,c0,c1,c2,c3,c4]) rfl ⟨rfl,set5 _ _ _ _ _ b0⟩
theorem find_opFloats (p:Nat)(w:World)(h1:139<=p)(h2:p<=166):Calls Tryz.prog 107 #[.int .i64 p] w λe w'=>e=.returned (JR (Qb p))/\Below w.heap.size w w':=by
 have hc:=Hm (opFloats_c p (w.alloc (.cells (rowL Z0).toArray 164)) (by omega) (by omega));generalize hr:Qb p=r at *;generalize hq:(p:Int)=q at *;have f1:¬ q<0:=by omega
 have f3:¬ q<40:=by omega
 have f4:¬ q<69:=by omega
 have f5:¬ q<103:=by omega
 have f6:¬ q<139:=by omega
 have f7:q<167:=by omega
 go_enter Tryz.func107,Tryz.ntmps107
 go_wp2_with fail
 refine (hc.o).mono ?_
 rintro e w1 ⟨rfl,hb⟩;obtain ⟨b0,c0,c1,c2,c3,c4,fz⟩:=rowNew w w1 Z0 164 hb
 go_wp2
 exact bodyPost_ret (v:=JR r) (by simp [results,Tryz.results107,go_sem,c0,c1,c2,c3,c4]) rfl ⟨rfl,set5 _ _ _ _ _ b0⟩
theorem find_opConversions (p:Nat)(w:World)(h1:167<=p)(h2:p<=191):Calls Tryz.prog 107 #[.int .i64 p] w λe w'=>e=.returned (JR (Qb p))/\Below w.heap.size w w':=by
 have hc:=Hm (opConversions_c p (w.alloc (.cells (rowL Z0).toArray 164)) (by omega) (by omega));generalize hr:Qb p=r at *;generalize hq:(p:Int)=q at *;have f1:¬ q<0:=by omega
 have f3:¬ q<40:=by omega
 have f4:¬ q<69:=by omega
 have f5:¬ q<103:=by omega
 have f6:¬ q<139:=by omega
 have f7:¬ q<167:=by omega
 go_enter Tryz.func107,Tryz.ntmps107
 go_wp2_with fail
 refine (hc.o).mono ?_
 rintro e w1 ⟨rfl,hb⟩;obtain ⟨b0,c0,c1,c2,c3,c4,fz⟩:=rowNew w w1 Z0 164 hb
 go_wp2
 exact bodyPost_ret (v:=JR r) (by simp [results,Tryz.results107,go_sem,c0,c1,c2,c3,c4]) rfl ⟨rfl,set5 _ _ _ _ _ b0⟩
theorem find_c (p:Int)(w:World):Calls Tryz.prog 107 #[.int .i64 p] w λe w'=>e=.returned (JR (Qb p))/\Below w.heap.size w w':=by
 by_cases h:0<=p/\p<192
 . obtain ⟨n,rfl⟩:=Int.eq_ofNat_of_zero_le h.1;have hc:(0<=n/\n<=39)\/(40<=n/\n<=68)\/(69<=n/\n<=102)\/(103<=n/\n<=138)\/(139<=n/\n<=166)\/(167<=n/\n<=191):=by omega
   rcases hc with h|h|h|h|h|h
   . exact find_opControl n w h.1 h.2
   . exact find_opMemory n w h.1 h.2
   . exact find_opTests n w h.1 h.2
   . exact find_opIntegers n w h.1 h.2
   . exact find_opFloats n w h.1 h.2
   . exact find_opConversions n w h.1 h.2
 . have e:Qb p=Z0:=by simp only [Qb,h,if_false]
   rw [e]
   rcases (by omega:p<=-1\/192<=p) with h|h
   . exact find_o0 p w h
   . exact find_o1 p w h
end Go.Proofs.YtipfjdogokanbaaGreatDoor
set_option linter.all false
namespace Go.Proofs.YtipfjdogokanbaaGreatDoor
open Go.RowKit
theorem fieldV (r:Row)(w:World):(Instr.field 164 (JR r) 0).run Tryz.prog w=.ok (.string r.nm) w:=by kernel_rfl
theorem iname_c (p:Int)(w:World):Calls Tryz.prog 59 #[.int .i64 p] w λe w'=>e=.returned (.string (Qb p).nm)/\Below w.heap.size w w':=by
 have hc:=Hm (find_c p w);generalize Qb p=r at *;have hf:=fieldV r
 go_enter Tryz.func59,Tryz.ntmps59
 go_wp2_with fail
 refine hc.o.mono ?_
 rintro e w1 ⟨rfl,hb⟩
 go_wp2
 go_ret
 exact ⟨rfl,hb⟩
theorem isE (a:ByteArray):a.toList.isEmpty=decide (a.size=0):=by
 rw [ByteArray.toList_eq]
 have:a.size=a.data.toList.length:=rfl
 rw [this]
 cases a.data.toList<;>simp
theorem belA {w w1:World}{o:Obj}(h:Below w.heap.size w w1):Below w.heap.size w (w1.alloc o):=h.alloc h.size o
theorem Qu (p:Int)(w:World):Calls Tryz.prog 49 #[.int .i64 p] w λe w'=>e=.returned (.int .i64 (Qd (Qb p)))/\Below w.heap.size w w':=by
 have hc:=Hm (find_c p w);generalize Qb p=r at *
 by_cases hz:r.nm.size=0
 . have h0:r.nm.toList.isEmpty=true:=by rw [isE];simpa using hz
   go_enter Tryz.func49,Tryz.ntmps49
   go_wp2_with fail
   refine hc.o.mono ?_
   rintro e w1 ⟨rfl,hb⟩
   go_wp2
   go_ret
   exact ⟨by simp [Qd,hz],belA hb⟩
 . have h0:r.nm.toList.isEmpty=false:=by rw [isE];simpa using hz
   go_enter Tryz.func49,Tryz.ntmps49
   go_wp2_with fail
   refine hc.o.mono ?_
   rintro e w1 ⟨rfl,hb⟩
   go_wp2
   go_ret
   exact ⟨by simp [Qd,hz],belA hb⟩
end Go.Proofs.YtipfjdogokanbaaGreatDoor
set_option linter.all false
namespace Go.Proofs.YtipfjdogokanbaaGreatDoor
open Go.RowKit
theorem Tryz.info2:(Tryz.prog.info? 2).map (λi=>(i.zero,i.size,i.bytes))=some (some (.int .i64 0),1,8):=by kernel_rfl
abbrev I (xs:List Int):List Value:=xs.map λx=>Value.int .i64 x
def Has (w:World)(a:Option Addr)(xs:List Int):Prop :=
 xs=[]\/∃ b off,a=some ⟨b,off,none⟩/\∀ i,i<xs.length->w.cell? ⟨b,off+i,none⟩=some (.int .i64 (xs.getD i 0))
theorem Qa {a b c:World}{row:Option Nat}(h:a.grownBy b row)(k:b.grownBy c row):a.grownBy c row :=
 ⟨k.os.trans h.os,k.tape.trans h.tape,k.output.trans h.output,Nat.le_trans h.size k.size,λi hi hne=>(k.block i (Nat.lt_of_lt_of_le hi h.size) hne).trans (h.block i hi hne)⟩
theorem below_drewN' {B:Nat}{w w':World}(h:Below B w w')(n:Nat):Below B w (w'.drewN n):=⟨h.os,h.tape,h.output,h.size,h.block⟩
theorem own_has {w:World}{B g cap:Nat}{L:List Int}(h:w.ownsRow B 2 1 (.slice (some ⟨g,0,none⟩) L.length cap) L.length (I L)):Has w (some ⟨g,0,none⟩) L:=by
 refine .inr ⟨g,0,rfl,λi hi=>?_⟩
 rw [Nat.zero_add,h.cellAt i (by omega)]
 simp [List.getD,hi]
end Go.Proofs.YtipfjdogokanbaaGreatDoor
set_option linter.all false
namespace Go.Proofs.YtipfjdogokanbaaGreatDoor
open Go.RowKit
theorem own_shape {w:World}{B:Nat}{v:Value}{xs:List Int}(h:w.ownsRow B 2 1 v xs.length (I xs)):∃ a c,v=.slice a xs.length c/\Has w a xs:=by
 rcases h.2 with ⟨e,h0⟩|⟨g,cap,cur,hv,hB,hg,r⟩
 . rw [h0];exact ⟨_,_,e,.inl (List.length_eq_zero_iff.1 h0)⟩
 . subst hv;exact ⟨_,_,rfl,own_has h⟩
theorem J1 (w:World)(o:Obj):(w.alloc o).heap[w.heap.size]?=some o:=by show (w.heap.push o)[w.heap.size]?=_;simp
theorem QC (w:World)(o:Obj)(k:Nat)(h:k<w.heap.size):(w.alloc o).heap[k]?=w.heap[k]?:=by show (w.heap.push o)[k]?=_;rw [Array.getElem?_push_lt h,Array.getElem?_eq_getElem h]
end Go.Proofs.YtipfjdogokanbaaGreatDoor
set_option linter.all false
namespace Go.Proofs.YtipfjdogokanbaaGreatDoor
open Go.RowKit
end Go.Proofs.YtipfjdogokanbaaGreatDoor
namespace Go.Proofs.YtipfjdogokanbaaGreatDoor.By
open Go.RowKit
def Has (w:World)(a:Option Addr)(xs:List Int):Prop :=
 xs=[]\/∃ b off,a=some ⟨b,off,none⟩/\∀ i,i<xs.length->w.cell? ⟨b,off+i,none⟩=some (.int .u8 (xs.getD i 0))
theorem Q1 {w:World}{B:Nat}{v:Value}{n:Nat}{L:List Int}(h:w.ownsRow B 5 1 v n (U L))(hn:1<=n):∃ g cap,v=.slice (some ⟨g,0,none⟩) n cap/\B<=g/\g<w.heap.size:=by
 rcases h.2 with ⟨_,h0⟩|⟨g,cap,cur,hv,hB,hg,_⟩
 . omega
 . exact ⟨g,cap,hv,hB,(Array.getElem?_eq_some_iff.1 hg).1⟩
end Go.Proofs.YtipfjdogokanbaaGreatDoor.By
