import Derived.Test.YtedcmcdbejjgcaaGreatGaa
set_option linter.all false
set_option maxHeartbeats 400000000
set_option maxRecDepth 100000
namespace Go.Proofs.YtedcmcdbejjgcaaGreat
open Go.RowKit
abbrev FQ (p r:Int):Prop:=(p<=-1/\r=-1)\/(0<=p/\p<=1/\r=0)\/(2<=p/\p<=4/\r=1)\/(5<=p/\p<=5/\r=0)\/(6<=p/\p<=10/\r=-1)\/(11<=p/\p<=11/\r=0)\/(12<=p/\p<=12/\r=2)\/(13<=p/\p<=13/\r=2)\/(14<=p/\p<=14/\r=3)\/(15<=p/\p<=15/\r=0)\/(16<=p/\p<=16/\r=2)\/(17<=p/\p<=17/\r=4)\/(18<=p/\p<=25/\r=-1)\/(26<=p/\p<=26/\r=0)\/(27<=p/\p<=27/\r=0)\/(28<=p/\p<=31/\r=-1)\/(32<=p/\p<=36/\r=2)\/(37<=p/\p<=39/\r=-1)\/(40<=p/\p<=62/\r=5)\/(63<=p/\p<=63/\r=6)\/(64<=p/\p<=64/\r=6)\/(65<=p/\p<=68/\r=7+p-65)\/(69<=p/\p<=191/\r=0)\/(192<=p/\r=-1)
theorem sform_x (p r:Int)(w:World)(h:FQ p r):Calls Tryz.prog 206 #[.int .i64 p] w λe w'=>e=.returned (.int .i64 r)/\w=w':=by
 rcases h with ⟨h,rfl⟩|⟨h,a,rfl⟩|⟨h,a,rfl⟩|⟨h,a,rfl⟩|⟨h,a,rfl⟩|⟨h,a,rfl⟩|⟨h,a,rfl⟩|⟨h,a,rfl⟩|⟨h,a,rfl⟩|⟨h,a,rfl⟩|⟨h,a,rfl⟩|⟨h,a,rfl⟩|⟨h,a,rfl⟩|⟨h,a,rfl⟩|⟨h,a,rfl⟩|⟨h,a,rfl⟩|⟨h,a,rfl⟩|⟨h,a,rfl⟩|⟨h,a,rfl⟩|⟨h,a,rfl⟩|⟨h,a,rfl⟩|⟨h,a,rfl⟩|⟨h,a,rfl⟩|⟨h,rfl⟩
 all_goals
  first|have v : p < 2 := by omega
        |have v:¬ p<2:=by omega
  first|have u : p <= 4 := by omega
        |have u:¬ p<=4:=by omega
  first|have t : (p == (12 : Int)) = false := by simp; omega
        |have t:(p==(12:Int))=true:=by simp;omega
  first|have s : (p == (13 : Int)) = false := by simp; omega
        |have s:(p==(13:Int))=true:=by simp;omega
  first|have q : (p == (16 : Int)) = false := by simp; omega
        |have q:(p==(16:Int))=true:=by simp;omega
  first|have o : p < 32 := by omega
        |have o:¬ p<32:=by omega
  first|have n : p <= 36 := by omega
        |have n:¬ p<=36:=by omega
  first|have m : (p == (14 : Int)) = false := by simp; omega
        |have m:(p==(14:Int))=true:=by simp;omega
  first|have l : (p == (17 : Int)) = false := by simp; omega
        |have l:(p==(17:Int))=true:=by simp;omega
  first|have k : p < 40 := by omega
        |have k:¬ p<40:=by omega
  first|have g : p <= 62 := by omega
        |have g:¬ p<=62:=by omega
  first|have f : (p == (63 : Int)) = false := by simp; omega
        |have f:(p==(63:Int))=true:=by simp;omega
  first|have d : (p == (64 : Int)) = false := by simp; omega
        |have d:(p==(64:Int))=true:=by simp;omega
  first|have c : p < 65 := by omega
        |have c:¬ p<65:=by omega
  first|have b : p <= 68 := by omega
        |have b:¬ p<=68:=by omega
  go_enter Tryz.func206,Tryz.ntmps206
  go_wp2_with (first|(refine (known_t _ _ (by omega)).mono ?_;rintro e j ⟨rfl,rfl⟩)|(refine (known_f _ _ (by omega)).mono ?_;rintro e j ⟨rfl,rfl⟩))
  go_ret
  exact ⟨rfl,rfl⟩
set_option synthInstance.maxSize 4000 in
set_option synthInstance.maxHeartbeats 400000 in
theorem X7 (p:Int)(w:World):Calls Tryz.prog 206 #[.int .i64 p] w λe w'=>e=.returned (.int .i64 (QM (Qr p)))/\w=w':=by
 refine sform_x p _ w ?_
 by_cases h:0<=p/\p<192
 . have e:=of_decide_eq_true (rng 0 192 (λi=>decide (FQ i (QM (tbl.getD i Z0)))) (by decide +kernel) p (by omega) (by omega));rw [Int.toNat_of_nonneg h.1] at e
   simp only [Qr,h,and_self,if_true]
   exact e
 . have e:QM (Qr p)=-1:=by
     simp only [Qr,h,if_false];rfl
   rw [e]
   by_cases h0:p<0
   . exact .inl ⟨by omega,rfl⟩
   . iterate 23 refine .inr ?_
     exact ⟨by omega,rfl⟩
end Go.Proofs.YtedcmcdbejjgcaaGreat
