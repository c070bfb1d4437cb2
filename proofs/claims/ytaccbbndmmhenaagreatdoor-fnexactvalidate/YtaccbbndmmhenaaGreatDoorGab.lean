import Derived.Test.YtaccbbndmmhenaaGreatDoorGaa
import Derived.Deep.Cut
set_option linter.all false
set_option maxHeartbeats 400000000
set_option maxRecDepth 100000
namespace Go.Proofs
open Value renaming int->U,slice->S,bool->G,agg->Ag
open IntKind renaming i64->O,u64->Ou
open Ending renaming returned->Z
open Obj renaming cells->Fc
open Go renaming World->J,Calls->Ec,Value->Vu
open Tryz renaming prog->Q
open Tryz
open List renaming getD->Kg,getElem?_eq_getElem->Kj,length->N
open World renaming cell?_alloc_past->Pd,frozen?_alloc_new->Lw,cell?_of_block->Tz,frozen?_of_block->Ph,frozen?_setCell->Tj,cell?_setCell_other->Kh
open Value renaming ownBlock->Hg,slice->Tq
open IntKind renaming wrap_i64->Kv
namespace YtaccbbndmmhenaaGreatDoor
open Go.RowKit
variable {dn bd:Bool}{w W:J}{ks:List Int}{B:Nat}{kv:Vu}
theorem sform_0 (p:Int)(w:J)(b:p<=-1):Ec Q 141 #[U O p] w λe w'=>e=Z (U O (-1))/\w=w':=by
 go_enter func141,ntmps141;go_wp2_with (refine(known_0 _ _ (by omega)).mono ?_;rintro e a ⟨rfl,rfl⟩)
 go_ret;exact⟨rfl,rfl⟩
theorem sform_1 (p:Int)(w:J)(f:0<=p)(d:p<=1):Ec Q 141 #[U O p] w λe w'=>e=Z (U O (0))/\w=w':=by
 have m:(p==(12:Int))=false:=by simp;omega
 have l:(p==(13:Int))=false:=by simp;omega
 have k:(p==(16:Int))=false:=by simp;omega
 have j:(p==(14:Int))=false:=by simp;omega
 have g:(p==(17:Int))=false:=by simp;omega
 have b:(p==(63:Int))=false:=by simp;omega
 have a:(p==(64:Int))=false:=by simp;omega
 go_enter func141,ntmps141;go_wp2_with (refine(known_1 _ _ (by omega) (by omega)).mono ?_;rintro e c ⟨rfl,rfl⟩)
 go_ret;exact⟨rfl,rfl⟩
theorem sform_2 (p:Int)(w:J)(c:2<=p)(b:p<=4):Ec Q 141 #[U O p] w λe w'=>e=Z (U O (1))/\w=w':=by
 go_enter func141,ntmps141;go_wp2_with (refine(known_1 _ _ (by omega) (by omega)).mono ?_;rintro e a ⟨rfl,rfl⟩)
 go_ret;exact⟨rfl,rfl⟩
theorem sform_3 (p:Int)(w:J)(f:5<=p)(d:p<=5):Ec Q 141 #[U O p] w λe w'=>e=Z (U O (0))/\w=w':=by
 have n:¬p<2:=by omega
 have m:(p==(12:Int))=false:=by simp;omega
 have l:(p==(13:Int))=false:=by simp;omega
 have k:(p==(16:Int))=false:=by simp;omega
 have j:(p==(14:Int))=false:=by simp;omega
 have g:(p==(17:Int))=false:=by simp;omega
 have b:(p==(63:Int))=false:=by simp;omega
 have a:(p==(64:Int))=false:=by simp;omega
 go_enter func141,ntmps141;go_wp2_with (refine(known_1 _ _ (by omega) (by omega)).mono ?_;rintro e c ⟨rfl,rfl⟩)
 go_ret;exact⟨rfl,rfl⟩
theorem sform_4 (p:Int)(w:J)(c:6<=p)(b:p<=10):Ec Q 141 #[U O p] w λe w'=>e=Z (U O (-1))/\w=w':=by
 go_enter func141,ntmps141;go_wp2_with (refine(known_2 _ _ (by omega) (by omega)).mono ?_;rintro e a ⟨rfl,rfl⟩)
 go_ret;exact⟨rfl,rfl⟩
theorem sform_5 (p:Int)(w:J)(f:11<=p)(d:p<=11):Ec Q 141 #[U O p] w λe w'=>e=Z (U O (0))/\w=w':=by
 have n:¬p<2:=by omega
 have m:(p==(12:Int))=false:=by simp;omega
 have l:(p==(13:Int))=false:=by simp;omega
 have k:(p==(16:Int))=false:=by simp;omega
 have j:(p==(14:Int))=false:=by simp;omega
 have g:(p==(17:Int))=false:=by simp;omega
 have b:(p==(63:Int))=false:=by simp;omega
 have a:(p==(64:Int))=false:=by simp;omega
 go_enter func141,ntmps141;go_wp2_with (refine(Gj _ _ (by omega) (by omega)).mono ?_;rintro e c ⟨rfl,rfl⟩)
 go_ret;exact⟨rfl,rfl⟩
theorem sform_6_0 (p:Int)(w:J)(c:12<=p)(b:p<=12):Ec Q 141 #[U O p] w λe w'=>e=Z (U O (2))/\w=w':=by
 have f:¬p<2:=by omega
 have d:(p==(12:Int))=true:=by simp;omega
 go_enter func141,ntmps141;go_wp2_with (refine(Gj _ _ (by omega) (by omega)).mono ?_;rintro e a ⟨rfl,rfl⟩)
 go_ret;exact⟨rfl,rfl⟩
theorem sform_6_1 (p:Int)(w:J)(c:13<=p)(b:p<=13):Ec Q 141 #[U O p] w λe w'=>e=Z (U O (2))/\w=w':=by
 have g:¬p<2:=by omega
 have f:(p==(12:Int))=false:=by simp;omega
 have d:(p==(13:Int))=true:=by simp;omega
 go_enter func141,ntmps141;go_wp2_with (refine(Gj _ _ (by omega) (by omega)).mono ?_;rintro e a ⟨rfl,rfl⟩)
 go_ret;exact⟨rfl,rfl⟩
theorem sform_6 (p:Int)(w:J)(b:12<=p)(a:p<=13):Ec Q 141 #[U O p] w λe w'=>e=Z (U O (2))/\w=w':=by
 rcases(by omega:p=12\/p=13)with h|h
 . exact sform_6_0 p w (by omega) (by omega)
 exact sform_6_1 p w (by omega) (by omega)
theorem sform_7 (p:Int)(w:J)(c:14<=p)(b:p<=14):Ec Q 141 #[U O p] w λe w'=>e=Z (U O (3))/\w=w':=by
 have k:¬p<2:=by omega
 have j:(p==(12:Int))=false:=by simp;omega
 have g:(p==(13:Int))=false:=by simp;omega
 have f:(p==(16:Int))=false:=by simp;omega
 have d:(p==(14:Int))=true:=by simp;omega
 go_enter func141,ntmps141;go_wp2_with (refine(Gj _ _ (by omega) (by omega)).mono ?_;rintro e a ⟨rfl,rfl⟩)
 go_ret;exact⟨rfl,rfl⟩
theorem sform_8 (p:Int)(w:J)(f:15<=p)(d:p<=15):Ec Q 141 #[U O p] w λe w'=>e=Z (U O (0))/\w=w':=by
 have n:¬p<2:=by omega
 have m:(p==(12:Int))=false:=by simp;omega
 have l:(p==(13:Int))=false:=by simp;omega
 have k:(p==(16:Int))=false:=by simp;omega
 have j:(p==(14:Int))=false:=by simp;omega
 have g:(p==(17:Int))=false:=by simp;omega
 have b:(p==(63:Int))=false:=by simp;omega
 have a:(p==(64:Int))=false:=by simp;omega
 go_enter func141,ntmps141;go_wp2_with (refine(Gj _ _ (by omega) (by omega)).mono ?_;rintro e c ⟨rfl,rfl⟩)
 go_ret;exact⟨rfl,rfl⟩
theorem sform_9 (p:Int)(w:J)(c:16<=p)(b:p<=16):Ec Q 141 #[U O p] w λe w'=>e=Z (U O (2))/\w=w':=by
 have j:¬p<2:=by omega
 have g:(p==(12:Int))=false:=by simp;omega
 have f:(p==(13:Int))=false:=by simp;omega
 have d:(p==(16:Int))=true:=by simp;omega
 go_enter func141,ntmps141;go_wp2_with (refine(Gj _ _ (by omega) (by omega)).mono ?_;rintro e a ⟨rfl,rfl⟩)
 go_ret;exact⟨rfl,rfl⟩
theorem sform_10 (p:Int)(w:J)(c:17<=p)(b:p<=17):Ec Q 141 #[U O p] w λe w'=>e=Z (U O (4))/\w=w':=by
 have l:¬p<2:=by omega
 have k:(p==(12:Int))=false:=by simp;omega
 have j:(p==(13:Int))=false:=by simp;omega
 have g:(p==(16:Int))=false:=by simp;omega
 have f:(p==(14:Int))=false:=by simp;omega
 have d:(p==(17:Int))=true:=by simp;omega
 go_enter func141,ntmps141;go_wp2_with (refine(Gj _ _ (by omega) (by omega)).mono ?_;rintro e a ⟨rfl,rfl⟩)
 go_ret;exact⟨rfl,rfl⟩
theorem sform_11 (p:Int)(w:J)(c:18<=p)(b:p<=25):Ec Q 141 #[U O p] w λe w'=>e=Z (U O (-1))/\w=w':=by
 go_enter func141,ntmps141;go_wp2_with (refine(known_4 _ _ (by omega) (by omega)).mono ?_;rintro e a ⟨rfl,rfl⟩)
 go_ret;exact⟨rfl,rfl⟩
theorem sform_12 (p:Int)(w:J)(f:26<=p)(d:p<=26):Ec Q 141 #[U O p] w λe w'=>e=Z (U O (0))/\w=w':=by
 have n:¬p<2:=by omega
 have m:(p==(12:Int))=false:=by simp;omega
 have l:(p==(13:Int))=false:=by simp;omega
 have k:(p==(16:Int))=false:=by simp;omega
 have j:(p==(14:Int))=false:=by simp;omega
 have g:(p==(17:Int))=false:=by simp;omega
 have b:(p==(63:Int))=false:=by simp;omega
 have a:(p==(64:Int))=false:=by simp;omega
 go_enter func141,ntmps141;go_wp2_with (refine(known_5 _ _ (by omega) (by omega)).mono ?_;rintro e c ⟨rfl,rfl⟩)
 go_ret;exact⟨rfl,rfl⟩
theorem sform_13 (p:Int)(w:J)(f:27<=p)(d:p<=27):Ec Q 141 #[U O p] w λe w'=>e=Z (U O (0))/\w=w':=by
 have n:¬p<2:=by omega
 have m:(p==(12:Int))=false:=by simp;omega
 have l:(p==(13:Int))=false:=by simp;omega
 have k:(p==(16:Int))=false:=by simp;omega
 have j:(p==(14:Int))=false:=by simp;omega
 have g:(p==(17:Int))=false:=by simp;omega
 have b:(p==(63:Int))=false:=by simp;omega
 have a:(p==(64:Int))=false:=by simp;omega
 go_enter func141,ntmps141;go_wp2_with (refine(known_6 _ _ (by omega) (by omega)).mono ?_;rintro e c ⟨rfl,rfl⟩)
 go_ret;exact⟨rfl,rfl⟩
theorem sform_14 (p:Int)(w:J)(c:28<=p)(b:p<=31):Ec Q 141 #[U O p] w λe w'=>e=Z (U O (-1))/\w=w':=by
 go_enter func141,ntmps141;go_wp2_with (refine(known_7 _ _ (by omega) (by omega)).mono ?_;rintro e a ⟨rfl,rfl⟩)
 go_ret;exact⟨rfl,rfl⟩
theorem sform_15 (p:Int)(w:J)(c:32<=p)(b:p<=36):Ec Q 141 #[U O p] w λe w'=>e=Z (U O (2))/\w=w':=by
 have k:¬p<2:=by omega
 have j:(p==(12:Int))=false:=by simp;omega
 have g:(p==(13:Int))=false:=by simp;omega
 have f:(p==(16:Int))=false:=by simp;omega
 have d:p<=36:=by omega
 go_enter func141,ntmps141;go_wp2_with (refine(known_8 _ _ (by omega) (by omega)).mono ?_;rintro e a ⟨rfl,rfl⟩)
 go_ret;exact⟨rfl,rfl⟩
theorem sform_16 (p:Int)(w:J)(c:37<=p)(b:p<=39):Ec Q 141 #[U O p] w λe w'=>e=Z (U O (-1))/\w=w':=by
 go_enter func141,ntmps141;go_wp2_with (refine(known_9 _ _ (by omega) (by omega)).mono ?_;rintro e a ⟨rfl,rfl⟩)
 go_ret;exact⟨rfl,rfl⟩
theorem sform_17 (p:Int)(w:J)(c:40<=p)(b:p<=62):Ec Q 141 #[U O p] w λe w'=>e=Z (U O (5))/\w=w':=by
 have m:¬p<2:=by omega
 have l:(p==(12:Int))=false:=by simp;omega
 have k:(p==(13:Int))=false:=by simp;omega
 have j:(p==(16:Int))=false:=by simp;omega
 have g:¬p<32:=by omega
 have f:(p==(14:Int))=false:=by simp;omega
 have d:(p==(17:Int))=false:=by simp;omega
 go_enter func141,ntmps141;go_wp2_with (refine(known_10 _ _ (by omega) (by omega)).mono ?_;rintro e a ⟨rfl,rfl⟩)
 go_ret;exact⟨rfl,rfl⟩
theorem sform_18_0 (p:Int)(w:J)(f:63<=p)(d:p<=63):Ec Q 141 #[U O p] w λe w'=>e=Z (U O (6))/\w=w':=by
 have o:¬p<2:=by omega
 have n:(p==(12:Int))=false:=by simp;omega
 have m:(p==(13:Int))=false:=by simp;omega
 have l:(p==(16:Int))=false:=by simp;omega
 have k:¬p<32:=by omega
 have j:(p==(14:Int))=false:=by simp;omega
 have g:(p==(17:Int))=false:=by simp;omega
 have b:¬p<40:=by omega
 have a:(p==(63:Int))=true:=by simp;omega
 go_enter func141,ntmps141;go_wp2_with (refine(known_10 _ _ (by omega) (by omega)).mono ?_;rintro e c ⟨rfl,rfl⟩)
 go_ret;exact⟨rfl,rfl⟩
theorem sform_18_1 (p:Int)(w:J)(g:64<=p)(f:p<=64):Ec Q 141 #[U O p] w λe w'=>e=Z (U O (6))/\w=w':=by
 have q:¬p<2:=by omega
 have o:(p==(12:Int))=false:=by simp;omega
 have n:(p==(13:Int))=false:=by simp;omega
 have m:(p==(16:Int))=false:=by simp;omega
 have l:¬p<32:=by omega
 have k:(p==(14:Int))=false:=by simp;omega
 have j:(p==(17:Int))=false:=by simp;omega
 have c:¬p<40:=by omega
 have b:(p==(63:Int))=false:=by simp;omega
 have a:(p==(64:Int))=true:=by simp;omega
 go_enter func141,ntmps141;go_wp2_with (refine(known_10 _ _ (by omega) (by omega)).mono ?_;rintro e d ⟨rfl,rfl⟩)
 go_ret;exact⟨rfl,rfl⟩
theorem sform_18 (p:Int)(w:J)(b:63<=p)(a:p<=64):Ec Q 141 #[U O p] w λe w'=>e=Z (U O (6))/\w=w':=by
 rcases(by omega:p=63\/p=64)with h|h
 . exact sform_18_0 p w (by omega) (by omega)
 exact sform_18_1 p w (by omega) (by omega)
theorem sform_19 (p:Int)(w:J)(g:65<=p)(f:p<=68):Ec Q 141 #[U O p] w λe w'=>e=Z (U O (p-58))/\w=w':=by
 have q:¬p<2:=by omega
 have o:(p==(12:Int))=false:=by simp;omega
 have n:(p==(13:Int))=false:=by simp;omega
 have m:(p==(16:Int))=false:=by simp;omega
 have l:¬p<32:=by omega
 have k:(p==(14:Int))=false:=by simp;omega
 have j:(p==(17:Int))=false:=by simp;omega
 have c:¬p<40:=by omega
 have b:(p==(63:Int))=false:=by simp;omega
 have a:(p==(64:Int))=false:=by simp;omega
 go_enter func141,ntmps141;go_wp2_with (refine(known_10 _ _ (by omega) (by omega)).mono ?_;rintro e d ⟨rfl,rfl⟩)
 go_ret;exact⟨by simp;omega,rfl⟩
theorem sform_20 (p:Int)(w:J)(j:69<=p)(g:p<=191):Ec Q 141 #[U O p] w λe w'=>e=Z (U O (0))/\w=w':=by
 have r:¬p<2:=by omega
 have q:(p==(12:Int))=false:=by simp;omega
 have o:(p==(13:Int))=false:=by simp;omega
 have n:(p==(16:Int))=false:=by simp;omega
 have m:¬p<32:=by omega
 have l:(p==(14:Int))=false:=by simp;omega
 have k:(p==(17:Int))=false:=by simp;omega
 have d:¬p<40:=by omega
 have c:(p==(63:Int))=false:=by simp;omega
 have b:(p==(64:Int))=false:=by simp;omega
 have a:¬p<65:=by omega
 go_enter func141,ntmps141;go_wp2_with (refine(known_10 _ _ (by omega) (by omega)).mono ?_;rintro e f ⟨rfl,rfl⟩)
 go_ret;exact⟨rfl,rfl⟩
theorem sform_21 (p:Int)(w:J)(b:192<=p):Ec Q 141 #[U O p] w λe w'=>e=Z (U O (-1))/\w=w':=by
 go_enter func141,ntmps141;go_wp2_with (refine(known_11 _ _ (by omega)).mono ?_;rintro e a ⟨rfl,rfl⟩)
 go_ret;exact⟨rfl,rfl⟩
theorem QN (p:Int)(w:J):Ec Q 141 #[U O p] w λe w'=>e=Z (U O (Qj (Qb p)))/\w=w':=by
 have b:(p<=-1)\/(0<=p/\p<=1)\/(2<=p/\p<=4)\/(5<=p/\p<=5)\/(6<=p/\p<=10)\/(11<=p/\p<=11)\/(12<=p/\p<=13)\/(14<=p/\p<=14)\/(15<=p/\p<=15)\/(16<=p/\p<=16)\/(17<=p/\p<=17)\/(18<=p/\p<=25)\/(26<=p/\p<=26)\/(27<=p/\p<=27)\/(28<=p/\p<=31)\/(32<=p/\p<=36)\/(37<=p/\p<=39)\/(40<=p/\p<=62)\/(63<=p/\p<=64)\/(65<=p/\p<=68)\/(69<=p/\p<=191)\/(192<=p):=by omega
 rcases b with h|h|h|h|h|h|h|h|h|h|h|h|h|h|h|h|h|h|h|h|h|h
 . (have e:Qj (Qb p)=-1:=by simp only[Qb,show ¬(0<=p/\p<192) by omega,if_false];rfl);rw[e];exact sform_0 p w h
 . have e:=of_decide_eq_true (rng 0 2 (λi=>decide (Qj (tbl.getD i Z0)=0)) (by decide +kernel) p (by omega) (by omega));(have a:Qj (Qb p)=0:=by simp only[Qb,show(0<=p/\p<192) by omega,and_self,if_true];rw[e]);rw[a];exact sform_1 p w h.1 h.2
 . have e:=of_decide_eq_true (rng 2 3 (λi=>decide (Qj (tbl.getD i Z0)=1)) (by decide +kernel) p (by omega) (by omega));(have a:Qj (Qb p)=1:=by simp only[Qb,show(0<=p/\p<192) by omega,and_self,if_true];rw[e]);rw[a];exact sform_2 p w h.1 h.2
 . have e:=of_decide_eq_true (rng 5 1 (λi=>decide (Qj (tbl.getD i Z0)=0)) (by decide +kernel) p (by omega) (by omega));(have a:Qj (Qb p)=0:=by simp only[Qb,show(0<=p/\p<192) by omega,and_self,if_true];rw[e]);rw[a];exact sform_3 p w h.1 h.2
 . have e:=of_decide_eq_true (rng 6 5 (λi=>decide (Qj (tbl.getD i Z0)=-1)) (by decide +kernel) p (by omega) (by omega));(have a:Qj (Qb p)=-1:=by simp only[Qb,show(0<=p/\p<192) by omega,and_self,if_true];rw[e]);rw[a];exact sform_4 p w h.1 h.2
 . have e:=of_decide_eq_true (rng 11 1 (λi=>decide (Qj (tbl.getD i Z0)=0)) (by decide +kernel) p (by omega) (by omega));(have a:Qj (Qb p)=0:=by simp only[Qb,show(0<=p/\p<192) by omega,and_self,if_true];rw[e]);rw[a];exact sform_5 p w h.1 h.2
 . have e:=of_decide_eq_true (rng 12 2 (λi=>decide (Qj (tbl.getD i Z0)=2)) (by decide +kernel) p (by omega) (by omega));(have a:Qj (Qb p)=2:=by simp only[Qb,show(0<=p/\p<192) by omega,and_self,if_true];rw[e]);rw[a];exact sform_6 p w h.1 h.2
 . have e:=of_decide_eq_true (rng 14 1 (λi=>decide (Qj (tbl.getD i Z0)=3)) (by decide +kernel) p (by omega) (by omega));(have a:Qj (Qb p)=3:=by simp only[Qb,show(0<=p/\p<192) by omega,and_self,if_true];rw[e]);rw[a];exact sform_7 p w h.1 h.2
 . have e:=of_decide_eq_true (rng 15 1 (λi=>decide (Qj (tbl.getD i Z0)=0)) (by decide +kernel) p (by omega) (by omega));(have a:Qj (Qb p)=0:=by simp only[Qb,show(0<=p/\p<192) by omega,and_self,if_true];rw[e]);rw[a];exact sform_8 p w h.1 h.2
 . have e:=of_decide_eq_true (rng 16 1 (λi=>decide (Qj (tbl.getD i Z0)=2)) (by decide +kernel) p (by omega) (by omega));(have a:Qj (Qb p)=2:=by simp only[Qb,show(0<=p/\p<192) by omega,and_self,if_true];rw[e]);rw[a];exact sform_9 p w h.1 h.2
 . have e:=of_decide_eq_true (rng 17 1 (λi=>decide (Qj (tbl.getD i Z0)=4)) (by decide +kernel) p (by omega) (by omega));(have a:Qj (Qb p)=4:=by simp only[Qb,show(0<=p/\p<192) by omega,and_self,if_true];rw[e]);rw[a];exact sform_10 p w h.1 h.2
 . have e:=of_decide_eq_true (rng 18 8 (λi=>decide (Qj (tbl.getD i Z0)=-1)) (by decide +kernel) p (by omega) (by omega));(have a:Qj (Qb p)=-1:=by simp only[Qb,show(0<=p/\p<192) by omega,and_self,if_true];rw[e]);rw[a];exact sform_11 p w h.1 h.2
 . have e:=of_decide_eq_true (rng 26 1 (λi=>decide (Qj (tbl.getD i Z0)=0)) (by decide +kernel) p (by omega) (by omega));(have a:Qj (Qb p)=0:=by simp only[Qb,show(0<=p/\p<192) by omega,and_self,if_true];rw[e]);rw[a];exact sform_12 p w h.1 h.2
 . have e:=of_decide_eq_true (rng 27 1 (λi=>decide (Qj (tbl.getD i Z0)=0)) (by decide +kernel) p (by omega) (by omega));(have a:Qj (Qb p)=0:=by simp only[Qb,show(0<=p/\p<192) by omega,and_self,if_true];rw[e]);rw[a];exact sform_13 p w h.1 h.2
 . have e:=of_decide_eq_true (rng 28 4 (λi=>decide (Qj (tbl.getD i Z0)=-1)) (by decide +kernel) p (by omega) (by omega));(have a:Qj (Qb p)=-1:=by simp only[Qb,show(0<=p/\p<192) by omega,and_self,if_true];rw[e]);rw[a];exact sform_14 p w h.1 h.2
 . have e:=of_decide_eq_true (rng 32 5 (λi=>decide (Qj (tbl.getD i Z0)=2)) (by decide +kernel) p (by omega) (by omega));(have a:Qj (Qb p)=2:=by simp only[Qb,show(0<=p/\p<192) by omega,and_self,if_true];rw[e]);rw[a];exact sform_15 p w h.1 h.2
 . have e:=of_decide_eq_true (rng 37 3 (λi=>decide (Qj (tbl.getD i Z0)=-1)) (by decide +kernel) p (by omega) (by omega));(have a:Qj (Qb p)=-1:=by simp only[Qb,show(0<=p/\p<192) by omega,and_self,if_true];rw[e]);rw[a];exact sform_16 p w h.1 h.2
 . have e:=of_decide_eq_true (rng 40 23 (λi=>decide (Qj (tbl.getD i Z0)=5)) (by decide +kernel) p (by omega) (by omega));(have a:Qj (Qb p)=5:=by simp only[Qb,show(0<=p/\p<192) by omega,and_self,if_true];rw[e]);rw[a];exact sform_17 p w h.1 h.2
 . have e:=of_decide_eq_true (rng 63 2 (λi=>decide (Qj (tbl.getD i Z0)=6)) (by decide +kernel) p (by omega) (by omega));(have a:Qj (Qb p)=6:=by simp only[Qb,show(0<=p/\p<192) by omega,and_self,if_true];rw[e]);rw[a];exact sform_18 p w h.1 h.2
 . have e:=of_decide_eq_true (rng 65 4 (λi=>decide (Qj (tbl.getD i Z0)=(i:Int)-58)) (by decide +kernel) p (by omega) (by omega));(have a:Qj (Qb p)=p-58:=by simp only[Qb,show(0<=p/\p<192) by omega,and_self,if_true];rw[e];omega);rw[a];exact sform_19 p w h.1 h.2
 . have e:=of_decide_eq_true (rng 69 123 (λi=>decide (Qj (tbl.getD i Z0)=0)) (by decide +kernel) p (by omega) (by omega));(have a:Qj (Qb p)=0:=by simp only[Qb,show(0<=p/\p<192) by omega,and_self,if_true];rw[e]);rw[a];exact sform_20 p w h.1 h.2
 have e:Qj (Qb p)=-1:=by simp only[Qb,show ¬(0<=p/\p<192) by omega,if_false];rfl
 rw[e];exact sform_21 p w h
open Go.RowKit Go.Sort
theorem all_t (l:List Int)(h:∀i,i<N l->QB (l.getD i 0)=true):l.all QB=true:=by
 rw[List.all_eq_true];intro x b;obtain⟨i,a,rfl⟩:=List.getElem_of_mem b;have:=h i a;simpa[Kg,Kj a]using this
theorem all_f (l:List Int)(i:Nat)(a:i<N l)(h:QB (l.getD i 0)=false):l.all QB=false:=by
 rw[List.all_eq_false];refine⟨l[i],List.getElem_mem a,?_⟩;have:l.getD i 0=l[i]:=by simp[Kg,Kj a]
 rw[this]at h;simp[h]
theorem sgood_x:(∀(op a b v:Int) (l:List Int) (f:Option Addr) (m:Nat) (w:J) (A:Qj (Qb op)=3) (hv:0<=v) (p:N l<=1099511627776) (B:Has w f l) (t:¬b=0),Ec Q 98 #[inV ⟨op,a,b,v,l⟩ f m] w λe w'=>e=Z (G (Qs 3 ⟨op,a,b,v,l⟩))/\Below w.heap.size w w')/\(∀(op a b v:Int) (l:List Int) (f:Option Addr) (m:Nat) (w:J) (A:Qj (Qb op)=3) (hv:0<=v) (p:N l<=1099511627776) (B:Has w f l) (t:b=0) (n:¬v=0),Ec Q 98 #[inV ⟨op,a,b,v,l⟩ f m] w λe w'=>e=Z (G (Qs 3 ⟨op,a,b,v,l⟩))/\Below w.heap.size w w')/\(∀(op a b v:Int) (l:List Int) (f:Option Addr) (m:Nat) (w:J) (A:Qj (Qb op)=3) (hv:0<=v) (p:N l<=1099511627776) (B:Has w f l) (t:b=0) (n:v=0),Ec Q 98 #[inV ⟨op,a,b,v,l⟩ f m] w λe w'=>e=Z (G (Qs 3 ⟨op,a,b,v,l⟩))/\Below w.heap.size w w'):=by
 refine⟨?c0,?c1,?c2⟩;case' c0=>intro op a b v l f m w A hv p B t;have r:=0
 case' c1=>intro op a b v l f m w A hv p B t n;have g:=0
 case' c2=>intro op a b v l f m w A hv p B t n;have D:=0
 all_goals
  first
  | (
   replace g:=g;subst t)
  | (
   replace D:=D;subst t n)
  |skip
  first
  | (
   replace r:=r;have M:(b==0)=false:=by simpa using t)
  | (
   replace g:=g;have M:(v==0)=false:=by simpa using n)
  |skip
  have HF:=Hm (QN op);rw[A]at HF;clear A;have ad:=XU l;have HA:=Hm (X7 a);have C:=Hm (λo=>B.keep ((Below.refl w.heap.size w).alloc lRz o));clear B;generalize ht:QB a=ta at *
  go_enter func98,ntmps98
  go_wp2_with fail
  refine(HF.o _).mono ?_
  rintro e I ⟨rfl,rfl⟩
  go_wp2_with fail
  go_loop [6] (λi=>∃k:Nat,k<=N l/\i=U O k/\∀j,j<k->QB (l.getD j 0)=true) (λi=>N l-(intOf i).toNat)
  case atStart=>exact⟨0,Nat.zero_le _,rfl,λj h=>by omega⟩
  case round =>
   obtain⟨k,hk,rfl,c⟩:=hrel
   by_cases u:k<N l
   . have ae:(k:Int)<(N l:Int):=by omega
     first|(replace r:=r;rcases C.o (Fc #[U O op,U O a,U O b,U Ou v,S f (N l) m] 204)with L|⟨Y,X,R,E⟩)|(replace g:=g;rcases C.o (Fc #[U O op,U O a,U O 0,U Ou v,S f (N l) m] 204)with L|⟨Y,X,R,E⟩)|(rcases C.o (Fc #[U O op,U O a,U O 0,U Ou 0,S f (N l) m] 204)with L|⟨Y,X,R,E⟩)
     . subst L;simp at u
     have d:=E k u;subst R;have HK:=Hm (X7 (l.getD k 0));generalize H:l.getD k 0=y at *;generalize F:QB y=z at *
     cases z
     . have s:l.all QB=false:=all_f l k u (by rw[H];exact F);have q:=Hm s;clear s c E H F C
       go_wp2_with (refine(HK.o _).mono ?_;rintro e I ⟨rfl,rfl⟩)
       go_ret
       exact⟨by simp[Qs,q.o],bFz.alloc lRz _⟩
     . have V:Hid (∀j,j<k+1->QB (l.getD j 0)=true):=λj hj=>by
         rcases(by omega:j<k\/j=k)with h|h
         . exact c j h
         . subst h;rw[H];exact F
       clear c E H F C
       go_wp2_with (refine(HK.o _).mono ?_;rintro e I ⟨rfl,rfl⟩)
       go_round
       case rel=>exact⟨k+1,by omega,by go_num,V.o⟩
       case measure=>simp[intOf];omega
   . have e:k=N l:=by omega
     subst e;have q:=Hm (all_t l c);clear c C
     go_wp2_with (refine(HA.o _).mono ?_;rintro e I ⟨rfl,rfl⟩)
     all_goals
      go_ret
      refine⟨?_,bFz.alloc lRz _⟩
      simp[Qs,q.o,ht]
      try simp_all
def sgood_3a:=sgood_x.1
def sgood_3b:=sgood_x.2.1
def sgood_3c:=sgood_x.2.2
theorem sgood_3 (x:In)(la)(d:Nat)(w)(g:Qj (Qb x.op)=3)(hv:0<=x.v)(c:N x.l<=1099511627776)(k:Has w la x.l):Ec Q 98 #[inV x la d] w λe w'=>e=Z (G (Qs 3 x))/\Below w.heap.size w w':=by
 obtain⟨f,a,b,v,l⟩:=x;by_cases j:b=0
 . by_cases m:v=0
   . exact sgood_3c f a b v l la d w g hv c k j m
   exact sgood_3b f a b v l la d w g hv c k j m
 exact sgood_3a f a b v l la d w g hv c k j
structure NX (w:J)(B:Nat)(kv:Vu)(dn bd:Bool)(ks:List Int)(W:J):Prop where
 b0:W.cell? ⟨w.heap.size,0,none⟩=some kv
 b1:W.cell? ⟨w.heap.size,1,none⟩=some (G dn)
 b2:W.cell? ⟨w.heap.size,2,none⟩=some (G bd)
 bf:∀i,W.frozen? ⟨w.heap.size,i,none⟩=false
 r0:W.cell? ⟨w.heap.size+1,0,none⟩=some (S none 0 0)
 r1:W.cell? ⟨w.heap.size+1,1,none⟩=some (G false)
 r2:W.cell? ⟨w.heap.size+1,2,none⟩=some (G false)
 rf:∀i,W.frozen? ⟨w.heap.size+1,i,none⟩=false
 own:W.ownsRow B 2 1 kv (N ks) (I ks)
 n0:kv.ownBlock≠some w.heap.size
 n1:kv.ownBlock≠some (w.heap.size+1)
 bel:Below B w W
 lt:w.heap.size+1<W.heap.size
theorem NX.start (h:w.ownsRow B 2 1 kv (N ks) (I ks))(c:B<=w.heap.size):NX w B kv dn bd ks ((w.alloc (Fc #[kv,G dn,G bd] 200)).alloc (Fc #[S none 0 0,G false,G false] 200)):=by
 have b:(w.alloc (Fc #[kv,G dn,G bd] 200)).heap.size=w.heap.size+1:=by simp
 have a:=own_lt h;refine⟨?_,?_,?_,λi=>?_,Qf b.symm rfl,Qf b.symm rfl,Qf b.symm rfl,λi=>?_,(h.alloc _).alloc _,λe=>?_,λe=>?_,?_,by simp⟩
 . rw[Pd _ _ _ (by simp)];exact Qf rfl rfl
 . rw[Pd _ _ _ (by simp)];exact Qf rfl rfl
 . rw[Pd _ _ _ (by simp)];exact Qf rfl rfl
 . rw[World.frozen?_alloc_old _ _ _ (by simp)];exact Lw _ _ _ _
 . rw[<- b];exact Lw _ _ _ _
 . have:=a _ e;omega
 . have:=a _ e;omega
 exact(bFz.alloc c _).alloc (by simp;omega) _
theorem NX.pushed {w1:J}{a:Vu}{z:Int}{o:Obj}(h:NX w B kv dn bd ks W)(r:B<=w.heap.size)(q:w1.ownsRow B 2 1 a (N ks+1) (I ks++[U O z]))(g:(W.alloc o).grownBy w1 kv.ownBlock)(l:a.ownBlock=kv.ownBlock\/a.ownBlock=some (W.alloc o).heap.size):NX w B a dn bd (ks++[z]) (w1.setCell ⟨w.heap.size,0,none⟩ a)/\(w1.cell? ⟨w.heap.size,0,none⟩=some kv/\w1.cell? ⟨w.heap.size,1,none⟩=some (G dn)/\w1.cell? ⟨w.heap.size,2,none⟩=some (G bd)/\∀i,w1.frozen? ⟨w.heap.size,i,none⟩=false)/\w1.cell? ⟨w.heap.size+1,0,none⟩=some (S none 0 0)/\w1.cell? ⟨w.heap.size+1,1,none⟩=some (G false)/\w1.cell? ⟨w.heap.size+1,2,none⟩=some (G false)/\∀i,w1.frozen? ⟨w.heap.size+1,i,none⟩=false:=by
 have lt:=h.lt;have p:=g.size;simp only[World.size_alloc]at p;have c:w1.heap[w.heap.size]?=W.heap[w.heap.size]?:=by rw[g.block _ (by simp;omega) (λe=>h.n0 e.symm)];exact QM W o _ (by omega)
 have b:w1.heap[w.heap.size+1]?=W.heap[w.heap.size+1]?:=by rw[g.block _ (by simp;omega) (λe=>h.n1 e.symm)];exact QM W o _ lt
 have m:w1.cell? ⟨w.heap.size,0,none⟩=some kv:=(Tz c).trans h.b0;have k:a.ownBlock≠some w.heap.size:=by
  rcases l with e|e
  . rw[e];exact h.n0
  rw[e];intro f;injection f with f;simp at f;omega
 have n:a.ownBlock≠some (w.heap.size+1):=by
  rcases l with e|e
  . rw[e];exact h.n1
  rw[e];intro f;injection f with f;simp at f;omega
 have d:∀i,(⟨w.heap.size,0,none⟩:Addr)≠⟨w.heap.size+1,i,none⟩:=λi e=>by have:=congrArg Addr.block e;simp at this
 refine⟨⟨QY m,QE ((Tz c).trans h.b1) (by omega),QE ((Tz c).trans h.b2) (by omega),λi=>?_,?_,?_,?_,λi=>?_,?_,k,n,?_,by simp;omega⟩,⟨m,(Tz c).trans h.b1,(Tz c).trans h.b2,λi=>(Ph c).trans (h.bf i)⟩,(Tz b).trans h.r0,(Tz b).trans h.r1,(Tz b).trans h.r2,λi=>(Ph b).trans (h.rf i)⟩
 . rw[Tj];exact(Ph c).trans (h.bf i)
 . rw[Kh _ _ _ _ (d 0)];exact(Tz b).trans h.r0
 . rw[Kh _ _ _ _ (d 1)];exact(Tz b).trans h.r1
 . rw[Kh _ _ _ _ (d 2)];exact(Tz b).trans h.r2
 . rw[Tj];exact(Ph b).trans (h.rf i)
 . (have:w1.ownsRow B 2 1 a (ks++[z]).length (I (ks++[z])):=by simpa using q);exact Jf this k
 refine Below.setCell ?_ r _;exact(h.bel.alloc (by omega) o).grown g (by simp;omega) (λj hj=>(h.own.lt j hj).1)
theorem NX.set {r b:Nat}{m:List Int}{z:Int}(h:NX w B (S (some ⟨r,0,none⟩) (N m+1) b) dn bd (m++[z]) W)(hr:B<=r)(a:Int):NX w B (S (some ⟨r,0,none⟩) (N m+1) b) dn bd (m++[a]) (W.setCell ⟨r,N m,none⟩ (U O a)):=by
 have own:=h.own;rw[show(m++[z]).length=N m+1 by simp]at own;obtain⟨f,_⟩:=own.stored (N m) (U O a);have e:(I (m++[z])).set (N m) (U O a)=I (m++[a]):=by simp only[I,List.map_append,List.map_cons,List.map_nil];rw[List.set_append_right _ _ (by simp)];simp
 rw[e]at f;have j:r≠w.heap.size:=λe=>h.n0 (by simp[Hg,e]);have g:r≠w.heap.size+1:=λe=>h.n1 (by simp[Hg,e]);have d:∀i,(⟨r,N m,none⟩:Addr)≠⟨w.heap.size,i,none⟩:=λi e=>j (congrArg Addr.block e);have c:∀i,(⟨r,N m,none⟩:Addr)≠⟨w.heap.size+1,i,none⟩:=λi e=>g (congrArg Addr.block e);refine⟨?_,?_,?_,λi=>by rw[Tj];exact h.bf i,?_,?_,?_,λi=>by rw[Tj];exact h.rf i,by rw[show(m++[a]).length=N m+1 by simp];exact f,h.n0,h.n1,h.bel.setCell hr _,by simpa using h.lt⟩
 . rw[Kh _ _ _ _ (d 0)];exact h.b0
 . rw[Kh _ _ _ _ (d 1)];exact h.b1
 . rw[Kh _ _ _ _ (d 2)];exact h.b2
 . rw[Kh _ _ _ _ (c 0)];exact h.r0
 . rw[Kh _ _ _ _ (c 1)];exact h.r1
 rw[Kh _ _ _ _ (c 2)];exact h.r2
theorem NX.drop {r a:Nat}{m:List Int}{z:Int}(h:NX w B (S (some ⟨r,0,none⟩) (N m+1) a) dn bd (m++[z]) W)(f:B<=w.heap.size):NX w B (S (some ⟨r,0,none⟩) (N m) a) dn bd m (W.setCell ⟨w.heap.size,0,none⟩ (S (some ⟨r,0,none⟩) (N m) a)):=by
 have own:=h.own;rw[show(m++[z]).length=N m+1 by simp]at own;have c:=ownE_take own;have e:(I (m++[z])).take (N m)=I m:=by simp[I]
 rw[e]at c;have d:(Tq (some ⟨r,0,none⟩) (N m) a).ownBlock≠some w.heap.size:=λe=>h.n0 (by simpa[Hg]using e);have g:(Tq (some ⟨r,0,none⟩) (N m) a).ownBlock≠some (w.heap.size+1):=λe=>h.n1 (by simpa[Hg]using e);have b:∀i,(⟨w.heap.size,0,none⟩:Addr)≠⟨w.heap.size+1,i,none⟩:=λi e=>by have:=congrArg Addr.block e;simp at this
 refine⟨QY h.b0,QE h.b1 (by omega),QE h.b2 (by omega),λi=>by rw[Tj];exact h.bf i,?_,?_,?_,λi=>by rw[Tj];exact h.rf i,Jf c d,d,g,h.bel.setCell f _,by simpa using h.lt⟩
 . rw[Kh _ _ _ _ (b 0)];exact h.r0
 . rw[Kh _ _ _ _ (b 1)];exact h.r1
 rw[Kh _ _ _ _ (b 2)];exact h.r2
theorem NX.fin {x y z:Vu}(h:NX w B kv dn bd ks W)(a:B<=w.heap.size) :
    (((W.setCell ⟨w.heap.size+1,0,none⟩ x).setCell ⟨w.heap.size+1,1,none⟩ y).setCell ⟨w.heap.size+1,2,none⟩ z).ownsRow B 2 1 kv (N ks) (I ks)/\Below B w (((W.setCell ⟨w.heap.size+1,0,none⟩ x).setCell ⟨w.heap.size+1,1,none⟩ y).setCell ⟨w.heap.size+1,2,none⟩ z) :=
 ⟨Jf (Jf (Jf h.own h.n1) h.n1) h.n1,((h.bel.setCell (by show B<=w.heap.size+1;omega) _).setCell (by show B<=w.heap.size+1;omega) _).setCell (by show B<=w.heap.size+1;omega) _⟩
theorem NX.flag (h:NX w B kv dn bd ks W)(b:B<=w.heap.size)(z:Bool):NX w B kv z bd ks (W.setCell ⟨w.heap.size,1,none⟩ (G z))/\NX w B kv dn z ks (W.setCell ⟨w.heap.size,2,none⟩ (G z)):=by
 have a:∀j i,(⟨w.heap.size,j,none⟩:Addr)≠⟨w.heap.size+1,i,none⟩:=λj i e=>by have:=congrArg Addr.block e;simp at this
 constructor
 . refine⟨QE h.b0 (by omega),QY h.b1,QE h.b2 (by omega),λi=>by rw[Tj];exact h.bf i,?_,?_,?_,λi=>by rw[Tj];exact h.rf i,Jf h.own h.n0,h.n0,h.n1,h.bel.setCell b _,by simpa using h.lt⟩
   . rw[Kh _ _ _ _ (a 1 0)];exact h.r0
   . rw[Kh _ _ _ _ (a 1 1)];exact h.r1
   rw[Kh _ _ _ _ (a 1 2)];exact h.r2
 refine⟨QE h.b0 (by omega),QE h.b1 (by omega),QY h.b2,λi=>by rw[Tj];exact h.bf i,?_,?_,?_,λi=>by rw[Tj];exact h.rf i,Jf h.own h.n0,h.n0,h.n1,h.bel.setCell b _,by simpa using h.lt⟩
 . rw[Kh _ _ _ _ (a 2 0)];exact h.r0
 . rw[Kh _ _ _ _ (a 2 1)];exact h.r1
 rw[Kh _ _ _ _ (a 2 2)];exact h.r2
theorem Qp {P:Program}{c:Code}{b:Exit->Act->J->Prop}{a:Act}(R:J->Prop)(h:R w)(k:∀w',R w'->Code.wp P c b a w'):Code.wp P c b a w:=k w h
theorem oneJ (b:Int):∀u∈[Value.int O b],u.oneCell'=true:=by
 intro u a;simp at a;subst a;rfl
abbrev opV (kv:Vu)(dn bd:Bool):Vu:=Ag #[kv,G dn,G bd]
theorem next_done (B:Nat)(kv:Vu)(ks:List Int)(op:Int)(w:J)(d:B<=w.heap.size)(h:w.ownsRow B 2 1 kv (N ks) (I ks)):Ec Q 99 #[opV kv true false,U O op] w λe w'=>∃va vn vc,e=Z (opV (S va vn vc) true true)/\Below B w w':=by
 obtain⟨a,c,rfl⟩:=QG h;have f:=Hm (NX.start (dn:=true) (bd:=false) h d);clear h;go_enter func99,ntmps99;go_upto_region 1 with fail
 refine Qp (λW=>NX w B (S a (N ks) c) true false ks W) f.o ?_;rintro W b;clear f;have b0:=b.b0;have q:=b.b1;have p:=b.b2;have n:=b.bf;have k:=b.r0;have j:=b.r1;have g:=b.r2;have m:=b.rf;have l:=Hm b;clear b;go_wp2;exact bodyPost_ret (v:=opV (S a (N ks) c) true true) (by simp[results,results99,go_sem,k,j,g]) rfl ⟨_,_,_,rfl,((l.o.flag d true).2.fin d).2⟩
theorem next_x:(∀(B:Nat) (kv:Vu) (ks:List Int) (w:J) (l:B<=w.heap.size) (s:N ks<=4194304) (h:w.ownsRow B 2 1 kv (N ks) (I ks)),Ec Q 99 #[opV kv false false,U O 2] w λe w'=>∃kv',e=Z (opV kv' false false)/\w'.ownsRow B 2 1 kv' (ks++[0]).length (I (ks++[0]))/\Below B w w')/\(∀(B:Nat) (kv:Vu) (ks:List Int) (w:J) (l:B<=w.heap.size) (s:N ks<=4194304) (h:w.ownsRow B 2 1 kv (N ks) (I ks)),Ec Q 99 #[opV kv false false,U O 3] w λe w'=>∃kv',e=Z (opV kv' false false)/\w'.ownsRow B 2 1 kv' (ks++[0]).length (I (ks++[0]))/\Below B w w')/\(∀(B:Nat) (kv:Vu) (ks:List Int) (w:J) (l:B<=w.heap.size) (s:N ks<=4194304) (h:w.ownsRow B 2 1 kv (N ks) (I ks)),Ec Q 99 #[opV kv false false,U O 4] w λe w'=>∃kv',e=Z (opV kv' false false)/\w'.ownsRow B 2 1 kv' (ks++[1]).length (I (ks++[1]))/\Below B w w'):=by
 refine⟨?c0,?c1,?c2⟩;case' c0=>have ac:=0
 case' c1=>have ab:=0
 case' c2=>have m:=0
 all_goals
  intro B kv ks w l s h
  obtain⟨H,L,q,p,n⟩:=info_parts info2;obtain⟨a,c,rfl⟩:=QG h;have X:=Hm (NX.start (dn:=false) (bd:=false) h l);clear h
  go_enter func99,ntmps99
  go_upto_region 1 with fail
  refine Qp (λW=>NX w B (S a (N ks) c) false false ks W) X.o ?_
  rintro W g;clear X;have b0:=g.b0;have V:=g.b1;have R:=g.b2;have M:=g.bf;have F:=g.r0;have E:=g.r1;have D:=g.r2;have C:=g.rf;have lt:=g.lt;have own:=g.own;have r:=Hm g;clear g;have q1:w.heap.size≠w.heap.size+1:=by omega
  first|(replace m:=m;go_wp2_with (at_builtin;refine wpList_append_own_at _ rfl _ _ 24 rfl B 2 H (U O 0) 1 8 underlying24 L q p n rfl (by decide) _ _ _ rfl (own.alloc _) ⟨W.heap.size,0,none⟩ 1 1 [U O 1] rfl rfl (cell_one_new _ _ _) (oneJ _) (by unfold maxLen;omega) (by omega) (by simp;omega) ?_;intro v' Y b d k f;have j:=Hm (r.o.pushed l b d f);obtain⟨⟨p0,p1,p2,pf⟩,A,z,y,sf⟩:=j.o.2;obtain⟨u,t,rfl⟩:=QG b;clear b d k f own b0 V R F E D M C r))|(go_wp2_with (at_builtin;refine wpList_append_own_at _ rfl _ _ 24 rfl B 2 H (U O 0) 1 8 underlying24 L q p n rfl (by decide) _ _ _ rfl (own.alloc _) ⟨W.heap.size,0,none⟩ 1 1 [U O 0] rfl rfl (cell_one_new _ _ _) (oneJ _) (by unfold maxLen;omega) (by omega) (by simp;omega) ?_;intro v' Y b d k f;have j:=Hm (r.o.pushed l b d f);obtain⟨⟨p0,p1,p2,pf⟩,A,z,y,sf⟩:=j.o.2;obtain⟨u,t,rfl⟩:=QG b;clear b d k f own b0 V R F E D M C r))
  exact bodyPost_ret (v:=opV (S u (N ks+1) t) false false) (by simp[results,results99,go_sem,A,z,y,q1]) rfl ⟨_,rfl,j.o.1.fin l⟩
def next_2:=next_x.1
def next_3:=next_x.2.1
def next_4:=next_x.2.2
theorem next_5n (B:Nat)(kv:Vu)(w:J)(d:B<=w.heap.size)(h:w.ownsRow B 2 1 kv ([]:List Int).length (I [])):Ec Q 99 #[opV kv false false,U O 5] w λe w'=>∃va vn vc,e=Z (opV (S va vn vc) false true)/\Below B w w':=by
 obtain⟨a,c,rfl⟩:=QG h;have f:=Hm (NX.start (dn:=false) (bd:=false) h d);clear h;go_enter func99,ntmps99;go_upto_region 1 with fail
 refine Qp (λW=>NX w B (S a ([]:List Int).length c) false false [] W) f.o ?_;rintro W b;clear f;have b0:=b.b0;have r:=b.b1;have q:=b.b2;have p:=b.bf;have k:=b.r0;have j:=b.r1;have g:=b.r2;have n:=b.rf;have m:=Hm b;clear b;have l:w.heap.size≠w.heap.size+1:=by omega
 go_wp2;exact bodyPost_ret (v:=opV (S a 0 c) false true) (by simp[results,results99,go_sem,k,j,g,l]) rfl ⟨_,_,_,rfl,((m.o.flag d true).2.fin d).2⟩
theorem next_11n (B:Nat)(kv:Vu)(w:J)(d:B<=w.heap.size)(h:w.ownsRow B 2 1 kv ([]:List Int).length (I [])):Ec Q 99 #[opV kv false false,U O 11] w λe w'=>∃kv',e=Z (opV kv' true false)/\w'.ownsRow B 2 1 kv' ([]:List Int).length (I [])/\Below B w w':=by
 obtain⟨a,c,rfl⟩:=QG h;have f:=Hm (NX.start (dn:=false) (bd:=false) h d);clear h;go_enter func99,ntmps99;go_upto_region 1 with fail
 refine Qp (λW=>NX w B (S a ([]:List Int).length c) false false [] W) f.o ?_;rintro W b;clear f;have b0:=b.b0;have r:=b.b1;have q:=b.b2;have p:=b.bf;have k:=b.r0;have j:=b.r1;have g:=b.r2;have n:=b.rf;have m:=Hm b;clear b;have l:w.heap.size≠w.heap.size+1:=by omega
 go_wp2;exact bodyPost_ret (v:=opV (S a 0 c) true false) (by simp[results,results99,go_sem,k,j,g,l]) rfl ⟨_,rfl,((m.o.flag d true).1.fin d)⟩
theorem next_5z (B:Nat)(kv:Vu)(m:List Int)(z:Int)(w:J)(d:B<=w.heap.size)(D:N m<=4194304)(q:z=0)(h:w.ownsRow B 2 1 kv (m++[z]).length (I (m++[z]))):Ec Q 99 #[opV kv false false,U O 5] w λe w'=>∃va vn vc,e=Z (opV (S va vn vc) false true)/\Below B w w':=by
 rw[show(m++[z]).length=N m+1 by simp]at h;obtain⟨r,c,rfl,C,s,f⟩:=Gi h (by omega);have g:w.ownsRow B 2 1 (S (some ⟨r,0,none⟩) (N m+1) c) (m++[z]).length (I (m++[z])):=by rw[show(m++[z]).length=N m+1 by simp];exact h
 have j:=Hm (NX.start (dn:=false) (bd:=false) g d);clear h g;go_enter func99,ntmps99;go_upto_region 1 with fail
 refine Qp (λW=>NX w B (S (some ⟨r,0,none⟩) (N m+1) c) false false (m++[z]) W) j.o ?_;rintro W b;clear j;have b0:=b.b0;have L:=b.b1;have H:=b.b2;have F:=b.bf;have n:=b.r0;have l:=b.r1;have k:=b.r2;have u:=b.rf;have own:=b.own;have t:=Hm b;clear b;have a:=own;rw[show(m++[z]).length=N m+1 by simp]at a;have E:W.cell? ⟨r,N m,none⟩=some (U O z):=by rw[a.cellAt (N m) (by omega)];simp
 clear a;have A:IntKind.i64.wrap (((N m+1:Nat):Int)-1)=N m:=by rw[Kv];omega
 have y:(N m:Int)<((N m+1:Nat):Int):=by omega
 have p:w.heap.size≠w.heap.size+1:=by omega
 clear own;subst q;go_wp2;exact bodyPost_ret (v:=opV (S (some ⟨r,0,none⟩) (N m+1) c) false true) (by simp[results,results99,go_sem,n,l,k,p]) rfl ⟨_,_,_,rfl,((t.o.flag d true).2.fin d).2⟩
theorem next_5 (B:Nat)(kv:Vu)(m:List Int)(z:Int)(w:J)(g:B<=w.heap.size)(H:N m<=4194304)(y:z≠0)(h:w.ownsRow B 2 1 kv (m++[z]).length (I (m++[z]))):Ec Q 99 #[opV kv false false,U O 5] w λe w'=>∃kv',e=Z (opV kv' false false)/\w'.ownsRow B 2 1 kv' (m++[0]).length (I (m++[0]))/\Below B w w':=by
 rw[show(m++[z]).length=N m+1 by simp]at h;obtain⟨r,c,rfl,C,A,f⟩:=Gi h (by omega);have j:w.ownsRow B 2 1 (S (some ⟨r,0,none⟩) (N m+1) c) (m++[z]).length (I (m++[z])):=by rw[show(m++[z]).length=N m+1 by simp];exact h
 have k:=Hm (NX.start (dn:=false) (bd:=false) j g);clear h j;go_enter func99,ntmps99;go_upto_region 1 with fail
 refine Qp (λW=>NX w B (S (some ⟨r,0,none⟩) (N m+1) c) false false (m++[z]) W) k.o ?_;rintro W b;clear k;have b0:=b.b0;have V:=b.b1;have R:=b.b2;have p:=b.r0;have n:=b.r1;have l:=b.r2;have D:=b.rf;have own:=b.own;have d:=Hm b;clear b;have a:=own;rw[show(m++[z]).length=N m+1 by simp]at a;have M:W.cell? ⟨r,N m,none⟩=some (U O z):=by rw[a.cellAt (N m) (by omega)];simp
 have L:=a.frozenAt (N m);clear a;have F:IntKind.i64.wrap (((N m+1:Nat):Int)-1)=N m:=by rw[Kv];omega
 have E:(N m:Int)<((N m+1:Nat):Int):=by omega
 have t:w.heap.size≠w.heap.size+1:=by omega
 have s:r≠w.heap.size:=λe=>d.o.n0 (by simp[Hg,e]);have q:r≠w.heap.size+1:=λe=>d.o.n1 (by simp[Hg,e]);clear own;have u:(z==0)=false:=by simpa using y
 go_wp2;exact bodyPost_ret (v:=opV (S (some ⟨r,0,none⟩) (N m+1) c) false false) (by simp[results,results99,go_sem,p,n,l,t,s,q]) rfl ⟨_,rfl,(d.o.set C 0).fin g⟩
theorem next_11 (B:Nat)(kv:Vu)(m:List Int)(z:Int)(w:J)(d:B<=w.heap.size)(E:N m<=4194304)(h:w.ownsRow B 2 1 kv (m++[z]).length (I (m++[z]))):Ec Q 99 #[opV kv false false,U O 11] w λe w'=>∃kv',e=Z (opV kv' false false)/\w'.ownsRow B 2 1 kv' (N m) (I m)/\Below B w w':=by
 rw[show(m++[z]).length=N m+1 by simp]at h;obtain⟨r,c,rfl,D,u,g⟩:=Gi h (by omega);have j:w.ownsRow B 2 1 (S (some ⟨r,0,none⟩) (N m+1) c) (m++[z]).length (I (m++[z])):=by rw[show(m++[z]).length=N m+1 by simp];exact h
 have k:=Hm (NX.start (dn:=false) (bd:=false) j d);clear h j;go_enter func99,ntmps99;go_upto_region 1 with fail
 refine Qp (λW=>NX w B (S (some ⟨r,0,none⟩) (N m+1) c) false false (m++[z]) W) k.o ?_;rintro W b;clear k;have b0:=b.b0;have M:=b.b1;have L:=b.b2;have H:=b.bf;have p:=b.r0;have n:=b.r1;have l:=b.r2;have y:=b.rf;have own:=b.own;have f:=Hm b;clear b;have a:=own;rw[show(m++[z]).length=N m+1 by simp]at a;have F:W.cell? ⟨r,N m,none⟩=some (U O z):=by rw[a.cellAt (N m) (by omega)];simp
 clear a;have C:IntKind.i64.wrap (((N m+1:Nat):Int)-1)=N m:=by rw[Kv];omega
 have A:(N m:Int)<=(c:Int):=by omega
 have t:w.heap.size≠w.heap.size+1:=by omega
 have s:r≠w.heap.size:=λe=>f.o.n0 (by simp[Hg,e]);have q:r≠w.heap.size+1:=λe=>f.o.n1 (by simp[Hg,e]);clear own;go_wp2;exact bodyPost_ret (v:=opV (S (some ⟨r,0,none⟩) (N m) c) false false) (by simp[results,results99,go_sem,p,n,l,t,s,q]) rfl ⟨_,rfl,(f.o.drop d).fin d⟩
theorem next_same (B:Nat)(kv:Vu)(ks:List Int)(op:Int)(w:J)(d:B<=w.heap.size)(r:op≠2)(q:op≠3)(p:op≠4)(n:op≠5)(m:op≠11)(h:w.ownsRow B 2 1 kv (N ks) (I ks)):Ec Q 99 #[opV kv false false,U O op] w λe w'=>∃kv',e=Z (opV kv' false false)/\w'.ownsRow B 2 1 kv' (N ks) (I ks)/\Below B w w':=by
 obtain⟨a,c,rfl⟩:=QG h;have f:=Hm (NX.start (dn:=false) (bd:=false) h d);clear h;go_enter func99,ntmps99;go_upto_region 1 with fail
 refine Qp (λW=>NX w B (S a (N ks) c) false false ks W) f.o ?_;rintro W b;clear f;have b0:=b.b0;have E:=b.b1;have D:=b.b2;have k:=b.r0;have j:=b.r1;have g:=b.r2;have t:=b.rf;have s:=Hm b;clear b;have l:w.heap.size≠w.heap.size+1:=by omega
 have C:(op==2)=false:=by simpa using r
 have A:(op==3)=false:=by simpa using q
 have z:(op==4)=false:=by simpa using p
 have y:(op==5)=false:=by simpa using n
 have u:(op==11)=false:=by simpa using m
 go_wp2;exact bodyPost_ret (v:=opV (S a (N ks) c) false false) (by simp[results,results99,go_sem,k,j,g,l]) rfl ⟨_,rfl,s.o.fin d⟩
theorem sgood_0 (x:In)(j:Option Addr)(g:Nat)(w:J)(c:Qj (Qb x.op)=0)(hv:0<=x.v):Ec Q 98 #[inV x j g] w λe w'=>e=Z (G (Qs (0) x))/\Below w.heap.size w w':=by
 obtain⟨f,a,b,v,l⟩:=x;simp only at c hv;have d:=Hm (QN f);rw[c]at d;clear c;have k:=XU l;go_enter func98,ntmps98;go_wp2_with fail
 refine(d.o _).mono ?_;rintro e m ⟨rfl,rfl⟩;go_wp2
 all_goals
  go_ret
  refine⟨?_,bFz.alloc lRz _⟩
  first|(simp_all[Qs,Qm];done)|(simp_all[Qs,Qm];intros;omega)
theorem sgood_6 (x:In)(j:Option Addr)(g:Nat)(w:J)(c:Qj (Qb x.op)=6)(hv:0<=x.v):Ec Q 98 #[inV x j g] w λe w'=>e=Z (G (Qs (6) x))/\Below w.heap.size w w':=by
 obtain⟨f,a,b,v,l⟩:=x;simp only at c hv;have d:=Hm (QN f);rw[c]at d;clear c;have k:=XU l;go_enter func98,ntmps98;go_wp2_with fail
 refine(d.o _).mono ?_;rintro e m ⟨rfl,rfl⟩;go_wp2
 all_goals
  go_ret
  refine⟨?_,bFz.alloc lRz _⟩
  first|(simp_all[Qs,Qm];done)|(simp_all[Qs,Qm];intros;omega)
theorem sgood_1 (x:In)(k:Option Addr)(j:Nat)(w:J)(c:Qj (Qb x.op)=1)(hv:0<=x.v):Ec Q 98 #[inV x k j] w λe w'=>e=Z (G (Qs (1) x))/\Below w.heap.size w w':=by
 obtain⟨g,a,b,v,l⟩:=x;simp only at c hv;have d:=Hm (QN g);rw[c]at d;clear c;have m:=XU l;have n:=Hm (ty_c a);generalize p:tyB a=ta at *;go_enter func98,ntmps98;go_wp2_with fail
 refine(d.o _).mono ?_;rintro e f ⟨rfl,rfl⟩;go_wp2_with (go_at_call 97;refine(n.o _).mono ?_;rintro e f ⟨rfl,rfl⟩)
 all_goals
  go_ret
  refine⟨?_,bFz.alloc lRz _⟩
  first|(simp_all[Qs,Qm];done)|(simp_all[Qs,Qm];intros;omega)
theorem sgood_2 (x:In)(k:Option Addr)(j:Nat)(w:J)(c:Qj (Qb x.op)=2)(hv:0<=x.v):Ec Q 98 #[inV x k j] w λe w'=>e=Z (G (Qs (2) x))/\Below w.heap.size w w':=by
 obtain⟨g,a,b,v,l⟩:=x;simp only at c hv;have d:=Hm (QN g);rw[c]at d;clear c;have m:=XU l;have n:=Hm (X7 a);generalize p:QB a=ta at *;go_enter func98,ntmps98;go_wp2_with fail
 refine(d.o _).mono ?_;rintro e f ⟨rfl,rfl⟩;go_wp2_with (go_at_call 56;refine(n.o _).mono ?_;rintro e f ⟨rfl,rfl⟩)
 all_goals
  go_ret
  refine⟨?_,bFz.alloc lRz _⟩
  first|(simp_all[Qs,Qm];done)|(simp_all[Qs,Qm];intros;omega)
theorem sgood_4 (x:In)(k:Option Addr)(j:Nat)(w:J)(c:Qj (Qb x.op)=4)(hv:0<=x.v):Ec Q 98 #[inV x k j] w λe w'=>e=Z (G (Qs (4) x))/\Below w.heap.size w w':=by
 obtain⟨g,a,b,v,l⟩:=x;simp only at c hv;have d:=Hm (QN g);rw[c]at d;clear c;have m:=XU l;have n:=Hm (X7 a);generalize p:QB a=ta at *;go_enter func98,ntmps98;go_wp2_with fail
 refine(d.o _).mono ?_;rintro e f ⟨rfl,rfl⟩;go_wp2_with (go_at_call 56;refine(n.o _).mono ?_;rintro e f ⟨rfl,rfl⟩)
 all_goals
  go_ret
  refine⟨?_,bFz.alloc lRz _⟩
  first|(simp_all[Qs,Qm];done)|(simp_all[Qs,Qm];intros;omega)
theorem sgood_5 (x:In)(m:Option Addr)(k:Nat)(w:J)(d:Qj (Qb x.op)=5)(hv:0<=x.v):Ec Q 98 #[inV x m k] w λe w'=>e=Z (G (Qs (5) x))/\Below w.heap.size w w':=by
 obtain⟨j,a,b,v,l⟩:=x;simp only at d hv;have f:=Hm (QN j);rw[d]at f;clear d;have n:=XU l;have g:=Hm (X7 a);generalize p:QB a=ta at *;cases ta
 . go_enter func98,ntmps98;(go_wp2_with fail);refine(f.o _).mono ?_;rintro e c ⟨rfl,rfl⟩;go_wp2_with (refine(g.o _).mono ?_;rintro e c ⟨rfl,rfl⟩)
   all_goals
    go_ret
    refine⟨?_,bFz.alloc lRz _⟩
    first|(simp_all[Qs,Qm];done)|(simp_all[Qs,Qm];intros;omega)
 go_enter func98,ntmps98;go_wp2_with fail
 refine(f.o _).mono ?_;rintro e c ⟨rfl,rfl⟩;go_wp2_with (first|(refine(g.o _).mono ?_;rintro e c ⟨rfl,rfl⟩)|(refine(X7 _ _).mono ?_;rintro e c ⟨rfl,rfl⟩))
 all_goals
  go_ret
  refine⟨?_,bFz.alloc lRz _⟩
  first|(simp_all[Qs,Qm];done)|(simp_all[Qs,Qm];intros;omega)
theorem sgood_7 (x:In)(j:Option Addr)(g:Nat)(w:J)(c:Qj (Qb x.op)=7)(hv:0<=x.v):Ec Q 98 #[inV x j g] w λe w'=>e=Z (G (Qs (7) x))/\Below w.heap.size w w':=by
 obtain⟨f,a,b,v,l⟩:=x;simp only at c hv;have d:=Hm (QN f);rw[c]at d;clear c;have k:=XU l;go_enter func98,ntmps98;go_wp2_with fail
 refine(d.o _).mono ?_;rintro e m ⟨rfl,rfl⟩;go_wp2
 all_goals
  go_ret
  refine⟨?_,bFz.alloc lRz _⟩
  first|(simp_all[Qs,Qm];done)|(simp_all[Qs,Qm];intros;omega)
theorem sgood_9 (x:In)(j:Option Addr)(g:Nat)(w:J)(c:Qj (Qb x.op)=9)(hv:0<=x.v):Ec Q 98 #[inV x j g] w λe w'=>e=Z (G (Qs (9) x))/\Below w.heap.size w w':=by
 obtain⟨f,a,b,v,l⟩:=x;simp only at c hv;have d:=Hm (QN f);rw[c]at d;clear c;have k:=XU l;go_enter func98,ntmps98;go_wp2_with fail
 refine(d.o _).mono ?_;rintro e m ⟨rfl,rfl⟩;go_wp2
 all_goals
  go_ret
  refine⟨?_,bFz.alloc lRz _⟩
  first|(simp_all[Qs,Qm];done)|(simp_all[Qs,Qm];intros;omega)
theorem sgood_8 (x:In)(j:Option Addr)(g:Nat)(w:J)(c:Qj (Qb x.op)=8)(hv:0<=x.v):Ec Q 98 #[inV x j g] w λe w'=>e=Z (G (Qs (8) x))/\Below w.heap.size w w':=by
 obtain⟨f,a,b,v,l⟩:=x;simp only at c hv;have d:=Hm (QN f);rw[c]at d;clear c;have k:=XU l;go_enter func98,ntmps98;go_wp2_with fail
 refine(d.o _).mono ?_;rintro e m ⟨rfl,rfl⟩;go_wp2
 all_goals
  go_ret
  refine⟨?_,bFz.alloc lRz _⟩
  first|(simp_all[Qs,Qm];done)|(simp_all[Qs,Qm];intros;omega)
theorem sgood_10 (x:In)(j:Option Addr)(g:Nat)(w:J)(c:Qj (Qb x.op)=10)(hv:0<=x.v):Ec Q 98 #[inV x j g] w λe w'=>e=Z (G (Qs (10) x))/\Below w.heap.size w w':=by
 obtain⟨f,a,b,v,l⟩:=x;simp only at c hv;have d:=Hm (QN f);rw[c]at d;clear c;have k:=XU l;go_enter func98,ntmps98;go_wp2_with fail
 refine(d.o _).mono ?_;rintro e m ⟨rfl,rfl⟩;go_wp2
 all_goals
  go_ret
  refine⟨?_,bFz.alloc lRz _⟩
  first|(simp_all[Qs,Qm];done)|(simp_all[Qs,Qm];intros;omega)
theorem sgood_m1 (x:In)(j:Option Addr)(g:Nat)(w:J)(c:Qj (Qb x.op)=-1)(hv:0<=x.v):Ec Q 98 #[inV x j g] w λe w'=>e=Z (G (Qs (-1) x))/\Below w.heap.size w w':=by
 obtain⟨f,a,b,v,l⟩:=x;simp only at c hv;have d:=Hm (QN f);rw[c]at d;clear c;have k:=XU l;go_enter func98,ntmps98;go_wp2_with fail
 refine(d.o _).mono ?_;rintro e m ⟨rfl,rfl⟩;go_wp2
 all_goals
  go_ret
  refine⟨?_,bFz.alloc lRz _⟩
  first|(simp_all[Qs,Qm];done)|(simp_all[Qs,Qm];intros;omega)
