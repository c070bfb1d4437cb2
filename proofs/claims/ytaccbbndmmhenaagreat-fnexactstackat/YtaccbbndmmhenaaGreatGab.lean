import Derived.Test.YtaccbbndmmhenaaGreatGaa
import Derived.Maps.AppendAt
import Derived.Deep.Cut
import Derived.Deep.Onto
import Derived.Sort.Grow
set_option linter.all false
set_option maxHeartbeats 400000000
set_option maxRecDepth 100000
namespace Go.Proofs
open Value renaming int->U,slice->S,bool->G,pointer->Yp,agg->Ag
open IntKind renaming i64->O
open Ending renaming returned->Z
open Obj renaming cells->Fc
open Go renaming World->J,Calls->Ec,Value->Vu,Addr->Ad
open Go.RowKit renaming Below->Bw
open Tryz renaming prog->Q
open Tryz
open Value renaming ownBlock->Tg,slice->Tv
open World renaming size_alloc->Mx,cell?_of_block->Kd,frozen?_of_block->Hn,frozen?_setCell->Kb,cell?_setCell_other->Kg,cell?_alloc_past->Lj,frozen?_alloc_new->Tm
open IntKind renaming wrap_i64->Kz
open List renaming map_append->Tf,map_cons->Hp,map_nil->Lm,set_append_right->Lv,nodup_append->Rg,append_assoc->Kv,perm_append_comm_assoc->Rw,length->N
namespace YtaccbbndmmhenaaGreat
open Go.RowKit
variable {dn bd:Bool}{w W W':J}{m:List Bool}{ks:List Int}{zs:List Vu}{B n e g k:Nat}{v kv:Vu}
theorem sform_0 (p:Int)(w:J)(b:p<=-1):Ec Q 138 #[U O p] w λe w'=>e=Z (U O (-1))/\w=w':=by
 go_enter func138,ntmps138;go_wp2_with (refine(known_0 _ _ (by omega)).mono ?_;rintro e a ⟨rfl,rfl⟩)
 go_ret;exact⟨rfl,rfl⟩
theorem sform_1 (p:Int)(w:J)(f:0<=p)(d:p<=1):Ec Q 138 #[U O p] w λe w'=>e=Z (U O (0))/\w=w':=by
 have m:(p==(12:Int))=false:=by simp;omega
 have l:(p==(13:Int))=false:=by simp;omega
 have k:(p==(16:Int))=false:=by simp;omega
 have j:(p==(14:Int))=false:=by simp;omega
 have g:(p==(17:Int))=false:=by simp;omega
 have b:(p==(63:Int))=false:=by simp;omega
 have a:(p==(64:Int))=false:=by simp;omega
 go_enter func138,ntmps138;go_wp2_with (refine(known_1 _ _ (by omega) (by omega)).mono ?_;rintro e c ⟨rfl,rfl⟩)
 go_ret;exact⟨rfl,rfl⟩
theorem sform_2 (p:Int)(w:J)(c:2<=p)(b:p<=4):Ec Q 138 #[U O p] w λe w'=>e=Z (U O (1))/\w=w':=by
 go_enter func138,ntmps138;go_wp2_with (refine(known_1 _ _ (by omega) (by omega)).mono ?_;rintro e a ⟨rfl,rfl⟩)
 go_ret;exact⟨rfl,rfl⟩
theorem sform_3 (p:Int)(w:J)(f:5<=p)(d:p<=5):Ec Q 138 #[U O p] w λe w'=>e=Z (U O (0))/\w=w':=by
 have n:¬p<2:=by omega
 have m:(p==(12:Int))=false:=by simp;omega
 have l:(p==(13:Int))=false:=by simp;omega
 have k:(p==(16:Int))=false:=by simp;omega
 have j:(p==(14:Int))=false:=by simp;omega
 have g:(p==(17:Int))=false:=by simp;omega
 have b:(p==(63:Int))=false:=by simp;omega
 have a:(p==(64:Int))=false:=by simp;omega
 go_enter func138,ntmps138;go_wp2_with (refine(known_1 _ _ (by omega) (by omega)).mono ?_;rintro e c ⟨rfl,rfl⟩)
 go_ret;exact⟨rfl,rfl⟩
theorem sform_4 (p:Int)(w:J)(c:6<=p)(b:p<=10):Ec Q 138 #[U O p] w λe w'=>e=Z (U O (-1))/\w=w':=by
 go_enter func138,ntmps138;go_wp2_with (refine(known_2 _ _ (by omega) (by omega)).mono ?_;rintro e a ⟨rfl,rfl⟩)
 go_ret;exact⟨rfl,rfl⟩
theorem sform_5 (p:Int)(w:J)(f:11<=p)(d:p<=11):Ec Q 138 #[U O p] w λe w'=>e=Z (U O (0))/\w=w':=by
 have n:¬p<2:=by omega
 have m:(p==(12:Int))=false:=by simp;omega
 have l:(p==(13:Int))=false:=by simp;omega
 have k:(p==(16:Int))=false:=by simp;omega
 have j:(p==(14:Int))=false:=by simp;omega
 have g:(p==(17:Int))=false:=by simp;omega
 have b:(p==(63:Int))=false:=by simp;omega
 have a:(p==(64:Int))=false:=by simp;omega
 go_enter func138,ntmps138;go_wp2_with (refine(Gp _ _ (by omega) (by omega)).mono ?_;rintro e c ⟨rfl,rfl⟩)
 go_ret;exact⟨rfl,rfl⟩
theorem sform_6_0 (p:Int)(w:J)(c:12<=p)(b:p<=12):Ec Q 138 #[U O p] w λe w'=>e=Z (U O (2))/\w=w':=by
 have f:¬p<2:=by omega
 have d:(p==(12:Int))=true:=by simp;omega
 go_enter func138,ntmps138;go_wp2_with (refine(Gp _ _ (by omega) (by omega)).mono ?_;rintro e a ⟨rfl,rfl⟩)
 go_ret;exact⟨rfl,rfl⟩
theorem sform_6_1 (p:Int)(w:J)(c:13<=p)(b:p<=13):Ec Q 138 #[U O p] w λe w'=>e=Z (U O (2))/\w=w':=by
 have g:¬p<2:=by omega
 have f:(p==(12:Int))=false:=by simp;omega
 have d:(p==(13:Int))=true:=by simp;omega
 go_enter func138,ntmps138;go_wp2_with (refine(Gp _ _ (by omega) (by omega)).mono ?_;rintro e a ⟨rfl,rfl⟩)
 go_ret;exact⟨rfl,rfl⟩
theorem sform_6 (p:Int)(w:J)(b:12<=p)(a:p<=13):Ec Q 138 #[U O p] w λe w'=>e=Z (U O (2))/\w=w':=by
 rcases(by omega:p=12\/p=13)with h|h
 . exact sform_6_0 p w (by omega) (by omega)
 exact sform_6_1 p w (by omega) (by omega)
theorem sform_7 (p:Int)(w:J)(c:14<=p)(b:p<=14):Ec Q 138 #[U O p] w λe w'=>e=Z (U O (3))/\w=w':=by
 have k:¬p<2:=by omega
 have j:(p==(12:Int))=false:=by simp;omega
 have g:(p==(13:Int))=false:=by simp;omega
 have f:(p==(16:Int))=false:=by simp;omega
 have d:(p==(14:Int))=true:=by simp;omega
 go_enter func138,ntmps138;go_wp2_with (refine(Gp _ _ (by omega) (by omega)).mono ?_;rintro e a ⟨rfl,rfl⟩)
 go_ret;exact⟨rfl,rfl⟩
theorem sform_8 (p:Int)(w:J)(f:15<=p)(d:p<=15):Ec Q 138 #[U O p] w λe w'=>e=Z (U O (0))/\w=w':=by
 have n:¬p<2:=by omega
 have m:(p==(12:Int))=false:=by simp;omega
 have l:(p==(13:Int))=false:=by simp;omega
 have k:(p==(16:Int))=false:=by simp;omega
 have j:(p==(14:Int))=false:=by simp;omega
 have g:(p==(17:Int))=false:=by simp;omega
 have b:(p==(63:Int))=false:=by simp;omega
 have a:(p==(64:Int))=false:=by simp;omega
 go_enter func138,ntmps138;go_wp2_with (refine(Gp _ _ (by omega) (by omega)).mono ?_;rintro e c ⟨rfl,rfl⟩)
 go_ret;exact⟨rfl,rfl⟩
theorem sform_9 (p:Int)(w:J)(c:16<=p)(b:p<=16):Ec Q 138 #[U O p] w λe w'=>e=Z (U O (2))/\w=w':=by
 have j:¬p<2:=by omega
 have g:(p==(12:Int))=false:=by simp;omega
 have f:(p==(13:Int))=false:=by simp;omega
 have d:(p==(16:Int))=true:=by simp;omega
 go_enter func138,ntmps138;go_wp2_with (refine(Gp _ _ (by omega) (by omega)).mono ?_;rintro e a ⟨rfl,rfl⟩)
 go_ret;exact⟨rfl,rfl⟩
theorem sform_10 (p:Int)(w:J)(c:17<=p)(b:p<=17):Ec Q 138 #[U O p] w λe w'=>e=Z (U O (4))/\w=w':=by
 have l:¬p<2:=by omega
 have k:(p==(12:Int))=false:=by simp;omega
 have j:(p==(13:Int))=false:=by simp;omega
 have g:(p==(16:Int))=false:=by simp;omega
 have f:(p==(14:Int))=false:=by simp;omega
 have d:(p==(17:Int))=true:=by simp;omega
 go_enter func138,ntmps138;go_wp2_with (refine(Gp _ _ (by omega) (by omega)).mono ?_;rintro e a ⟨rfl,rfl⟩)
 go_ret;exact⟨rfl,rfl⟩
theorem sform_11 (p:Int)(w:J)(c:18<=p)(b:p<=25):Ec Q 138 #[U O p] w λe w'=>e=Z (U O (-1))/\w=w':=by
 go_enter func138,ntmps138;go_wp2_with (refine(known_4 _ _ (by omega) (by omega)).mono ?_;rintro e a ⟨rfl,rfl⟩)
 go_ret;exact⟨rfl,rfl⟩
theorem sform_12 (p:Int)(w:J)(f:26<=p)(d:p<=26):Ec Q 138 #[U O p] w λe w'=>e=Z (U O (0))/\w=w':=by
 have n:¬p<2:=by omega
 have m:(p==(12:Int))=false:=by simp;omega
 have l:(p==(13:Int))=false:=by simp;omega
 have k:(p==(16:Int))=false:=by simp;omega
 have j:(p==(14:Int))=false:=by simp;omega
 have g:(p==(17:Int))=false:=by simp;omega
 have b:(p==(63:Int))=false:=by simp;omega
 have a:(p==(64:Int))=false:=by simp;omega
 go_enter func138,ntmps138;go_wp2_with (refine(known_5 _ _ (by omega) (by omega)).mono ?_;rintro e c ⟨rfl,rfl⟩)
 go_ret;exact⟨rfl,rfl⟩
theorem sform_13 (p:Int)(w:J)(f:27<=p)(d:p<=27):Ec Q 138 #[U O p] w λe w'=>e=Z (U O (0))/\w=w':=by
 have n:¬p<2:=by omega
 have m:(p==(12:Int))=false:=by simp;omega
 have l:(p==(13:Int))=false:=by simp;omega
 have k:(p==(16:Int))=false:=by simp;omega
 have j:(p==(14:Int))=false:=by simp;omega
 have g:(p==(17:Int))=false:=by simp;omega
 have b:(p==(63:Int))=false:=by simp;omega
 have a:(p==(64:Int))=false:=by simp;omega
 go_enter func138,ntmps138;go_wp2_with (refine(known_6 _ _ (by omega) (by omega)).mono ?_;rintro e c ⟨rfl,rfl⟩)
 go_ret;exact⟨rfl,rfl⟩
theorem sform_14 (p:Int)(w:J)(c:28<=p)(b:p<=31):Ec Q 138 #[U O p] w λe w'=>e=Z (U O (-1))/\w=w':=by
 go_enter func138,ntmps138;go_wp2_with (refine(known_7 _ _ (by omega) (by omega)).mono ?_;rintro e a ⟨rfl,rfl⟩)
 go_ret;exact⟨rfl,rfl⟩
theorem sform_15 (p:Int)(w:J)(c:32<=p)(b:p<=36):Ec Q 138 #[U O p] w λe w'=>e=Z (U O (2))/\w=w':=by
 have k:¬p<2:=by omega
 have j:(p==(12:Int))=false:=by simp;omega
 have g:(p==(13:Int))=false:=by simp;omega
 have f:(p==(16:Int))=false:=by simp;omega
 have d:p<=36:=by omega
 go_enter func138,ntmps138;go_wp2_with (refine(known_8 _ _ (by omega) (by omega)).mono ?_;rintro e a ⟨rfl,rfl⟩)
 go_ret;exact⟨rfl,rfl⟩
theorem sform_16 (p:Int)(w:J)(c:37<=p)(b:p<=39):Ec Q 138 #[U O p] w λe w'=>e=Z (U O (-1))/\w=w':=by
 go_enter func138,ntmps138;go_wp2_with (refine(known_9 _ _ (by omega) (by omega)).mono ?_;rintro e a ⟨rfl,rfl⟩)
 go_ret;exact⟨rfl,rfl⟩
theorem sform_17 (p:Int)(w:J)(c:40<=p)(b:p<=62):Ec Q 138 #[U O p] w λe w'=>e=Z (U O (5))/\w=w':=by
 have m:¬p<2:=by omega
 have l:(p==(12:Int))=false:=by simp;omega
 have k:(p==(13:Int))=false:=by simp;omega
 have j:(p==(16:Int))=false:=by simp;omega
 have g:¬p<32:=by omega
 have f:(p==(14:Int))=false:=by simp;omega
 have d:(p==(17:Int))=false:=by simp;omega
 go_enter func138,ntmps138;go_wp2_with (refine(known_10 _ _ (by omega) (by omega)).mono ?_;rintro e a ⟨rfl,rfl⟩)
 go_ret;exact⟨rfl,rfl⟩
theorem sform_18_0 (p:Int)(w:J)(f:63<=p)(d:p<=63):Ec Q 138 #[U O p] w λe w'=>e=Z (U O (6))/\w=w':=by
 have o:¬p<2:=by omega
 have n:(p==(12:Int))=false:=by simp;omega
 have m:(p==(13:Int))=false:=by simp;omega
 have l:(p==(16:Int))=false:=by simp;omega
 have k:¬p<32:=by omega
 have j:(p==(14:Int))=false:=by simp;omega
 have g:(p==(17:Int))=false:=by simp;omega
 have b:¬p<40:=by omega
 have a:(p==(63:Int))=true:=by simp;omega
 go_enter func138,ntmps138;go_wp2_with (refine(known_10 _ _ (by omega) (by omega)).mono ?_;rintro e c ⟨rfl,rfl⟩)
 go_ret;exact⟨rfl,rfl⟩
theorem sform_18_1 (p:Int)(w:J)(g:64<=p)(f:p<=64):Ec Q 138 #[U O p] w λe w'=>e=Z (U O (6))/\w=w':=by
 have q:¬p<2:=by omega
 have o:(p==(12:Int))=false:=by simp;omega
 have n:(p==(13:Int))=false:=by simp;omega
 have m:(p==(16:Int))=false:=by simp;omega
 have l:¬p<32:=by omega
 have k:(p==(14:Int))=false:=by simp;omega
 have j:(p==(17:Int))=false:=by simp;omega
 have c:¬p<40:=by omega
 have b:(p==(63:Int))=false:=by simp;omega
 have a:(p==(64:Int))=true:=by simp;omega
 go_enter func138,ntmps138;go_wp2_with (refine(known_10 _ _ (by omega) (by omega)).mono ?_;rintro e d ⟨rfl,rfl⟩)
 go_ret;exact⟨rfl,rfl⟩
theorem sform_18 (p:Int)(w:J)(b:63<=p)(a:p<=64):Ec Q 138 #[U O p] w λe w'=>e=Z (U O (6))/\w=w':=by
 rcases(by omega:p=63\/p=64)with h|h
 . exact sform_18_0 p w (by omega) (by omega)
 exact sform_18_1 p w (by omega) (by omega)
theorem sform_19 (p:Int)(w:J)(g:65<=p)(f:p<=68):Ec Q 138 #[U O p] w λe w'=>e=Z (U O (p-58))/\w=w':=by
 have q:¬p<2:=by omega
 have o:(p==(12:Int))=false:=by simp;omega
 have n:(p==(13:Int))=false:=by simp;omega
 have m:(p==(16:Int))=false:=by simp;omega
 have l:¬p<32:=by omega
 have k:(p==(14:Int))=false:=by simp;omega
 have j:(p==(17:Int))=false:=by simp;omega
 have c:¬p<40:=by omega
 have b:(p==(63:Int))=false:=by simp;omega
 have a:(p==(64:Int))=false:=by simp;omega
 go_enter func138,ntmps138;go_wp2_with (refine(known_10 _ _ (by omega) (by omega)).mono ?_;rintro e d ⟨rfl,rfl⟩)
 go_ret;exact⟨by simp;omega,rfl⟩
theorem sform_20 (p:Int)(w:J)(j:69<=p)(g:p<=191):Ec Q 138 #[U O p] w λe w'=>e=Z (U O (0))/\w=w':=by
 have r:¬p<2:=by omega
 have q:(p==(12:Int))=false:=by simp;omega
 have o:(p==(13:Int))=false:=by simp;omega
 have n:(p==(16:Int))=false:=by simp;omega
 have m:¬p<32:=by omega
 have l:(p==(14:Int))=false:=by simp;omega
 have k:(p==(17:Int))=false:=by simp;omega
 have d:¬p<40:=by omega
 have c:(p==(63:Int))=false:=by simp;omega
 have b:(p==(64:Int))=false:=by simp;omega
 have a:¬p<65:=by omega
 go_enter func138,ntmps138;go_wp2_with (refine(known_10 _ _ (by omega) (by omega)).mono ?_;rintro e f ⟨rfl,rfl⟩)
 go_ret;exact⟨rfl,rfl⟩
theorem sform_21 (p:Int)(w:J)(b:192<=p):Ec Q 138 #[U O p] w λe w'=>e=Z (U O (-1))/\w=w':=by
 go_enter func138,ntmps138;go_wp2_with (refine(known_11 _ _ (by omega)).mono ?_;rintro e a ⟨rfl,rfl⟩)
 go_ret;exact⟨rfl,rfl⟩
theorem QO (p:Int)(w:J):Ec Q 138 #[U O p] w λe w'=>e=Z (U O (Qi (Qa p)))/\w=w':=by
 have b:(p<=-1)\/(0<=p/\p<=1)\/(2<=p/\p<=4)\/(5<=p/\p<=5)\/(6<=p/\p<=10)\/(11<=p/\p<=11)\/(12<=p/\p<=13)\/(14<=p/\p<=14)\/(15<=p/\p<=15)\/(16<=p/\p<=16)\/(17<=p/\p<=17)\/(18<=p/\p<=25)\/(26<=p/\p<=26)\/(27<=p/\p<=27)\/(28<=p/\p<=31)\/(32<=p/\p<=36)\/(37<=p/\p<=39)\/(40<=p/\p<=62)\/(63<=p/\p<=64)\/(65<=p/\p<=68)\/(69<=p/\p<=191)\/(192<=p):=by omega
 rcases b with h|h|h|h|h|h|h|h|h|h|h|h|h|h|h|h|h|h|h|h|h|h
 . (have e:Qi (Qa p)=-1:=by simp only[Qa,show ¬(0<=p/\p<192) by omega,if_false];rfl);rw[e];exact sform_0 p w h
 . have e:=of_decide_eq_true (rng 0 2 (λi=>decide (Qi (tbl.getD i Z0)=0)) (by decide +kernel) p (by omega) (by omega));(have a:Qi (Qa p)=0:=by simp only[Qa,show(0<=p/\p<192) by omega,and_self,if_true];rw[e]);rw[a];exact sform_1 p w h.1 h.2
 . have e:=of_decide_eq_true (rng 2 3 (λi=>decide (Qi (tbl.getD i Z0)=1)) (by decide +kernel) p (by omega) (by omega));(have a:Qi (Qa p)=1:=by simp only[Qa,show(0<=p/\p<192) by omega,and_self,if_true];rw[e]);rw[a];exact sform_2 p w h.1 h.2
 . have e:=of_decide_eq_true (rng 5 1 (λi=>decide (Qi (tbl.getD i Z0)=0)) (by decide +kernel) p (by omega) (by omega));(have a:Qi (Qa p)=0:=by simp only[Qa,show(0<=p/\p<192) by omega,and_self,if_true];rw[e]);rw[a];exact sform_3 p w h.1 h.2
 . have e:=of_decide_eq_true (rng 6 5 (λi=>decide (Qi (tbl.getD i Z0)=-1)) (by decide +kernel) p (by omega) (by omega));(have a:Qi (Qa p)=-1:=by simp only[Qa,show(0<=p/\p<192) by omega,and_self,if_true];rw[e]);rw[a];exact sform_4 p w h.1 h.2
 . have e:=of_decide_eq_true (rng 11 1 (λi=>decide (Qi (tbl.getD i Z0)=0)) (by decide +kernel) p (by omega) (by omega));(have a:Qi (Qa p)=0:=by simp only[Qa,show(0<=p/\p<192) by omega,and_self,if_true];rw[e]);rw[a];exact sform_5 p w h.1 h.2
 . have e:=of_decide_eq_true (rng 12 2 (λi=>decide (Qi (tbl.getD i Z0)=2)) (by decide +kernel) p (by omega) (by omega));(have a:Qi (Qa p)=2:=by simp only[Qa,show(0<=p/\p<192) by omega,and_self,if_true];rw[e]);rw[a];exact sform_6 p w h.1 h.2
 . have e:=of_decide_eq_true (rng 14 1 (λi=>decide (Qi (tbl.getD i Z0)=3)) (by decide +kernel) p (by omega) (by omega));(have a:Qi (Qa p)=3:=by simp only[Qa,show(0<=p/\p<192) by omega,and_self,if_true];rw[e]);rw[a];exact sform_7 p w h.1 h.2
 . have e:=of_decide_eq_true (rng 15 1 (λi=>decide (Qi (tbl.getD i Z0)=0)) (by decide +kernel) p (by omega) (by omega));(have a:Qi (Qa p)=0:=by simp only[Qa,show(0<=p/\p<192) by omega,and_self,if_true];rw[e]);rw[a];exact sform_8 p w h.1 h.2
 . have e:=of_decide_eq_true (rng 16 1 (λi=>decide (Qi (tbl.getD i Z0)=2)) (by decide +kernel) p (by omega) (by omega));(have a:Qi (Qa p)=2:=by simp only[Qa,show(0<=p/\p<192) by omega,and_self,if_true];rw[e]);rw[a];exact sform_9 p w h.1 h.2
 . have e:=of_decide_eq_true (rng 17 1 (λi=>decide (Qi (tbl.getD i Z0)=4)) (by decide +kernel) p (by omega) (by omega));(have a:Qi (Qa p)=4:=by simp only[Qa,show(0<=p/\p<192) by omega,and_self,if_true];rw[e]);rw[a];exact sform_10 p w h.1 h.2
 . have e:=of_decide_eq_true (rng 18 8 (λi=>decide (Qi (tbl.getD i Z0)=-1)) (by decide +kernel) p (by omega) (by omega));(have a:Qi (Qa p)=-1:=by simp only[Qa,show(0<=p/\p<192) by omega,and_self,if_true];rw[e]);rw[a];exact sform_11 p w h.1 h.2
 . have e:=of_decide_eq_true (rng 26 1 (λi=>decide (Qi (tbl.getD i Z0)=0)) (by decide +kernel) p (by omega) (by omega));(have a:Qi (Qa p)=0:=by simp only[Qa,show(0<=p/\p<192) by omega,and_self,if_true];rw[e]);rw[a];exact sform_12 p w h.1 h.2
 . have e:=of_decide_eq_true (rng 27 1 (λi=>decide (Qi (tbl.getD i Z0)=0)) (by decide +kernel) p (by omega) (by omega));(have a:Qi (Qa p)=0:=by simp only[Qa,show(0<=p/\p<192) by omega,and_self,if_true];rw[e]);rw[a];exact sform_13 p w h.1 h.2
 . have e:=of_decide_eq_true (rng 28 4 (λi=>decide (Qi (tbl.getD i Z0)=-1)) (by decide +kernel) p (by omega) (by omega));(have a:Qi (Qa p)=-1:=by simp only[Qa,show(0<=p/\p<192) by omega,and_self,if_true];rw[e]);rw[a];exact sform_14 p w h.1 h.2
 . have e:=of_decide_eq_true (rng 32 5 (λi=>decide (Qi (tbl.getD i Z0)=2)) (by decide +kernel) p (by omega) (by omega));(have a:Qi (Qa p)=2:=by simp only[Qa,show(0<=p/\p<192) by omega,and_self,if_true];rw[e]);rw[a];exact sform_15 p w h.1 h.2
 . have e:=of_decide_eq_true (rng 37 3 (λi=>decide (Qi (tbl.getD i Z0)=-1)) (by decide +kernel) p (by omega) (by omega));(have a:Qi (Qa p)=-1:=by simp only[Qa,show(0<=p/\p<192) by omega,and_self,if_true];rw[e]);rw[a];exact sform_16 p w h.1 h.2
 . have e:=of_decide_eq_true (rng 40 23 (λi=>decide (Qi (tbl.getD i Z0)=5)) (by decide +kernel) p (by omega) (by omega));(have a:Qi (Qa p)=5:=by simp only[Qa,show(0<=p/\p<192) by omega,and_self,if_true];rw[e]);rw[a];exact sform_17 p w h.1 h.2
 . have e:=of_decide_eq_true (rng 63 2 (λi=>decide (Qi (tbl.getD i Z0)=6)) (by decide +kernel) p (by omega) (by omega));(have a:Qi (Qa p)=6:=by simp only[Qa,show(0<=p/\p<192) by omega,and_self,if_true];rw[e]);rw[a];exact sform_18 p w h.1 h.2
 . have e:=of_decide_eq_true (rng 65 4 (λi=>decide (Qi (tbl.getD i Z0)=(i:Int)-58)) (by decide +kernel) p (by omega) (by omega));(have a:Qi (Qa p)=p-58:=by simp only[Qa,show(0<=p/\p<192) by omega,and_self,if_true];rw[e];omega);rw[a];exact sform_19 p w h.1 h.2
 . have e:=of_decide_eq_true (rng 69 123 (λi=>decide (Qi (tbl.getD i Z0)=0)) (by decide +kernel) p (by omega) (by omega));(have a:Qi (Qa p)=0:=by simp only[Qa,show(0<=p/\p<192) by omega,and_self,if_true];rw[e]);rw[a];exact sform_20 p w h.1 h.2
 have e:Qi (Qa p)=-1:=by simp only[Qa,show ¬(0<=p/\p<192) by omega,if_false];rfl
 rw[e];exact sform_21 p w h
theorem XQ {xs:List Int}(h:w.ownsRow B 2 1 v (N xs) (I xs)):∃a c,v=S a (N xs) c/\Has w a xs:=by
 rcases h.2 with ⟨e,b⟩|⟨g,cap,f,d,k,j,r⟩
 . rw[b];exact⟨_,_,e,.inl (List.length_eq_zero_iff.1 b)⟩
 subst d;exact⟨_,_,rfl,own_has h⟩
theorem own_keep {b:J}{C:Nat}{xs:List Vu}(h:w.ownsRow B 2 1 v n xs)(k:Bw C w b)(f:∀j,v.ownBlock=some j->j<C):b.ownsRow B 2 1 v n xs:=by
 refine⟨h.1,?_⟩;rcases h.2 with m|⟨g,cap,a,c,l,d,r⟩
 . exact .inl m
 subst c;exact .inr ⟨g,cap,a,rfl,l,(k.block g (f g rfl)).trans d,r⟩
theorem own_lt {xs:List Vu}(h:w.ownsRow B 2 1 v n xs):∀j,v.ownBlock=some j->j<w.heap.size:=by
 intro j a;exact(h.lt j a).2
theorem heap_new (w:J)(o:Obj):(w.alloc o).heap[w.heap.size]?=some o:=by show(w.heap.push o)[w.heap.size]?=_;simp
theorem QN (w:J)(o:Obj)(k:Nat)(h:k<w.heap.size):(w.alloc o).heap[k]?=w.heap[k]?:=by show(w.heap.push o)[k]?=_;rw[Array.getElem?_push_lt h,Array.getElem?_eq_getElem h]
structure FT (w:J)(B C:Nat)(p r:Vu)(n m:Nat)(xs ys:List Int):Prop where
 hp:w.ownsRow B 2 1 p n (I xs)
 hr:w.ownsRow B 2 1 r m (I ys)
 ne:∀i j,p.ownBlock=some i->r.ownBlock=some j->i≠j
 ltp:∀j,p.ownBlock=some j->j<C
 ltr:∀j,r.ownBlock=some j->j<C
 le:C<=w.heap.size
open Go.RowKit Go.Sort
def QB (n:List Bool)(op:Int):Option (List Bool) :=
 if n.isEmpty then none
 else if op=2\/op=3 then some (n++[false])
 else if op=4 then some (n++[true])
 else if op=5 then(if n.getLast?=some true then some (n.dropLast++[false])else none)
 else if op=11 then some n.dropLast
 else some n
abbrev Bs (n:List Bool):List Vu:=n.map Value.bool
theorem info4:(Q.info? 4).map (λi=>(i.zero,i.size,i.bytes))=some (some (G false),1,1):=by kernel_rfl
theorem oneV (b:Bool):∀u∈[Value.bool b],u.oneCell'=true:=by
 intro u a;simp at a;subst a;rfl
theorem QH (h:w.ownsRow B e 1 v n zs):∃a c,v=S a n c:=by
 rcases h.2 with ⟨e,d⟩|⟨g,cap,f,b,_⟩
 . rw[d];exact⟨_,_,e⟩
 exact⟨_,_,b⟩
theorem Gn {L:List Vu}(h:w.ownsRow B e 1 v n L)(hn:1<=n):∃g cap,v=S (some ⟨g,0,none⟩) n cap/\B<=g/\g<w.heap.size/\n<=cap:=by
 rcases h.2 with ⟨_,j⟩|⟨g,cap,f,a,d,b,c,_⟩
 . omega
 exact⟨g,cap,a,d,(Array.getElem?_eq_some_iff.1 b).1,c⟩
theorem ownE_take {cap:Nat}(h:w.ownsRow B e 1 (S (some ⟨g,0,none⟩) (n+1) cap) (n+1) zs):w.ownsRow B e 1 (S (some ⟨g,0,none⟩) n cap) n (zs.take n):=by
 rcases h.2 with ⟨b,_⟩|⟨p,j,f,b,m,l,k,d,c,a⟩
 . simp at b
 simp only[Value.slice.injEq,Option.some.injEq,Addr.mk.injEq,and_true,true_and]at b;obtain⟨rfl,rfl⟩:=b;have o:=h.1;refine⟨by simp;omega,.inr ⟨g,cap,f,rfl,m,l,by omega,d,c,?_⟩⟩;rw[<- a,List.take_take];congr 1
 omega
theorem Jh {u:Vu}{b o:Nat}(h:w.ownsRow B e 1 v n zs)(g:v.ownBlock≠some b):(w.setCell ⟨b,o,none⟩ u).ownsRow B e 1 v n zs:=by
 refine⟨h.1,?_⟩;rcases h.2 with k|⟨l,a,c,d,j,f,r⟩
 . exact .inl k
 subst d;exact .inr ⟨l,a,c,rfl,j,(Below.heap_setCell _ _ _ _ (λe=>g (by simp[Tg,e]))).trans f,r⟩
theorem Gj (a:Option Ad)(n c:Nat)(w:J):Ec Q 245 #[S a n c] w λe w'=>e=Z (G (decide (n=0)))/\w=w':=by
 by_cases h:n=0
 . subst h;go_enter func245,ntmps245;go_wp2;go_ret;exact⟨rfl,rfl⟩
 have b:((n:Int)==0)=false:=by simp;omega
 go_enter func245,ntmps245;go_wp2;go_ret;exact⟨by simp[h],rfl⟩
structure Ne (B g:Nat)(v:Vu)(n:List Bool)(w:J):Prop where
 cell:w.cell? ⟨g,0,none⟩=some v
 froz:w.frozen? ⟨g,0,none⟩=false
 own:w.ownsRow B 4 1 v (N n) (Bs n)
 ne:v.ownBlock≠some g
 ge:B<=g
 lt:g<w.heap.size
theorem step_nil (B g:Nat)(v:Vu)(op:Int)(w:J)(h:Ne B g v [] w):Ec Q 244 #[Yp (some ⟨g,0,none⟩),U O op] w λe w'=>e=Z (G false)/\Bw B w w':=by
 obtain⟨a,c,rfl⟩:=QH h.own;have d:=h.cell;clear h;have H:=Hm (Gj a 0 c);go_enter func244,ntmps244;go_wp2_with (refine(H.o _).mono ?_;rintro e b ⟨rfl,rfl⟩)
 go_ret;exact⟨rfl,bFz⟩
theorem Ne.pushed {v':Vu}{n:List Bool}{z:Bool}{w1:J}{o:Obj}(h:Ne B g v n w)(m:w1.ownsRow B 4 1 v' (N n+1) (Bs n++[G z]))(b:(w.alloc o).grownBy w1 v.ownBlock)(p:v'.ownBlock=v.ownBlock\/v'.ownBlock=some (w.alloc o).heap.size):Ne B g v' (n++[z]) (w1.setCell ⟨g,0,none⟩ v')/\Bw B w (w1.setCell ⟨g,0,none⟩ v')/\w1.cell? ⟨g,0,none⟩=some v/\w1.frozen? ⟨g,0,none⟩=false:=by
 have lt:=h.lt;have l:=b.size;simp only[Mx]at l;have d:w1.heap[g]?=w.heap[g]?:=by rw[b.block g (by simp;omega) (λe=>h.ne e.symm)];exact QN w o g lt
 have k:w1.cell? ⟨g,0,none⟩=some v:=(Kd d).trans h.cell;have f:w1.frozen? ⟨g,0,none⟩=false:=(Hn d).trans h.froz;have a:v'.ownBlock≠some g:=by
  rcases p with e|e
  . rw[e];exact h.ne
  rw[e];intro c;injection c with c;simp at c;omega
 refine⟨⟨QS k,by rw[Kb];exact f,?_,a,h.ge,by simp;omega⟩,?_,k,f⟩
 . (have:w1.ownsRow B 4 1 v' (n++[z]).length (Bs (n++[z])):=by simpa using m);exact Jh this a
 refine Below.setCell ?_ h.ge _;refine(Below.alloc (Below.refl B w) (by have:=h.ge;omega) o).grown b (by have:=h.ge;simp;omega) (λj hj=>(h.own.lt j hj).1)
theorem step_push (B g:Nat)(v:Vu)(n:List Bool)(op:Int)(w:J)(h:Ne B g v n w)(hn:n≠[])(L:N n<=4194304)(t:op=2\/op=3\/op=4):Ec Q 244 #[Yp (some ⟨g,0,none⟩),U O op] w λe w'=>∃r,e=Z (G true)/\Ne B g r (n++[op==4]) w'/\Bw B w w':=by
 obtain⟨s,u,p,m,l⟩:=info_parts info4;have D:0<N n:=List.length_pos_iff.2 hn;obtain⟨a,c,rfl⟩:=QH h.own;have y:=h.cell;have own:=h.own;have lt:=h.lt;have M:=h.ge;have q:=Hm h;have H:=Hm (Gj a (N n) c);have hd:decide (N n=0)=false:=by simp;omega
 rw[hd]at H;clear h hd;have I:IntKind.i64.wrap ((N n:Int)-1)=(N n:Int)-1:=by rw[Kz];omega
 rcases t with rfl|rfl|rfl
 . go_enter func244,ntmps244;(go_wp2_with (first|(refine(H.o _).mono ?_;rintro e A ⟨rfl,rfl⟩)|(at_builtin;refine wpList_append_own_at _ rfl _ _ 336 rfl B 4 s (G false) 1 1 underlying336 u p m l rfl (by decide) _ _ _ rfl (own.alloc _) ⟨w.heap.size,0,none⟩ 1 1 [G false] rfl rfl (cell_one_new _ _ _) (oneV _) (by unfold maxLen;omega) (by omega) (by simp;omega) ?_;intro r z b d k j;have f:=Hm (q.o.pushed b d j);have F:=f.o.2.2.1;have E:=f.o.2.2.2;obtain⟨va,C,rfl⟩:=QH b;clear b d k j own y q)));go_ret;exact⟨_,rfl,f.o.1,f.o.2.1⟩
 . go_enter func244,ntmps244;(go_wp2_with (first|(refine(H.o _).mono ?_;rintro e A ⟨rfl,rfl⟩)|(at_builtin;refine wpList_append_own_at _ rfl _ _ 336 rfl B 4 s (G false) 1 1 underlying336 u p m l rfl (by decide) _ _ _ rfl (own.alloc _) ⟨w.heap.size,0,none⟩ 1 1 [G false] rfl rfl (cell_one_new _ _ _) (oneV _) (by unfold maxLen;omega) (by omega) (by simp;omega) ?_;intro r z b d k j;have f:=Hm (q.o.pushed b d j);have F:=f.o.2.2.1;have E:=f.o.2.2.2;obtain⟨va,C,rfl⟩:=QH b;clear b d k j own y q)));go_ret;exact⟨_,rfl,f.o.1,f.o.2.1⟩
 go_enter func244,ntmps244;go_wp2_with (first|(refine(H.o _).mono ?_;rintro e A ⟨rfl,rfl⟩)|(at_builtin;refine wpList_append_own_at _ rfl _ _ 336 rfl B 4 s (G false) 1 1 underlying336 u p m l rfl (by decide) _ _ _ rfl (own.alloc _) ⟨w.heap.size,0,none⟩ 1 1 [G true] rfl rfl (cell_one_new _ _ _) (oneV _) (by unfold maxLen;omega) (by omega) (by simp;omega) ?_;intro r z b d k j;have f:=Hm (q.o.pushed b d j);have F:=f.o.2.2.1;have E:=f.o.2.2.2;obtain⟨va,C,rfl⟩:=QH b;clear b d k j own y q))
 go_ret;exact⟨_,rfl,f.o.1,f.o.2.1⟩
theorem ne_facts {z:Bool}(h:Ne B g v (m++[z]) w):∃r cap,v=S (some ⟨r,0,none⟩) (N m+1) cap/\B<=r/\r<w.heap.size/\N m+1<=cap/\r≠g/\w.cell? ⟨r,N m,none⟩=some (G z)/\w.frozen? ⟨r,N m,none⟩=false/\w.cell? ⟨g,0,none⟩=some (S (some ⟨r,0,none⟩) (N m+1) cap)/\w.frozen? ⟨g,0,none⟩=false /\ w.ownsRow B 4 1 (S (some ⟨r,0,none⟩) (N m+1) cap) (N m+1) (Bs (m++[z])):=by
 have own:=h.own;rw[show(m++[z]).length=N m+1 by simp]at own;obtain⟨r,cap,rfl,c,b,a⟩:=Gn own (by omega);refine⟨r,cap,rfl,c,b,a,λe=>h.ne (by simp[Tg,e]),?_,own.frozenAt _,h.cell,h.froz,own⟩;rw[own.cellAt (N m) (by omega)];simp
theorem Ne.set {z:Bool}{r cap:Nat}(h:Ne B g v (m++[z]) w)(hv:v=S (some ⟨r,0,none⟩) (N m+1) cap)(b:r≠g)(hr:B<=r)(a:Bool):Ne B g v (m++[a]) (w.setCell ⟨r,N m,none⟩ (G a))/\Bw B w (w.setCell ⟨r,N m,none⟩ (G a)):=by
 subst hv;have own:=h.own;rw[show(m++[z]).length=N m+1 by simp]at own;obtain⟨c,_⟩:=own.stored (N m) (G a);refine⟨⟨?_,by rw[Kb];exact h.froz,?_,h.ne,h.ge,by simpa using h.lt⟩,bFz.setCell hr _⟩
 . rw[Kg _ _ _ _ (λe=>b (congrArg Addr.block e))];exact h.cell
 have e:(Bs (m++[z])).set (N m) (G a)=Bs (m++[a]):=by simp only[Bs,Tf,Hp,Lm];rw[Lv _ _ (by simp)];simp
 rw[e]at c;rw[show(m++[a]).length=N m+1 by simp];exact c
theorem Ne.drop {z:Bool}{r cap:Nat}(h:Ne B g v (m++[z]) w)(hv:v=S (some ⟨r,0,none⟩) (N m+1) cap)(b:r≠g)(hr:B<=r):Ne B g (S (some ⟨r,0,none⟩) (N m) cap) m (w.setCell ⟨g,0,none⟩ (S (some ⟨r,0,none⟩) (N m) cap))/\Bw B w (w.setCell ⟨g,0,none⟩ (S (some ⟨r,0,none⟩) (N m) cap)):=by
 subst hv;have own:=h.own;rw[show(m++[z]).length=N m+1 by simp]at own;have c:=ownE_take own;have e:(Bs (m++[z])).take (N m)=Bs m:=by simp[Bs]
 rw[e]at c;have a:(Tv (some ⟨r,0,none⟩) (N m) cap).ownBlock≠some g:=λe=>b (by simpa[Tg]using e);exact⟨⟨QS h.cell,by rw[Kb];exact h.froz,Jh c a,a,h.ge,by simpa using h.lt⟩,bFz.setCell h.ge _⟩
theorem step_else (B g:Nat)(v:Vu)(m:List Bool)(z:Bool)(w:J)(h:Ne B g v (m++[z]) w)(k:N m<=4194304):Ec Q 244 #[Yp (some ⟨g,0,none⟩),U O 5] w λe w'=>e=Z (G z)/\(z=true->Ne B g v (m++[false]) w')/\Bw B w w':=by
 obtain⟨r,cap,c,f,t,s,d,q,p,n,l,own⟩:=ne_facts h;have a:=Hm (h.set c d f false);have H:=Hm (Gj (some ⟨r,0,none⟩) (N m+1) cap);have hd:decide (N m+1=0)=false:=by simp
 rw[hd]at H;clear h hd own;have j:IntKind.i64.wrap (((N m+1:Nat):Int)-1)=N m:=by rw[Kz];omega
 cases z
 . go_enter func244,ntmps244;(go_wp2_with (refine(H.o _).mono ?_;rintro e b ⟨rfl,rfl⟩));go_ret;exact⟨rfl,λh=>(by cases h),bFz⟩
 go_enter func244,ntmps244;go_wp2_with (refine(H.o _).mono ?_;rintro e b ⟨rfl,rfl⟩)
 go_ret;exact⟨rfl,λ_=>a.o.1,a.o.2⟩
theorem step_end (B g:Nat)(v:Vu)(m:List Bool)(z:Bool)(w:J)(h:Ne B g v (m++[z]) w)(l:N m<=4194304):Ec Q 244 #[Yp (some ⟨g,0,none⟩),U O 11] w λe w'=>∃v',e=Z (G true)/\Ne B g v' m w'/\Bw B w w':=by
 obtain⟨r,cap,b,d,u,t,c,s,q,p,n,own⟩:=ne_facts h;have a:=Hm (h.drop b c d);have H:=Hm (Gj (some ⟨r,0,none⟩) (N m+1) cap);have hd:decide (N m+1=0)=false:=by simp
 rw[hd]at H;clear h hd own;have k:IntKind.i64.wrap (((N m+1:Nat):Int)-1)=N m:=by rw[Kz];omega
 have j:(N m:Int)<=(cap:Int):=by omega
 go_enter func244,ntmps244;go_wp2_with (refine(H.o _).mono ?_;rintro e f ⟨rfl,rfl⟩)
 go_ret;exact⟨_,rfl,a.o.1,a.o.2⟩
theorem step_same (B g:Nat)(v:Vu)(n:List Bool)(op:Int)(w:J)(h:Ne B g v n w)(hn:n≠[])(y:N n<=4194304)(l:op≠2)(k:op≠3)(j:op≠4)(f:op≠5)(d:op≠11):Ec Q 244 #[Yp (some ⟨g,0,none⟩),U O op] w λe w'=>e=Z (G true)/\w=w':=by
 have b:0<N n:=List.length_pos_iff.2 hn;obtain⟨a,c,rfl⟩:=QH h.own;have z:=h.cell;have H:=Hm (Gj a (N n) c);have hd:decide (N n=0)=false:=by simp;omega
 rw[hd]at H;clear h hd;have u:IntKind.i64.wrap ((N n:Int)-1)=(N n:Int)-1:=by rw[Kz];omega
 have t:(op==2)=false:=by simpa using l
 have s:(op==3)=false:=by simpa using k
 have r:(op==4)=false:=by simpa using j
 have q:(op==5)=false:=by simpa using f
 have p:(op==11)=false:=by simpa using d
 go_enter func244,ntmps244;go_wp2_with (refine(H.o _).mono ?_;rintro e m ⟨rfl,rfl⟩)
 go_ret;exact⟨rfl,rfl⟩
theorem step_c (B g:Nat)(v:Vu)(n:List Bool)(op:Int)(w:J)(h:Ne B g v n w)(j:N n<=4194304):Ec Q 244 #[Yp (some ⟨g,0,none⟩),U O op] w λe w'=>∃v',e=Z (G (QB n op).isSome)/\(∀n',QB n op=some n'->Ne B g v' n' w')/\Bw B w w':=by
 by_cases d:n=[]
 . subst d;exact(step_nil B g v op w h).mono λe w' ⟨a,b⟩=>⟨v,a,λn' e=>by simp[QB]at e,b⟩
 have q:n.isEmpty=false:=by simpa using d
 by_cases p:op=2\/op=3
 . (have e:QB n op=some (n++[false]):=by simp[QB,d,p]);rw[e];(have r:(op==4)=false:=by rcases p with rfl|rfl<;>rfl);refine(step_push B g v n op w h d j (by omega)).mono λe w' ⟨v',a,b,c⟩=>⟨v',a,λn' e=>?_,c⟩;rw[r]at b;cases e;exact b
 by_cases o:op=4
 . subst o;(have e:QB n 4=some (n++[true]):=by simp[QB,d]);rw[e];exact(step_push B g v n 4 w h d j (by omega)).mono λe w' ⟨v',a,b,c⟩=>⟨v',a,λn' e=>by cases e;exact b,c⟩
 obtain⟨m,z,rfl⟩:∃m z,n=m++[z]:=⟨n.dropLast,n.getLast d,(List.dropLast_concat_getLast d).symm⟩;have f:N m<=4194304:=by simp at j;omega
 by_cases l:op=5
 . subst l;(have e:QB (m++[z]) 5=if z then some (m++[false])else none:=by cases z<;>simp[QB]);rw[e];refine(step_else B g v m z w h f).mono λe w' ⟨a,b,c⟩=>⟨v,?_,λn' e=>?_,c⟩
   . rw[a];cases z<;>rfl
   cases z
   . cases e
   cases e;exact b rfl
 by_cases k:op=11
 . subst k;(have e:QB (m++[z]) 11=some m:=by simp[QB]);rw[e];exact(step_end B g v m z w h f).mono λe w' ⟨v',a,b,c⟩=>⟨v',a,λn' e=>by cases e;exact b,c⟩
 have e:QB (m++[z]) op=some (m++[z]):=by simp only[QB,p,o,l,k,if_false];simp
 rw[e];refine(step_same B g v (m++[z]) op w h d j (by omega) (by omega) o l k).mono λe w' ⟨a,b⟩=>⟨v,a,λn' e=>?_,?_⟩
 . subst b;cases e;exact h
 subst b;exact bFz
structure NX (w:J)(B:Nat)(kv:Vu)(dn bd:Bool)(ks:List Int)(W:J):Prop where
 b0:W.cell? ⟨w.heap.size,0,none⟩=some kv
 b1:W.cell? ⟨w.heap.size,1,none⟩=some (G dn)
 b2:W.cell? ⟨w.heap.size,2,none⟩=some (G bd)
 bf:∀i,W.frozen? ⟨w.heap.size,i,none⟩=false
 r0:W.cell? ⟨w.heap.size+1,0,none⟩=some (S none 0 0)
 r1:W.cell? ⟨w.heap.size+1,1,none⟩=some (G false)
 r2:W.cell? ⟨w.heap.size+1,2,none⟩=some (G false)
 rf:∀i,W.frozen? ⟨w.heap.size+1,i,none⟩=false
 own:W.ownsRow B 2 1 kv (N ks) (I ks)
 n0:kv.ownBlock≠some w.heap.size
 n1:kv.ownBlock≠some (w.heap.size+1)
 bel:Bw B w W
 lt:w.heap.size+1<W.heap.size
theorem NX.start (h:w.ownsRow B 2 1 kv (N ks) (I ks))(c:B<=w.heap.size):NX w B kv dn bd ks ((w.alloc (Fc #[kv,G dn,G bd] 291)).alloc (Fc #[S none 0 0,G false,G false] 291)):=by
 have b:(w.alloc (Fc #[kv,G dn,G bd] 291)).heap.size=w.heap.size+1:=by simp
 have a:=own_lt h;refine⟨?_,?_,?_,λi=>?_,Qe b.symm rfl,Qe b.symm rfl,Qe b.symm rfl,λi=>?_,(h.alloc _).alloc _,λe=>?_,λe=>?_,?_,by simp⟩
 . rw[Lj _ _ _ (by simp)];exact Qe rfl rfl
 . rw[Lj _ _ _ (by simp)];exact Qe rfl rfl
 . rw[Lj _ _ _ (by simp)];exact Qe rfl rfl
 . rw[World.frozen?_alloc_old _ _ _ (by simp)];exact Tm _ _ _ _
 . rw[<- b];exact Tm _ _ _ _
 . have:=a _ e;omega
 . have:=a _ e;omega
 exact(bFz.alloc c _).alloc (by simp;omega) _
theorem NX.pushed {w1:J}{a:Vu}{z:Int}{o:Obj}(h:NX w B kv dn bd ks W)(r:B<=w.heap.size)(q:w1.ownsRow B 2 1 a (N ks+1) (I ks++[U O z]))(g:(W.alloc o).grownBy w1 kv.ownBlock)(l:a.ownBlock=kv.ownBlock\/a.ownBlock=some (W.alloc o).heap.size):NX w B a dn bd (ks++[z]) (w1.setCell ⟨w.heap.size,0,none⟩ a)/\(w1.cell? ⟨w.heap.size,0,none⟩=some kv/\w1.cell? ⟨w.heap.size,1,none⟩=some (G dn)/\w1.cell? ⟨w.heap.size,2,none⟩=some (G bd)/\∀i,w1.frozen? ⟨w.heap.size,i,none⟩=false)/\w1.cell? ⟨w.heap.size+1,0,none⟩=some (S none 0 0)/\w1.cell? ⟨w.heap.size+1,1,none⟩=some (G false)/\w1.cell? ⟨w.heap.size+1,2,none⟩=some (G false)/\∀i,w1.frozen? ⟨w.heap.size+1,i,none⟩=false:=by
 have lt:=h.lt;have p:=g.size;simp only[Mx]at p;have c:w1.heap[w.heap.size]?=W.heap[w.heap.size]?:=by rw[g.block _ (by simp;omega) (λe=>h.n0 e.symm)];exact QN W o _ (by omega)
 have b:w1.heap[w.heap.size+1]?=W.heap[w.heap.size+1]?:=by rw[g.block _ (by simp;omega) (λe=>h.n1 e.symm)];exact QN W o _ lt
 have m:w1.cell? ⟨w.heap.size,0,none⟩=some kv:=(Kd c).trans h.b0;have k:a.ownBlock≠some w.heap.size:=by
  rcases l with e|e
  . rw[e];exact h.n0
  rw[e];intro f;injection f with f;simp at f;omega
 have n:a.ownBlock≠some (w.heap.size+1):=by
  rcases l with e|e
  . rw[e];exact h.n1
  rw[e];intro f;injection f with f;simp at f;omega
 have d:∀i,(⟨w.heap.size,0,none⟩:Ad)≠⟨w.heap.size+1,i,none⟩:=λi e=>by have:=congrArg Addr.block e;simp at this
 refine⟨⟨QS m,QE ((Kd c).trans h.b1) (by omega),QE ((Kd c).trans h.b2) (by omega),λi=>?_,?_,?_,?_,λi=>?_,?_,k,n,?_,by simp;omega⟩,⟨m,(Kd c).trans h.b1,(Kd c).trans h.b2,λi=>(Hn c).trans (h.bf i)⟩,(Kd b).trans h.r0,(Kd b).trans h.r1,(Kd b).trans h.r2,λi=>(Hn b).trans (h.rf i)⟩
 . rw[Kb];exact(Hn c).trans (h.bf i)
 . rw[Kg _ _ _ _ (d 0)];exact(Kd b).trans h.r0
 . rw[Kg _ _ _ _ (d 1)];exact(Kd b).trans h.r1
 . rw[Kg _ _ _ _ (d 2)];exact(Kd b).trans h.r2
 . rw[Kb];exact(Hn b).trans (h.rf i)
 . (have:w1.ownsRow B 2 1 a (ks++[z]).length (I (ks++[z])):=by simpa using q);exact Jh this k
 refine Below.setCell ?_ r _;exact(h.bel.alloc (by omega) o).grown g (by simp;omega) (λj hj=>(h.own.lt j hj).1)
theorem NX.set {r cap:Nat}{m:List Int}{z:Int}(h:NX w B (S (some ⟨r,0,none⟩) (N m+1) cap) dn bd (m++[z]) W)(hr:B<=r)(a:Int):NX w B (S (some ⟨r,0,none⟩) (N m+1) cap) dn bd (m++[a]) (W.setCell ⟨r,N m,none⟩ (U O a)):=by
 have own:=h.own;rw[show(m++[z]).length=N m+1 by simp]at own;obtain⟨d,_⟩:=own.stored (N m) (U O a);have e:(I (m++[z])).set (N m) (U O a)=I (m++[a]):=by simp only[I,Tf,Hp,Lm];rw[Lv _ _ (by simp)];simp
 rw[e]at d;have g:r≠w.heap.size:=λe=>h.n0 (by simp[Tg,e]);have f:r≠w.heap.size+1:=λe=>h.n1 (by simp[Tg,e]);have c:∀i,(⟨r,N m,none⟩:Ad)≠⟨w.heap.size,i,none⟩:=λi e=>g (congrArg Addr.block e);have b:∀i,(⟨r,N m,none⟩:Ad)≠⟨w.heap.size+1,i,none⟩:=λi e=>f (congrArg Addr.block e);refine⟨?_,?_,?_,λi=>by rw[Kb];exact h.bf i,?_,?_,?_,λi=>by rw[Kb];exact h.rf i,by rw[show(m++[a]).length=N m+1 by simp];exact d,h.n0,h.n1,h.bel.setCell hr _,by simpa using h.lt⟩
 . rw[Kg _ _ _ _ (c 0)];exact h.b0
 . rw[Kg _ _ _ _ (c 1)];exact h.b1
 . rw[Kg _ _ _ _ (c 2)];exact h.b2
 . rw[Kg _ _ _ _ (b 0)];exact h.r0
 . rw[Kg _ _ _ _ (b 1)];exact h.r1
 rw[Kg _ _ _ _ (b 2)];exact h.r2
theorem NX.drop {r cap:Nat}{m:List Int}{z:Int}(h:NX w B (S (some ⟨r,0,none⟩) (N m+1) cap) dn bd (m++[z]) W)(d:B<=w.heap.size):NX w B (S (some ⟨r,0,none⟩) (N m) cap) dn bd m (W.setCell ⟨w.heap.size,0,none⟩ (S (some ⟨r,0,none⟩) (N m) cap)):=by
 have own:=h.own;rw[show(m++[z]).length=N m+1 by simp]at own;have b:=ownE_take own;have e:(I (m++[z])).take (N m)=I m:=by simp[I]
 rw[e]at b;have c:(Tv (some ⟨r,0,none⟩) (N m) cap).ownBlock≠some w.heap.size:=λe=>h.n0 (by simpa[Tg]using e);have f:(Tv (some ⟨r,0,none⟩) (N m) cap).ownBlock≠some (w.heap.size+1):=λe=>h.n1 (by simpa[Tg]using e);have a:∀i,(⟨w.heap.size,0,none⟩:Ad)≠⟨w.heap.size+1,i,none⟩:=λi e=>by have:=congrArg Addr.block e;simp at this
 refine⟨QS h.b0,QE h.b1 (by omega),QE h.b2 (by omega),λi=>by rw[Kb];exact h.bf i,?_,?_,?_,λi=>by rw[Kb];exact h.rf i,Jh b c,c,f,h.bel.setCell d _,by simpa using h.lt⟩
 . rw[Kg _ _ _ _ (a 0)];exact h.r0
 . rw[Kg _ _ _ _ (a 1)];exact h.r1
 rw[Kg _ _ _ _ (a 2)];exact h.r2
theorem NX.fin {x y z:Vu}(h:NX w B kv dn bd ks W)(a:B<=w.heap.size) :
    (((W.setCell ⟨w.heap.size+1,0,none⟩ x).setCell ⟨w.heap.size+1,1,none⟩ y).setCell ⟨w.heap.size+1,2,none⟩ z).ownsRow B 2 1 kv (N ks) (I ks)/\Bw B w (((W.setCell ⟨w.heap.size+1,0,none⟩ x).setCell ⟨w.heap.size+1,1,none⟩ y).setCell ⟨w.heap.size+1,2,none⟩ z) :=
 ⟨Jh (Jh (Jh h.own h.n1) h.n1) h.n1,((h.bel.setCell (by show B<=w.heap.size+1;omega) _).setCell (by show B<=w.heap.size+1;omega) _).setCell (by show B<=w.heap.size+1;omega) _⟩
theorem NX.flag (h:NX w B kv dn bd ks W)(b:B<=w.heap.size)(z:Bool):NX w B kv z bd ks (W.setCell ⟨w.heap.size,1,none⟩ (G z))/\NX w B kv dn z ks (W.setCell ⟨w.heap.size,2,none⟩ (G z)):=by
 have a:∀j i,(⟨w.heap.size,j,none⟩:Ad)≠⟨w.heap.size+1,i,none⟩:=λj i e=>by have:=congrArg Addr.block e;simp at this
 constructor
 . refine⟨QE h.b0 (by omega),QS h.b1,QE h.b2 (by omega),λi=>by rw[Kb];exact h.bf i,?_,?_,?_,λi=>by rw[Kb];exact h.rf i,Jh h.own h.n0,h.n0,h.n1,h.bel.setCell b _,by simpa using h.lt⟩
   . rw[Kg _ _ _ _ (a 1 0)];exact h.r0
   . rw[Kg _ _ _ _ (a 1 1)];exact h.r1
   rw[Kg _ _ _ _ (a 1 2)];exact h.r2
 refine⟨QE h.b0 (by omega),QE h.b1 (by omega),QS h.b2,λi=>by rw[Kb];exact h.bf i,?_,?_,?_,λi=>by rw[Kb];exact h.rf i,Jh h.own h.n0,h.n0,h.n1,h.bel.setCell b _,by simpa using h.lt⟩
 . rw[Kg _ _ _ _ (a 2 0)];exact h.r0
 . rw[Kg _ _ _ _ (a 2 1)];exact h.r1
 rw[Kg _ _ _ _ (a 2 2)];exact h.r2
theorem Qj {P:Program}{c:Code}{b:Exit->Act->J->Prop}{a:Act}(R:J->Prop)(h:R w)(k:∀w',R w'->Code.wp P c b a w'):Code.wp P c b a w:=k w h
theorem oneJ (b:Int):∀u∈[Value.int O b],u.oneCell'=true:=by
 intro u a;simp at a;subst a;rfl
abbrev opV (kv:Vu)(dn bd:Bool):Vu:=Ag #[kv,G dn,G bd]
theorem next_done (B:Nat)(kv:Vu)(ks:List Int)(op:Int)(w:J)(d:B<=w.heap.size)(h:w.ownsRow B 2 1 kv (N ks) (I ks)):Ec Q 188 #[opV kv true false,U O op] w λe w'=>∃va vn vc,e=Z (opV (S va vn vc) true true)/\Bw B w w':=by
 obtain⟨a,c,rfl⟩:=QH h;have f:=Hm (NX.start (dn:=true) (bd:=false) h d);clear h;go_enter func188,ntmps188;go_upto_region 1 with fail
 refine Qj (λW=>NX w B (S a (N ks) c) true false ks W) f.o ?_;rintro W b;clear f;have b0:=b.b0;have q:=b.b1;have p:=b.b2;have n:=b.bf;have k:=b.r0;have j:=b.r1;have g:=b.r2;have m:=b.rf;have l:=Hm b;clear b;go_wp2;exact bodyPost_ret (v:=opV (S a (N ks) c) true true) (by simp[results,results188,go_sem,k,j,g]) rfl ⟨_,_,_,rfl,((l.o.flag d true).2.fin d).2⟩
theorem next_x:(∀(B:Nat) (kv:Vu) (ks:List Int) (w:J) (l:B<=w.heap.size) (s:N ks<=4194304) (h:w.ownsRow B 2 1 kv (N ks) (I ks)),Ec Q 188 #[opV kv false false,U O 2] w λe w'=>∃kv',e=Z (opV kv' false false)/\w'.ownsRow B 2 1 kv' (ks++[0]).length (I (ks++[0]))/\Bw B w w')/\(∀(B:Nat) (kv:Vu) (ks:List Int) (w:J) (l:B<=w.heap.size) (s:N ks<=4194304) (h:w.ownsRow B 2 1 kv (N ks) (I ks)),Ec Q 188 #[opV kv false false,U O 3] w λe w'=>∃kv',e=Z (opV kv' false false)/\w'.ownsRow B 2 1 kv' (ks++[0]).length (I (ks++[0]))/\Bw B w w')/\(∀(B:Nat) (kv:Vu) (ks:List Int) (w:J) (l:B<=w.heap.size) (s:N ks<=4194304) (h:w.ownsRow B 2 1 kv (N ks) (I ks)),Ec Q 188 #[opV kv false false,U O 4] w λe w'=>∃kv',e=Z (opV kv' false false)/\w'.ownsRow B 2 1 kv' (ks++[1]).length (I (ks++[1]))/\Bw B w w'):=by
 refine⟨?c0,?c1,?c2⟩;case' c0=>have ab:=0
 case' c1=>have aa:=0
 case' c2=>have m:=0
 all_goals
  intro B kv ks w l s h
  obtain⟨F,H,q,p,n⟩:=info_parts info2;obtain⟨a,c,rfl⟩:=QH h;have V:=Hm (NX.start (dn:=false) (bd:=false) h l);clear h
  go_enter func188,ntmps188
  go_upto_region 1 with fail
  refine Qj (λW=>NX w B (S a (N ks) c) false false ks W) V.o ?_
  rintro W g;clear V;have b0:=g.b0;have R:=g.b1;have M:=g.b2;have L:=g.bf;have E:=g.r0;have D:=g.r1;have C:=g.r2;have A:=g.rf;have lt:=g.lt;have own:=g.own;have r:=Hm g;clear g;have q1:w.heap.size≠w.heap.size+1:=by omega
  first|(replace m:=m;go_wp2_with (at_builtin;refine wpList_append_own_at _ rfl _ _ 24 rfl B 2 F (U O 0) 1 8 underlying24 H q p n rfl (by decide) _ _ _ rfl (own.alloc _) ⟨W.heap.size,0,none⟩ 1 1 [U O 1] rfl rfl (cell_one_new _ _ _) (oneJ _) (by unfold maxLen;omega) (by omega) (by simp;omega) ?_;intro Y X b d k f;have j:=Hm (r.o.pushed l b d f);obtain⟨⟨p0,p1,p2,pf⟩,z,y,u,sf⟩:=j.o.2;obtain⟨va,t,rfl⟩:=QH b;clear b d k f own b0 R M E D C L A r))|(go_wp2_with (at_builtin;refine wpList_append_own_at _ rfl _ _ 24 rfl B 2 F (U O 0) 1 8 underlying24 H q p n rfl (by decide) _ _ _ rfl (own.alloc _) ⟨W.heap.size,0,none⟩ 1 1 [U O 0] rfl rfl (cell_one_new _ _ _) (oneJ _) (by unfold maxLen;omega) (by omega) (by simp;omega) ?_;intro Y X b d k f;have j:=Hm (r.o.pushed l b d f);obtain⟨⟨p0,p1,p2,pf⟩,z,y,u,sf⟩:=j.o.2;obtain⟨va,t,rfl⟩:=QH b;clear b d k f own b0 R M E D C L A r))
  exact bodyPost_ret (v:=opV (S va (N ks+1) t) false false) (by simp[results,results188,go_sem,z,y,u,q1]) rfl ⟨_,rfl,j.o.1.fin l⟩
def next_2:=next_x.1
def next_3:=next_x.2.1
def next_4:=next_x.2.2
theorem next_5n (B:Nat)(kv:Vu)(w:J)(d:B<=w.heap.size)(h:w.ownsRow B 2 1 kv ([]:List Int).length (I [])):Ec Q 188 #[opV kv false false,U O 5] w λe w'=>∃va vn vc,e=Z (opV (S va vn vc) false true)/\Bw B w w':=by
 obtain⟨a,c,rfl⟩:=QH h;have f:=Hm (NX.start (dn:=false) (bd:=false) h d);clear h;go_enter func188,ntmps188;go_upto_region 1 with fail
 refine Qj (λW=>NX w B (S a ([]:List Int).length c) false false [] W) f.o ?_;rintro W b;clear f;have b0:=b.b0;have r:=b.b1;have q:=b.b2;have p:=b.bf;have k:=b.r0;have j:=b.r1;have g:=b.r2;have n:=b.rf;have m:=Hm b;clear b;have l:w.heap.size≠w.heap.size+1:=by omega
 go_wp2;exact bodyPost_ret (v:=opV (S a 0 c) false true) (by simp[results,results188,go_sem,k,j,g,l]) rfl ⟨_,_,_,rfl,((m.o.flag d true).2.fin d).2⟩
theorem next_11n (B:Nat)(kv:Vu)(w:J)(d:B<=w.heap.size)(h:w.ownsRow B 2 1 kv ([]:List Int).length (I [])):Ec Q 188 #[opV kv false false,U O 11] w λe w'=>∃kv',e=Z (opV kv' true false)/\w'.ownsRow B 2 1 kv' ([]:List Int).length (I [])/\Bw B w w':=by
 obtain⟨a,c,rfl⟩:=QH h;have f:=Hm (NX.start (dn:=false) (bd:=false) h d);clear h;go_enter func188,ntmps188;go_upto_region 1 with fail
 refine Qj (λW=>NX w B (S a ([]:List Int).length c) false false [] W) f.o ?_;rintro W b;clear f;have b0:=b.b0;have r:=b.b1;have q:=b.b2;have p:=b.bf;have k:=b.r0;have j:=b.r1;have g:=b.r2;have n:=b.rf;have m:=Hm b;clear b;have l:w.heap.size≠w.heap.size+1:=by omega
 go_wp2;exact bodyPost_ret (v:=opV (S a 0 c) true false) (by simp[results,results188,go_sem,k,j,g,l]) rfl ⟨_,rfl,((m.o.flag d true).1.fin d)⟩
theorem next_5z (B:Nat)(kv:Vu)(m:List Int)(z:Int)(w:J)(c:B<=w.heap.size)(C:N m<=4194304)(p:z=0)(h:w.ownsRow B 2 1 kv (m++[z]).length (I (m++[z]))):Ec Q 188 #[opV kv false false,U O 5] w λe w'=>∃va vn vc,e=Z (opV (S va vn vc) false true)/\Bw B w w':=by
 rw[show(m++[z]).length=N m+1 by simp]at h;obtain⟨r,cap,rfl,A,q,d⟩:=Gn h (by omega);have f:w.ownsRow B 2 1 (S (some ⟨r,0,none⟩) (N m+1) cap) (m++[z]).length (I (m++[z])):=by rw[show(m++[z]).length=N m+1 by simp];exact h
 have g:=Hm (NX.start (dn:=false) (bd:=false) f c);clear h f;go_enter func188,ntmps188;go_upto_region 1 with fail
 refine Qj (λW=>NX w B (S (some ⟨r,0,none⟩) (N m+1) cap) false false (m++[z]) W) g.o ?_;rintro W b;clear g;have b0:=b.b0;have H:=b.b1;have F:=b.b2;have E:=b.bf;have l:=b.r0;have k:=b.r1;have j:=b.r2;have t:=b.rf;have own:=b.own;have s:=Hm b;clear b;have a:=own;rw[show(m++[z]).length=N m+1 by simp]at a;have D:W.cell? ⟨r,N m,none⟩=some (U O z):=by rw[a.cellAt (N m) (by omega)];simp
 clear a;have y:IntKind.i64.wrap (((N m+1:Nat):Int)-1)=N m:=by rw[Kz];omega
 have u:(N m:Int)<((N m+1:Nat):Int):=by omega
 have n:w.heap.size≠w.heap.size+1:=by omega
 clear own;subst p;go_wp2;exact bodyPost_ret (v:=opV (S (some ⟨r,0,none⟩) (N m+1) cap) false true) (by simp[results,results188,go_sem,l,k,j,n]) rfl ⟨_,_,_,rfl,((s.o.flag c true).2.fin c).2⟩
theorem next_5 (B:Nat)(kv:Vu)(m:List Int)(z:Int)(w:J)(f:B<=w.heap.size)(F:N m<=4194304)(u:z≠0)(h:w.ownsRow B 2 1 kv (m++[z]).length (I (m++[z]))):Ec Q 188 #[opV kv false false,U O 5] w λe w'=>∃kv',e=Z (opV kv' false false)/\w'.ownsRow B 2 1 kv' (m++[0]).length (I (m++[0]))/\Bw B w w':=by
 rw[show(m++[z]).length=N m+1 by simp]at h;obtain⟨r,cap,rfl,A,y,d⟩:=Gn h (by omega);have g:w.ownsRow B 2 1 (S (some ⟨r,0,none⟩) (N m+1) cap) (m++[z]).length (I (m++[z])):=by rw[show(m++[z]).length=N m+1 by simp];exact h
 have j:=Hm (NX.start (dn:=false) (bd:=false) g f);clear h g;go_enter func188,ntmps188;go_upto_region 1 with fail
 refine Qj (λW=>NX w B (S (some ⟨r,0,none⟩) (N m+1) cap) false false (m++[z]) W) j.o ?_;rintro W b;clear j;have b0:=b.b0;have R:=b.b1;have M:=b.b2;have n:=b.r0;have l:=b.r1;have k:=b.r2;have C:=b.rf;have own:=b.own;have c:=Hm b;clear b;have a:=own;rw[show(m++[z]).length=N m+1 by simp]at a;have L:W.cell? ⟨r,N m,none⟩=some (U O z):=by rw[a.cellAt (N m) (by omega)];simp
 have H:=a.frozenAt (N m);clear a;have E:IntKind.i64.wrap (((N m+1:Nat):Int)-1)=N m:=by rw[Kz];omega
 have D:(N m:Int)<((N m+1:Nat):Int):=by omega
 have s:w.heap.size≠w.heap.size+1:=by omega
 have q:r≠w.heap.size:=λe=>c.o.n0 (by simp[Tg,e]);have p:r≠w.heap.size+1:=λe=>c.o.n1 (by simp[Tg,e]);clear own;have t:(z==0)=false:=by simpa using u
 go_wp2;exact bodyPost_ret (v:=opV (S (some ⟨r,0,none⟩) (N m+1) cap) false false) (by simp[results,results188,go_sem,n,l,k,s,q,p]) rfl ⟨_,rfl,(c.o.set A 0).fin f⟩
theorem next_11 (B:Nat)(kv:Vu)(m:List Int)(z:Int)(w:J)(c:B<=w.heap.size)(D:N m<=4194304)(h:w.ownsRow B 2 1 kv (m++[z]).length (I (m++[z]))):Ec Q 188 #[opV kv false false,U O 11] w λe w'=>∃kv',e=Z (opV kv' false false)/\w'.ownsRow B 2 1 kv' (N m) (I m)/\Bw B w w':=by
 rw[show(m++[z]).length=N m+1 by simp]at h;obtain⟨r,cap,rfl,C,t,f⟩:=Gn h (by omega);have g:w.ownsRow B 2 1 (S (some ⟨r,0,none⟩) (N m+1) cap) (m++[z]).length (I (m++[z])):=by rw[show(m++[z]).length=N m+1 by simp];exact h
 have j:=Hm (NX.start (dn:=false) (bd:=false) g c);clear h g;go_enter func188,ntmps188;go_upto_region 1 with fail
 refine Qj (λW=>NX w B (S (some ⟨r,0,none⟩) (N m+1) cap) false false (m++[z]) W) j.o ?_;rintro W b;clear j;have b0:=b.b0;have L:=b.b1;have H:=b.b2;have F:=b.bf;have n:=b.r0;have l:=b.r1;have k:=b.r2;have u:=b.rf;have own:=b.own;have d:=Hm b;clear b;have a:=own;rw[show(m++[z]).length=N m+1 by simp]at a;have E:W.cell? ⟨r,N m,none⟩=some (U O z):=by rw[a.cellAt (N m) (by omega)];simp
 clear a;have A:IntKind.i64.wrap (((N m+1:Nat):Int)-1)=N m:=by rw[Kz];omega
 have y:(N m:Int)<=(cap:Int):=by omega
 have s:w.heap.size≠w.heap.size+1:=by omega
 have q:r≠w.heap.size:=λe=>d.o.n0 (by simp[Tg,e]);have p:r≠w.heap.size+1:=λe=>d.o.n1 (by simp[Tg,e]);clear own;go_wp2;exact bodyPost_ret (v:=opV (S (some ⟨r,0,none⟩) (N m) cap) false false) (by simp[results,results188,go_sem,n,l,k,s,q,p]) rfl ⟨_,rfl,(d.o.drop c).fin c⟩
theorem next_same (B:Nat)(kv:Vu)(ks:List Int)(op:Int)(w:J)(d:B<=w.heap.size)(r:op≠2)(q:op≠3)(p:op≠4)(n:op≠5)(m:op≠11)(h:w.ownsRow B 2 1 kv (N ks) (I ks)):Ec Q 188 #[opV kv false false,U O op] w λe w'=>∃kv',e=Z (opV kv' false false)/\w'.ownsRow B 2 1 kv' (N ks) (I ks)/\Bw B w w':=by
 obtain⟨a,c,rfl⟩:=QH h;have f:=Hm (NX.start (dn:=false) (bd:=false) h d);clear h;go_enter func188,ntmps188;go_upto_region 1 with fail
 refine Qj (λW=>NX w B (S a (N ks) c) false false ks W) f.o ?_;rintro W b;clear f;have b0:=b.b0;have E:=b.b1;have D:=b.b2;have k:=b.r0;have j:=b.r1;have g:=b.r2;have t:=b.rf;have s:=Hm b;clear b;have l:w.heap.size≠w.heap.size+1:=by omega
 have C:(op==2)=false:=by simpa using r
 have A:(op==3)=false:=by simpa using q
 have z:(op==4)=false:=by simpa using p
 have y:(op==5)=false:=by simpa using n
 have u:(op==11)=false:=by simpa using m
 go_wp2;exact bodyPost_ret (v:=opV (S a (N ks) c) false false) (by simp[results,results188,go_sem,k,j,g,l]) rfl ⟨_,rfl,s.o.fin d⟩
structure Qb where
 e:Nat
 sz:Nat
 n:Nat
 v:Vu
 cs:List Vu
variable {rs a b:List Qb}{r:Qb}
def Qb.Ok (B:Nat)(W:J)(r:Qb):Prop:=W.ownsRow B r.e r.sz r.v r.n r.cs
def blk (rs:List Qb):List Nat:=rs.filterMap (·.v.ownBlock)
structure Own (B:Nat)(W:J)(rs:List Qb):Prop where
 all:∀r∈rs,r.Ok B W
 nd:(blk rs).Nodup
theorem blk_app (a b:List Qb):blk (a++b)=blk a++blk b:=by simp[blk]
theorem Jy:k∈blk rs ↔ ∃r∈rs,r.v.ownBlock=some k:=by simp[blk]
theorem Own.lt {B W rs}(h:Own B W rs)(b:k∈blk rs):B<=k/\k<W.heap.size:=by
 obtain⟨r,a,e⟩:=Jy.1 b;exact World.ownsRow.lt (h.all r a) k e
theorem Own.nil (B:Nat)(W:J):Own B W []:=⟨λr hr=>(by cases hr),by simp[blk]⟩
theorem Qb.Ok.cq (h:r.Ok B W)(f:∀k,r.v.ownBlock=some k->W'.heap[k]?=W.heap[k]?):r.Ok B W':=by
 refine⟨h.1,?_⟩;rcases h.2 with l|⟨g,cap,a,b,j,d,c⟩
 . exact .inl l
 exact .inr ⟨g,cap,a,b,j,(f g (by rw[b];rfl)).trans d,c⟩
theorem Own.cq {B}{rs}(h:Own B W rs)(a:∀k,k∈blk rs->W'.heap[k]?=W.heap[k]?):Own B W' rs :=
 ⟨λr hr=>Qb.Ok.cq (h.all r hr) (λk hk=>a k (Jy.2 ⟨r,hr,hk⟩)),h.nd⟩
theorem Own.keep {B W W' rs}(h:Own B W rs)(a:Bw W.heap.size W W'):Own B W' rs:=h.cq (λk hk=>a.block k (h.lt hk).2)
theorem Own.grown {B}{rs}{r:Option Nat}(h:Own B W rs)(a:W.grownBy W' r)(hr:∀k,r=some k->k∉blk rs):Own B W' rs :=
 h.cq (λk hk=>a.block k (h.lt hk).2 (λe=>hr k e.symm hk))
theorem Own.mono {a:Nat}{W rs}(h:Own B W rs)(b:a<=B):Own a W rs:=⟨λr hr=>World.ownsRow.mono (h.all r hr) b,h.nd⟩
theorem Own.app {B W a b}(d:Own B W a)(c:Own B W b)(hd:∀k,k∈blk a->k∉blk b):Own B W (a++b):=by
 refine⟨λr hr=>?_,?_⟩
 . rcases List.mem_append.1 hr with h|h
   . exact d.all r h
   exact c.all r h
 rw[blk_app,Rg];exact⟨d.nd,c.nd,λx hx y hy e=>hd x hx (e ▸ hy)⟩
theorem Own.right {B W}(h:Own B W (a++b)):Own B W b :=
 ⟨λr hr=>h.all r (mR hr),by have:=h.nd;rw[blk_app,Rg]at this;exact this.2.1⟩
theorem Own.disj {B W}(h:Own B W (a++b))(c:k∈blk a):k∉blk b:=λhb=>by
 have:=h.nd
 rw[blk_app,Rg]at this
 exact this.2.2 k c k hb rfl
theorem Own.perm {B W}(h:Own B W a)(p:a.Perm b):Own B W b :=
 ⟨λr hr=>h.all r (p.mem_iff.2 hr),(p.filterMap _).nodup_iff.1 h.nd⟩
theorem Own.comm {B W}(h:Own B W (a++b)):Own B W (b++a):=h.perm List.perm_append_comm
theorem Own.new {B W W' a b}(f:Own B W a)(c:Own B W' a)(d:Own W.heap.size W' b)(g:B<=W.heap.size):Own B W' (a++b) :=
 c.app (d.mono g) (λk hk hk'=>by have:=(f.lt hk).2;have:=(d.lt hk').1;omega)
theorem Own.frame {B}{pre L L' post:List Qb}(h:Own B W (pre++L++post))(n:W.heap.size<=W'.heap.size)(g:∀k,k<W.heap.size->k∉blk L->k∈blk (pre++post)->W'.heap[k]?=W.heap[k]?)(m:Own B W' L')(l:∀k,k∈blk L'->k∈blk L\/W.heap.size<=k):Own B W' (pre++L'++post):=by
 have d:(pre++L++post).Perm (L++(pre++post)):=by rw[Kv];exact(Rw pre L post)
 have c:(L'++(pre++post)).Perm (pre++L'++post):=by rw[Kv];exact(Rw L' pre post)
 have a:=h.perm d;have f:Own B W' (pre++post):=a.right.cq (λk hk'=>g k (a.right.lt hk').2 (λb=>a.disj b hk') hk');refine(m.app f (λk hkL hkR=>?_)).perm c;rcases l k hkL with b|j
 . exact a.disj b hkR
 have:=(a.right.lt hkR).2;omega
theorem Own.one (h:r.Ok B W):Own B W [r]:=by
 refine⟨λx hx=>by simp at hx;subst hx;exact h,?_⟩;cases hv:r.v.ownBlock<;>simp[blk,hv]
theorem Own.head {B W}(h:Own B W (r::rs)):r.Ok B W:=h.all r (by simp)
theorem Own.tail {B W}(h:Own B W (r::rs)):Own B W rs:=Own.right (a:=[r]) h
theorem Own.push {B}{r':Qb}(h:Own B W (r::rs))(c:W.grownBy W' r.v.ownBlock)(d:r'.Ok B W')(a:r'.v.ownBlock=r.v.ownBlock\/r'.v.ownBlock=some W.heap.size):Own B W' (r'::rs):=by
 refine Own.frame (pre:=[]) (L:=[r]) (L':=[r']) (post:=rs) h c.size (λk hk hn _=>c.block k hk (λe=>hn (Jy.2 ⟨r,by simp,e.symm⟩))) (Own.one d) (λk hk=>?_);obtain⟨x,b,e⟩:=Jy.1 hk;simp at b;subst b;rcases a with a|a
 . exact .inl (Jy.2 ⟨r,by simp,by rw[<- a];exact e⟩)
 rw[a]at e;cases e;exact .inr lRz
