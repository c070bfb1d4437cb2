import Derived.Test.YtipfjdogokanbaaGreatDoorGaa
import Derived.Test.YtipfjdogokanbaaGreatDoorGat
import Derived.Test.YtipfjdogokanbaaGreatDoorGaf
import Derived.Deep.Cut
import Derived.Deep.RegionWith
import Derived.Deep.RegionHeld3
set_option linter.all false
set_option maxHeartbeats 400000000
set_option maxRecDepth 100000
set_option linter.all false
namespace Go.Proofs.YtipfjdogokanbaaGreatDoor.Ed
open Go.RowKit Go.Sort
end Go.Proofs.YtipfjdogokanbaaGreatDoor.Ed
namespace Go.Proofs.YtipfjdogokanbaaGreatDoor.Ed
open Go.RowKit Go.Sort
theorem wins_y (p:Nat)(S:Nat->Prop)(xs:List Int)(op a b v:Int)(l:List Int)(la:Option Addr)(lc:Nat)(w:World)(kk_:Int)(hk_:kk_=2\/kk_=4)(hf:Qd (Qb op)=kk_)(ha:0<=a)(ha1:a<=4294967295)(hl:xs.length<=500000000000)(hW:Wr w p S xs) :
    Calls Tryz.prog 19 #[.pointer (some ⟨p,0,none⟩),inV ⟨op,a,b,v,l⟩ la lc] w λe w'=>e=.returned (.tuple #[])/\Wr w' p S (xs++(op%256::QM (kk_) ⟨op,a,b,v,l⟩))/\Jh S w w':=by
 have HLT:=Hm hW.lt;have HF:=Hm (Qu op);rw [hf] at HF;have HBX:=Hm (Bx.box S w.heap.size);have HC:=Hm (C5.new (w:=w) (a:=.int .i64 op) (b:=.int .i64 a) (c:=.int .i64 b) (d:=.int .u64 v) (e:=.slice la l.length lc) (t:=26));have KO:=Hm (X0 p (Bx S w.heap.size) xs op (w.alloc (.cells #[.int .i64 op,.int .i64 a,.int .i64 b,.int .u64 v,.slice la l.length lc] 26)) (by omega) (wr_box hW _));clear hf hW
 go_enter Tryz.func19,Tryz.ntmps19
 go_wp2_with fail
 refine (KO.o).mono ?_
 rintro e w1 ⟨rfl,hw1,hk1⟩;obtain ⟨⟨c0,c1,c2,c3,c4⟩,cf⟩:=hk1.c5 HC.o HBX.o;have HC1:=Hm (hk1.c5 HC.o HBX.o);have HW1:=Hm hw1;have HK1:=Hm hk1;clear hw1 hk1 KO HC cf
 go_wp2_with fail
 refine (HF.o _).mono ?_
 rintro e w2 ⟨rfl,hb2⟩;obtain ⟨⟨d20,d21,d22,d23,d24⟩,df⟩:=HC1.o.keep hb2;have HC2:=Hm (HC1.o.keep hb2);have HW2:=Hm (HW1.o.keep hb2);have HK2:=Hm (HK1.o.wr HW1.o hb2);clear hb2 HF HC1 HW1 HK1 df c0 c1 c2 c3 c4
 rcases hk_ with rfl|rfl
 . have KN2:=Hm (wu32_c p (Bx S w.heap.size) (xs++[op%256]) a w2 ha (by omega) (by simp only [List.length_append,List.length_cons,List.length_nil];omega) HW2.o)
   go_wp2_with fail
   refine (KN2.o).mono ?_
   rintro e w3 ⟨rfl,hwn,hkn⟩;obtain ⟨⟨d30,d31,d32,d33,d34⟩,ef⟩:=hkn.c5 HC2.o HBX.o;have HW3:=Hm hwn;have HK3:=Hm (HK2.o.trans hkn);clear hwn hkn KN2 HC2 HW2 HK2 ef d20 d21 d22 d23 d24
   go_wp2_with fail
   go_end0
   obtain ⟨r1,r2⟩:=XC (xs:=xs++(op%256::QM (2) ⟨op,a,b,v,l⟩)) HLT.o HW3.o HK3.o (by simp [QM])
   exact ⟨rfl,r1,r2⟩
 . have KN2:=Hm (wu32_c p (Bx S w.heap.size) (xs++[op%256]) a w2 ha (by omega) (by simp only [List.length_append,List.length_cons,List.length_nil];omega) HW2.o)
   go_wp2_with fail
   refine (KN2.o).mono ?_
   rintro e w3 ⟨rfl,hwn,hkn⟩;obtain ⟨⟨d30,d31,d32,d33,d34⟩,ef⟩:=hkn.c5 HC2.o HBX.o;have HC3:=Hm (hkn.c5 HC2.o HBX.o);have HW3:=Hm hwn;have HK3:=Hm (HK2.o.trans hkn);clear hwn hkn KN2 HC2 HW2 HK2 ef d20 d21 d22 d23 d24;have KN3:=Hm (X0 p (Bx S w.heap.size) ((xs++[op%256])++QH 9 a) 0 w3 (by have:=(Jc 9 a).2;simp only [List.length_append,List.length_cons,List.length_nil];omega) HW3.o)
   go_wp2_with fail
   refine (KN3.o).mono ?_
   rintro e w4 ⟨rfl,hwn,hkn⟩;obtain ⟨⟨d40,d41,d42,d43,d44⟩,ef⟩:=hkn.c5 HC3.o HBX.o;have HW4:=Hm hwn;have HK4:=Hm (HK3.o.trans hkn);clear hwn hkn KN3 HC3 HW3 HK3 ef d30 d31 d32 d33 d34
   go_wp2_with fail
   go_end0
   obtain ⟨r1,r2⟩:=XC (xs:=xs++(op%256::QM (4) ⟨op,a,b,v,l⟩)) HLT.o HW4.o HK4.o (by simp [QM])
   exact ⟨rfl,r1,r2⟩
def wins_2:=λp S xs op a b v l la lc w hf ha ha1 hl hW=>wins_y p S xs op a b v l la lc w (2) (.inl rfl) hf ha ha1 hl hW
def wins_4:=λp S xs op a b v l la lc w hf ha ha1 hl hW=>wins_y p S xs op a b v l la lc w (4) (.inr (rfl)) hf ha ha1 hl hW
theorem wins_5 (p:Nat)(S:Nat->Prop)(xs:List Int)(op a b v:Int)(l:List Int)(la:Option Addr)(lc:Nat)(w:World)(hf:Qd (Qb op)=5)(ha:0<=a)(ha1:a<=4294967295)(hb:0<=b)(hb1:b<=4294967295)(hl:xs.length<=500000000000)(hW:Wr w p S xs) :
    Calls Tryz.prog 19 #[.pointer (some ⟨p,0,none⟩),inV ⟨op,a,b,v,l⟩ la lc] w λe w'=>e=.returned (.tuple #[])/\Wr w' p S (xs++(op%256::QM (5) ⟨op,a,b,v,l⟩))/\Jh S w w':=by
 have HLT:=Hm hW.lt;have HF:=Hm (Qu op);rw [hf] at HF;have HBX:=Hm (Bx.box S w.heap.size);have HC:=Hm (C5.new (w:=w) (a:=.int .i64 op) (b:=.int .i64 a) (c:=.int .i64 b) (d:=.int .u64 v) (e:=.slice la l.length lc) (t:=26));have KO:=Hm (X0 p (Bx S w.heap.size) xs op (w.alloc (.cells #[.int .i64 op,.int .i64 a,.int .i64 b,.int .u64 v,.slice la l.length lc] 26)) (by omega) (wr_box hW _));clear hf hW
 go_enter Tryz.func19,Tryz.ntmps19
 go_wp2_with fail
 refine (KO.o).mono ?_
 rintro e w1 ⟨rfl,hw1,hk1⟩;obtain ⟨⟨c0,c1,c2,c3,c4⟩,cf⟩:=hk1.c5 HC.o HBX.o;have HC1:=Hm (hk1.c5 HC.o HBX.o);have HW1:=Hm hw1;have HK1:=Hm hk1;clear hw1 hk1 KO HC cf
 go_wp2_with fail
 refine (HF.o _).mono ?_
 rintro e w2 ⟨rfl,hb2⟩;obtain ⟨⟨d20,d21,d22,d23,d24⟩,df⟩:=HC1.o.keep hb2;have HC2:=Hm (HC1.o.keep hb2);have HW2:=Hm (HW1.o.keep hb2);have HK2:=Hm (HK1.o.wr HW1.o hb2);clear hb2 HF HC1 HW1 HK1 df c0 c1 c2 c3 c4;have KN2:=Hm (wu32_c p (Bx S w.heap.size) (xs++[op%256]) a w2 ha (by omega) (by simp only [List.length_append,List.length_cons,List.length_nil];omega) HW2.o)
 go_wp2_with fail
 refine (KN2.o).mono ?_
 rintro e w3 ⟨rfl,hwn,hkn⟩;obtain ⟨⟨d30,d31,d32,d33,d34⟩,ef⟩:=hkn.c5 HC2.o HBX.o;have HC3:=Hm (hkn.c5 HC2.o HBX.o);have HW3:=Hm hwn;have HK3:=Hm (HK2.o.trans hkn);clear hwn hkn KN2 HC2 HW2 HK2 ef d20 d21 d22 d23 d24;have KN3:=Hm (wu32_c p (Bx S w.heap.size) ((xs++[op%256])++QH 9 a) b w3 hb (by omega) (by have:=(Jc 9 a).2;simp only [List.length_append,List.length_cons,List.length_nil];omega) HW3.o)
 go_wp2_with fail
 refine (KN3.o).mono ?_
 rintro e w4 ⟨rfl,hwn,hkn⟩;obtain ⟨⟨d40,d41,d42,d43,d44⟩,ef⟩:=hkn.c5 HC3.o HBX.o;have HW4:=Hm hwn;have HK4:=Hm (HK3.o.trans hkn);clear hwn hkn KN3 HC3 HW3 HK3 ef d30 d31 d32 d33 d34
 go_wp2_with fail
 go_end0
 obtain ⟨r1,r2⟩:=XC (xs:=xs++(op%256::QM (5) ⟨op,a,b,v,l⟩)) HLT.o HW4.o HK4.o (by simp [QM])
 exact ⟨rfl,r1,r2⟩
theorem wins_x (p:Nat)(S:Nat->Prop)(xs:List Int)(op a b v:Int)(l:List Int)(la:Option Addr)(lc:Nat)(w:World)(kk_:Int)(hk_:kk_=0\/kk_=1\/kk_=6)(hf:Qd (Qb op)=kk_)(hl:xs.length<=500000000000)(hW:Wr w p S xs) :
    Calls Tryz.prog 19 #[.pointer (some ⟨p,0,none⟩),inV ⟨op,a,b,v,l⟩ la lc] w λe w'=>e=.returned (.tuple #[])/\Wr w' p S (xs++(op%256::QM (kk_) ⟨op,a,b,v,l⟩))/\Jh S w w':=by
 have HLT:=Hm hW.lt;have HF:=Hm (Qu op);rw [hf] at HF;have HBX:=Hm (Bx.box S w.heap.size);have HC:=Hm (C5.new (w:=w) (a:=.int .i64 op) (b:=.int .i64 a) (c:=.int .i64 b) (d:=.int .u64 v) (e:=.slice la l.length lc) (t:=26));have KO:=Hm (X0 p (Bx S w.heap.size) xs op (w.alloc (.cells #[.int .i64 op,.int .i64 a,.int .i64 b,.int .u64 v,.slice la l.length lc] 26)) (by omega) (wr_box hW _));clear hf hW
 go_enter Tryz.func19,Tryz.ntmps19
 go_wp2_with fail
 refine (KO.o).mono ?_
 rintro e w1 ⟨rfl,hw1,hk1⟩;obtain ⟨⟨c0,c1,c2,c3,c4⟩,cf⟩:=hk1.c5 HC.o HBX.o;have HC1:=Hm (hk1.c5 HC.o HBX.o);have HW1:=Hm hw1;have HK1:=Hm hk1;clear hw1 hk1 KO HC cf
 go_wp2_with fail
 refine (HF.o _).mono ?_
 rintro e w2 ⟨rfl,hb2⟩;obtain ⟨⟨d20,d21,d22,d23,d24⟩,df⟩:=HC1.o.keep hb2
 rcases hk_ with rfl|rfl|rfl
 . have HW2:=Hm (HW1.o.keep hb2);have HK2:=Hm (HK1.o.wr HW1.o hb2);clear hb2 HF HC1 HW1 HK1 df c0 c1 c2 c3 c4
   go_wp2_with fail
   go_end0
   obtain ⟨r1,r2⟩:=XC (xs:=xs++(op%256::QM (0) ⟨op,a,b,v,l⟩)) HLT.o HW2.o HK2.o (by simp [QM])
   exact ⟨rfl,r1,r2⟩
 . have HC2:=Hm (HC1.o.keep hb2);have HW2:=Hm (HW1.o.keep hb2);have HK2:=Hm (HK1.o.wr HW1.o hb2);clear hb2 HF HC1 HW1 HK1 df c0 c1 c2 c3 c4;have KN2:=Hm (X0 p (Bx S w.heap.size) (xs++[op%256]) a w2 (by simp only [List.length_append,List.length_cons,List.length_nil];omega) HW2.o)
   go_wp2_with fail
   refine (KN2.o).mono ?_
   rintro e w3 ⟨rfl,hwn,hkn⟩;obtain ⟨⟨d30,d31,d32,d33,d34⟩,ef⟩:=hkn.c5 HC2.o HBX.o;have HW3:=Hm hwn;have HK3:=Hm (HK2.o.trans hkn);clear hwn hkn KN2 HC2 HW2 HK2 ef d20 d21 d22 d23 d24
   go_wp2_with fail
   go_end0
   obtain ⟨r1,r2⟩:=XC (xs:=xs++(op%256::QM (1) ⟨op,a,b,v,l⟩)) HLT.o HW3.o HK3.o (by simp [QM])
   exact ⟨rfl,r1,r2⟩
 . have HC2:=Hm (HC1.o.keep hb2);have HW2:=Hm (HW1.o.keep hb2);have HK2:=Hm (HK1.o.wr HW1.o hb2);clear hb2 HF HC1 HW1 HK1 df c0 c1 c2 c3 c4;have KN2:=Hm (X0 p (Bx S w.heap.size) (xs++[op%256]) 0 w2 (by simp only [List.length_append,List.length_cons,List.length_nil];omega) HW2.o)
   go_wp2_with fail
   refine (KN2.o).mono ?_
   rintro e w3 ⟨rfl,hwn,hkn⟩;obtain ⟨⟨d30,d31,d32,d33,d34⟩,ef⟩:=hkn.c5 HC2.o HBX.o;have HW3:=Hm hwn;have HK3:=Hm (HK2.o.trans hkn);clear hwn hkn KN2 HC2 HW2 HK2 ef d20 d21 d22 d23 d24
   go_wp2_with fail
   go_end0
   obtain ⟨r1,r2⟩:=XC (xs:=xs++(op%256::QM (6) ⟨op,a,b,v,l⟩)) HLT.o HW3.o HK3.o (by simp [QM])
   exact ⟨rfl,r1,r2⟩
def wins_0:=λp S xs op a b v l la lc w hf hl hW=>wins_x p S xs op a b v l la lc w (0) (.inl rfl) hf hl hW
def wins_1:=λp S xs op a b v l la lc w hf hl hW=>wins_x p S xs op a b v l la lc w (1) (.inr (.inl rfl)) hf hl hW
def wins_6:=λp S xs op a b v l la lc w hf hl hW=>wins_x p S xs op a b v l la lc w (6) (.inr (.inr (rfl))) hf hl hW
end Go.Proofs.YtipfjdogokanbaaGreatDoor.Ed
namespace Go.Proofs.YtipfjdogokanbaaGreatDoor.Ed
open Go.RowKit Go.Sort
theorem wins_z (p:Nat)(S:Nat->Prop)(xs:List Int)(op a b v:Int)(l:List Int)(la:Option Addr)(lc:Nat)(w:World)(kk_:Int)(hk_:kk_=8\/kk_=9\/kk_=10)(hf:Qd (Qb op)=kk_)(hv:0<=v)(hv1:v<=18446744073709551615)(hl:xs.length<=500000000000)(hW:Wr w p S xs) :
    Calls Tryz.prog 19 #[.pointer (some ⟨p,0,none⟩),inV ⟨op,a,b,v,l⟩ la lc] w λe w'=>e=.returned (.tuple #[])/\Wr w' p S (xs++(op%256::QM (kk_) ⟨op,a,b,v,l⟩))/\Jh S w w':=by
 have HLT:=Hm hW.lt;have HF:=Hm (Qu op);rw [hf] at HF;have HBX:=Hm (Bx.box S w.heap.size);have HC:=Hm (C5.new (w:=w) (a:=.int .i64 op) (b:=.int .i64 a) (c:=.int .i64 b) (d:=.int .u64 v) (e:=.slice la l.length lc) (t:=26));have KO:=Hm (X0 p (Bx S w.heap.size) xs op (w.alloc (.cells #[.int .i64 op,.int .i64 a,.int .i64 b,.int .u64 v,.slice la l.length lc] 26)) (by omega) (wr_box hW _));clear hf hW
 go_enter Tryz.func19,Tryz.ntmps19
 go_wp2_with fail
 refine (KO.o).mono ?_
 rintro e w1 ⟨rfl,hw1,hk1⟩;obtain ⟨⟨c0,c1,c2,c3,c4⟩,cf⟩:=hk1.c5 HC.o HBX.o;have HC1:=Hm (hk1.c5 HC.o HBX.o);have HW1:=Hm hw1;have HK1:=Hm hk1;clear hw1 hk1 KO HC cf
 go_wp2_with fail
 refine (HF.o _).mono ?_
 rintro e w2 ⟨rfl,hb2⟩;obtain ⟨⟨d20,d21,d22,d23,d24⟩,df⟩:=HC1.o.keep hb2;have HC2:=Hm (HC1.o.keep hb2);have HW2:=Hm (HW1.o.keep hb2);have HK2:=Hm (HK1.o.wr HW1.o hb2);clear hb2 HF HC1 HW1 HK1 df c0 c1 c2 c3 c4
 rcases hk_ with rfl|rfl|rfl
 . have KN2:=Hm (wsig_c p (Bx S w.heap.size) (xs++[op%256]) (wrap64 v) w2 (by unfold wrap64;omega) (by unfold wrap64;omega) (by simp only [List.length_append,List.length_cons,List.length_nil];omega) HW2.o)
   go_wp2_with fail
   refine (KN2.o).mono ?_
   rintro e w3 ⟨rfl,hwn,hkn⟩;obtain ⟨⟨d30,d31,d32,d33,d34⟩,ef⟩:=hkn.c5 HC2.o HBX.o;have HW3:=Hm hwn;have HK3:=Hm (HK2.o.trans hkn);clear hwn hkn KN2 HC2 HW2 HK2 ef d20 d21 d22 d23 d24
   go_wp2_with fail
   go_end0
   obtain ⟨r1,r2⟩:=XC (xs:=xs++(op%256::QM (8) ⟨op,a,b,v,l⟩)) HLT.o HW3.o HK3.o (by simp [QM])
   exact ⟨rfl,r1,r2⟩
 . have KN2:=Hm (wflt_c p (Bx S w.heap.size) (xs++[op%256]) v 4 w2 (.inl rfl) hv hv1 (by simp only [List.length_append,List.length_cons,List.length_nil];omega) HW2.o)
   go_wp2_with fail
   refine (KN2.o).mono ?_
   rintro e w3 ⟨rfl,hwn,hkn⟩;obtain ⟨⟨d30,d31,d32,d33,d34⟩,ef⟩:=hkn.c5 HC2.o HBX.o;have HW3:=Hm hwn;have HK3:=Hm (HK2.o.trans hkn);clear hwn hkn KN2 HC2 HW2 HK2 ef d20 d21 d22 d23 d24
   go_wp2_with fail
   go_end0
   obtain ⟨r1,r2⟩:=XC (xs:=xs++(op%256::QM (9) ⟨op,a,b,v,l⟩)) HLT.o HW3.o HK3.o (by simp [QM])
   exact ⟨rfl,r1,r2⟩
 . have KN2:=Hm (wflt_c p (Bx S w.heap.size) (xs++[op%256]) v 8 w2 (.inr rfl) hv hv1 (by simp only [List.length_append,List.length_cons,List.length_nil];omega) HW2.o)
   go_wp2_with fail
   refine (KN2.o).mono ?_
   rintro e w3 ⟨rfl,hwn,hkn⟩;obtain ⟨⟨d30,d31,d32,d33,d34⟩,ef⟩:=hkn.c5 HC2.o HBX.o;have HW3:=Hm hwn;have HK3:=Hm (HK2.o.trans hkn);clear hwn hkn KN2 HC2 HW2 HK2 ef d20 d21 d22 d23 d24
   go_wp2_with fail
   go_end0
   obtain ⟨r1,r2⟩:=XC (xs:=xs++(op%256::QM (10) ⟨op,a,b,v,l⟩)) HLT.o HW3.o HK3.o (by simp [QM])
   exact ⟨rfl,r1,r2⟩
def wins_8:=λp S xs op a b v l la lc w hf hv hv1 hl hW=>wins_z p S xs op a b v l la lc w (8) (.inl rfl) hf hv hv1 hl hW
def wins_9:=λp S xs op a b v l la lc w hf hv hv1 hl hW=>wins_z p S xs op a b v l la lc w (9) (.inr (.inl rfl)) hf hv hv1 hl hW
def wins_10:=λp S xs op a b v l la lc w hf hv hv1 hl hW=>wins_z p S xs op a b v l la lc w (10) (.inr (.inr (rfl))) hf hv hv1 hl hW
end Go.Proofs.YtipfjdogokanbaaGreatDoor.Ed
namespace Go.Proofs.YtipfjdogokanbaaGreatDoor.Ed
open Go.RowKit Go.Sort
theorem wins_3 (p:Nat)(S:Nat->Prop)(xs:List Int)(op a b v:Int)(l:List Int)(la:Option Addr)(lc:Nat)(w:World)(hf:Qd (Qb op)=3)(ha:0<=a)(ha1:a<=4294967295)(hn:l.length<=1048576)(hu:∀ i,i<l.length->0<=l.getD i 0/\l.getD i 0<=4294967295)(hH:∀ w',Jh S w w'->Has w' la l)(hl:xs.length<=500000000000)(hW:Wr w p S xs) :
    Calls Tryz.prog 19 #[.pointer (some ⟨p,0,none⟩),inV ⟨op,a,b,v,l⟩ la lc] w λe w'=>e=.returned (.tuple #[])/\Wr w' p S (xs++(op%256::QM (3) ⟨op,a,b,v,l⟩))/\Jh S w w':=by
 have HLT:=Hm hW.lt;have HF:=Hm (Qu op);rw [hf] at HF;have HBX:=Hm (Bx.box S w.heap.size);have HC:=Hm (C5.new (w:=w) (a:=.int .i64 op) (b:=.int .i64 a) (c:=.int .i64 b) (d:=.int .u64 v) (e:=.slice la l.length lc) (t:=26));have KO:=Hm (X0 p (Bx S w.heap.size) xs op (w.alloc (.cells #[.int .i64 op,.int .i64 a,.int .i64 b,.int .u64 v,.slice la l.length lc] 26)) (by omega) (wr_box hW _));have HHH:Hid (∀ w',Jh (Bx S w.heap.size) (w.alloc (.cells #[.int .i64 op,.int .i64 a,.int .i64 b,.int .u64 v,.slice la l.length lc] 26)) w'->Has w' la l):=λw' h=>hH w' ((Jh.of_below ((Below.refl w.heap.size w).alloc (Nat.le_refl _) _) hW.lt).trans (h.weak λk hk=>.inl hk));have HUU:=Hm hu;clear hH hu;clear hf hW
 go_enter Tryz.func19,Tryz.ntmps19
 go_wp2_with fail
 refine (KO.o).mono ?_
 rintro e w1 ⟨rfl,hw1,hk1⟩;obtain ⟨⟨c0,c1,c2,c3,c4⟩,cf⟩:=hk1.c5 HC.o HBX.o;have HC1:=Hm (hk1.c5 HC.o HBX.o);have HW1:=Hm hw1;have HK1:=Hm hk1;clear hw1 hk1 KO HC cf
 go_wp2_with fail
 refine (HF.o _).mono ?_
 rintro e w2 ⟨rfl,hb2⟩;obtain ⟨⟨d20,d21,d22,d23,d24⟩,df⟩:=HC1.o.keep hb2;have HC2:=Hm (HC1.o.keep hb2);have HW2:=Hm (HW1.o.keep hb2);have HK2:=Hm (HK1.o.wr HW1.o hb2);clear hb2 HF HC1 HW1 HK1 df c0 c1 c2 c3 c4;have KN2:=Hm (wvec_c p (Bx S w.heap.size) (xs++[op%256]) l la lc w2 hn HUU.o (by simp only [List.length_append,List.length_cons,List.length_nil];omega) (λw' h=>HHH.o w' (HK2.o.trans h)) HW2.o)
 go_wp2_with fail
 refine (KN2.o).mono ?_
 rintro e w3 ⟨rfl,hwn,hkn⟩;obtain ⟨⟨d30,d31,d32,d33,d34⟩,ef⟩:=hkn.c5 HC2.o HBX.o;have HC3:=Hm (hkn.c5 HC2.o HBX.o);have HW3:=Hm hwn;have HK3:=Hm (HK2.o.trans hkn);clear hwn hkn KN2 HC2 HW2 HK2 ef d20 d21 d22 d23 d24;have KN3:=Hm (wu32_c p (Bx S w.heap.size) ((xs++[op%256])++(QH 9 l.length++Jm l)) a w3 ha (by omega) (by have:=(Jc 9 l.length).2;have:=nums_len l;simp only [List.length_append,List.length_cons,List.length_nil];omega) HW3.o)
 go_wp2_with fail
 refine (KN3.o).mono ?_
 rintro e w4 ⟨rfl,hwn,hkn⟩;obtain ⟨⟨d40,d41,d42,d43,d44⟩,ef⟩:=hkn.c5 HC3.o HBX.o;have HW4:=Hm hwn;have HK4:=Hm (HK3.o.trans hkn);clear hwn hkn KN3 HC3 HW3 HK3 ef d30 d31 d32 d33 d34
 go_wp2_with fail
 go_end0
 obtain ⟨r1,r2⟩:=XC (xs:=xs++(op%256::QM (3) ⟨op,a,b,v,l⟩)) HLT.o HW4.o HK4.o (by simp [QM])
 exact ⟨rfl,r1,r2⟩
end Go.Proofs.YtipfjdogokanbaaGreatDoor.Ed
namespace Go.Proofs.YtipfjdogokanbaaGreatDoor.Ed
open Go.RowKit Go.Sort
theorem wins_7 (p:Nat)(S:Nat->Prop)(xs:List Int)(op a b v:Int)(l:List Int)(la:Option Addr)(lc:Nat)(w:World)(hf:Qd (Qb op)=7)(hv:0<=v)(hv1:v<=4294967295)(hl:xs.length<=500000000000)(hW:Wr w p S xs) :
    Calls Tryz.prog 19 #[.pointer (some ⟨p,0,none⟩),inV ⟨op,a,b,v,l⟩ la lc] w λe w'=>e=.returned (.tuple #[])/\Wr w' p S (xs++(op%256::QM (7) ⟨op,a,b,v,l⟩))/\Jh S w w':=by
 have HLT:=Hm hW.lt;have HF:=Hm (Qu op);rw [hf] at HF;have HBX:=Hm (Bx.box S w.heap.size);have HC:=Hm (C5.new (w:=w) (a:=.int .i64 op) (b:=.int .i64 a) (c:=.int .i64 b) (d:=.int .u64 v) (e:=.slice la l.length lc) (t:=26));have KO:=Hm (X0 p (Bx S w.heap.size) xs op (w.alloc (.cells #[.int .i64 op,.int .i64 a,.int .i64 b,.int .u64 v,.slice la l.length lc] 26)) (by omega) (wr_box hW _));clear hf hW
 go_enter Tryz.func19,Tryz.ntmps19
 go_wp2_with fail
 refine (KO.o).mono ?_
 rintro e w1 ⟨rfl,hw1,hk1⟩;obtain ⟨⟨c0,c1,c2,c3,c4⟩,cf⟩:=hk1.c5 HC.o HBX.o;have HC1:=Hm (hk1.c5 HC.o HBX.o);have HW1:=Hm hw1;have HK1:=Hm hk1;clear hw1 hk1 KO HC cf
 go_wp2_with fail
 refine (HF.o _).mono ?_
 rintro e w2 ⟨rfl,hb2⟩;obtain ⟨⟨d20,d21,d22,d23,d24⟩,df⟩:=HC1.o.keep hb2;have HC2:=Hm (HC1.o.keep hb2);have HW2:=Hm (HW1.o.keep hb2);have HK2:=Hm (HK1.o.wr HW1.o hb2);clear hb2 HF HC1 HW1 HK1 df c0 c1 c2 c3 c4;have hs32:wrap32 v=s32 v:=by unfold wrap32 s32;split<;>omega
 have hs64:wrap64 (s32 v)=s32 v:=by unfold wrap64 s32;split<;>omega
 have KN2:=Hm (wsig_c p (Bx S w.heap.size) (xs++[op%256]) (s32 v) w2 (by unfold s32;split<;>omega) (by unfold s32;split<;>omega) (by simp only [List.length_append,List.length_cons,List.length_nil];omega) HW2.o)
 go_wp2_with fail
 refine (KN2.o).mono ?_
 rintro e w3 ⟨rfl,hwn,hkn⟩;obtain ⟨⟨d30,d31,d32,d33,d34⟩,ef⟩:=hkn.c5 HC2.o HBX.o;have HW3:=Hm hwn;have HK3:=Hm (HK2.o.trans hkn);clear hwn hkn KN2 HC2 HW2 HK2 ef d20 d21 d22 d23 d24
 go_wp2_with fail
 go_end0
 obtain ⟨r1,r2⟩:=XC (xs:=xs++(op%256::QM (7) ⟨op,a,b,v,l⟩)) HLT.o HW3.o HK3.o (by simp [QM])
 exact ⟨rfl,r1,r2⟩
end Go.Proofs.YtipfjdogokanbaaGreatDoor.Ed
set_option linter.all false
namespace Go.Proofs.YtipfjdogokanbaaGreatDoor.Ed
open Go.RowKit Go.Sort
def Gw (x:In):List Int:=x.op%256::QM (Qd (Qb x.op)) x
theorem QK (x:Int):Ji x=true ↔ 0<=x/\x<=4294967295:=by simp [Ji]
theorem wins_c (p:Nat)(S:Nat->Prop)(xs:List Int)(x:In)(la:Option Addr)(lc:Nat)(w:World)(hg:gd x=true)(hv0:0<=x.v)(hv1:x.v<=18446744073709551615)(hn:x.l.length<=1048576)(hH:∀ w',Jh S w w'->Has w' la x.l)(hl:xs.length<=500000000000)(hW:Wr w p S xs) :
    Calls Tryz.prog 19 #[.pointer (some ⟨p,0,none⟩),inV x la lc] w λe w'=>e=.returned (.tuple #[])/\Wr w' p S (xs++Gw x)/\Jh S w w':=by
 obtain ⟨op,a,b,v,l⟩:=x
 simp only [gd,Gw] at *
 rcases QA op with h|h|h|h|h|h|h|h|h|h|h|h
 . rw [h] at hg;simp [Qg] at hg
 . rw [h];exact wins_0 p S xs op a b v l la lc w h hl hW
 . rw [h];exact wins_1 p S xs op a b v l la lc w h hl hW
 . rw [h] at hg⊢
   simp [Qg,QK] at hg
   exact wins_2 p S xs op a b v l la lc w h (by omega) (by omega) hl hW
 . rw [h] at hg⊢
   simp [Qg,QK] at hg
   refine wins_3 p S xs op a b v l la lc w h (by omega) (by omega) hn (λi hi=>?_) hH hl hW
   have:=hg.1.1.1 (l.getD i 0) (by simp [List.getD,hi])
   exact this
 . rw [h] at hg⊢
   simp [Qg,QK] at hg
   exact wins_4 p S xs op a b v l la lc w h (by omega) (by omega) hl hW
 . rw [h] at hg⊢
   simp [Qg,QK] at hg
   exact wins_5 p S xs op a b v l la lc w h (by omega) (by omega) (by omega) (by omega) hl hW
 . rw [h];exact wins_6 p S xs op a b v l la lc w h hl hW
 . rw [h] at hg⊢
   simp [Qg,QK] at hg
   exact wins_7 p S xs op a b v l la lc w h hv0 (by omega) hl hW
 . rw [h];exact wins_8 p S xs op a b v l la lc w h hv0 hv1 hl hW
 . rw [h];exact wins_9 p S xs op a b v l la lc w h hv0 hv1 hl hW
 . rw [h];exact wins_10 p S xs op a b v l la lc w h hv0 hv1 hl hW
def QS (x:In):List Int:=if gd x then Gw x else []
theorem wr_new (w:World)(S:Nat->Prop)(hS:∀ k,S k->k<w.heap.size):Wr (w.alloc (.cells #[.slice none 0 0] 46)) w.heap.size S [] :=
 ⟨.slice none 0 0,Qi rfl rfl,World.frozen?_alloc_new w _ _ _,World.ownsRow_nil _ _ _ _,λh=>by have:=hS _ h;omega,λk hk=>by simp [Value.ownBlock] at hk,λk hk=>by have:=hS k hk;simp;omega⟩
theorem ienc_c (x:In)(la:Option Addr)(lc:Nat)(w:World)(hv0:0<=x.v)(hv1:x.v<=18446744073709551615)(hn:x.l.length<=1048576)(hH:Has w la x.l) :
    Calls Tryz.prog 5 #[inV x la lc] w λe w'=>∃ v,e=.returned v/\w'.ownsRow w.heap.size 5 1 v (QS x).length (U (QS x))/\Below w.heap.size w w':=by
 have b0:∀ o,Below w.heap.size w (w.alloc o):=λo=>(Below.refl _ _).alloc (Nat.le_refl _) o;have KG:=Hm (λo=>isIns_c x la lc (w.alloc o) hv0 (by omega) (hH.keep (b0 o)));have HC:=Hm (C5.new (w:=w) (a:=.int .i64 x.op) (b:=.int .i64 x.a) (c:=.int .i64 x.b) (d:=.int .u64 x.v) (e:=.slice la x.l.length lc) (t:=26));have HHH:=Hm hH;have B0:=Hm b0
 cases hg:gd x
 . have HE:Hid (QS x=[]):=by show _=_;simp [QS,hg]
   rw [hg] at KG;clear hg hH b0
   go_enter Tryz.func5,Tryz.ntmps5
   go_wp2_with fail
   refine (KG.o _).mono ?_
   rintro e w1 ⟨rfl,hb⟩;have HB:=Hm ((B0.o _).trans (hb.mono (by simp)));clear hb KG HC
   go_wp2
   go_ret
   refine ⟨_,rfl,?_,?_⟩
   . rw [HE.o]
     exact World.ownsRow_lit w1 #[] 0 HB.o.size (Nat.zero_le _) rfl
   . exact HB.o.alloc HB.o.size _
 . have HE:Hid (QS x=Gw x):=by show _=_;simp [QS,hg]
   have HG:=Hm hg;rw [hg] at KG;clear hg hH b0
   go_enter Tryz.func5,Tryz.ntmps5
   go_wp2_with fail
   refine (KG.o _).mono ?_
   rintro e w1 ⟨rfl,hb⟩;have HB:=Hm ((B0.o _).trans (hb.mono (by simp)));have HSZ:=Hm (show w.heap.size+1<=w1.heap.size by have:=hb.size;simpa using this);obtain ⟨⟨d0,d1,d2,d3,d4⟩,df⟩:=(HC.o.keep hb).past (o:=.cells #[.slice none 0 0] 46);have KW:=Hm (wins_c w1.heap.size (λk=>k<w1.heap.size) [] x la lc (w1.alloc (.cells #[.slice none 0 0] 46)) HG.o hv0 hv1 hn (λw' h=>(HHH.o.keep HB.o).keep (((Below.refl _ _).alloc (Nat.le_refl _) _).trans h.below)) (by simp) (wr_new w1 _ λk hk=>hk));clear hb KG HC df
   go_wp2_with fail
   refine (KW.o).mono ?_
   rintro e w2 ⟨rfl,⟨v,c0,f0,own,hp,hr,hS⟩,hk⟩;have HO:=Hm own;have HK:=Hm hk.below;clear KW d0 d1 d2 d3 d4 own hp hr hS hk f0
   go_wp2
   go_ret
   refine ⟨_,rfl,?_,HB.o.trans (((Below.refl w1.heap.size w1).alloc (Nat.le_refl _) (.cells #[.slice none 0 0] 46) |>.trans HK.o).mono HB.o.size)⟩
   rw [HE.o];have h:=HO.o
   simp only [List.nil_append] at h
   exact Q8 h (by have:=HSZ.o;omega)
end Go.Proofs.YtipfjdogokanbaaGreatDoor.Ed
set_option linter.all false
namespace Go.Proofs.YtipfjdogokanbaaGreatDoor.Ed
open Go.RowKit Go.Sort
def P2 (n:Int):Int:=2 ^ n.toNat
theorem Q7 (n:Int):1<=P2 n:=by unfold P2;have:=Int.pow_pos (n:=(2:Int)) (m:=n.toNat) (by omega);omega
theorem Xx (n:Int)(h:0<=n):P2 (n+1)=2*P2 n:=by
 unfold P2;rw [show (n+1).toNat=n.toNat+1 by omega,Int.pow_succ];omega
theorem J4 {m n:Int}(h0:m<=n):P2 m<=P2 n:=by
 unfold P2;have h:2 ^ m.toNat<=2 ^ n.toNat:=Nat.pow_le_pow_right (by omega) (by omega);have h':((2 ^ m.toNat:Nat):Int)<=((2 ^ n.toNat:Nat):Int):=by omega
 simpa using h'
theorem P2_62 {n:Int}(h:n<=62):P2 n<=4611686018427387904:=by
 have:=J4 h;rw [show P2 62=4611686018427387904 by decide] at this;exact this
theorem Qm (n:Int)(w:World)(h0:0<=n)(h1:n<=63) :
    Calls Tryz.prog 101 #[.int .i64 n] w λe w'=>e=.returned (.int .u64 (P2 n))/\w=w':=by
 go_enter Tryz.func101,Tryz.ntmps101
 go_wp2
 go_loop [3,4] (λx i=>∃ k:Int,0<=k/\k<=n/\i=.int .i64 k/\x=.int .u64 (P2 k)) (λ_ i=>(n-intOf i).toNat)
 case atStart=>exact ⟨0,by omega,h0,rfl,rfl⟩
 case round =>
  obtain ⟨k,hk0,hk,rfl,rfl⟩:=hrel;have hp:=Q7 k
  by_cases hlt:k<n
  . have hb:=P2_62 (n:=k) (by omega);have HS:Hid (P2 (k+1)=2*P2 k):=Xx k hk0
    go_wp2
    go_round
    case rel=>exact ⟨k+1,by omega,by omega,rfl,by rw [HS.o,Int.mul_comm]⟩
    case measure=>simp [intOf];omega
  . have e:k=n:=by omega
    subst e
    go_wp2
    go_ret
    exact ⟨rfl,rfl⟩
theorem Xh (x:Int)(w:World)(h0:0<=x)(h1:x<=18446744073709551615):Calls Tryz.prog 44 #[.int .u64 x,.int .i64 32] w λe w'=>e=.returned (.int .u64 (x%4294967296))/\w=w':=by
 have hp:P2 32=4294967296:=by decide
 go_enter Tryz.func44,Tryz.ntmps44
 go_wp2_with (go_at_call 101;refine (Qm _ _ (by omega) (by omega)).mono ?_;rintro e w' ⟨rfl,rfl⟩)
 go_ret
 exact ⟨rfl,rfl⟩
theorem signed32 (x:Int)(w:World)(h0:0<=x)(h1:x<=4294967295):Calls Tryz.prog 66 #[.int .u64 x,.int .i64 32] w λe w'=>e=.returned (.int .i64 (wrap32 x))/\w=w':=by
 have hx:x%4294967296=x:=by omega
 have hp:P2 32=4294967296:=by decide
 have hq:P2 31=2147483648:=by decide
 by_cases h:2147483648<=x
 . have e:wrap32 x=x-4294967296:=by simp only [wrap32];omega
   rw [e];clear e
   go_enter Tryz.func66,Tryz.ntmps66
   go_wp2_with (first|(go_at_call 44;refine (Xh _ _ (by omega) (by omega)).mono ?_;rintro e w' ⟨rfl,rfl⟩)|(go_at_call 101;refine (Qm _ _ (by omega) (by omega)).mono ?_;rintro e w' ⟨rfl,rfl⟩))
   go_ret
   exact ⟨rfl,rfl⟩
 . have e:wrap32 x=x:=by simp only [wrap32];omega
   rw [e];clear e
   go_enter Tryz.func66,Tryz.ntmps66
   go_wp2_with (first|(go_at_call 44;refine (Xh _ _ (by omega) (by omega)).mono ?_;rintro e w' ⟨rfl,rfl⟩)|(go_at_call 101;refine (Qm _ _ (by omega) (by omega)).mono ?_;rintro e w' ⟨rfl,rfl⟩))
   go_ret
   exact ⟨rfl,rfl⟩
theorem snums_c (l:List Int)(la:Option Addr)(lc:Nat)(w:World)(hn:l.length<=1048576)(hu:∀ i,i<l.length->0<=l.getD i 0/\l.getD i 0<=4294967295)(hH:Has w la l) :
    Calls Tryz.prog 64 #[.slice la l.length lc] w λe w'=>∃ v,e=.returned v/\w'.ownsRow w.heap.size 5 1 v (QH 9 l.length++Jm l).length (U (QH 9 l.length++Jm l))/\Below w.heap.size w w':=by
 obtain ⟨i0,hi,hz0,hz1,hz2⟩:=info_parts Tryz.info5;have HU:=Hm hu;have HH:=Hm hH;have KL:=Hm (JF l.length w (by omega) (by omega));have hll:=(Jc 9 l.length).2;generalize hQ:QH 9 l.length=ys at *;have hys:ys.length<=10:=hll;clear hu hH hQ hll
 go_enter Tryz.func64,Tryz.ntmps64
 go_wp2_with fail
 refine (KL.o).mono ?_
 rintro e w1 ⟨v1,rfl,ho1,hb1⟩;have HW1:=Hm ho1;have HB1:=Hm hb1;clear ho1 hb1 KL
 go_wp2_with fail
 go_loopw [3,4] (λv i wr=>∃ k:Nat,k<=l.length/\i=.int .i64 k/\wr.ownsRow w.heap.size 5 1 v (ys++Jm (l.take k)).length (U (ys++Jm (l.take k)))/\Below w.heap.size w wr) (λ_ i _=>l.length-(intOf i).toNat)
 case atStart=>exact ⟨0,Nat.zero_le _,rfl,by simpa [Jm] using HW1.o,HB1.o⟩
 case round =>
  obtain ⟨k,hk,rfl,ho,hb⟩:=hrel;clear HW1 HB1
  by_cases hlt:k<l.length
  . have hki:(k:Int)<(l.length:Int):=by omega
    rcases HH.o.keep hb with hx|⟨b1,o1,ea,hc⟩
    . subst hx;simp at hlt
    have d:=hc k hlt;subst ea;obtain ⟨u0,u1⟩:=HU.o k hlt;have hs:=nums_step l k hlt
    have hlk:(ys++Jm (l.take k)).length<=1099511627776:=by
     have:=nums_take_len l k
     simp only [List.length_append];omega
    generalize hy:l.getD k 0=y at *;have hwy:IntKind.u64.wrap y=y:=by rw [IntKind.wrap_u64];omega
    have KO:=Hm (JF y wr u0 (by omega));have hyl:=Jc 9 y;generalize QH 9 y=L at *;generalize hpre:ys++Jm (l.take k)=pre at *;have hlU:(U L).length=L.length*1:=by simp
    have HS:Hid (ys++Jm (l.take (k+1))=pre++L):=by show _=_;rw [hs,<- List.append_assoc,hpre]
    have HO:=Hm ho;have HB:=Hm hb;obtain ⟨hl0,hl1⟩:=hyl;clear ho hb hc hs hy hpre HH HU
    go_wp2_with (first
     | (go_at_call 63
        refine (KO.o).mono ?_
        rintro e w2 ⟨v2,rfl,ho2,hb2⟩;obtain ⟨g,gc,rfl,hg,hg'⟩:=By.Q1 ho2 hl0;have O2:=Hm (Qx HO.o hb2 (Nat.le_refl _));have S2:=Hm (Q9 ho2);have B2:=Hm (HB.o.trans (hb2.mono HB.o.size));clear ho2 hb2 hg hg' KO)
     | (at_builtin
        refine wpList_append_own _ rfl _ _ 22 rfl w.heap.size 5 i0 (.int .u8 0) 1 1 Tryz.underlying22 hi hz0 hz1 hz2 rfl (by decide) _ _ _ rfl O2.o ⟨g,0,none⟩ L.length gc (U L) rfl hlU S2.o (XV _) (by unfold maxLen;omega) (by omega) B2.o.size ?_
        intro v3 w3 own3 gr3 hnn
        have HO3:Hid (w3.ownsRow w.heap.size 5 1 v3 (pre++L).length (U (pre++L))):=by show World.ownsRow _ _ _ _ _ _ _;simpa [U] using own3
        have HB3:=Hm (B2.o.grown gr3 B2.o.size (fun j hj=>(O2.o.lt j hj).1));clear own3 gr3 hnn))
    go_roundw
    case rel=>exact ⟨k+1,by omega,by go_num,by rw [HS.o];exact HO3.o,HB3.o⟩
    case measure=>simp [intOf];omega
  . have e:k=l.length:=by omega
    subst e;have HO:=Hm ho;have HB:=Hm hb;clear ho hb HH HU
    go_wp2
    go_ret
    refine ⟨_,rfl,?_,HB.o⟩
    have h:=HO.o;rw [List.take_length] at h
    exact h
theorem div_step (v:Int)(k:Nat):v / 2 ^ (8*k) / 256=v / 2 ^ (8*(k+1)):=by
 rw [Int.ediv_ediv_of_nonneg (by have:=Int.pow_pos (n:=(2:Int)) (m:=8*k) (by omega);omega)];rw [show 8*(k+1)=8*k+8 by omega,Int.pow_add]
 rfl
theorem sfix_c (v:Int)(n:Nat)(w:World)(hn:n<=8)(h0:0<=v)(h1:v<=18446744073709551615) :
    Calls Tryz.prog 67 #[.int .u64 v,.int .i64 n] w λe w'=>∃ u,e=.returned u/\w'.ownsRow w.heap.size 5 1 u (fx n v).length (U (fx n v))/\Below w.heap.size w w':=by
 obtain ⟨i0,hi,hz0,hz1,hz2⟩:=info_parts Tryz.info5
 go_enter Tryz.func67,Tryz.ntmps67
 go_wp2
 go_loopw [0,5,6] (λx u i wr=>∃ (k:Nat) (y:Int),k<=n/\i=.int .i64 k/\x=.int .u64 y/\0<=y/\y<=18446744073709551615/\Hid (y=v / 2 ^ (8*k))/\wr.ownsRow w.heap.size 5 1 u (fx k v).length (U (fx k v))/\Below w.heap.size w wr) (λ_ _ i _=>n-(intOf i).toNat)
 case atStart=>exact ⟨0,v,Nat.zero_le _,rfl,rfl,h0,h1,by show _=_;simp,World.ownsRow_lit w #[] 0 (Nat.le_refl _) (Nat.zero_le _) rfl,(Below.refl _ _).alloc (Nat.le_refl _) _⟩
 case round =>
  obtain ⟨k,y,hk,rfl,rfl,hy0,hy1,HY,hown,hbel⟩:=hrel;have hsz:=hbel.size
  by_cases hlt:k<n
  . have hki:(k:Int)<(n:Int):=by omega
    have hlf:(fx k v).length<=8:=by rw [Xd];omega
    have HF:Hid (fx (k+1) v=fx k v++[y%256]):=by show _=_;rw [fx_succ,HY.o]
    have HD:Hid (y / 256=v / 2 ^ (8*(k+1))):=by show _=_;rw [HY.o,div_step]
    generalize fx k v=pre at *
    go_wp2_with (at_builtin;refine wpList_append_own _ rfl _ _ 22 rfl w.heap.size 5 i0 (.int .u8 0) 1 1 Tryz.underlying22 hi hz0 hz1 hz2 rfl (by decide) _ _ _ rfl (hown.alloc _) ⟨wr.heap.size,0,none⟩ 1 1 [.int .u8 (y%256)] rfl rfl (cell_one_new _ _ _) (oneB _) (by unfold maxLen;omega) (by omega) (by simp;omega) ?_;intro v' w1 hown' hgrow hnn;have hbel':=QJ hown hbel hsz hgrow;have hown2:=Q0 hown';clear hown' hgrow hown hbel hsz hnn)
    go_roundw
    case rel=>exact ⟨k+1,y / 256,by omega,by go_num,rfl,by omega,by omega,HD.o,by rw [HF.o];exact hown2,hbel'⟩
    case measure=>simp [intOf];omega
  . have e:k=n:=by omega
    subst e
    go_wp2
    go_ret
    exact ⟨_,rfl,hown,hbel⟩
end Go.Proofs.YtipfjdogokanbaaGreatDoor.Ed
set_option linter.all false
namespace Go.Proofs.YtipfjdogokanbaaGreatDoor.Ed
open Go.RowKit Go.Sort
theorem two_new (w:World)(a b c d e:Value)(y:Int)(t:TypeId):C5 ((w.alloc (.cells #[a,b,c,d,e] t)).alloc (.cells #[.int .u8 y] 5)) w.heap.size 0 a b c d e/\((w.alloc (.cells #[a,b,c,d,e] t)).alloc (.cells #[.int .u8 y] 5)).ownsRow (w.heap.size+1) 5 1 (.slice (some ⟨w.heap.size+1,0,none⟩) 1 1) 1 (U [y])/\Below w.heap.size w ((w.alloc (.cells #[a,b,c,d,e] t)).alloc (.cells #[.int .u8 y] 5)):=by
 refine ⟨C5.new.past,?_,((Below.refl _ _).alloc (Nat.le_refl _) _).alloc (by simp) _⟩
 have:=World.ownsRow_lit (base:=w.heap.size+1) (e:=5) (size:=1) (w.alloc (.cells #[a,b,c,d,e] t)) #[.int .u8 y] 1 (by simp) (by unfold maxLen;omega) rfl
 simpa using this
theorem XZ {w w1:World}(hb:Below w.heap.size w w1)(r:Option Nat):w.grownBy w1 r:=⟨hb.os,hb.tape,hb.output,hb.size,λk hk _=>hb.block k hk⟩
theorem Xi {w w1:World}{g g0 o:Nat}{a b c d e:Value}(h:C5 w g o a b c d e)(hg:w.grownBy w1 (some g0))(hne:g≠g0):C5 w1 g o a b c d e:=by
 have hb:w1.heap[g]?=w.heap[g]?:=hg.block g (World.block_lt_of_cell? w _ h.1.1) (by simpa using hne);obtain ⟨⟨h0,h1,h2,h3,h4⟩,f⟩:=h
 exact ⟨⟨(World.cell?_of_block hb).trans h0,(World.cell?_of_block hb).trans h1,(World.cell?_of_block hb).trans h2,(World.cell?_of_block hb).trans h3,(World.cell?_of_block hb).trans h4⟩,λi=>(World.frozen?_of_block hb).trans (f i)⟩
theorem QU {w w1:World}{B g0:Nat}(h:w.grownBy w1 (some g0))(hB:B<=g0)(hs:B<=w.heap.size):Below B w w1:=⟨h.os,h.tape,h.output,h.size,λk hk=>h.block k (by omega) (by simp;omega)⟩
theorem has_on {w W W':World}{la:Option Addr}{l:List Int}(h:Has w la l)(hb:Below w.heap.size w W)(hg:W.grownBy W' (some (w.heap.size+1))):Has W' la l:=by
 rcases h with h|⟨b,o,e,hc⟩
 . exact .inl h
 . refine .inr ⟨b,o,e,λi hi=>?_⟩
   have hl:=World.block_lt_of_cell? w _ (hc i hi);have hs:=hb.size
   simp only at hl
   have h1:W'.heap[b]?=w.heap[b]?:=(hg.block b (by omega) (by simp;omega)).trans (hb.block b hl);rw [World.cell?_of_block (w:=w) (w':=W') (a:=⟨b,o+i,none⟩) h1]
   exact hc i hi
theorem Gu {w w':World}{B e g g1 cap n:Nat}{xs:List Value}(h:w.ownsRow B e 1 (.slice (some ⟨g,0,none⟩) n cap) n xs)(hg:w.grownBy w' (some g1))(hne:g≠g1):w'.ownsRow B e 1 (.slice (some ⟨g,0,none⟩) n cap) n xs :=
 h.kept hg (.inr (by simp [Value.ownBlock,hne]))
def Out (w w':World)(v:Value)(L:List Int):Prop:=w'.ownsRow w.heap.size 5 1 v L.length (U L)/\Below w.heap.size w w'
theorem JZ {w W W0:World}{v:Value}{n:Nat}{zs:List Value}{L:List Int}(h:W.ownsRow (w.heap.size+1) 5 1 v n zs)(hb:Below w.heap.size w W)(hn:n=L.length)(hz:zs=U L):Out w W v L:=by
 subst hn hz
 exact ⟨Q8 h (by omega),hb⟩
end Go.Proofs.YtipfjdogokanbaaGreatDoor.Ed
