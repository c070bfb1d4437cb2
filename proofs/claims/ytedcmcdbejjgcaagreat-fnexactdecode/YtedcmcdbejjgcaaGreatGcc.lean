import Derived.Test.YtedcmcdbejjgcaaGreatGaa
import Derived.Test.YtedcmcdbejjgcaaGreatGca
set_option linter.all false
set_option maxHeartbeats 400000000
set_option maxRecDepth 100000
namespace Go.Proofs.YtedcmcdbejjgcaaGreat.Ms
open Go.RowKit Go.Sort
abbrev R0w (m:Mod)(a:Option Addr)(n:Nat)(C:List Value):Qc:=⟨92,2,m.types.length,(.slice a m.types.length n),C⟩
abbrev R1w (m:Mod)(a:Option Addr)(n:Nat)(C:List Value):Qc:=⟨100,9,m.imps.length,(.slice a m.imps.length n),C⟩
abbrev R2w (m:Mod)(a:Option Addr)(n:Nat)(C:List Value):Qc:=⟨2,1,m.funcs.length,(.slice a m.funcs.length n),C⟩
abbrev R3w (m:Mod)(a:Option Addr)(n:Nat)(C:List Value):Qc:=⟨96,3,m.tabs.length,(.slice a m.tabs.length n),C⟩
abbrev R4w (m:Mod)(a:Option Addr)(n:Nat)(C:List Value):Qc:=⟨96,3,m.mems.length,(.slice a m.mems.length n),C⟩
abbrev R5w (m:Mod)(a:Option Addr)(n:Nat)(C:List Value):Qc:=⟨107,3,m.globs.length,(.slice a m.globs.length n),C⟩
abbrev R6w (m:Mod)(a:Option Addr)(n:Nat)(C:List Value):Qc:=⟨111,3,m.exps.length,(.slice a m.exps.length n),C⟩
abbrev R7w (m:Mod)(a:Option Addr)(n:Nat)(C:List Value):Qc:=⟨79,2,m.elems.length,(.slice a m.elems.length n),C⟩
abbrev R8w (m:Mod)(a:Option Addr)(n:Nat)(C:List Value):Qc:=⟨83,2,m.codes.length,(.slice a m.codes.length n),C⟩
abbrev R9w (m:Mod)(a:Option Addr)(n:Nat)(C:List Value):Qc:=⟨85,2,m.datas.length,(.slice a m.datas.length n),C⟩
abbrev GA (m:Mod)(a:Option Addr)(n:Nat)(C:List Value):Qc:=⟨72,3,m.customs.length,(.slice a m.customs.length n),C⟩
abbrev Rbw (w:World)(m:Mod)(a0:Option Addr)(n0:Nat)(a1:Option Addr)(n1:Nat)(a2:Option Addr)(n2:Nat)(a3:Option Addr)(n3:Nat)(a4:Option Addr)(n4:Nat)(a5:Option Addr)(n5:Nat)(a6:Option Addr)(n6:Nat)(a7:Option Addr)(n7:Nat)(a8:Option Addr)(n8:Nat)(a9:Option Addr)(n9:Nat)(a10:Option Addr)(n10:Nat):Qc:=⟨34,13,1,.slice (some ⟨w.heap.size,0,none⟩) 1 1,[.slice a0 m.types.length n0,.slice a1 m.imps.length n1,.slice a2 m.funcs.length n2,.slice a3 m.tabs.length n3,.slice a4 m.mems.length n4,.slice a5 m.globs.length n5,.slice a6 m.exps.length n6,.bool m.hasS,.int .i64 m.start,.slice a7 m.elems.length n7,.slice a8 m.codes.length n8,.slice a9 m.datas.length n9,.slice a10 m.customs.length n10]⟩
theorem markM_c (m)(a0:Option Addr)(r:Nat)(E:Option Addr)(q:Nat)(D:Option Addr)(p:Nat)(C:Option Addr)(n:Nat)(A:Option Addr)(l:Nat)(y:Option Addr)(k:Nat)(v:Option Addr)(j:Nat)(u:Option Addr)(g:Nat)(t:Option Addr)(f:Nat)(s:Option Addr)(d:Nat)(b:Option Addr)(a:Nat)(H:Int)(R){B w0 rs w}(hx:MX m (.slice a0 m.types.length r) (.slice E m.imps.length q) (.slice D m.funcs.length p) (.slice C m.tabs.length n) (.slice A m.mems.length l) (.slice y m.globs.length k) (.slice v m.exps.length j) (.slice u m.elems.length g) (.slice t m.codes.length f) (.slice s m.datas.length d) (.slice b m.customs.length a) rs R)(h:Mo B w0 R w)(hl:LnM m)(h0:0<=H)(h1:H+szM m<=1000000000) :
    Calls Tryz.prog 26 #[.agg #[.slice a0 m.types.length r,.slice E m.imps.length q,.slice D m.funcs.length p,.slice C m.tabs.length n,.slice A m.mems.length l,.slice y m.globs.length k,.slice v m.exps.length j,.bool m.hasS,.int .i64 m.start,.slice u m.elems.length g,.slice t m.codes.length f,.slice s m.datas.length d,.slice b m.customs.length a],.int .i64 H] w (MmP m (.slice a0 m.types.length r) (.slice E m.imps.length q) (.slice D m.funcs.length p) (.slice C m.tabs.length n) (.slice A m.mems.length l) (.slice y m.globs.length k) (.slice v m.exps.length j) (.slice u m.elems.length g) (.slice t m.codes.length f) (.slice s m.datas.length d) (.slice b m.customs.length a) H B w0 rs):=by
 obtain ⟨C0,K0,C1,C3,C4,C5,K5,C6,C7,Z,Y,X,U,S,G,F,bj,bh,bg,bf,bd,bc,bb,ba,az,ak,rfl⟩:=hx;obtain ⟨cj,de,dd,dc,db,ci,da,ch,cg,cf,ay⟩:=hl;have m0:=h.box #[.slice a0 m.types.length r,.slice E m.imps.length q,.slice D m.funcs.length p,.slice C m.tabs.length n,.slice A m.mems.length l,.slice y m.globs.length k,.slice v m.exps.length j,.bool m.hasS,.int .i64 m.start,.slice u m.elems.length g,.slice t m.codes.length f,.slice s m.datas.length d,.slice b m.customs.length a] 34 13 rfl
 simp only [szM] at h1
 obtain ⟨V0,au⟩:∃ V0,V0=w.alloc (.cells #[.slice a0 m.types.length r,.slice E m.imps.length q,.slice D m.funcs.length p,.slice C m.tabs.length n,.slice A m.mems.length l,.slice y m.globs.length k,.slice v m.exps.length j,.bool m.hasS,.int .i64 m.start,.slice u m.elems.length g,.slice t m.codes.length f,.slice s m.datas.length d,.slice b m.customs.length a] 34):=⟨_,rfl⟩;rw [<- au] at m0;have bw:=Hm au;have b8:=Hm bj;clear bj;have b7:=Hm bh;clear bh;have b6:=Hm bg;clear bg;have b5:=Hm bf;clear bf;have b4:=Hm bd;clear bd;have b3:=Hm bc;clear bc;have b2:=Hm bb;clear bb;have bz:=Hm ba;clear ba;have bx:=Hm az;clear az;have aq:=Hm ak;clear ak;have c:Mo B w0 ((Rbw w m a0 r E q D p C n A l y k v j u g t f s d b a)::((R0w m a0 r C0)::(K0++((R1w m E q C1)::((R2w m D p (I m.funcs))::((R3w m C n C3)::((R4w m A l C4)::((R5w m y k C5)::(K5++((R6w m v j C6)::((R7w m u g C7)::(Z++((R8w m t f Y)::(X++((R9w m s d U)::(S++((GA m b a G)::(F++rs)))))))))))))))))) V0:=m0;clear m0 h au
 go_enter Tryz.func26,Tryz.ntmps26
 go_upto_region 1 with fail
 rw [<- bw.o];clear bw;have O:V0.cell? ⟨w.heap.size,0,none⟩=some (.slice a0 m.types.length r):=(World.ownsRow.cellAt (c.row mS) 0 (show 0<1*13 by decide)).trans rfl
 have J:Hid (Mo B w0 ((R0w m a0 r C0)::(K0++((R1w m E q C1)::((R2w m D p (I m.funcs))::((R3w m C n C3)::((R4w m A l C4)::((R5w m y k C5)::(K5++((R6w m v j C6)::((R7w m u g C7)::(Z++((R8w m t f Y)::(X++((R9w m s d U)::(S++((GA m b a G)::(F++((Rbw w m a0 r E q D p C n A l y k v j u g t f s d b a)::rs)))))))))))))))))) V0):=Hm (c.perm (by
  classical
  refine List.perm_iff_count.2 λz=>?_
  simp only [List.count_append,List.count_cons,R0w,R1w,R2w,R3w,R4w,R5w,R6w,R7w,R8w,R9w,GA,Rbw]
  omega))
 clear c
 go_wp2_with fail
 refine (markFT_c m.types a0 r C0 K0 (H) J.o b8.o cj (by omega) (by omega)).mono ?_
 rintro e V1 ⟨M,L,rfl,bt,c⟩;have c7:=Hm bt;clear bt b8;clear J O
 replace c:Mo B w0 ((Rbw w m a0 r E q D p C n A l y k v j u g t f s d b a)::((R1w m E q C1)::((R2w m D p (I m.funcs))::((R3w m C n C3)::((R4w m A l C4)::((R5w m y k C5)::(K5++((R6w m v j C6)::((R7w m u g C7)::(Z++((R8w m t f Y)::(X++((R9w m s d U)::(S++((GA m b a G)::(F++((R0w m a0 r M)::(L++rs)))))))))))))))))) V1:=c.perm (by
  classical
  refine List.perm_iff_count.2 λz=>?_
  simp only [List.count_append,List.count_cons,R0w,R1w,R2w,R3w,R4w,R5w,R6w,R7w,R8w,R9w,GA,Rbw]
  omega)
 have O:V1.cell? ⟨w.heap.size,1,none⟩=some (.slice E m.imps.length q):=(World.ownsRow.cellAt (c.row mS) 1 (show 1<1*13 by decide)).trans rfl
 have J:Hid (Mo B w0 ((R1w m E q C1)::((R2w m D p (I m.funcs))::((R3w m C n C3)::((R4w m A l C4)::((R5w m y k C5)::(K5++((R6w m v j C6)::((R7w m u g C7)::(Z++((R8w m t f Y)::(X++((R9w m s d U)::(S++((GA m b a G)::(F++((R0w m a0 r M)::(L++((Rbw w m a0 r E q D p C n A l y k v j u g t f s d b a)::rs)))))))))))))))))) V1):=Hm (c.perm (by
  classical
  refine List.perm_iff_count.2 λz=>?_
  simp only [List.count_append,List.count_cons,R0w,R1w,R2w,R3w,R4w,R5w,R6w,R7w,R8w,R9w,GA,Rbw]
  omega))
 clear c
 go_wp2_with fail
 refine (markImp_c m.imps E q C1 (H+((Qb QT m.types:Nat):Int)) J.o b7.o (by omega) (by omega)).mono ?_
 rintro e V2 ⟨V,rfl,bs,c⟩;have c6:=Hm bs;clear bs b7;clear J O
 replace c:Mo B w0 ((Rbw w m a0 r E q D p C n A l y k v j u g t f s d b a)::((R2w m D p (I m.funcs))::((R3w m C n C3)::((R4w m A l C4)::((R5w m y k C5)::(K5++((R6w m v j C6)::((R7w m u g C7)::(Z++((R8w m t f Y)::(X++((R9w m s d U)::(S++((GA m b a G)::(F++((R0w m a0 r M)::(L++((R1w m E q V)::rs)))))))))))))))))) V2:=c.perm (by
  classical
  refine List.perm_iff_count.2 λz=>?_
  simp only [List.count_append,List.count_cons,R0w,R1w,R2w,R3w,R4w,R5w,R6w,R7w,R8w,R9w,GA,Rbw]
  omega)
 have O:V2.cell? ⟨w.heap.size,2,none⟩=some (.slice D m.funcs.length p):=(World.ownsRow.cellAt (c.row mS) 2 (show 2<1*13 by decide)).trans rfl
 have J:Hid (Mo B w0 ((R2w m D p (I m.funcs))::((R3w m C n C3)::((R4w m A l C4)::((R5w m y k C5)::(K5++((R6w m v j C6)::((R7w m u g C7)::(Z++((R8w m t f Y)::(X++((R9w m s d U)::(S++((GA m b a G)::(F++((R0w m a0 r M)::(L++((R1w m E q V)::((Rbw w m a0 r E q D p C n A l y k v j u g t f s d b a)::rs)))))))))))))))))) V2):=Hm (c.perm (by
  classical
  refine List.perm_iff_count.2 λz=>?_
  simp only [List.count_append,List.count_cons,R0w,R1w,R2w,R3w,R4w,R5w,R6w,R7w,R8w,R9w,GA,Rbw]
  omega))
 clear c
 go_wp2_with fail
 refine (markI_c m.funcs D p (H+((Qb QT m.types:Nat):Int)+((Qb Qu m.imps:Nat):Int)) J.o (by omega) (by omega)).mono ?_
 rintro e V3 ⟨rfl,c⟩;clear J O
 replace c:Mo B w0 ((Rbw w m a0 r E q D p C n A l y k v j u g t f s d b a)::((R3w m C n C3)::((R4w m A l C4)::((R5w m y k C5)::(K5++((R6w m v j C6)::((R7w m u g C7)::(Z++((R8w m t f Y)::(X++((R9w m s d U)::(S++((GA m b a G)::(F++((R0w m a0 r M)::(L++((R1w m E q V)::((R2w m D p (I (mkI (H+((Qb QT m.types:Nat):Int)+((Qb Qu m.imps:Nat):Int)) m.funcs.length)))::rs)))))))))))))))))) V3:=c.perm (by
  classical
  refine List.perm_iff_count.2 λz=>?_
  simp only [List.count_append,List.count_cons,R0w,R1w,R2w,R3w,R4w,R5w,R6w,R7w,R8w,R9w,GA,Rbw]
  omega)
 have O:V3.cell? ⟨w.heap.size,3,none⟩=some (.slice C m.tabs.length n):=(World.ownsRow.cellAt (c.row mS) 3 (show 3<1*13 by decide)).trans rfl
 have J:Hid (Mo B w0 ((R3w m C n C3)::((R4w m A l C4)::((R5w m y k C5)::(K5++((R6w m v j C6)::((R7w m u g C7)::(Z++((R8w m t f Y)::(X++((R9w m s d U)::(S++((GA m b a G)::(F++((R0w m a0 r M)::(L++((R1w m E q V)::((R2w m D p (I (mkI (H+((Qb QT m.types:Nat):Int)+((Qb Qu m.imps:Nat):Int)) m.funcs.length)))::((Rbw w m a0 r E q D p C n A l y k v j u g t f s d b a)::rs)))))))))))))))))) V3):=Hm (c.perm (by
  classical
  refine List.perm_iff_count.2 λz=>?_
  simp only [List.count_append,List.count_cons,R0w,R1w,R2w,R3w,R4w,R5w,R6w,R7w,R8w,R9w,GA,Rbw]
  omega))
 clear c
 go_wp2_with fail
 refine (markLim_c m.tabs C n C3 (H+((Qb QT m.types:Nat):Int)+((Qb Qu m.imps:Nat):Int)+(m.funcs.length:Int)) J.o b6.o (by omega) (by omega)).mono ?_
 rintro e V4 ⟨D3,rfl,br,c⟩;have c5:=Hm br;clear br b6;clear J O
 replace c:Mo B w0 ((Rbw w m a0 r E q D p C n A l y k v j u g t f s d b a)::((R4w m A l C4)::((R5w m y k C5)::(K5++((R6w m v j C6)::((R7w m u g C7)::(Z++((R8w m t f Y)::(X++((R9w m s d U)::(S++((GA m b a G)::(F++((R0w m a0 r M)::(L++((R1w m E q V)::((R2w m D p (I (mkI (H+((Qb QT m.types:Nat):Int)+((Qb Qu m.imps:Nat):Int)) m.funcs.length)))::((R3w m C n D3)::rs)))))))))))))))))) V4:=c.perm (by
  classical
  refine List.perm_iff_count.2 λz=>?_
  simp only [List.count_append,List.count_cons,R0w,R1w,R2w,R3w,R4w,R5w,R6w,R7w,R8w,R9w,GA,Rbw]
  omega)
 have O:V4.cell? ⟨w.heap.size,4,none⟩=some (.slice A m.mems.length l):=(World.ownsRow.cellAt (c.row mS) 4 (show 4<1*13 by decide)).trans rfl
 have J:Hid (Mo B w0 ((R4w m A l C4)::((R5w m y k C5)::(K5++((R6w m v j C6)::((R7w m u g C7)::(Z++((R8w m t f Y)::(X++((R9w m s d U)::(S++((GA m b a G)::(F++((R0w m a0 r M)::(L++((R1w m E q V)::((R2w m D p (I (mkI (H+((Qb QT m.types:Nat):Int)+((Qb Qu m.imps:Nat):Int)) m.funcs.length)))::((R3w m C n D3)::((Rbw w m a0 r E q D p C n A l y k v j u g t f s d b a)::rs)))))))))))))))))) V4):=Hm (c.perm (by
  classical
  refine List.perm_iff_count.2 λz=>?_
  simp only [List.count_append,List.count_cons,R0w,R1w,R2w,R3w,R4w,R5w,R6w,R7w,R8w,R9w,GA,Rbw]
  omega))
 clear c
 go_wp2_with fail
 refine (markLim_c m.mems A l C4 (H+((Qb QT m.types:Nat):Int)+((Qb Qu m.imps:Nat):Int)+(m.funcs.length:Int)+((Qb Qo m.tabs:Nat):Int)) J.o b5.o (by omega) (by omega)).mono ?_
 rintro e V5 ⟨D4,rfl,bq,c⟩;have c4:=Hm bq;clear bq b5;clear J O
 replace c:Mo B w0 ((Rbw w m a0 r E q D p C n A l y k v j u g t f s d b a)::((R5w m y k C5)::(K5++((R6w m v j C6)::((R7w m u g C7)::(Z++((R8w m t f Y)::(X++((R9w m s d U)::(S++((GA m b a G)::(F++((R0w m a0 r M)::(L++((R1w m E q V)::((R2w m D p (I (mkI (H+((Qb QT m.types:Nat):Int)+((Qb Qu m.imps:Nat):Int)) m.funcs.length)))::((R3w m C n D3)::((R4w m A l D4)::rs)))))))))))))))))) V5:=c.perm (by
  classical
  refine List.perm_iff_count.2 λz=>?_
  simp only [List.count_append,List.count_cons,R0w,R1w,R2w,R3w,R4w,R5w,R6w,R7w,R8w,R9w,GA,Rbw]
  omega)
 have O:V5.cell? ⟨w.heap.size,5,none⟩=some (.slice y m.globs.length k):=(World.ownsRow.cellAt (c.row mS) 5 (show 5<1*13 by decide)).trans rfl
 have J:Hid (Mo B w0 ((R5w m y k C5)::(K5++((R6w m v j C6)::((R7w m u g C7)::(Z++((R8w m t f Y)::(X++((R9w m s d U)::(S++((GA m b a G)::(F++((R0w m a0 r M)::(L++((R1w m E q V)::((R2w m D p (I (mkI (H+((Qb QT m.types:Nat):Int)+((Qb Qu m.imps:Nat):Int)) m.funcs.length)))::((R3w m C n D3)::((R4w m A l D4)::((Rbw w m a0 r E q D p C n A l y k v j u g t f s d b a)::rs)))))))))))))))))) V5):=Hm (c.perm (by
  classical
  refine List.perm_iff_count.2 λz=>?_
  simp only [List.count_append,List.count_cons,R0w,R1w,R2w,R3w,R4w,R5w,R6w,R7w,R8w,R9w,GA,Rbw]
  omega))
 clear c
 go_wp2_with fail
 refine (markGlob_c m.globs y k C5 K5 (H+((Qb QT m.types:Nat):Int)+((Qb Qu m.imps:Nat):Int)+(m.funcs.length:Int)+((Qb Qo m.tabs:Nat):Int)+((Qb Qo m.mems:Nat):Int)) J.o b4.o ci (by omega) (by omega)).mono ?_
 rintro e V6 ⟨D5,J5,rfl,bp,c⟩;have c2:=Hm bp;clear bp b4;clear J O
 replace c:Mo B w0 ((Rbw w m a0 r E q D p C n A l y k v j u g t f s d b a)::((R6w m v j C6)::((R7w m u g C7)::(Z++((R8w m t f Y)::(X++((R9w m s d U)::(S++((GA m b a G)::(F++((R0w m a0 r M)::(L++((R1w m E q V)::((R2w m D p (I (mkI (H+((Qb QT m.types:Nat):Int)+((Qb Qu m.imps:Nat):Int)) m.funcs.length)))::((R3w m C n D3)::((R4w m A l D4)::((R5w m y k D5)::(J5++rs)))))))))))))))))) V6:=c.perm (by
  classical
  refine List.perm_iff_count.2 λz=>?_
  simp only [List.count_append,List.count_cons,R0w,R1w,R2w,R3w,R4w,R5w,R6w,R7w,R8w,R9w,GA,Rbw]
  omega)
 have O:V6.cell? ⟨w.heap.size,6,none⟩=some (.slice v m.exps.length j):=(World.ownsRow.cellAt (c.row mS) 6 (show 6<1*13 by decide)).trans rfl
 have J:Hid (Mo B w0 ((R6w m v j C6)::((R7w m u g C7)::(Z++((R8w m t f Y)::(X++((R9w m s d U)::(S++((GA m b a G)::(F++((R0w m a0 r M)::(L++((R1w m E q V)::((R2w m D p (I (mkI (H+((Qb QT m.types:Nat):Int)+((Qb Qu m.imps:Nat):Int)) m.funcs.length)))::((R3w m C n D3)::((R4w m A l D4)::((R5w m y k D5)::(J5++((Rbw w m a0 r E q D p C n A l y k v j u g t f s d b a)::rs)))))))))))))))))) V6):=Hm (c.perm (by
  classical
  refine List.perm_iff_count.2 λz=>?_
  simp only [List.count_append,List.count_cons,R0w,R1w,R2w,R3w,R4w,R5w,R6w,R7w,R8w,R9w,GA,Rbw]
  omega))
 clear c
 go_wp2_with fail
 refine (markExp_c m.exps v j C6 (H+((Qb QT m.types:Nat):Int)+((Qb Qu m.imps:Nat):Int)+(m.funcs.length:Int)+((Qb Qo m.tabs:Nat):Int)+((Qb Qo m.mems:Nat):Int)+((Qb QG m.globs:Nat):Int)) J.o b3.o (by omega) (by omega)).mono ?_
 rintro e V7 ⟨D6,rfl,bo,c⟩;have cz:=Hm bo;clear bo b3;clear J O
 replace c:Mo B w0 ((Rbw w m a0 r E q D p C n A l y k v j u g t f s d b a)::((R7w m u g C7)::(Z++((R8w m t f Y)::(X++((R9w m s d U)::(S++((GA m b a G)::(F++((R0w m a0 r M)::(L++((R1w m E q V)::((R2w m D p (I (mkI (H+((Qb QT m.types:Nat):Int)+((Qb Qu m.imps:Nat):Int)) m.funcs.length)))::((R3w m C n D3)::((R4w m A l D4)::((R5w m y k D5)::(J5++((R6w m v j D6)::rs)))))))))))))))))) V7:=c.perm (by
  classical
  refine List.perm_iff_count.2 λz=>?_
  simp only [List.count_append,List.count_cons,R0w,R1w,R2w,R3w,R4w,R5w,R6w,R7w,R8w,R9w,GA,Rbw]
  omega)
 have O:V7.cell? ⟨w.heap.size,9,none⟩=some (.slice u m.elems.length g):=(World.ownsRow.cellAt (c.row mS) 9 (show 9<1*13 by decide)).trans rfl
 have J:Hid (Mo B w0 ((R7w m u g C7)::(Z++((R8w m t f Y)::(X++((R9w m s d U)::(S++((GA m b a G)::(F++((R0w m a0 r M)::(L++((R1w m E q V)::((R2w m D p (I (mkI (H+((Qb QT m.types:Nat):Int)+((Qb Qu m.imps:Nat):Int)) m.funcs.length)))::((R3w m C n D3)::((R4w m A l D4)::((R5w m y k D5)::(J5++((R6w m v j D6)::((Rbw w m a0 r E q D p C n A l y k v j u g t f s d b a)::rs)))))))))))))))))) V7):=Hm (c.perm (by
  classical
  refine List.perm_iff_count.2 λz=>?_
  simp only [List.count_append,List.count_cons,R0w,R1w,R2w,R3w,R4w,R5w,R6w,R7w,R8w,R9w,GA,Rbw]
  omega))
 clear c
 go_wp2_with fail
 refine (markEle_c m.elems u g C7 Z (H+((Qb QT m.types:Nat):Int)+((Qb Qu m.imps:Nat):Int)+(m.funcs.length:Int)+((Qb Qo m.tabs:Nat):Int)+((Qb Qo m.mems:Nat):Int)+((Qb QG m.globs:Nat):Int)+((Qb Q4 m.exps:Nat):Int)) J.o b2.o ch (by omega) (by omega)).mono ?_
 rintro e V8 ⟨D7,J7,rfl,bn,c⟩;have cy:=Hm bn;clear bn b2;clear J O
 replace c:Mo B w0 ((Rbw w m a0 r E q D p C n A l y k v j u g t f s d b a)::((R8w m t f Y)::(X++((R9w m s d U)::(S++((GA m b a G)::(F++((R0w m a0 r M)::(L++((R1w m E q V)::((R2w m D p (I (mkI (H+((Qb QT m.types:Nat):Int)+((Qb Qu m.imps:Nat):Int)) m.funcs.length)))::((R3w m C n D3)::((R4w m A l D4)::((R5w m y k D5)::(J5++((R6w m v j D6)::((R7w m u g D7)::(J7++rs)))))))))))))))))) V8:=c.perm (by
  classical
  refine List.perm_iff_count.2 λz=>?_
  simp only [List.count_append,List.count_cons,R0w,R1w,R2w,R3w,R4w,R5w,R6w,R7w,R8w,R9w,GA,Rbw]
  omega)
 have O:V8.cell? ⟨w.heap.size,10,none⟩=some (.slice t m.codes.length f):=(World.ownsRow.cellAt (c.row mS) 10 (show 10<1*13 by decide)).trans rfl
 have J:Hid (Mo B w0 ((R8w m t f Y)::(X++((R9w m s d U)::(S++((GA m b a G)::(F++((R0w m a0 r M)::(L++((R1w m E q V)::((R2w m D p (I (mkI (H+((Qb QT m.types:Nat):Int)+((Qb Qu m.imps:Nat):Int)) m.funcs.length)))::((R3w m C n D3)::((R4w m A l D4)::((R5w m y k D5)::(J5++((R6w m v j D6)::((R7w m u g D7)::(J7++((Rbw w m a0 r E q D p C n A l y k v j u g t f s d b a)::rs)))))))))))))))))) V8):=Hm (c.perm (by
  classical
  refine List.perm_iff_count.2 λz=>?_
  simp only [List.count_append,List.count_cons,R0w,R1w,R2w,R3w,R4w,R5w,R6w,R7w,R8w,R9w,GA,Rbw]
  omega))
 clear c
 go_wp2_with fail
 refine (markCod_c m.codes t f Y X (H+((Qb QT m.types:Nat):Int)+((Qb Qu m.imps:Nat):Int)+(m.funcs.length:Int)+((Qb Qo m.tabs:Nat):Int)+((Qb Qo m.mems:Nat):Int)+((Qb QG m.globs:Nat):Int)+((Qb Q4 m.exps:Nat):Int)+((Qb Ja m.elems:Nat):Int)) J.o bz.o cg (by omega) (by omega)).mono ?_
 rintro e V9 ⟨D8,J8,rfl,bm,c⟩;have cx:=Hm bm;clear bm bz;clear J O
 replace c:Mo B w0 ((Rbw w m a0 r E q D p C n A l y k v j u g t f s d b a)::((R9w m s d U)::(S++((GA m b a G)::(F++((R0w m a0 r M)::(L++((R1w m E q V)::((R2w m D p (I (mkI (H+((Qb QT m.types:Nat):Int)+((Qb Qu m.imps:Nat):Int)) m.funcs.length)))::((R3w m C n D3)::((R4w m A l D4)::((R5w m y k D5)::(J5++((R6w m v j D6)::((R7w m u g D7)::(J7++((R8w m t f D8)::(J8++rs)))))))))))))))))) V9:=c.perm (by
  classical
  refine List.perm_iff_count.2 λz=>?_
  simp only [List.count_append,List.count_cons,R0w,R1w,R2w,R3w,R4w,R5w,R6w,R7w,R8w,R9w,GA,Rbw]
  omega)
 have O:V9.cell? ⟨w.heap.size,11,none⟩=some (.slice s m.datas.length d):=(World.ownsRow.cellAt (c.row mS) 11 (show 11<1*13 by decide)).trans rfl
 have J:Hid (Mo B w0 ((R9w m s d U)::(S++((GA m b a G)::(F++((R0w m a0 r M)::(L++((R1w m E q V)::((R2w m D p (I (mkI (H+((Qb QT m.types:Nat):Int)+((Qb Qu m.imps:Nat):Int)) m.funcs.length)))::((R3w m C n D3)::((R4w m A l D4)::((R5w m y k D5)::(J5++((R6w m v j D6)::((R7w m u g D7)::(J7++((R8w m t f D8)::(J8++((Rbw w m a0 r E q D p C n A l y k v j u g t f s d b a)::rs)))))))))))))))))) V9):=Hm (c.perm (by
  classical
  refine List.perm_iff_count.2 λz=>?_
  simp only [List.count_append,List.count_cons,R0w,R1w,R2w,R3w,R4w,R5w,R6w,R7w,R8w,R9w,GA,Rbw]
  omega))
 clear c
 go_wp2_with fail
 refine (markDat_c m.datas s d U S (H+((Qb QT m.types:Nat):Int)+((Qb Qu m.imps:Nat):Int)+(m.funcs.length:Int)+((Qb Qo m.tabs:Nat):Int)+((Qb Qo m.mems:Nat):Int)+((Qb QG m.globs:Nat):Int)+((Qb Q4 m.exps:Nat):Int)+((Qb Ja m.elems:Nat):Int)+((Qb Je m.codes:Nat):Int)) J.o bx.o cf (by omega) (by omega)).mono ?_
 rintro e av ⟨D9,J9,rfl,bk,c⟩;have cw:=Hm bk;clear bk bx;clear J O
 replace c:Mo B w0 ((Rbw w m a0 r E q D p C n A l y k v j u g t f s d b a)::((GA m b a G)::(F++((R0w m a0 r M)::(L++((R1w m E q V)::((R2w m D p (I (mkI (H+((Qb QT m.types:Nat):Int)+((Qb Qu m.imps:Nat):Int)) m.funcs.length)))::((R3w m C n D3)::((R4w m A l D4)::((R5w m y k D5)::(J5++((R6w m v j D6)::((R7w m u g D7)::(J7++((R8w m t f D8)::(J8++((R9w m s d D9)::(J9++rs)))))))))))))))))) av:=c.perm (by
  classical
  refine List.perm_iff_count.2 λz=>?_
  simp only [List.count_append,List.count_cons,R0w,R1w,R2w,R3w,R4w,R5w,R6w,R7w,R8w,R9w,GA,Rbw]
  omega)
 have O:av.cell? ⟨w.heap.size,12,none⟩=some (.slice b m.customs.length a):=(World.ownsRow.cellAt (c.row mS) 12 (show 12<1*13 by decide)).trans rfl
 have J:Hid (Mo B w0 ((GA m b a G)::(F++((R0w m a0 r M)::(L++((R1w m E q V)::((R2w m D p (I (mkI (H+((Qb QT m.types:Nat):Int)+((Qb Qu m.imps:Nat):Int)) m.funcs.length)))::((R3w m C n D3)::((R4w m A l D4)::((R5w m y k D5)::(J5++((R6w m v j D6)::((R7w m u g D7)::(J7++((R8w m t f D8)::(J8++((R9w m s d D9)::(J9++((Rbw w m a0 r E q D p C n A l y k v j u g t f s d b a)::rs)))))))))))))))))) av):=Hm (c.perm (by
  classical
  refine List.perm_iff_count.2 λz=>?_
  simp only [List.count_append,List.count_cons,R0w,R1w,R2w,R3w,R4w,R5w,R6w,R7w,R8w,R9w,GA,Rbw]
  omega))
 clear c
 go_wp2_with fail
 refine (markCus_c m.customs b a G F (H+((Qb QT m.types:Nat):Int)+((Qb Qu m.imps:Nat):Int)+(m.funcs.length:Int)+((Qb Qo m.tabs:Nat):Int)+((Qb Qo m.mems:Nat):Int)+((Qb QG m.globs:Nat):Int)+((Qb Q4 m.exps:Nat):Int)+((Qb Ja m.elems:Nat):Int)+((Qb Je m.codes:Nat):Int)+((Qb Jo m.datas:Nat):Int)) J.o aq.o ay (by omega) (by omega)).mono ?_
 rintro e ct ⟨ca,bv,rfl,ao,c⟩;have b9:=Hm ao;clear ao aq;clear J O
 replace c:Mo B w0 ((Rbw w m a0 r E q D p C n A l y k v j u g t f s d b a)::((R0w m a0 r M)::(L++((R1w m E q V)::((R2w m D p (I (mkI (H+((Qb QT m.types:Nat):Int)+((Qb Qu m.imps:Nat):Int)) m.funcs.length)))::((R3w m C n D3)::((R4w m A l D4)::((R5w m y k D5)::(J5++((R6w m v j D6)::((R7w m u g D7)::(J7++((R8w m t f D8)::(J8++((R9w m s d D9)::(J9++((GA m b a ca)::(bv++rs)))))))))))))))))) ct:=c.perm (by
  classical
  refine List.perm_iff_count.2 λz=>?_
  simp only [List.count_append,List.count_cons,R0w,R1w,R2w,R3w,R4w,R5w,R6w,R7w,R8w,R9w,GA,Rbw]
  omega)
 have J:=Hm c;clear c
 go_wp2_with fail
 go_ret
 refine ⟨_,?_,⟨M,L,V,D3,D4,D5,J5,D6,D7,J7,D8,J8,D9,J9,ca,bv,c7.o,c6.o,c5.o,c4.o,c2.o,cz.o,cy.o,cx.o,cw.o,b9.o,rfl⟩,?_⟩
 . simp only [szM];push_cast
   rw [show H+(((Qb QT m.types:Nat):Int)+((Qb Qu m.imps:Nat):Int)+(m.funcs.length:Int)+((Qb Qo m.tabs:Nat):Int)+((Qb Qo m.mems:Nat):Int)+((Qb QG m.globs:Nat):Int)+((Qb Q4 m.exps:Nat):Int)+((Qb Ja m.elems:Nat):Int)+((Qb Je m.codes:Nat):Int)+((Qb Jo m.datas:Nat):Int)+((Qb Ju m.customs:Nat):Int))=H+((Qb QT m.types:Nat):Int)+((Qb Qu m.imps:Nat):Int)+(m.funcs.length:Int)+((Qb Qo m.tabs:Nat):Int)+((Qb Qo m.mems:Nat):Int)+((Qb QG m.globs:Nat):Int)+((Qb Q4 m.exps:Nat):Int)+((Qb Ja m.elems:Nat):Int)+((Qb Je m.codes:Nat):Int)+((Qb Jo m.datas:Nat):Int)+((Qb Ju m.customs:Nat):Int) by omega]
   rfl
 . have h9:=J.o.tail
   simp only [mkM,QP,XA]
   exact h9
end Go.Proofs.YtedcmcdbejjgcaaGreat.Ms
