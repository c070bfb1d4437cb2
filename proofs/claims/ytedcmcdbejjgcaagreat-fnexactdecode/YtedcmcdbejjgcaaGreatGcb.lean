import Derived.Test.YtedcmcdbejjgcaaGreatGaa
import Derived.Test.YtedcmcdbejjgcaaGreatGca
set_option linter.all false
set_option maxHeartbeats 400000000
set_option maxRecDepth 100000
namespace Go.Proofs.YtedcmcdbejjgcaaGreat.Ms
open Go.RowKit Go.Sort
theorem hi_i64 {B c:Nat}{w}{a:Option Addr}{xs:List Int}(h:Qc.Ok B w ⟨2,1,xs.length,.slice a xs.length c,I xs⟩):HI .i64 B w a xs:=by
 by_cases h0:xs=[]
 . exact .inl h0
 . right
   have b:0<xs.length:=List.length_pos_iff.2 h0;obtain ⟨g,f,d,-⟩:=QI h b
   injection d with hv1 _ hv2
   subst hv1
   refine ⟨g,0,rfl,(World.ownsRow.lt h g rfl).1,λi hi=>?_⟩
   rw [Nat.zero_add]
   refine (World.ownsRow.cellAt h i (show i<xs.length*1 by omega)).trans ?_
   show (I xs)[i]?=_
   simp [I,List.getD,hi]
theorem hi_u8 {B c:Nat}{w}{a:Option Addr}{xs:List Int}(h:Qc.Ok B w ⟨5,1,xs.length,.slice a xs.length c,U xs⟩):HI .u8 B w a xs:=by
 by_cases h0:xs=[]
 . exact .inl h0
 . right
   have b:0<xs.length:=List.length_pos_iff.2 h0;obtain ⟨g,f,d,-⟩:=QI h b
   injection d with hv1 _ hv2
   subst hv1
   refine ⟨g,0,rfl,(World.ownsRow.lt h g rfl).1,λi hi=>?_⟩
   rw [Nat.zero_add]
   refine (World.ownsRow.cellAt h i (show i<xs.length*1 by omega)).trans ?_
   show (U xs)[i]?=_
   simp [U,List.getD,hi]
theorem ls_Lim {B c:Nat}{w}{a:Option Addr}{xs:List Qq}{C:List Value}{K}(h:Qc.Ok B w ⟨96,3,xs.length,.slice a xs.length c,C⟩)(d:LR Gz xs C K)(g:∀ r ∈ K,r.Ok B w):Qq.Ls B w a xs :=
 Gt Qq.z (by rintro x n j ⟨rfl,rfl⟩;rfl) (by
  rintro b o x m k ⟨rfl,rfl⟩ f l
  exact ⟨⟨f 0 (by decide),f 1 (by decide),f 2 (by decide)⟩,trivial⟩) h d g
theorem ls_Grp {B c:Nat}{w}{a:Option Addr}{xs:List Grp}{C:List Value}{K}(h:Qc.Ok B w ⟨173,2,xs.length,.slice a xs.length c,C⟩)(d:LR RGrp xs C K)(g:∀ r ∈ K,r.Ok B w):Grp.Ls B w a xs :=
 Gt Grp.z (by rintro x n j ⟨rfl,rfl⟩;rfl) (by
  rintro b o x m k ⟨rfl,rfl⟩ f l
  exact ⟨⟨f 0 (by decide),f 1 (by decide)⟩,trivial⟩) h d g
theorem ls_Exp {B c:Nat}{w}{a:Option Addr}{xs:List Exp}{C:List Value}{K}(h:Qc.Ok B w ⟨111,3,xs.length,.slice a xs.length c,C⟩)(d:LR RExp xs C K)(g:∀ r ∈ K,r.Ok B w):Exp.Ls B w a xs :=
 Gt Exp.z (by rintro x n j ⟨rfl,rfl⟩;rfl) (by
  rintro b o x m k ⟨rfl,rfl⟩ f l
  exact ⟨⟨f 0 (by decide),f 1 (by decide),f 2 (by decide)⟩,trivial⟩) h d g
theorem ls_Imp {B c:Nat}{w}{a:Option Addr}{xs:List Imp}{C:List Value}{K}(h:Qc.Ok B w ⟨100,9,xs.length,.slice a xs.length c,C⟩)(f:LR RImp xs C K)(g:∀ r ∈ K,r.Ok B w):Imp.Ls B w a xs :=
 Gt Imp.z (by rintro x n j ⟨rfl,rfl⟩;rfl) (by
  rintro b o x m k ⟨rfl,rfl⟩ d l
  exact ⟨⟨d 0 (by decide),d 1 (by decide),d 2 (by decide),d 3 (by decide),d 4 (by decide),d 5 (by decide),d 6 (by decide),d 7 (by decide),d 8 (by decide)⟩,trivial⟩) h f g
theorem ls_In {B c:Nat}{w}{a:Option Addr}{xs:List In}{C:List Value}{K}(h:Qc.Ok B w ⟨170,5,xs.length,.slice a xs.length c,C⟩)(f:LR RIn xs C K)(j:∀ r ∈ K,r.Ok B w):In.Ls B w a xs :=
 Gt I0 len_RIn (by
  rintro b o x m l ⟨v,rfl,rfl⟩ d g;obtain ⟨k,c1,rfl⟩:=QJ (g _ mS)
  exact ⟨k,c1,⟨d 0 (by decide),d 1 (by decide),d 2 (by decide),d 3 (by decide),d 4 (by decide)⟩,hi_i64 (g _ mS)⟩) h f j
theorem ls_FT {B c:Nat}{w}{a:Option Addr}{xs:List Q1}{C:List Value}{K}(h:Qc.Ok B w ⟨92,2,xs.length,.slice a xs.length c,C⟩)(f:LR RFT xs C K)(j:∀ r ∈ K,r.Ok B w):Q1.Ls B w a xs :=
 Gt Q1.z len_RFT (by
  rintro b o x p n ⟨v,v2,rfl,rfl⟩ g d;obtain ⟨m,c1,rfl⟩:=QJ (d _ mS);obtain ⟨l,k,rfl⟩:=QJ (d _ (mC mS))
  exact ⟨m,c1,l,k,⟨g 0 (by decide),g 1 (by decide)⟩,hi_i64 (d _ mS),hi_i64 (d _ (mC mS))⟩) h f j
theorem ls_Cus {B c:Nat}{w}{a:Option Addr}{xs:List Cus}{C:List Value}{K}(h:Qc.Ok B w ⟨72,3,xs.length,.slice a xs.length c,C⟩)(d:LR RCus xs C K)(j:∀ r ∈ K,r.Ok B w):Cus.Ls B w a xs :=
 Gt Cus.z len_RCus (by
  rintro b o x m l ⟨v,rfl,rfl⟩ f g;obtain ⟨k,c1,rfl⟩:=QJ (g _ mS)
  exact ⟨k,c1,⟨f 0 (by decide),f 1 (by decide),f 2 (by decide)⟩,hi_u8 (g _ mS)⟩) h d j
theorem ls_Glob {B c:Nat}{w}{a:Option Addr}{xs:List Jv}{C:List Value}{K}(h:Qc.Ok B w ⟨107,3,xs.length,.slice a xs.length c,C⟩)(d:LR X5 xs C K)(j:∀ r ∈ K,r.Ok B w):Jv.Ls B w a xs :=
 Gt Jv.z len_RGlob (by
  rintro b o x p m ⟨v,rfl,q,n,k,rfl⟩ g f;obtain ⟨l,c1,rfl⟩:=QJ (f _ mS)
  exact ⟨l,c1,⟨g 0 (by decide),g 1 (by decide),g 2 (by decide)⟩,ls_In (f _ mS) k (fun r hr=>f r (mC hr))⟩) h d j
theorem ls_Ele {B c:Nat}{w}{a:Option Addr}{xs:List Ele}{C:List Value}{K}(h:Qc.Ok B w ⟨79,2,xs.length,.slice a xs.length c,C⟩)(f:LR REle xs C K)(j:∀ r ∈ K,r.Ok B w):Ele.Ls B w a xs :=
 Gt Ele.z len_REle (by
  rintro b o x t q ⟨v,v2,p,rfl,⟨u,s,k,rfl⟩,rfl⟩ g d;obtain ⟨n,c1,rfl⟩:=QJ (d _ (mL mS));obtain ⟨m,l,rfl⟩:=QJ (d _ (mR mS))
  exact ⟨n,c1,m,l,⟨g 0 (by decide),g 1 (by decide)⟩,ls_In (d _ (mL mS)) k (fun r hr=>d r (mL (mC hr))),hi_i64 (d _ (mR mS))⟩) h f j
theorem ls_Dat {B c:Nat}{w}{a:Option Addr}{xs:List Dat}{C:List Value}{K}(h:Qc.Ok B w ⟨85,2,xs.length,.slice a xs.length c,C⟩)(f:LR RDat xs C K)(j:∀ r ∈ K,r.Ok B w):Dat.Ls B w a xs :=
 Gt Dat.z len_RDat (by
  rintro b o x t q ⟨v,v2,p,rfl,⟨u,s,k,rfl⟩,rfl⟩ g d;obtain ⟨n,c1,rfl⟩:=QJ (d _ (mL mS));obtain ⟨m,l,rfl⟩:=QJ (d _ (mR mS))
  exact ⟨n,c1,m,l,⟨g 0 (by decide),g 1 (by decide)⟩,ls_In (d _ (mL mS)) k (fun r hr=>d r (mL (mC hr))),hi_u8 (d _ (mR mS))⟩) h f j
theorem ls_Cod {B c:Nat}{w}{a:Option Addr}{xs:List Cod}{C:List Value}{K}(h:Qc.Ok B w ⟨83,2,xs.length,.slice a xs.length c,C⟩)(f:LR Oq xs C K)(j:∀ r ∈ K,r.Ok B w):Cod.Ls B w a xs :=
 Gt Cod.z len_RCod (by
  rintro b o x u s ⟨v,A,v2,q,rfl,l,⟨y,t,k,rfl⟩,rfl⟩ g d;obtain ⟨p,c1,rfl⟩:=QJ (d _ mS);obtain ⟨n,m,rfl⟩:=QJ (d _ (mC mS))
  exact ⟨p,c1,n,m,⟨g 0 (by decide),g 1 (by decide)⟩,ls_Grp (d _ mS) l (fun r hr=>by cases hr),ls_In (d _ (mC mS)) k (fun r hr=>d r (mC (mC hr)))⟩) h f j
theorem mx_is {m}{a0 D C A z y v u t s a:Option Addr}{X V U S O M L J H G b:Nat}{rs R}{B:Nat}{w:World}(Y:MX m (.slice a0 m.types.length X) (.slice D m.imps.length V) (.slice C m.funcs.length U) (.slice A m.tabs.length S) (.slice z m.mems.length O) (.slice y m.globs.length M) (.slice v m.exps.length L) (.slice u m.elems.length J) (.slice t m.codes.length H) (.slice s m.datas.length G) (.slice a m.customs.length b) rs R)(h:∀ r ∈ R,r.Ok B w):Mod.Is 0 w m a0 D C A z y v u t s a:=by
 obtain ⟨C0,K0,C1,C3,C4,C5,K5,C6,C7,K7,C8,K8,C9,Z,F,E,q,p,o,n,l,k,j,f,d,c,rfl⟩:=Y;have g:∀ r ∈ (⟨92,2,m.types.length,(.slice a0 m.types.length X),C0⟩::(K0++(⟨100,9,m.imps.length,(.slice D m.imps.length V),C1⟩::(⟨2,1,m.funcs.length,(.slice C m.funcs.length U),I m.funcs⟩::(⟨96,3,m.tabs.length,(.slice A m.tabs.length S),C3⟩::(⟨96,3,m.mems.length,(.slice z m.mems.length O),C4⟩::(⟨107,3,m.globs.length,(.slice y m.globs.length M),C5⟩::(K5++(⟨111,3,m.exps.length,(.slice v m.exps.length L),C6⟩::(⟨79,2,m.elems.length,(.slice u m.elems.length J),C7⟩::(K7++(⟨83,2,m.codes.length,(.slice t m.codes.length H),C8⟩::(K8++(⟨85,2,m.datas.length,(.slice s m.datas.length G),C9⟩::(Z++(⟨72,3,m.customs.length,(.slice a m.customs.length b),F⟩::(E++rs))))))))))))))))),Qc.Ok 0 w r:=λr hr=>World.ownsRow.mono (h r hr) (Nat.zero_le _)
 exact ⟨ls_FT (g _ mS) q (fun r hr=>g r (mC (mL hr))),
  ls_Imp (g _ (mC (mR mS))) p (λr hr=>by cases hr),
  hi_i64 (g _ (mC (mR (mC mS)))),
  ls_Lim (g _ (mC (mR (mC (mC mS))))) o (λr hr=>by cases hr),
  ls_Lim (g _ (mC (mR (mC (mC (mC mS)))))) n (λr hr=>by cases hr),
  ls_Glob (g _ (mC (mR (mC (mC (mC (mC mS))))))) l (λr hr=>g r (mC (mR (mC (mC (mC (mC (mC (mL hr))))))))),
  ls_Exp (g _ (mC (mR (mC (mC (mC (mC (mC (mR mS))))))))) k (λr hr=>by cases hr),
  ls_Ele (g _ (mC (mR (mC (mC (mC (mC (mC (mR (mC mS)))))))))) j (λr hr=>g r (mC (mR (mC (mC (mC (mC (mC (mR (mC (mC (mL hr)))))))))))),
  ls_Cod (g _ (mC (mR (mC (mC (mC (mC (mC (mR (mC (mC (mR mS)))))))))))) f (λr hr=>g r (mC (mR (mC (mC (mC (mC (mC (mR (mC (mC (mR (mC (mL hr)))))))))))))),
  ls_Dat (g _ (mC (mR (mC (mC (mC (mC (mC (mR (mC (mC (mR (mC (mR mS)))))))))))))) d (λr hr=>g r (mC (mR (mC (mC (mC (mC (mC (mR (mC (mC (mR (mC (mR (mC (mL hr)))))))))))))))),
  ls_Cus (g _ (mC (mR (mC (mC (mC (mC (mC (mR (mC (mC (mR (mC (mR (mC (mR mS)))))))))))))))) c (fun r hr=>g r (mC (mR (mC (mC (mC (mC (mC (mR (mC (mC (mR (mC (mR (mC (mR (mC (mL hr))))))))))))))))))⟩
theorem eqD_c (er at_:Int)(m:Mod)(a0:Option Addr)(n0:Nat)(X:Option Addr)(n1:Nat)(U:Option Addr)(n2:Nat)(S:Option Addr)(n3:Nat)(R:Option Addr)(n4:Nat)(O:Option Addr)(n5:Nat)(M:Option Addr)(n6:Nat)(L:Option Addr)(n7:Nat)(J:Option Addr)(Z:Nat)(I:Option Addr)(Y:Nat)(p:Option Addr)(C:Nat)(r:Option Addr)(E:Nat)(q:Option Addr)(D:Nat)(n:Option Addr)(B:Nat)(l:Option Addr)(A:Nat)(k:Option Addr)(z:Nat)(j:Option Addr)(y:Nat)(g:Option Addr)(v:Nat)(f:Option Addr)(u:Nat)(d:Option Addr)(t:Nat)(c:Option Addr)(s:Nat)(a:Option Addr)(b:Nat)(w:World)(hI:Mod.Is 0 w m a0 X U S R O M L J I p)(G:Mod.Is 0 w m r q n l k j g f d c a)(hl:Mod.LB 1048576 m) :
    Calls Tryz.prog 10 #[.agg #[.int .i64 er,.int .i64 at_,.slice a0 m.types.length n0,.slice X m.imps.length n1,.slice U m.funcs.length n2,.slice S m.tabs.length n3,.slice R m.mems.length n4,.slice O m.globs.length n5,.slice M m.exps.length n6,.bool m.hasS,.int .i64 m.start,.slice L m.elems.length n7,.slice J m.codes.length Z,.slice I m.datas.length Y,.slice p m.customs.length C],.agg #[.int .i64 er,.int .i64 at_,.slice r m.types.length E,.slice q m.imps.length D,.slice n m.funcs.length B,.slice l m.tabs.length A,.slice k m.mems.length z,.slice j m.globs.length y,.slice g m.exps.length v,.bool m.hasS,.int .i64 m.start,.slice f m.elems.length u,.slice d m.codes.length t,.slice c m.datas.length s,.slice a m.customs.length b]] w λe w'=>e=.returned (.bool true)/\Below w.heap.size w w':=by
 obtain ⟨W,H⟩:∃ W,W=(w.alloc (.cells #[.int .i64 er,.int .i64 at_,.slice a0 m.types.length n0,.slice X m.imps.length n1,.slice U m.funcs.length n2,.slice S m.tabs.length n3,.slice R m.mems.length n4,.slice O m.globs.length n5,.slice M m.exps.length n6,.bool m.hasS,.int .i64 m.start,.slice L m.elems.length n7,.slice J m.codes.length Z,.slice I m.datas.length Y,.slice p m.customs.length C] 36)).alloc (.cells #[.int .i64 er,.int .i64 at_,.slice r m.types.length E,.slice q m.imps.length D,.slice n m.funcs.length B,.slice l m.tabs.length A,.slice k m.mems.length z,.slice j m.globs.length y,.slice g m.exps.length v,.bool m.hasS,.int .i64 m.start,.slice f m.elems.length u,.slice d m.codes.length t,.slice c m.datas.length s,.slice a m.customs.length b] 36):=⟨_,rfl⟩
 have F:Below w.heap.size w W:=by
  rw [H]
  exact (bF.alloc lR _).alloc (by simp) _
 have KC:=Hm (reMod_c m a0 n0 X n1 U n2 S n3 R n4 O n5 M n6 L n7 J Z I Y p C r E q D n B l A k z j y g v f u d t c s a b W (hI.up (Qh F)) (G.up (Qh F)) hl);rw [H] at KC;have HB:=Hm F;have HW:=Hm H;clear hI G hl F H
 go_enter Tryz.func10,Tryz.ntmps10
 go_wp2_with fail
 refine KC.o.mono ?_
 rintro e V ⟨rfl,F⟩
 have aj:Hid (Below w.heap.size w V):=by
  show Below _ _ _
  have:=HB.o
  rw [HW.o] at this
  exact this.trans (F.mono this.size)
 clear F KC HB HW
 go_wp2_with fail
 go_ret
 exact ⟨rfl,aj.o⟩
theorem heldM_c (m:Mod)(a0:Option Addr)(F:Nat)(V:Option Addr)(E:Nat)(U:Option Addr)(D:Nat)(S:Option Addr)(C:Nat)(O:Option Addr)(A:Nat)(M:Option Addr)(z:Nat)(L:Option Addr)(y:Nat)(J:Option Addr)(v:Nat)(H:Option Addr)(u:Nat)(G:Option Addr)(t:Nat)(l:Option Addr)(k:Nat)(b:Int)(rs R)(B:Nat)(w:World)(hx:MX (mkM b m) (.slice a0 m.types.length F) (.slice V m.imps.length E) (.slice U m.funcs.length D) (.slice S m.tabs.length C) (.slice O m.mems.length A) (.slice M m.globs.length z) (.slice L m.exps.length y) (.slice J m.elems.length v) (.slice H m.codes.length u) (.slice G m.datas.length t) (.slice l m.customs.length k) rs R)(h:∀ r ∈ R,r.Ok B w)(hl:LnM m)(h0:0<=b)(h1:b+szM m<=1000000000) :
    Calls Tryz.prog 27 #[.agg #[.slice a0 m.types.length F,.slice V m.imps.length E,.slice U m.funcs.length D,.slice S m.tabs.length C,.slice O m.mems.length A,.slice M m.globs.length z,.slice L m.exps.length y,.bool m.hasS,.int .i64 m.start,.slice J m.elems.length v,.slice H m.codes.length u,.slice G m.datas.length t,.slice l m.customs.length k],.int .i64 b] w λe q=>e=.returned (.int .i64 (b+(szM m:Nat)))/\Below w.heap.size w q:=by
 have HS:Hid (szM m=Qb QT m.types+Qb Qu m.imps+m.funcs.length+Qb Qo m.tabs+Qb Qo m.mems+Qb QG m.globs+Qb Q4 m.exps+Qb Ja m.elems+Qb Je m.codes+Qb Jo m.datas+Qb Ju m.customs):=Hm rfl
 simp only [MX,mkM,QP,XA] at hx
 obtain ⟨C0,K0,C1,C3,C4,C5,K5,C6,C7,K7,C8,K8,C9,K9,ao,ai,ag,af,ae,ad,ac,ab,aa,Z,Y,s,rfl⟩:=hx;obtain ⟨ay,ax,b9,b8,b7,aw,av,au,ar,aq,X⟩:=hl;rw [HS.o] at h1;have T0:Hid (Qc.Ok B w ⟨92,2,m.types.length,(.slice a0 m.types.length F),C0⟩):=Hm (h _ mS);have G0:Hid (∀ r ∈ K0,Qc.Ok B w r):=Hm (λr hr=>h r (mC (mL hr)));have bm:=Hm ag;clear ag;have T1:Hid (Qc.Ok B w ⟨100,9,m.imps.length,(.slice V m.imps.length E),C1⟩):=Hm (h _ (mC (mR mS)));have bk:=Hm af;clear af;have T2:Hid (Qc.Ok B w ⟨2,1,m.funcs.length,(.slice U m.funcs.length D),I (mkI (b+((Qb QT m.types:Nat):Int)+((Qb Qu m.imps:Nat):Int)) m.funcs.length)⟩):=Hm (h _ (mC (mR (mC mS))));have T3:Hid (Qc.Ok B w ⟨96,3,m.tabs.length,(.slice S m.tabs.length C),C3⟩):=Hm (h _ (mC (mR (mC (mC mS)))));have bj:=Hm ae;clear ae;have T4:Hid (Qc.Ok B w ⟨96,3,m.mems.length,(.slice O m.mems.length A),C4⟩):=Hm (h _ (mC (mR (mC (mC (mC mS))))));have bh:=Hm ad;clear ad;have T5:Hid (Qc.Ok B w ⟨107,3,m.globs.length,(.slice M m.globs.length z),C5⟩):=Hm (h _ (mC (mR (mC (mC (mC (mC mS)))))))
 have G5:Hid (∀ r ∈ K5,Qc.Ok B w r):=Hm (λr hr=>h r (mC (mR (mC (mC (mC (mC (mC (mL hr)))))))));have bg:=Hm ac;clear ac;have T6:Hid (Qc.Ok B w ⟨111,3,m.exps.length,(.slice L m.exps.length y),C6⟩):=Hm (h _ (mC (mR (mC (mC (mC (mC (mC (mR mS)))))))));have bf:=Hm ab;clear ab;have T7:Hid (Qc.Ok B w ⟨79,2,m.elems.length,(.slice J m.elems.length v),C7⟩):=Hm (h _ (mC (mR (mC (mC (mC (mC (mC (mR (mC mS))))))))));have G7:Hid (∀ r ∈ K7,Qc.Ok B w r):=Hm (λr hr=>h r (mC (mR (mC (mC (mC (mC (mC (mR (mC (mC (mL hr))))))))))));have bd:=Hm aa;clear aa;have T8:Hid (Qc.Ok B w ⟨83,2,m.codes.length,(.slice H m.codes.length u),C8⟩):=Hm (h _ (mC (mR (mC (mC (mC (mC (mC (mR (mC (mC (mR mS))))))))))))
 have G8:Hid (∀ r ∈ K8,Qc.Ok B w r):=Hm (λr hr=>h r (mC (mR (mC (mC (mC (mC (mC (mR (mC (mC (mR (mC (mL hr))))))))))))));have bc:=Hm Z;clear Z;have T9:Hid (Qc.Ok B w ⟨85,2,m.datas.length,(.slice G m.datas.length t),C9⟩):=Hm (h _ (mC (mR (mC (mC (mC (mC (mC (mR (mC (mC (mR (mC (mR mS))))))))))))));have G9:Hid (∀ r ∈ K9,Qc.Ok B w r):=Hm (λr hr=>h r (mC (mR (mC (mC (mC (mC (mC (mR (mC (mC (mR (mC (mR (mC (mL hr))))))))))))))));have bb:=Hm Y;clear Y
 have ba:Hid (Qc.Ok B w ⟨72,3,m.customs.length,(.slice l m.customs.length k),ao⟩):=Hm (h _ (mC (mR (mC (mC (mC (mC (mC (mR (mC (mC (mR (mC (mR (mC (mR mS))))))))))))))));have bn:Hid (∀ r ∈ ai,Qc.Ok B w r):=Hm (λr hr=>h r (mC (mR (mC (mC (mC (mC (mC (mR (mC (mC (mR (mC (mR (mC (mR (mC (mL hr))))))))))))))))));have ak:=Hm s;clear s;obtain ⟨c,a⟩:∃ c,c=w.alloc (.cells #[.slice a0 m.types.length F,.slice V m.imps.length E,.slice U m.funcs.length D,.slice S m.tabs.length C,.slice O m.mems.length A,.slice M m.globs.length z,.slice L m.exps.length y,.bool m.hasS,.int .i64 m.start,.slice J m.elems.length v,.slice H m.codes.length u,.slice G m.datas.length t,.slice l m.customs.length k] 34):=⟨_,rfl⟩;have j:Below w.heap.size w c:=by rw [a];exact bF.alloc lR _
 have n:w.heap.size<c.heap.size:=by rw [a];simp
 have Y0:Hid (∀ W,Below c.heap.size c W->W.cell? ⟨w.heap.size,0,none⟩=some (.slice a0 m.types.length F)):=Hm (λW hW=>(hW.cell (p:=⟨w.heap.size,0,none⟩) n).trans (by rw [a];exact Qw rfl rfl));have Y1:Hid (∀ W,Below c.heap.size c W->W.cell? ⟨w.heap.size,1,none⟩=some (.slice V m.imps.length E)):=Hm (λW hW=>(hW.cell (p:=⟨w.heap.size,1,none⟩) n).trans (by rw [a];exact Qw rfl rfl));have Y2:Hid (∀ W,Below c.heap.size c W->W.cell? ⟨w.heap.size,2,none⟩=some (.slice U m.funcs.length D)):=Hm (λW hW=>(hW.cell (p:=⟨w.heap.size,2,none⟩) n).trans (by rw [a];exact Qw rfl rfl));have Y3:Hid (∀ W,Below c.heap.size c W->W.cell? ⟨w.heap.size,3,none⟩=some (.slice S m.tabs.length C)):=Hm (λW hW=>(hW.cell (p:=⟨w.heap.size,3,none⟩) n).trans (by rw [a];exact Qw rfl rfl));have Y4:Hid (∀ W,Below c.heap.size c W->W.cell? ⟨w.heap.size,4,none⟩=some (.slice O m.mems.length A)):=Hm (λW hW=>(hW.cell (p:=⟨w.heap.size,4,none⟩) n).trans (by rw [a];exact Qw rfl rfl));have Y5:Hid (∀ W,Below c.heap.size c W->W.cell? ⟨w.heap.size,5,none⟩=some (.slice M m.globs.length z)):=Hm (λW hW=>(hW.cell (p:=⟨w.heap.size,5,none⟩) n).trans (by rw [a];exact Qw rfl rfl));have Y6:Hid (∀ W,Below c.heap.size c W->W.cell? ⟨w.heap.size,6,none⟩=some (.slice L m.exps.length y)):=Hm (λW hW=>(hW.cell (p:=⟨w.heap.size,6,none⟩) n).trans (by rw [a];exact Qw rfl rfl));have Y7:Hid (∀ W,Below c.heap.size c W->W.cell? ⟨w.heap.size,9,none⟩=some (.slice J m.elems.length v)):=Hm (λW hW=>(hW.cell (p:=⟨w.heap.size,9,none⟩) n).trans (by rw [a];exact Qw rfl rfl))
 have Y8:Hid (∀ W,Below c.heap.size c W->W.cell? ⟨w.heap.size,10,none⟩=some (.slice H m.codes.length u)):=Hm (λW hW=>(hW.cell (p:=⟨w.heap.size,10,none⟩) n).trans (by rw [a];exact Qw rfl rfl));have Y9:Hid (∀ W,Below c.heap.size c W->W.cell? ⟨w.heap.size,11,none⟩=some (.slice G m.datas.length t)):=Hm (λW hW=>(hW.cell (p:=⟨w.heap.size,11,none⟩) n).trans (by rw [a];exact Qw rfl rfl));have az:Hid (∀ W,Below c.heap.size c W->W.cell? ⟨w.heap.size,12,none⟩=some (.slice l m.customs.length k)):=Hm (λW hW=>(hW.cell (p:=⟨w.heap.size,12,none⟩) n).trans (by rw [a];exact Qw rfl rfl));have aj:=Hm a;have d:=Hm j;have g:=Hm (Below.refl c.heap.size c);clear h a j n
 go_enter Tryz.func27,Tryz.ntmps27
 go_upto_region 1 with fail
 rw [<- aj.o];clear aj;have f:=Y0.o _ g.o
 go_wp2_with fail
 refine (heldFT_c m.types a0 F C0 K0 (b) B c (Qc.Ok.below T0.o d.o) (λr hr=>Qc.Ok.below (G0.o r hr) d.o) bm.o ay (by omega) (by omega)).mono ?_
 rintro e q ⟨rfl,rfl⟩;clear f;have cj:¬ b+((Qb QT m.types:Nat):Int)<0:=by omega
 have f:=Y1.o _ g.o
 go_wp2_with fail
 refine (heldImp_c m.imps V E C1 [] (b+((Qb QT m.types:Nat):Int)) B c (Qc.Ok.below T1.o d.o) (by simp) bk.o ax (by omega) (by omega)).mono ?_
 rintro e V2 ⟨rfl,j⟩;replace d:=Hm (d.o.trans (j.mono d.o.size));replace g:=Hm (g.o.trans (j.mono g.o.size));clear j f;have ci:¬ b+((Qb QT m.types:Nat):Int)+((Qb Qu m.imps:Nat):Int)<0:=by omega
 have f:=Y2.o _ g.o
 go_wp2_with fail
 refine (heldI_c m.funcs.length U D (b+((Qb QT m.types:Nat):Int)+((Qb Qu m.imps:Nat):Int)) B V2 (Qc.Ok.below T2.o d.o) (by omega) (by omega)).mono ?_
 rintro e q ⟨rfl,rfl⟩;clear f;have ch:¬ b+((Qb QT m.types:Nat):Int)+((Qb Qu m.imps:Nat):Int)+(m.funcs.length:Int)<0:=by omega
 have f:=Y3.o _ g.o
 go_wp2_with fail
 refine (heldLim_c m.tabs S C C3 (b+((Qb QT m.types:Nat):Int)+((Qb Qu m.imps:Nat):Int)+(m.funcs.length:Int)) B V2 (Qc.Ok.below T3.o d.o) bj.o (by omega) (by omega)).mono ?_
 rintro e q ⟨rfl,rfl⟩;clear f;have cg:¬ b+((Qb QT m.types:Nat):Int)+((Qb Qu m.imps:Nat):Int)+(m.funcs.length:Int)+((Qb Qo m.tabs:Nat):Int)<0:=by omega
 have f:=Y4.o _ g.o
 go_wp2_with fail
 refine (heldLim_c m.mems O A C4 (b+((Qb QT m.types:Nat):Int)+((Qb Qu m.imps:Nat):Int)+(m.funcs.length:Int)+((Qb Qo m.tabs:Nat):Int)) B V2 (Qc.Ok.below T4.o d.o) bh.o (by omega) (by omega)).mono ?_
 rintro e q ⟨rfl,rfl⟩;clear f;have cf:¬ b+((Qb QT m.types:Nat):Int)+((Qb Qu m.imps:Nat):Int)+(m.funcs.length:Int)+((Qb Qo m.tabs:Nat):Int)+((Qb Qo m.mems:Nat):Int)<0:=by omega
 have f:=Y5.o _ g.o
 go_wp2_with fail
 refine (heldGlob_c m.globs M z C5 K5 (b+((Qb QT m.types:Nat):Int)+((Qb Qu m.imps:Nat):Int)+(m.funcs.length:Int)+((Qb Qo m.tabs:Nat):Int)+((Qb Qo m.mems:Nat):Int)) B V2 (Qc.Ok.below T5.o d.o) (λr hr=>Qc.Ok.below (G5.o r hr) d.o) bg.o aw (by omega) (by omega)).mono ?_
 rintro e q ⟨rfl,rfl⟩;clear f;have ce:¬ b+((Qb QT m.types:Nat):Int)+((Qb Qu m.imps:Nat):Int)+(m.funcs.length:Int)+((Qb Qo m.tabs:Nat):Int)+((Qb Qo m.mems:Nat):Int)+((Qb QG m.globs:Nat):Int)<0:=by omega
 have f:=Y6.o _ g.o
 go_wp2_with fail
 refine (heldExp_c m.exps L y C6 [] (b+((Qb QT m.types:Nat):Int)+((Qb Qu m.imps:Nat):Int)+(m.funcs.length:Int)+((Qb Qo m.tabs:Nat):Int)+((Qb Qo m.mems:Nat):Int)+((Qb QG m.globs:Nat):Int)) B V2 (Qc.Ok.below T6.o d.o) (by simp) bf.o av (by omega) (by omega)).mono ?_
 rintro e V7 ⟨rfl,j⟩;replace d:=Hm (d.o.trans (j.mono d.o.size));replace g:=Hm (g.o.trans (j.mono g.o.size));clear j f;have cd:¬ b+((Qb QT m.types:Nat):Int)+((Qb Qu m.imps:Nat):Int)+(m.funcs.length:Int)+((Qb Qo m.tabs:Nat):Int)+((Qb Qo m.mems:Nat):Int)+((Qb QG m.globs:Nat):Int)+((Qb Q4 m.exps:Nat):Int)<0:=by omega
 have f:=Y7.o _ g.o
 go_wp2_with fail
 refine (heldEle_c m.elems J v C7 K7 (b+((Qb QT m.types:Nat):Int)+((Qb Qu m.imps:Nat):Int)+(m.funcs.length:Int)+((Qb Qo m.tabs:Nat):Int)+((Qb Qo m.mems:Nat):Int)+((Qb QG m.globs:Nat):Int)+((Qb Q4 m.exps:Nat):Int)) B V7 (Qc.Ok.below T7.o d.o) (λr hr=>Qc.Ok.below (G7.o r hr) d.o) bd.o au (by omega) (by omega)).mono ?_
 rintro e q ⟨rfl,rfl⟩;clear f;have cc:¬ b+((Qb QT m.types:Nat):Int)+((Qb Qu m.imps:Nat):Int)+(m.funcs.length:Int)+((Qb Qo m.tabs:Nat):Int)+((Qb Qo m.mems:Nat):Int)+((Qb QG m.globs:Nat):Int)+((Qb Q4 m.exps:Nat):Int)+((Qb Ja m.elems:Nat):Int)<0:=by omega
 have f:=Y8.o _ g.o
 go_wp2_with fail
 refine (heldCod_c m.codes H u C8 K8 (b+((Qb QT m.types:Nat):Int)+((Qb Qu m.imps:Nat):Int)+(m.funcs.length:Int)+((Qb Qo m.tabs:Nat):Int)+((Qb Qo m.mems:Nat):Int)+((Qb QG m.globs:Nat):Int)+((Qb Q4 m.exps:Nat):Int)+((Qb Ja m.elems:Nat):Int)) B V7 (Qc.Ok.below T8.o d.o) (λr hr=>Qc.Ok.below (G8.o r hr) d.o) bc.o ar (by omega) (by omega)).mono ?_
 rintro e q ⟨rfl,rfl⟩;clear f;have cb:¬ b+((Qb QT m.types:Nat):Int)+((Qb Qu m.imps:Nat):Int)+(m.funcs.length:Int)+((Qb Qo m.tabs:Nat):Int)+((Qb Qo m.mems:Nat):Int)+((Qb QG m.globs:Nat):Int)+((Qb Q4 m.exps:Nat):Int)+((Qb Ja m.elems:Nat):Int)+((Qb Je m.codes:Nat):Int)<0:=by omega
 have f:=Y9.o _ g.o
 go_wp2_with fail
 refine (heldDat_c m.datas G t C9 K9 (b+((Qb QT m.types:Nat):Int)+((Qb Qu m.imps:Nat):Int)+(m.funcs.length:Int)+((Qb Qo m.tabs:Nat):Int)+((Qb Qo m.mems:Nat):Int)+((Qb QG m.globs:Nat):Int)+((Qb Q4 m.exps:Nat):Int)+((Qb Ja m.elems:Nat):Int)+((Qb Je m.codes:Nat):Int)) B V7 (Qc.Ok.below T9.o d.o) (λr hr=>Qc.Ok.below (G9.o r hr) d.o) bb.o aq (by omega) (by omega)).mono ?_
 rintro e q ⟨rfl,rfl⟩;clear f;have ca:¬ b+((Qb QT m.types:Nat):Int)+((Qb Qu m.imps:Nat):Int)+(m.funcs.length:Int)+((Qb Qo m.tabs:Nat):Int)+((Qb Qo m.mems:Nat):Int)+((Qb QG m.globs:Nat):Int)+((Qb Q4 m.exps:Nat):Int)+((Qb Ja m.elems:Nat):Int)+((Qb Je m.codes:Nat):Int)+((Qb Jo m.datas:Nat):Int)<0:=by omega
 have f:=az.o _ g.o
 go_wp2_with fail
 refine (heldCus_c m.customs l k ao ai (b+((Qb QT m.types:Nat):Int)+((Qb Qu m.imps:Nat):Int)+(m.funcs.length:Int)+((Qb Qo m.tabs:Nat):Int)+((Qb Qo m.mems:Nat):Int)+((Qb QG m.globs:Nat):Int)+((Qb Q4 m.exps:Nat):Int)+((Qb Ja m.elems:Nat):Int)+((Qb Je m.codes:Nat):Int)+((Qb Jo m.datas:Nat):Int)) B V7 (Qc.Ok.below ba.o d.o) (λr hr=>Qc.Ok.below (bn.o r hr) d.o) ak.o X (by omega) (by omega)).mono ?_
 rintro e cv ⟨rfl,j⟩;replace d:=Hm (d.o.trans (j.mono d.o.size));replace g:=Hm (g.o.trans (j.mono g.o.size));clear j f;have bp:¬ b+((Qb QT m.types:Nat):Int)+((Qb Qu m.imps:Nat):Int)+(m.funcs.length:Int)+((Qb Qo m.tabs:Nat):Int)+((Qb Qo m.mems:Nat):Int)+((Qb QG m.globs:Nat):Int)+((Qb Q4 m.exps:Nat):Int)+((Qb Ja m.elems:Nat):Int)+((Qb Je m.codes:Nat):Int)+((Qb Jo m.datas:Nat):Int)+((Qb Ju m.customs:Nat):Int)<0:=by omega
 go_wp2_with fail
 go_ret
 refine ⟨?_,d.o⟩
 rw [HS.o];push_cast;rw [show b+(((Qb QT m.types:Nat):Int)+((Qb Qu m.imps:Nat):Int)+(m.funcs.length:Int)+((Qb Qo m.tabs:Nat):Int)+((Qb Qo m.mems:Nat):Int)+((Qb QG m.globs:Nat):Int)+((Qb Q4 m.exps:Nat):Int)+((Qb Ja m.elems:Nat):Int)+((Qb Je m.codes:Nat):Int)+((Qb Jo m.datas:Nat):Int)+((Qb Ju m.customs:Nat):Int))=b+((Qb QT m.types:Nat):Int)+((Qb Qu m.imps:Nat):Int)+(m.funcs.length:Int)+((Qb Qo m.tabs:Nat):Int)+((Qb Qo m.mems:Nat):Int)+((Qb QG m.globs:Nat):Int)+((Qb Q4 m.exps:Nat):Int)+((Qb Ja m.elems:Nat):Int)+((Qb Je m.codes:Nat):Int)+((Qb Jo m.datas:Nat):Int)+((Qb Ju m.customs:Nat):Int) by omega]
 rfl
end Go.Proofs.YtedcmcdbejjgcaaGreat.Ms
