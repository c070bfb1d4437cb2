import Derived.Test.YtedcmcdbejjgcaaGreatGaa
import Derived.Test.YtedcmcdbejjgcaaGreatGbh
import Derived.Test.YtedcmcdbejjgcaaGreatGas
import Derived.Test.YtedcmcdbejjgcaaGreatGbc
set_option linter.all false
set_option maxHeartbeats 400000000
set_option maxRecDepth 100000
namespace Go.Proofs.YtedcmcdbejjgcaaGreat
open Go.RowKit Go.Sort
def Rs.e2 {α:Type}(bs:List Int)(r:Rs α):Prop:=∀ a,r=.bad 2 a->a=bs.length
theorem e2_ok {α:Type}(bs:List Int)(v:α)(p:Nat):(Rs.ok v p).e2 bs:=λa h=>by cases h
theorem Ol {α:Type}(bs:List Int){er:Int}(a:Int)(h:er≠2):(Rs.bad (α:=α) er a).e2 bs:=λb e=>by cases e;exact absurd rfl h
theorem Oj {α β:Type}{bs:List Int}{r:Rs α}{k:α->Nat->Rs β}(h:r.e2 bs)(c:∀ v p,(k v p).e2 bs):(r.bind k).e2 bs:=λa e=>by
 cases r with
 |bad er b=>cases e;exact h a rfl
 |ok v p=>exact c v p a e
theorem e2_if {α:Type}{bs:List Int}{c:Prop}[Decidable c]{x y:Rs α}(b:x.e2 bs)(a:y.e2 bs):(if c then x else y).e2 bs:=by split<;>assumption
theorem e2_take (bs:List Int)(p:Nat):(Qx bs p).e2 bs:=by
 unfold Qx
 split
 · intro a e;cases e;rfl
 . exact e2_ok _ _ _
theorem e2_num (s:Bool)(B:Int)(bs:List Int)(p:Nat):(Qy s B bs p).e2 bs:=by
 unfold Qy
 split
 · intro a e;cases e;rfl
 . split
   · exact e2_ok _ _ _
   . exact Ol _ _ (by decide)
theorem e2_size (bs:List Int)(E:Int)(p:Nat):(Jl bs E p).e2 bs:=Oj (e2_num _ _ _ _) λn p1=>e2_if (Ol _ _ (by decide)) (e2_ok _ _ _)
theorem e2_within {α:Type}(rd:List Int->Int->Nat->Rs α)(bs:List Int)(E:Int)(p:Nat):(QU rd bs E p).e2 bs:=by
 unfold QU
 refine Oj (e2_size _ _ _) λn p1=>?_
 split
 · split
   · split
     · exact Ol _ _ (by decide)
     . intro a e;cases e;rfl
   . rename_i h;exact Ol _ _ h
 . split
   · split
     · intro a e;cases e;rfl
     . exact Ol _ _ (by decide)
   . exact e2_ok _ _ _
theorem e2_hd (bs:List Int):∀ n p,(hdG bs n p).e2 bs
 |0,p=>e2_ok _ _ _
 |n+1,p=>Oj (e2_take _ _) λx p1=>e2_if (e2_hd bs n p1) (Ol _ _ (by decide))
theorem e2_modG (bs:List Int):∀ f m last aft p,(Gq bs f m last aft p).e2 bs
 |0,m,last,aft,p=>λa e=>by cases e;rfl
 |f+1,m,last,aft,p=>e2_if (Oj (Oj (e2_take _ _) λx p1=>e2_if (Ol _ _ (by decide)) (e2_if (Ol _ _ (by decide)) (e2_ok _ _ _))) λk p1=>Oj (e2_within _ _ _ _) λm' p2=>e2_modG bs f m' _ _ p2) (e2_if (Ol _ _ (by decide)) (e2_ok _ _ _))
theorem e2_mod (bs:List Int):(JM bs).e2 bs:=Oj (e2_hd bs 8 0) λ_ p=>e2_modG bs _ _ _ _ p
theorem flt_top {bc:Bf}{bs:List Int}{er at_:Int}(b:bc.fs.length=bs.length)(c:(bc.fs.length:Int)<=bc.E)(h:JM bs=.bad er at_):bc.flt er at_=flt er at_:=by
 unfold Bf.flt
 by_cases a:er=2
 . subst a
   have:=e2_mod bs at_ h
   rw [if_pos rfl,this];unfold Bf.er Bf.ea;rw [if_neg (by omega),if_neg (by omega),b]
 . rw [if_neg a]
def CmP (M:Rs Mod)(w:World)(q:Nat)(ba:Option Addr)(bc:Bf)(bs:List Int)(e:Ending)(w':World):Prop :=
 JI w.heap.size q w w'/\(match M with
  |.bad er at_=>e=.returned (.agg #[.int .i64 er,.int .i64 at_,.nilIface])
  | .ok m p'=>∃ rest L,e=.returned (.agg #[.int .i64 0,.int .i64 0,.nilIface])/\MR m rest L/\Own w.heap.size w' L.flatten/\Rd w' q ba { bc with rest:=rest } bs p')
theorem catm_c (q ba bc bs)(L:List (List Qc))(w)(h:Rd w q ba bc bs 0)(O:Own w.heap.size w L.flatten)(hR:MR Mod.z bc.rest L)(y:bc.rest[13]?=some (.int .i64 0))(u:bc.rest[14]?=some (.int .i64 0))(hA:Qm bs)(hl:bs.length<=1099511627776)(I:bs.length<=1048576)(R:bc.E=JH)(j:∀ r ∈ L.flatten,r.v.ownBlock=none) :
    Calls Tryz.prog 23 #[.func (.func 24) #[.pointer (some ⟨q,0,none⟩)] #[]] w (CmP (JM bs) w q ba bc bs):=by
 obtain ⟨W,s⟩:∃ W,W=w.alloc (.cells #[.int .i64 0,.int .i64 0,.nilIface] 60):=⟨_,rfl⟩;have b0:Below w.heap.size w W:=by rw [s];exact bF.alloc lR _
 have ai:W.heap.size=w.heap.size+1:=by rw [s];simp
 have p:W.heap[w.heap.size]?=some (.cells #[.int .i64 0,.int .i64 0,.nilIface] 60):=by rw [s];exact heap_new w _
 have hq:=h.lt;have Z:Sm (w.heap.size+1) W q ba bc bs 0 L.flatten W:=⟨h.keep b0,JI.refl _ _ _,⟨λr hr=>Qc.Ok.noblk ((O.keep b0).all r hr) (j r hr),O.nd⟩,λa e hx=>by have:=h.byl a e hx;omega,by omega,by omega⟩
 have J:bc.fs.length=bs.length:=by
  have hw:=h.win
  have:=h.fl
  rw [hw,R];simp [JH];omega
 have M:=Hm h.byl;have n:=Hm (λer at_ (hm:JM bs=.bad er at_)=>flt_top (bc:=bc) J (by have:=h.fl;rw [R];unfold JH;omega) hm);have K:=Hm (module_c (w.heap.size+1) W q ba bc bs L W Z hR y u hA hl I R j);have HW:=Hm s;have l:=Hm b0;clear h hA s b0 O hR y u Z j
 rcases hM:JM bs with ⟨er,at_⟩|⟨m,X⟩
 . have HF:=Hm (n.o er at_ hM);rw [hM] at K;clear n hM
   go_enter_defers Tryz.func23,Tryz.ntmps23
   go_wp2_with fail
   rw [<- HW.o]
   refine (K.o).mono ?_
   rintro e d ⟨Y,c⟩;rw [HF.o] at Y;subst Y;have D:=c.size;have g:d.heap[w.heap.size]?=some (.cells #[.int .i64 0,.int .i64 0,.nilIface] 60):=(c.block w.heap.size (by omega) (by omega)).trans p;have c0:d.cell? ⟨w.heap.size,0,none⟩=some (.int .i64 0):=by simp [World.cell?,g]
   have c1:d.cell? ⟨w.heap.size,1,none⟩=some (.int .i64 0):=by simp [World.cell?,g]
   have f0:d.frozen? ⟨w.heap.size,0,none⟩=false:=by simp [World.frozen?,g]
   have f1:d.frozen? ⟨w.heap.size,1,none⟩=false:=by simp [World.frozen?,g]
   have A:d.cell? ⟨w.heap.size,2,none⟩=some .nilIface:=by simp [World.cell?,g]
   have f2:d.frozen? ⟨w.heap.size,2,none⟩=false:=by simp [World.frozen?,g]
   refine leaves_cons (f:=76) (args:=#[.pointer (some ⟨w.heap.size,0,none⟩)]) (by simp) (by simp [go_sem]) ?_
   refine (catch_p w.heap.size er at_ _ _ _ d c0 c1 A f0 f1 f2).mono ?_
   rintro e u' C ⟨rfl,rfl,rfl⟩
   simp [Leaves,settle,results,Tryz.results23,go_sem,c0,c1,A]
   refine ⟨⟨c.os.trans l.o.os,c.tape.trans l.o.tape,c.output.trans l.o.output,?_,λk hk1 hk2=>?_⟩,rfl⟩
   . simp [World.setCell];omega
   . rw [Below.heap_setCell _ _ _ _ (by show k≠w.heap.size;omega),Below.heap_setCell _ _ _ _ (by show k≠w.heap.size;omega),Below.heap_setCell _ _ _ _ (by show k≠w.heap.size;omega),c.block k (by omega) hk2]
     exact l.o.block k hk1
 . rw [hM] at K;clear n hM
   go_enter_defers Tryz.func23,Tryz.ntmps23
   go_wp2_with fail
   rw [<- HW.o]
   refine (K.o).mono ?_
   rintro e d ⟨rest,B,rfl,t,F⟩;have c:=F.b;have D:=c.size;have g:d.heap[w.heap.size]?=some (.cells #[.int .i64 0,.int .i64 0,.nilIface] 60):=(c.block w.heap.size (by omega) (by omega)).trans p;have c0:d.cell? ⟨w.heap.size,0,none⟩=some (.int .i64 0):=by simp [World.cell?,g]
   have c1:d.cell? ⟨w.heap.size,1,none⟩=some (.int .i64 0):=by simp [World.cell?,g]
   have f0:d.frozen? ⟨w.heap.size,0,none⟩=false:=by simp [World.frozen?,g]
   have f1:d.frozen? ⟨w.heap.size,1,none⟩=false:=by simp [World.frozen?,g]
   have A:d.cell? ⟨w.heap.size,2,none⟩=some .nilIface:=by simp [World.cell?,g]
   have f2:d.frozen? ⟨w.heap.size,2,none⟩=false:=by simp [World.frozen?,g]
   have HK:=Hm c;have S:=Hm F;have U:=Hm t;clear c F t K g
   go_wp2_with fail
   refine leaves_cons (f:=76) (args:=#[.pointer (some ⟨w.heap.size,0,none⟩)]) (by simp) (by simp [go_sem]) ?_
   refine (catch_i w.heap.size _).mono ?_
   rintro e u' C ⟨rfl,rfl,rfl⟩
   simp [Leaves,settle,results,Tryz.results23,go_sem,c0,c1,A]
   have c:=HK.o;have H:w.heap.size ∉ blk B.flatten:=λhm=>by have:=(S.o.o.lt hm).1;omega
   refine ⟨⟨c.os.trans l.o.os,c.tape.trans l.o.tape,c.output.trans l.o.output,?_,λk hk1 hk2=>?_⟩,rest,B,rfl,U.o,?_,?_⟩
   . simp [World.setCell];omega
   . rw [Below.heap_setCell _ _ _ _ (by show k≠w.heap.size;omega),Below.heap_setCell _ _ _ _ (by show k≠w.heap.size;omega),Below.heap_setCell _ _ _ _ (by show k≠w.heap.size;omega),c.block k (by omega) hk2]
     exact l.o.block k hk1
   . have G:∀ {V:World} (o:Nat) (v:Value),Own w.heap.size V B.flatten->Own w.heap.size (V.setCell ⟨w.heap.size,o,none⟩ v) B.flatten:=fun {V} o v hV=>hV.grown (Qp V w.heap.size o v) (λk e c=>by cases e;exact H c)
     exact G _ _ (G _ _ (G _ _ (S.o.o.mono (by omega))))
   . have G:∀ {V:World} (o:Nat) (v:Value),Rd V q ba { bc with rest:=rest } bs X->Rd (V.setCell ⟨w.heap.size,o,none⟩ v) q ba { bc with rest:=rest } bs X:=fun {V} o v hV=>hV.grown (Qp V w.heap.size o v) (by simp;omega) (λa ha hx=>by have:=M.o a ha hx;simp;omega)
     exact G _ _ (G _ _ (G _ _ S.o.r))
abbrev zM (x:Mod)(a1:Option Addr)(c1:Nat)(a2:Option Addr)(c2:Nat)(a3:Option Addr)(c3:Nat)(a4:Option Addr)(c4:Nat)(a5:Option Addr)(c5:Nat)(a6:Option Addr)(c6:Nat)(a7:Option Addr)(c7:Nat)(a8:Option Addr)(c8:Nat)(a9:Option Addr)(c9:Nat)(a10:Option Addr)(c10:Nat)(a11:Option Addr)(c11:Nat):List Value:=[.slice a1 x.types.length c1,.slice a2 x.imps.length c2,.slice a3 x.funcs.length c3,.slice a4 x.tabs.length c4,.slice a5 x.mems.length c5,.slice a6 x.globs.length c6,.slice a7 x.exps.length c7,.bool x.hasS,.int .i64 x.start,.slice a8 x.elems.length c8,.slice a9 x.codes.length c9,.slice a10 x.datas.length c10,.slice a11 x.customs.length c11]
theorem reMod_c (x:Mod)(a1:Option Addr)(c1:Nat)(a2:Option Addr)(c2:Nat)(a3:Option Addr)(c3:Nat)(a4:Option Addr)(c4:Nat)(a5:Option Addr)(c5:Nat)(a6:Option Addr)(c6:Nat)(a7:Option Addr)(c7:Nat)(a8:Option Addr)(c8:Nat)(a9:Option Addr)(c9:Nat)(C:Option Addr)(R:Nat)(B:Option Addr)(O:Nat)(D:Option Addr)(S:Nat)(A:Option Addr)(M:Nat)(z:Option Addr)(L:Nat)(y:Option Addr)(J:Nat)(v:Option Addr)(I:Nat)(u:Option Addr)(H:Nat)(t:Option Addr)(G:Nat)(s:Option Addr)(F:Nat)(r:Option Addr)(E:Nat)(f:Option Addr)(j:Nat)(d:Option Addr)(g:Nat)(w:World)(hI:Mod.Is 0 w x a1 a2 a3 a4 a5 a6 a7 a8 a9 C B)(cw:Mod.Is 0 w x D A z y v u t s r f d)(hl:Mod.LB 1048576 x) :
    Calls Tryz.prog 25 #[.agg #[.slice a1 x.types.length c1,.slice a2 x.imps.length c2,.slice a3 x.funcs.length c3,.slice a4 x.tabs.length c4,.slice a5 x.mems.length c5,.slice a6 x.globs.length c6,.slice a7 x.exps.length c7,.bool x.hasS,.int .i64 x.start,.slice a8 x.elems.length c8,.slice a9 x.codes.length c9,.slice C x.datas.length R,.slice B x.customs.length O],.agg #[.slice D x.types.length S,.slice A x.imps.length M,.slice z x.funcs.length L,.slice y x.tabs.length J,.slice v x.mems.length I,.slice u x.globs.length H,.slice t x.exps.length G,.bool x.hasS,.int .i64 x.start,.slice s x.elems.length F,.slice r x.codes.length E,.slice f x.datas.length j,.slice d x.customs.length g]] w λe w'=>e=.returned (.bool true)/\Below w.heap.size w w':=by
 obtain ⟨l0,l1,l2,l3,l4,l5,l6,l9,cv,cu,ct⟩:=hl;obtain ⟨r1,r2,r3,r4,r5,r6,r7,r8,r9,ce,cd⟩:=hI;have R1:=Hm r1;have R2:=Hm r2;have R3:=Hm r3;have R4:=Hm r4;have R5:=Hm r5;have R6:=Hm r6;have R7:=Hm r7;have R8:=Hm r8;have R9:=Hm r9;have di:=Hm ce;have dh:=Hm cd;clear r1 r2 r3 r4 r5 r6 r7 r8 r9 ce cd;obtain ⟨cf,cc,cb,ca,b9,b8,b7,b6,b5,bt,bs⟩:=cw;have dj:=Hm cf;have dg:=Hm cc;have df:=Hm cb;have de:=Hm ca;have dd:=Hm b9;have dc:=Hm b8;have db:=Hm b7;have da:=Hm b6;have cz:=Hm b5;have ci:=Hm bt;have ch:=Hm bs;clear cf cc cb ca b9 b8 b7 b6 b5 bt bs
 have T0:Hid (Bk ((w.alloc (.cells (zM x a1 c1 a2 c2 a3 c3 a4 c4 a5 c5 a6 c6 a7 c7 a8 c8 a9 c9 C R B O).toArray 34)).alloc (.cells (zM x D S A M z L y J v I u H t G s F r E f j d g).toArray 34)) w.heap.size (zM x a1 c1 a2 c2 a3 c3 a4 c4 a5 c5 a6 c6 a7 c7 a8 c8 a9 c9 C R B O)/\Bk ((w.alloc (.cells (zM x a1 c1 a2 c2 a3 c3 a4 c4 a5 c5 a6 c6 a7 c7 a8 c8 a9 c9 C R B O).toArray 34)).alloc (.cells (zM x D S A M z L y J v I u H t G s F r E f j d g).toArray 34)) (w.heap.size+1) (zM x D S A M z L y J v I u H t G s F r E f j d g)/\Below w.heap.size w ((w.alloc (.cells (zM x a1 c1 a2 c2 a3 c3 a4 c4 a5 c5 a6 c6 a7 c7 a8 c8 a9 c9 C R B O).toArray 34)).alloc (.cells (zM x D S A M z L y J v I u H t G s F r E f j d g).toArray 34))):=two w (zM x a1 c1 a2 c2 a3 c3 a4 c4 a5 c5 a6 c6 a7 c7 a8 c8 a9 c9 C R B O) (zM x D S A M z L y J v I u H t G s F r E f j d g) 34 34
 go_enter Tryz.func25,Tryz.ntmps25
 go_upto_region 1 with fail
 refine Ql (λW=>Bk W w.heap.size (zM x a1 c1 a2 c2 a3 c3 a4 c4 a5 c5 a6 c6 a7 c7 a8 c8 a9 c9 C R B O)/\Bk W (w.heap.size+1) (zM x D S A M z L y J v I u H t G s F r E f j d g)/\Below w.heap.size w W) T0.o ?_
 rintro W ⟨b,a,c⟩;clear T0;have q0:=b.2.1 0 _ rfl;have p0:=a.2.1 0 _ rfl;have q1:=b.2.1 1 _ rfl;have p1:=a.2.1 1 _ rfl;have q2:=b.2.1 2 _ rfl;have p2:=a.2.1 2 _ rfl;have q3:=b.2.1 3 _ rfl;have p3:=a.2.1 3 _ rfl;have q4:=b.2.1 4 _ rfl;have p4:=a.2.1 4 _ rfl;have q5:=b.2.1 5 _ rfl;have p5:=a.2.1 5 _ rfl;have q6:=b.2.1 6 _ rfl;have p6:=a.2.1 6 _ rfl;have Z:=b.2.1 7 _ rfl;have p7:=a.2.1 7 _ rfl;have Y:=b.2.1 8 _ rfl;have p8:=a.2.1 8 _ rfl;have X:=b.2.1 9 _ rfl;have p9:=a.2.1 9 _ rfl;have m:=b.2.1 10 _ rfl;have q:=a.2.1 10 _ rfl;have l:=b.2.1 11 _ rfl;have p:=a.2.1 11 _ rfl;have k:=b.2.1 12 _ rfl;have n:=a.2.1 12 _ rfl;have cs:=Hm (reFTypes_c a1 D c1 S x.types W l0 (R1.o.up (Qh c)) (dj.o.up (Qh c)))
 go_wp2_with fail
 refine cs.o.mono ?_
 rintro e W1 ⟨rfl,bf⟩;have b:=b.keep bf;have a:=a.keep bf;have c:=c.trans (bf.mono c.size);clear cs bf;have q0:=b.2.1 0 _ rfl;have p0:=a.2.1 0 _ rfl;have q1:=b.2.1 1 _ rfl;have p1:=a.2.1 1 _ rfl;have q2:=b.2.1 2 _ rfl;have p2:=a.2.1 2 _ rfl;have q3:=b.2.1 3 _ rfl;have p3:=a.2.1 3 _ rfl;have q4:=b.2.1 4 _ rfl;have p4:=a.2.1 4 _ rfl;have q5:=b.2.1 5 _ rfl;have p5:=a.2.1 5 _ rfl;have q6:=b.2.1 6 _ rfl;have p6:=a.2.1 6 _ rfl;have Z:=b.2.1 7 _ rfl;have p7:=a.2.1 7 _ rfl;have Y:=b.2.1 8 _ rfl;have p8:=a.2.1 8 _ rfl;have X:=b.2.1 9 _ rfl;have p9:=a.2.1 9 _ rfl;have m:=b.2.1 10 _ rfl;have q:=a.2.1 10 _ rfl;have l:=b.2.1 11 _ rfl;have p:=a.2.1 11 _ rfl;have k:=b.2.1 12 _ rfl;have n:=a.2.1 12 _ rfl;have cr:=Hm (reImps_c a2 A c2 M x.imps W1 l1 (R2.o.up (Qh c)) (dg.o.up (Qh c)))
 go_wp2_with fail
 refine cr.o.mono ?_
 rintro e W2 ⟨rfl,bd⟩;have b:=b.keep bd;have a:=a.keep bd;have c:=c.trans (bd.mono c.size);clear cr bd;have q0:=b.2.1 0 _ rfl;have p0:=a.2.1 0 _ rfl;have q1:=b.2.1 1 _ rfl;have p1:=a.2.1 1 _ rfl;have q2:=b.2.1 2 _ rfl;have p2:=a.2.1 2 _ rfl;have q3:=b.2.1 3 _ rfl;have p3:=a.2.1 3 _ rfl;have q4:=b.2.1 4 _ rfl;have p4:=a.2.1 4 _ rfl;have q5:=b.2.1 5 _ rfl;have p5:=a.2.1 5 _ rfl;have q6:=b.2.1 6 _ rfl;have p6:=a.2.1 6 _ rfl;have Z:=b.2.1 7 _ rfl;have p7:=a.2.1 7 _ rfl;have Y:=b.2.1 8 _ rfl;have p8:=a.2.1 8 _ rfl;have X:=b.2.1 9 _ rfl;have p9:=a.2.1 9 _ rfl;have m:=b.2.1 10 _ rfl;have q:=a.2.1 10 _ rfl;have l:=b.2.1 11 _ rfl;have p:=a.2.1 11 _ rfl;have k:=b.2.1 12 _ rfl;have n:=a.2.1 12 _ rfl;have cq:=Hm (eq_any a3 z c3 L x.funcs W2 (by omega) (R3.o.up (Qh c)).has (df.o.up (Qh c)).has)
 go_wp2_with fail
 refine cq.o.mono ?_
 rintro e W3 ⟨rfl,dw,cg⟩;have bc:Below W2.heap.size W2 W3:=by rw [cg];exact J6 bF _
 clear cg;have b:=b.keep bc;have a:=a.keep bc;have c:=c.trans (bc.mono c.size);clear cq bc;have q0:=b.2.1 0 _ rfl;have p0:=a.2.1 0 _ rfl;have q1:=b.2.1 1 _ rfl;have p1:=a.2.1 1 _ rfl;have q2:=b.2.1 2 _ rfl;have p2:=a.2.1 2 _ rfl;have q3:=b.2.1 3 _ rfl;have p3:=a.2.1 3 _ rfl;have q4:=b.2.1 4 _ rfl;have p4:=a.2.1 4 _ rfl;have q5:=b.2.1 5 _ rfl;have p5:=a.2.1 5 _ rfl;have q6:=b.2.1 6 _ rfl;have p6:=a.2.1 6 _ rfl;have Z:=b.2.1 7 _ rfl;have p7:=a.2.1 7 _ rfl;have Y:=b.2.1 8 _ rfl;have p8:=a.2.1 8 _ rfl;have X:=b.2.1 9 _ rfl;have p9:=a.2.1 9 _ rfl;have m:=b.2.1 10 _ rfl;have q:=a.2.1 10 _ rfl;have l:=b.2.1 11 _ rfl;have p:=a.2.1 11 _ rfl;have k:=b.2.1 12 _ rfl;have n:=a.2.1 12 _ rfl;have cp:=Hm (reLimitss_c a4 y c4 J x.tabs W3 l3 (R4.o.up (Qh c)) (de.o.up (Qh c)))
 go_wp2_with fail
 refine cp.o.mono ?_
 rintro e W4 ⟨rfl,ba⟩;have b:=b.keep ba;have a:=a.keep ba;have c:=c.trans (ba.mono c.size);clear cp ba;have q0:=b.2.1 0 _ rfl;have p0:=a.2.1 0 _ rfl;have q1:=b.2.1 1 _ rfl;have p1:=a.2.1 1 _ rfl;have q2:=b.2.1 2 _ rfl;have p2:=a.2.1 2 _ rfl;have q3:=b.2.1 3 _ rfl;have p3:=a.2.1 3 _ rfl;have q4:=b.2.1 4 _ rfl;have p4:=a.2.1 4 _ rfl;have q5:=b.2.1 5 _ rfl;have p5:=a.2.1 5 _ rfl;have q6:=b.2.1 6 _ rfl;have p6:=a.2.1 6 _ rfl;have Z:=b.2.1 7 _ rfl;have p7:=a.2.1 7 _ rfl;have Y:=b.2.1 8 _ rfl;have p8:=a.2.1 8 _ rfl;have X:=b.2.1 9 _ rfl;have p9:=a.2.1 9 _ rfl;have m:=b.2.1 10 _ rfl;have q:=a.2.1 10 _ rfl;have l:=b.2.1 11 _ rfl;have p:=a.2.1 11 _ rfl;have k:=b.2.1 12 _ rfl;have n:=a.2.1 12 _ rfl;have co:=Hm (reLimitss_c a5 v c5 I x.mems W4 l4 (R5.o.up (Qh c)) (dd.o.up (Qh c)))
 go_wp2_with fail
 refine co.o.mono ?_
 rintro e W5 ⟨rfl,a0⟩;have b:=b.keep a0;have a:=a.keep a0;have c:=c.trans (a0.mono c.size);clear co a0;have q0:=b.2.1 0 _ rfl;have p0:=a.2.1 0 _ rfl;have q1:=b.2.1 1 _ rfl;have p1:=a.2.1 1 _ rfl;have q2:=b.2.1 2 _ rfl;have p2:=a.2.1 2 _ rfl;have q3:=b.2.1 3 _ rfl;have p3:=a.2.1 3 _ rfl;have q4:=b.2.1 4 _ rfl;have p4:=a.2.1 4 _ rfl;have q5:=b.2.1 5 _ rfl;have p5:=a.2.1 5 _ rfl;have q6:=b.2.1 6 _ rfl;have p6:=a.2.1 6 _ rfl;have Z:=b.2.1 7 _ rfl;have p7:=a.2.1 7 _ rfl;have Y:=b.2.1 8 _ rfl;have p8:=a.2.1 8 _ rfl;have X:=b.2.1 9 _ rfl;have p9:=a.2.1 9 _ rfl;have m:=b.2.1 10 _ rfl;have q:=a.2.1 10 _ rfl;have l:=b.2.1 11 _ rfl;have p:=a.2.1 11 _ rfl;have k:=b.2.1 12 _ rfl;have n:=a.2.1 12 _ rfl;have cn:=Hm (reGlobs_c a6 u c6 H x.globs W5 l5 (R6.o.up (Qh c)) (dc.o.up (Qh c)))
 go_wp2_with fail
 refine cn.o.mono ?_
 rintro e W6 ⟨rfl,az⟩;have b:=b.keep az;have a:=a.keep az;have c:=c.trans (az.mono c.size);clear cn az;have q0:=b.2.1 0 _ rfl;have p0:=a.2.1 0 _ rfl;have q1:=b.2.1 1 _ rfl;have p1:=a.2.1 1 _ rfl;have q2:=b.2.1 2 _ rfl;have p2:=a.2.1 2 _ rfl;have q3:=b.2.1 3 _ rfl;have p3:=a.2.1 3 _ rfl;have q4:=b.2.1 4 _ rfl;have p4:=a.2.1 4 _ rfl;have q5:=b.2.1 5 _ rfl;have p5:=a.2.1 5 _ rfl;have q6:=b.2.1 6 _ rfl;have p6:=a.2.1 6 _ rfl;have Z:=b.2.1 7 _ rfl;have p7:=a.2.1 7 _ rfl;have Y:=b.2.1 8 _ rfl;have p8:=a.2.1 8 _ rfl;have X:=b.2.1 9 _ rfl;have p9:=a.2.1 9 _ rfl;have m:=b.2.1 10 _ rfl;have q:=a.2.1 10 _ rfl;have l:=b.2.1 11 _ rfl;have p:=a.2.1 11 _ rfl;have k:=b.2.1 12 _ rfl;have n:=a.2.1 12 _ rfl;have cl:=Hm (reExps_c a7 t c7 G x.exps W6 l6 (R7.o.up (Qh c)) (db.o.up (Qh c)))
 go_wp2_with fail
 refine cl.o.mono ?_
 rintro e W7 ⟨rfl,ay⟩;have b:=b.keep ay;have a:=a.keep ay;have c:=c.trans (ay.mono c.size);clear cl ay;have q0:=b.2.1 0 _ rfl;have p0:=a.2.1 0 _ rfl;have q1:=b.2.1 1 _ rfl;have p1:=a.2.1 1 _ rfl;have q2:=b.2.1 2 _ rfl;have p2:=a.2.1 2 _ rfl;have q3:=b.2.1 3 _ rfl;have p3:=a.2.1 3 _ rfl;have q4:=b.2.1 4 _ rfl;have p4:=a.2.1 4 _ rfl;have q5:=b.2.1 5 _ rfl;have p5:=a.2.1 5 _ rfl;have q6:=b.2.1 6 _ rfl;have p6:=a.2.1 6 _ rfl;have Z:=b.2.1 7 _ rfl;have p7:=a.2.1 7 _ rfl;have Y:=b.2.1 8 _ rfl;have p8:=a.2.1 8 _ rfl;have X:=b.2.1 9 _ rfl;have p9:=a.2.1 9 _ rfl;have m:=b.2.1 10 _ rfl;have q:=a.2.1 10 _ rfl;have l:=b.2.1 11 _ rfl;have p:=a.2.1 11 _ rfl;have k:=b.2.1 12 _ rfl;have n:=a.2.1 12 _ rfl;have ck:=Hm (reEles_c a8 s c8 F x.elems W7 l9 (R8.o.up (Qh c)) (da.o.up (Qh c)))
 go_wp2_with fail
 refine ck.o.mono ?_
 rintro e W8 ⟨rfl,ax⟩;have b:=b.keep ax;have a:=a.keep ax;have c:=c.trans (ax.mono c.size);clear ck ax;have q0:=b.2.1 0 _ rfl;have p0:=a.2.1 0 _ rfl;have q1:=b.2.1 1 _ rfl;have p1:=a.2.1 1 _ rfl;have q2:=b.2.1 2 _ rfl;have p2:=a.2.1 2 _ rfl;have q3:=b.2.1 3 _ rfl;have p3:=a.2.1 3 _ rfl;have q4:=b.2.1 4 _ rfl;have p4:=a.2.1 4 _ rfl;have q5:=b.2.1 5 _ rfl;have p5:=a.2.1 5 _ rfl;have q6:=b.2.1 6 _ rfl;have p6:=a.2.1 6 _ rfl;have Z:=b.2.1 7 _ rfl;have p7:=a.2.1 7 _ rfl;have Y:=b.2.1 8 _ rfl;have p8:=a.2.1 8 _ rfl;have X:=b.2.1 9 _ rfl;have p9:=a.2.1 9 _ rfl;have m:=b.2.1 10 _ rfl;have q:=a.2.1 10 _ rfl;have l:=b.2.1 11 _ rfl;have p:=a.2.1 11 _ rfl;have k:=b.2.1 12 _ rfl;have n:=a.2.1 12 _ rfl;have cj:=Hm (reCods_c a9 r c9 E x.codes W8 cv (R9.o.up (Qh c)) (cz.o.up (Qh c)))
 go_wp2_with fail
 refine cj.o.mono ?_
 rintro e W9 ⟨rfl,aw⟩;have b:=b.keep aw;have a:=a.keep aw;have c:=c.trans (aw.mono c.size);clear cj aw;have q0:=b.2.1 0 _ rfl;have p0:=a.2.1 0 _ rfl;have q1:=b.2.1 1 _ rfl;have p1:=a.2.1 1 _ rfl;have q2:=b.2.1 2 _ rfl;have p2:=a.2.1 2 _ rfl;have q3:=b.2.1 3 _ rfl;have p3:=a.2.1 3 _ rfl;have q4:=b.2.1 4 _ rfl;have p4:=a.2.1 4 _ rfl;have q5:=b.2.1 5 _ rfl;have p5:=a.2.1 5 _ rfl;have q6:=b.2.1 6 _ rfl;have p6:=a.2.1 6 _ rfl;have Z:=b.2.1 7 _ rfl;have p7:=a.2.1 7 _ rfl;have Y:=b.2.1 8 _ rfl;have p8:=a.2.1 8 _ rfl;have X:=b.2.1 9 _ rfl;have p9:=a.2.1 9 _ rfl;have m:=b.2.1 10 _ rfl;have q:=a.2.1 10 _ rfl;have l:=b.2.1 11 _ rfl;have p:=a.2.1 11 _ rfl;have k:=b.2.1 12 _ rfl;have n:=a.2.1 12 _ rfl;have b4:=Hm (reDats_c C f R j x.datas W9 cu (di.o.up (Qh c)) (ci.o.up (Qh c)))
 go_wp2_with fail
 refine b4.o.mono ?_
 rintro e cy ⟨rfl,V⟩;have b:=b.keep V;have a:=a.keep V;have c:=c.trans (V.mono c.size);clear b4 V;have q0:=b.2.1 0 _ rfl;have p0:=a.2.1 0 _ rfl;have q1:=b.2.1 1 _ rfl;have p1:=a.2.1 1 _ rfl;have q2:=b.2.1 2 _ rfl;have p2:=a.2.1 2 _ rfl;have q3:=b.2.1 3 _ rfl;have p3:=a.2.1 3 _ rfl;have q4:=b.2.1 4 _ rfl;have p4:=a.2.1 4 _ rfl;have q5:=b.2.1 5 _ rfl;have p5:=a.2.1 5 _ rfl;have q6:=b.2.1 6 _ rfl;have p6:=a.2.1 6 _ rfl;have Z:=b.2.1 7 _ rfl;have p7:=a.2.1 7 _ rfl;have Y:=b.2.1 8 _ rfl;have p8:=a.2.1 8 _ rfl;have X:=b.2.1 9 _ rfl;have p9:=a.2.1 9 _ rfl;have m:=b.2.1 10 _ rfl;have q:=a.2.1 10 _ rfl;have l:=b.2.1 11 _ rfl;have p:=a.2.1 11 _ rfl;have k:=b.2.1 12 _ rfl;have n:=a.2.1 12 _ rfl;have b3:=Hm (reCuss_c B d O g x.customs cy ct (dh.o.up (Qh c)) (ch.o.up (Qh c)))
 go_wp2_with fail
 refine b3.o.mono ?_
 rintro e eb ⟨rfl,U⟩;have b:=b.keep U;have a:=a.keep U;have c:=c.trans (U.mono c.size);clear b3 U;have q0:=b.2.1 0 _ rfl;have p0:=a.2.1 0 _ rfl;have q1:=b.2.1 1 _ rfl;have p1:=a.2.1 1 _ rfl;have q2:=b.2.1 2 _ rfl;have p2:=a.2.1 2 _ rfl;have q3:=b.2.1 3 _ rfl;have p3:=a.2.1 3 _ rfl;have q4:=b.2.1 4 _ rfl;have p4:=a.2.1 4 _ rfl;have q5:=b.2.1 5 _ rfl;have p5:=a.2.1 5 _ rfl;have q6:=b.2.1 6 _ rfl;have p6:=a.2.1 6 _ rfl;have Z:=b.2.1 7 _ rfl;have p7:=a.2.1 7 _ rfl;have Y:=b.2.1 8 _ rfl;have p8:=a.2.1 8 _ rfl;have X:=b.2.1 9 _ rfl;have p9:=a.2.1 9 _ rfl;have m:=b.2.1 10 _ rfl;have q:=a.2.1 10 _ rfl;have l:=b.2.1 11 _ rfl;have p:=a.2.1 11 _ rfl;have k:=b.2.1 12 _ rfl;have n:=a.2.1 12 _ rfl;have HB:=Hm c;clear c b a
 go_wp2
 go_ret
 exact ⟨rfl,HB.o⟩
end Go.Proofs.YtedcmcdbejjgcaaGreat
