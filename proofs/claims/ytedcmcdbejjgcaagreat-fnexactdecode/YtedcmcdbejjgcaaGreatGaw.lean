import Derived.Test.YtedcmcdbejjgcaaGreatGaa
import Derived.Test.YtedcmcdbejjgcaaGreatGav
import Derived.Maps.AppendAt
set_option linter.all false
set_option maxHeartbeats 400000000
set_option maxRecDepth 100000
namespace Go.Proofs.YtedcmcdbejjgcaaGreat
open Go.RowKit Go.Sort
theorem onlyG_is {f:Int->Bool}{bs:List Int}{p a:Nat}{v:Int}(h:Qz f bs p=.ok v a):f v=true:=by
 unfold Qz at h
 rcases hM:Qx bs p with ⟨er,at_⟩|⟨x,b⟩
 . rw [hM] at h;cases h
 . rw [hM] at h
   simp only [Rs.bind] at h
   split at h
   · cases h;assumption
   . cases h
theorem kind_cases {k:Int}(h:GU k=true):k=0\/k=1\/k=2\/k=3:=by
 unfold GU at h
 have:=of_decide_eq_true h
 omega
theorem exp_c (q ba bc bs p w)(h:Rd w q ba bc bs p)(O:Qm bs)(hl:bs.length<=1099511627776)(hE:bc.E<=9223372036854775807) :
    Calls Tryz.prog 242 #[.pointer (some ⟨q,0,none⟩)] w (RdP (expM bs bc.E p) (λx=>.agg #[.string x.nm,.int .i64 x.kind,.int .i64 x.ix]) w q ba bc bs):=by
 have L:=h.lt;obtain ⟨W,M⟩:∃ W,W=w.alloc (.cells #[.string ⟨#[]⟩,.int .i64 0,.int .i64 0] 111):=⟨_,rfl⟩;have h0:Wz w q ba bc bs p w.heap.size [.string ⟨#[]⟩,.int .i64 0,.int .i64 0] W:=by rw [M];exact Wz.start h
 have Y:=Hm M;have G:=Hm h0;have y:=Hm (λX (hX:w.heap.size<=X)=>JB h hX);clear M h0 h;unfold expM QK
 go_enter Tryz.func242,Tryz.ntmps242
 go_wp2_with fail
 rw [<- Y.o]
 refine (name_c q ba bc bs p W G.o.r O hl hE).mono ?_
 rintro e J ⟨c,b⟩
 rcases hM:Xa bs bc.E p with ⟨er,at_⟩|⟨a,D⟩
 . rw [hM] at b;subst b
   refine ⟨rfl,Qa G.o.g c,?_⟩
   simp only [hM,Rs.bind]
 have s:=Hm hM;rw [hM] at b;obtain ⟨rfl,k⟩:=b;have n:Hid (Wx w q ba bc bs D w.heap.size J.heap.size [.string ⟨#[]⟩,.int .i64 0,.int .i64 0] [.string a,.int .i64 0,.int .i64 0] (J.alloc (.cells #[.string a,.int .i64 0,.int .i64 0] 111))):=(G.o.step L c k).box;clear c k hM G Y;obtain ⟨f,u⟩:∃ f,f=J.heap.size:=⟨_,rfl⟩
 go_upto_region 2 with fail
 rw [<- u] at n⊢;clear u
 refine Ql (λV=>Wx w q ba bc bs D w.heap.size f [.string ⟨#[]⟩,.int .i64 0,.int .i64 0] [.string a,.int .i64 0,.int .i64 0] V) n.o ?_
 rintro V1 U;clear n;have n:=Hm U;clear U
 go_wp2_with fail
 refine (onlyK_c q ba bc bs D V1 n.o.t.r O hl).mono ?_
 rintro e w2 ⟨c,b⟩
 rcases hM:Qz GU bs D with ⟨er,at_⟩|⟨j,C⟩
 . rw [hM] at b;subst b
   refine ⟨rfl,Qa n.o.t.g c,?_⟩
   simp only [s.o,hM,Rs.bind]
 have B:=Hm hM;rw [hM] at b;obtain ⟨rfl,k⟩:=b;have m:=n.o.step L c k;have x1:=m.x.2.1 1 _ rfl;have I:=m.x.2.2 1;have A:Hid (Wx w q ba bc bs C w.heap.size f [.string ⟨#[]⟩,.int .i64 0,.int .i64 0] [.string a,.int .i64 j,.int .i64 0] (w2.setCell ⟨f,1,none⟩ (.int .i64 j))):=(m.set (y.o _ m.hx) 1 (.int .i64 j));clear c k hM n m
 go_upto_region 3 with fail
 refine Ql (λV=>Wx w q ba bc bs C w.heap.size f [.string ⟨#[]⟩,.int .i64 0,.int .i64 0] [.string a,.int .i64 j,.int .i64 0] V) A.o ?_
 rintro V2 m;clear A x1 I;have F:=Hm m;clear m
 go_wp2_with fail
 refine (JR q ba bc bs C V2 F.o.t.r O hl).mono ?_
 rintro e w3 ⟨c,b⟩
 rcases hM:Qy false 32 bs C with ⟨er,at_⟩|⟨ix,S⟩
 . rw [hM] at b;subst b
   refine ⟨rfl,Qa F.o.t.g c,?_⟩
   simp only [s.o,B.o,hM,Rs.bind]
 have R:=Hm hM;rw [hM] at b;obtain ⟨rfl,k⟩:=b;have l:=F.o.step L c k;have x2:=l.x.2.1 2 _ rfl;have H:=l.x.2.2 2;have A:Hid (Wx w q ba bc bs S w.heap.size f [.string ⟨#[]⟩,.int .i64 0,.int .i64 0] [.string a,.int .i64 j,.int .i64 ix] (w3.setCell ⟨f,2,none⟩ (.int .i64 ix))):=(l.set (y.o _ l.hx) 2 (.int .i64 ix));clear c k hM F l
 go_upto_region 4 with fail
 refine Ql (λV=>Wx w q ba bc bs S w.heap.size f [.string ⟨#[]⟩,.int .i64 0,.int .i64 0] [.string a,.int .i64 j,.int .i64 ix] V) A.o ?_
 rintro V3 l;clear A x2 H;have d:=Hm l;clear l;have y0:=d.o.x.2.1 0 _ rfl;have z0:=d.o.t.z.2.1 0 _ rfl;have ac:=d.o.t.z.2.2 0;have y1:=d.o.x.2.1 1 _ rfl;have z1:=d.o.t.z.2.1 1 _ rfl;have ab:=d.o.t.z.2.2 1;have y2:=d.o.x.2.1 2 _ rfl;have z2:=d.o.t.z.2.1 2 _ rfl;have aa:=d.o.t.z.2.2 2;have Z:=Hm (((d.o.t.zset (y.o _ lR) 0 (.string a)).zset (y.o _ lR) 1 (.int .i64 j)).zset (y.o _ lR) 2 (.int .i64 ix))
 go_wp2_with fail
 exact bodyPost_ret (v:=.agg #[.string a,.int .i64 j,.int .i64 ix]) (by simp [results,Tryz.results242,go_sem,y0,z0,y1,z1,y2,z2]) rfl (by
  refine ⟨Z.o.g,?_⟩
  simp only [s.o,B.o,R.o,Rs.bind]
  exact ⟨by first | rfl | trivial,Z.o.r⟩)
theorem imp_c (q ba bc bs p w)(h:Rd w q ba bc bs p)(hA:Qm bs)(hl:bs.length<=1099511627776)(hE:bc.E<=9223372036854775807) :
    Calls Tryz.prog 233 #[.pointer (some ⟨q,0,none⟩)] w (RdP (XK bs bc.E p) (λx=>.agg #[.string x.mod,.string x.nm,.int .i64 x.kind,.int .i64 x.ty,.int .i64 x.lim.min,.int .i64 x.lim.max,.bool x.lim.has,.int .i64 x.gl.ty,.bool x.gl.mu]) w q ba bc bs):=by
 have hq:=h.lt;obtain ⟨W,hW⟩:∃ W,W=w.alloc (.cells #[.string ⟨#[]⟩,.string ⟨#[]⟩,.int .i64 0,.int .i64 0,.int .i64 0,.int .i64 0,.bool false,.int .i64 0,.bool false] 100):=⟨_,rfl⟩;have h0:Wz w q ba bc bs p w.heap.size [.string ⟨#[]⟩,.string ⟨#[]⟩,.int .i64 0,.int .i64 0,.int .i64 0,.int .i64 0,.bool false,.int .i64 0,.bool false] W:=by rw [hW];exact Wz.start h
 have HW:=Hm hW;have H0:=Hm h0;have f:=Hm (λX (hX:w.heap.size<=X)=>JB h hX);clear hW h0 h;unfold XK QK
 go_enter Tryz.func233,Tryz.ntmps233
 go_wp2_with fail
 rw [<- HW.o]
 refine (name_c q ba bc bs p W H0.o.r hA hl hE).mono ?_
 rintro e w1 ⟨k,j⟩
 rcases hM:Xa bs bc.E p with ⟨er,at_⟩|⟨a,p1⟩
 . rw [hM] at j;subst j
   refine ⟨rfl,Qa H0.o.g k,?_⟩
   simp only [hM,Rs.bind]
 have n:=Hm hM;rw [hM] at j;obtain ⟨rfl,s⟩:=j;have J:Hid (Wx w q ba bc bs p1 w.heap.size w1.heap.size [.string ⟨#[]⟩,.string ⟨#[]⟩,.int .i64 0,.int .i64 0,.int .i64 0,.int .i64 0,.bool false,.int .i64 0,.bool false] [.string a,.string ⟨#[]⟩,.int .i64 0,.int .i64 0,.int .i64 0,.int .i64 0,.bool false,.int .i64 0,.bool false] (w1.alloc (.cells #[.string a,.string ⟨#[]⟩,.int .i64 0,.int .i64 0,.int .i64 0,.int .i64 0,.bool false,.int .i64 0,.bool false] 100))):=(H0.o.step hq k s).box;clear k s hM H0 HW;obtain ⟨m,a4⟩:∃ m,m=w1.heap.size:=⟨_,rfl⟩
 go_upto_region 2 with fail
 rw [<- a4] at J⊢;clear a4
 refine Ql (λV=>Wx w q ba bc bs p1 w.heap.size m [.string ⟨#[]⟩,.string ⟨#[]⟩,.int .i64 0,.int .i64 0,.int .i64 0,.int .i64 0,.bool false,.int .i64 0,.bool false] [.string a,.string ⟨#[]⟩,.int .i64 0,.int .i64 0,.int .i64 0,.int .i64 0,.bool false,.int .i64 0,.bool false] V) J.o ?_
 rintro V1 h1;clear J;have J:=Hm h1;clear h1
 go_wp2_with fail
 refine (name_c q ba bc bs p1 V1 J.o.t.r hA hl hE).mono ?_
 rintro e w2 ⟨k,j⟩
 rcases hM:Xa bs bc.E p1 with ⟨er,at_⟩|⟨b,p2⟩
 . rw [hM] at j;subst j
   refine ⟨rfl,Qa J.o.t.g k,?_⟩
   simp only [n.o,hM,Rs.bind]
 have A:=Hm hM;rw [hM] at j;obtain ⟨rfl,s⟩:=j;have I:=J.o.step hq k s;have x1:=I.x.2.1 1 _ rfl;have bj:=I.x.2.2 1;have B:Hid (Wx w q ba bc bs p2 w.heap.size m [.string ⟨#[]⟩,.string ⟨#[]⟩,.int .i64 0,.int .i64 0,.int .i64 0,.int .i64 0,.bool false,.int .i64 0,.bool false] [.string a,.string b,.int .i64 0,.int .i64 0,.int .i64 0,.int .i64 0,.bool false,.int .i64 0,.bool false] (w2.setCell ⟨m,1,none⟩ (.string b))):=(I.set (f.o _ I.hx) 1 (.string b));clear k s hM J I
 go_upto_region 3 with fail
 refine Ql (λV=>Wx w q ba bc bs p2 w.heap.size m [.string ⟨#[]⟩,.string ⟨#[]⟩,.int .i64 0,.int .i64 0,.int .i64 0,.int .i64 0,.bool false,.int .i64 0,.bool false] [.string a,.string b,.int .i64 0,.int .i64 0,.int .i64 0,.int .i64 0,.bool false,.int .i64 0,.bool false] V) B.o ?_
 rintro V2 I;clear B x1 bj;have H2:=Hm I;clear I
 go_wp2_with fail
 refine (onlyK_c q ba bc bs p2 V2 H2.o.t.r hA hl).mono ?_
 rintro e w3 ⟨k,j⟩
 rcases hM:Qz GU bs p2 with ⟨er,at_⟩|⟨kd,G⟩
 . rw [hM] at j;subst j
   refine ⟨rfl,Qa H2.o.t.g k,?_⟩
   simp only [n.o,A.o,hM,Rs.bind]
 have y:=Hm hM;rw [hM] at j;obtain ⟨rfl,s⟩:=j;have H:=H2.o.step hq k s;have x2:=H.x.2.1 2 _ rfl;have bh:=H.x.2.2 2;have B:Hid (Wx w q ba bc bs G w.heap.size m [.string ⟨#[]⟩,.string ⟨#[]⟩,.int .i64 0,.int .i64 0,.int .i64 0,.int .i64 0,.bool false,.int .i64 0,.bool false] [.string a,.string b,.int .i64 kd,.int .i64 0,.int .i64 0,.int .i64 0,.bool false,.int .i64 0,.bool false] (w3.setCell ⟨m,2,none⟩ (.int .i64 kd))):=(H.set (f.o _ H.hx) 2 (.int .i64 kd));clear k s hM H2 H
 go_upto_region 4 with fail
 refine Ql (λV=>Wx w q ba bc bs G w.heap.size m [.string ⟨#[]⟩,.string ⟨#[]⟩,.int .i64 0,.int .i64 0,.int .i64 0,.int .i64 0,.bool false,.int .i64 0,.bool false] [.string a,.string b,.int .i64 kd,.int .i64 0,.int .i64 0,.int .i64 0,.bool false,.int .i64 0,.bool false] V) B.o ?_
 rintro V3 H;clear B x2 bh;have u:=Hm H;clear H;have bp:=kind_cases (onlyG_is y.o)
 rcases bp with rfl|rfl|rfl|rfl
 . have l2:=u.o.x.2.1 2 _ rfl
   go_wp2_with fail
   refine (JR q ba bc bs G V3 u.o.t.r hA hl).mono ?_
   rintro e w4 ⟨k,j⟩
   rcases hM:Qy false 32 bs G with ⟨er,at_⟩|⟨t,D⟩
   . rw [hM] at j;subst j
     refine ⟨rfl,Qa u.o.t.g k,?_⟩
     simp only [n.o,A.o,y.o,hM,Rs.bind,if_pos (show (0:Int)=0 from rfl),reduceIte]
   have C:=Hm hM;rw [hM] at j;obtain ⟨rfl,s⟩:=j;have d:=u.o.step hq k s;clear l2;have x3:=d.x.2.1 3 _ rfl;have bg:=d.x.2.2 3;have B:Hid (Wx w q ba bc bs D w.heap.size m [.string ⟨#[]⟩,.string ⟨#[]⟩,.int .i64 0,.int .i64 0,.int .i64 0,.int .i64 0,.bool false,.int .i64 0,.bool false] [.string a,.string b,.int .i64 0,.int .i64 t,.int .i64 0,.int .i64 0,.bool false,.int .i64 0,.bool false] (w4.setCell ⟨m,3,none⟩ (.int .i64 t))):=(d.set (f.o _ d.hx) 3 (.int .i64 t));clear k s hM u d
   go_upto_region 13 with fail
   refine Ql (λV=>Wx w q ba bc bs D w.heap.size m [.string ⟨#[]⟩,.string ⟨#[]⟩,.int .i64 0,.int .i64 0,.int .i64 0,.int .i64 0,.bool false,.int .i64 0,.bool false] [.string a,.string b,.int .i64 0,.int .i64 t,.int .i64 0,.int .i64 0,.bool false,.int .i64 0,.bool false] V) B.o ?_
   rintro V4 d;clear B x3 bg;have c:=Hm d;clear d;have y0:=c.o.x.2.1 0 _ rfl;have z0:=c.o.t.z.2.1 0 _ rfl;have aa:=c.o.t.z.2.2 0;have y1:=c.o.x.2.1 1 _ rfl;have z1:=c.o.t.z.2.1 1 _ rfl;have Z:=c.o.t.z.2.2 1;have y2:=c.o.x.2.1 2 _ rfl;have z2:=c.o.t.z.2.1 2 _ rfl;have Y:=c.o.t.z.2.2 2;have y3:=c.o.x.2.1 3 _ rfl;have z3:=c.o.t.z.2.1 3 _ rfl;have U:=c.o.t.z.2.2 3;have y4:=c.o.x.2.1 4 _ rfl;have z4:=c.o.t.z.2.1 4 _ rfl;have S:=c.o.t.z.2.2 4;have y5:=c.o.x.2.1 5 _ rfl;have z5:=c.o.t.z.2.1 5 _ rfl;have R:=c.o.t.z.2.2 5;have y6:=c.o.x.2.1 6 _ rfl;have z6:=c.o.t.z.2.1 6 _ rfl;have O:=c.o.t.z.2.2 6;have y7:=c.o.x.2.1 7 _ rfl;have z7:=c.o.t.z.2.1 7 _ rfl;have M:=c.o.t.z.2.2 7;have y8:=c.o.x.2.1 8 _ rfl;have z8:=c.o.t.z.2.1 8 _ rfl;have L:=c.o.t.z.2.2 8;have F:=Hm (((((((((c.o.t.zset (f.o _ lR) 0 (.string a)).zset (f.o _ lR) 1 (.string b)).zset (f.o _ lR) 2 (.int .i64 0)).zset (f.o _ lR) 3 (.int .i64 t)).zset (f.o _ lR) 4 (.int .i64 0)).zset (f.o _ lR) 5 (.int .i64 0)).zset (f.o _ lR) 6 (.bool false)).zset (f.o _ lR) 7 (.int .i64 0)).zset (f.o _ lR) 8 (.bool false))
   go_wp2_with fail
   exact bodyPost_ret (v:=.agg #[.string a,.string b,.int .i64 0,.int .i64 t,.int .i64 0,.int .i64 0,.bool false,.int .i64 0,.bool false]) (by simp [results,Tryz.results233,go_sem,y0,z0,y1,z1,y2,z2,y3,z3,y4,z4,y5,z5,y6,z6,y7,z7,y8,z8]) rfl (by
    refine ⟨F.o.g,?_⟩
    simp only [n.o,A.o,y.o,C.o,Rs.bind,if_pos (show (0:Int)=0 from rfl),reduceIte]
    exact ⟨by first | rfl | trivial,F.o.r⟩)
 . have l2:=u.o.x.2.1 2 _ rfl
   go_wp2_with fail
   refine (tab_c q ba bc bs G V3 u.o.t.r hA hl).mono ?_
   rintro e w4 ⟨k,j⟩
   rcases hM:GC bs G with ⟨er,at_⟩|⟨l,D⟩
   . rw [hM] at j;subst j
     refine ⟨rfl,Qa u.o.t.g k,?_⟩
     simp only [n.o,A.o,y.o,hM,Rs.bind,if_neg (show ¬ (1:Int)=0 by decide),if_pos (show (1:Int)=1 from rfl),reduceIte]
   have C:=Hm hM;rw [hM] at j;obtain ⟨rfl,s⟩:=j;have d:=u.o.step hq k s;clear l2;have x4:=d.x.2.1 4 _ rfl;have az:=d.x.2.2 4;have x5:=d.x.2.1 5 _ rfl;have ay:=d.x.2.2 5;have x6:=d.x.2.1 6 _ rfl;have ax:=d.x.2.2 6;have B:Hid (Wx w q ba bc bs D w.heap.size m [.string ⟨#[]⟩,.string ⟨#[]⟩,.int .i64 0,.int .i64 0,.int .i64 0,.int .i64 0,.bool false,.int .i64 0,.bool false] [.string a,.string b,.int .i64 1,.int .i64 0,.int .i64 l.min,.int .i64 l.max,.bool l.has,.int .i64 0,.bool false] (((w4.setCell ⟨m,4,none⟩ (.int .i64 l.min)).setCell ⟨m,5,none⟩ (.int .i64 l.max)).setCell ⟨m,6,none⟩ (.bool l.has))):=(((d.set (f.o _ d.hx) 4 (.int .i64 l.min)).set (f.o _ d.hx) 5 (.int .i64 l.max)).set (f.o _ d.hx) 6 (.bool l.has));clear k s hM u d
   go_upto_region 13 with fail
   refine Ql (λV=>Wx w q ba bc bs D w.heap.size m [.string ⟨#[]⟩,.string ⟨#[]⟩,.int .i64 0,.int .i64 0,.int .i64 0,.int .i64 0,.bool false,.int .i64 0,.bool false] [.string a,.string b,.int .i64 1,.int .i64 0,.int .i64 l.min,.int .i64 l.max,.bool l.has,.int .i64 0,.bool false] V) B.o ?_
   rintro V4 d;clear B x4 az x5 ay x6 ax;have c:=Hm d;clear d;have y0:=c.o.x.2.1 0 _ rfl;have z0:=c.o.t.z.2.1 0 _ rfl;have aa:=c.o.t.z.2.2 0;have y1:=c.o.x.2.1 1 _ rfl;have z1:=c.o.t.z.2.1 1 _ rfl;have Z:=c.o.t.z.2.2 1;have y2:=c.o.x.2.1 2 _ rfl;have z2:=c.o.t.z.2.1 2 _ rfl;have Y:=c.o.t.z.2.2 2;have y3:=c.o.x.2.1 3 _ rfl;have z3:=c.o.t.z.2.1 3 _ rfl;have U:=c.o.t.z.2.2 3;have y4:=c.o.x.2.1 4 _ rfl;have z4:=c.o.t.z.2.1 4 _ rfl;have S:=c.o.t.z.2.2 4;have y5:=c.o.x.2.1 5 _ rfl;have z5:=c.o.t.z.2.1 5 _ rfl;have R:=c.o.t.z.2.2 5;have y6:=c.o.x.2.1 6 _ rfl;have z6:=c.o.t.z.2.1 6 _ rfl;have O:=c.o.t.z.2.2 6;have y7:=c.o.x.2.1 7 _ rfl;have z7:=c.o.t.z.2.1 7 _ rfl;have M:=c.o.t.z.2.2 7;have y8:=c.o.x.2.1 8 _ rfl;have z8:=c.o.t.z.2.1 8 _ rfl;have L:=c.o.t.z.2.2 8;have F:=Hm (((((((((c.o.t.zset (f.o _ lR) 0 (.string a)).zset (f.o _ lR) 1 (.string b)).zset (f.o _ lR) 2 (.int .i64 1)).zset (f.o _ lR) 3 (.int .i64 0)).zset (f.o _ lR) 4 (.int .i64 l.min)).zset (f.o _ lR) 5 (.int .i64 l.max)).zset (f.o _ lR) 6 (.bool l.has)).zset (f.o _ lR) 7 (.int .i64 0)).zset (f.o _ lR) 8 (.bool false))
   go_wp2_with fail
   exact bodyPost_ret (v:=.agg #[.string a,.string b,.int .i64 1,.int .i64 0,.int .i64 l.min,.int .i64 l.max,.bool l.has,.int .i64 0,.bool false]) (by simp [results,Tryz.results233,go_sem,y0,z0,y1,z1,y2,z2,y3,z3,y4,z4,y5,z5,y6,z6,y7,z7,y8,z8]) rfl (by
    refine ⟨F.o.g,?_⟩
    simp only [n.o,A.o,y.o,C.o,Rs.bind,if_neg (show ¬ (1:Int)=0 by decide),if_pos (show (1:Int)=1 from rfl),reduceIte]
    exact ⟨by first | rfl | trivial,F.o.r⟩)
 . have l2:=u.o.x.2.1 2 _ rfl
   go_wp2_with fail
   refine (lim_c q ba bc bs G V3 u.o.t.r hA hl).mono ?_
   rintro e w4 ⟨k,j⟩
   rcases hM:XR bs G with ⟨er,at_⟩|⟨l,D⟩
   . rw [hM] at j;subst j
     refine ⟨rfl,Qa u.o.t.g k,?_⟩
     simp only [n.o,A.o,y.o,hM,Rs.bind,if_neg (show ¬ (2:Int)=0 by decide),if_neg (show ¬ (2:Int)=1 by decide),if_pos (show (2:Int)=2 from rfl),reduceIte]
   have C:=Hm hM;rw [hM] at j;obtain ⟨rfl,s⟩:=j;have d:=u.o.step hq k s;clear l2;have x4:=d.x.2.1 4 _ rfl;have az:=d.x.2.2 4;have x5:=d.x.2.1 5 _ rfl;have ay:=d.x.2.2 5;have x6:=d.x.2.1 6 _ rfl;have ax:=d.x.2.2 6;have B:Hid (Wx w q ba bc bs D w.heap.size m [.string ⟨#[]⟩,.string ⟨#[]⟩,.int .i64 0,.int .i64 0,.int .i64 0,.int .i64 0,.bool false,.int .i64 0,.bool false] [.string a,.string b,.int .i64 2,.int .i64 0,.int .i64 l.min,.int .i64 l.max,.bool l.has,.int .i64 0,.bool false] (((w4.setCell ⟨m,4,none⟩ (.int .i64 l.min)).setCell ⟨m,5,none⟩ (.int .i64 l.max)).setCell ⟨m,6,none⟩ (.bool l.has))):=(((d.set (f.o _ d.hx) 4 (.int .i64 l.min)).set (f.o _ d.hx) 5 (.int .i64 l.max)).set (f.o _ d.hx) 6 (.bool l.has));clear k s hM u d
   go_upto_region 13 with fail
   refine Ql (λV=>Wx w q ba bc bs D w.heap.size m [.string ⟨#[]⟩,.string ⟨#[]⟩,.int .i64 0,.int .i64 0,.int .i64 0,.int .i64 0,.bool false,.int .i64 0,.bool false] [.string a,.string b,.int .i64 2,.int .i64 0,.int .i64 l.min,.int .i64 l.max,.bool l.has,.int .i64 0,.bool false] V) B.o ?_
   rintro V4 d;clear B x4 az x5 ay x6 ax;have c:=Hm d;clear d;have y0:=c.o.x.2.1 0 _ rfl;have z0:=c.o.t.z.2.1 0 _ rfl;have aa:=c.o.t.z.2.2 0;have y1:=c.o.x.2.1 1 _ rfl;have z1:=c.o.t.z.2.1 1 _ rfl;have Z:=c.o.t.z.2.2 1;have y2:=c.o.x.2.1 2 _ rfl;have z2:=c.o.t.z.2.1 2 _ rfl;have Y:=c.o.t.z.2.2 2;have y3:=c.o.x.2.1 3 _ rfl;have z3:=c.o.t.z.2.1 3 _ rfl;have U:=c.o.t.z.2.2 3;have y4:=c.o.x.2.1 4 _ rfl;have z4:=c.o.t.z.2.1 4 _ rfl;have S:=c.o.t.z.2.2 4;have y5:=c.o.x.2.1 5 _ rfl;have z5:=c.o.t.z.2.1 5 _ rfl;have R:=c.o.t.z.2.2 5;have y6:=c.o.x.2.1 6 _ rfl;have z6:=c.o.t.z.2.1 6 _ rfl;have O:=c.o.t.z.2.2 6;have y7:=c.o.x.2.1 7 _ rfl;have z7:=c.o.t.z.2.1 7 _ rfl;have M:=c.o.t.z.2.2 7;have y8:=c.o.x.2.1 8 _ rfl;have z8:=c.o.t.z.2.1 8 _ rfl;have L:=c.o.t.z.2.2 8;have F:=Hm (((((((((c.o.t.zset (f.o _ lR) 0 (.string a)).zset (f.o _ lR) 1 (.string b)).zset (f.o _ lR) 2 (.int .i64 2)).zset (f.o _ lR) 3 (.int .i64 0)).zset (f.o _ lR) 4 (.int .i64 l.min)).zset (f.o _ lR) 5 (.int .i64 l.max)).zset (f.o _ lR) 6 (.bool l.has)).zset (f.o _ lR) 7 (.int .i64 0)).zset (f.o _ lR) 8 (.bool false))
   go_wp2_with fail
   exact bodyPost_ret (v:=.agg #[.string a,.string b,.int .i64 2,.int .i64 0,.int .i64 l.min,.int .i64 l.max,.bool l.has,.int .i64 0,.bool false]) (by simp [results,Tryz.results233,go_sem,y0,z0,y1,z1,y2,z2,y3,z3,y4,z4,y5,z5,y6,z6,y7,z7,y8,z8]) rfl (by
    refine ⟨F.o.g,?_⟩
    simp only [n.o,A.o,y.o,C.o,Rs.bind,if_neg (show ¬ (2:Int)=0 by decide),if_neg (show ¬ (2:Int)=1 by decide),if_pos (show (2:Int)=2 from rfl),reduceIte]
    exact ⟨by first | rfl | trivial,F.o.r⟩)
 . have l2:=u.o.x.2.1 2 _ rfl
   go_wp2_with fail
   refine (gty_c q ba bc bs G V3 u.o.t.r hA hl).mono ?_
   rintro e w4 ⟨k,j⟩
   rcases hM:gtyM bs G with ⟨er,at_⟩|⟨g,D⟩
   . rw [hM] at j;subst j
     refine ⟨rfl,Qa u.o.t.g k,?_⟩
     simp only [n.o,A.o,y.o,hM,Rs.bind,if_neg (show ¬ (3:Int)=0 by decide),if_neg (show ¬ (3:Int)=1 by decide),if_neg (show ¬ (3:Int)=2 by decide),reduceIte]
   have C:=Hm hM;rw [hM] at j;obtain ⟨rfl,s⟩:=j;have d:=u.o.step hq k s;clear l2;have x7:=d.x.2.1 7 _ rfl;have bf:=d.x.2.2 7;have x8:=d.x.2.1 8 _ rfl;have bd:=d.x.2.2 8;have B:Hid (Wx w q ba bc bs D w.heap.size m [.string ⟨#[]⟩,.string ⟨#[]⟩,.int .i64 0,.int .i64 0,.int .i64 0,.int .i64 0,.bool false,.int .i64 0,.bool false] [.string a,.string b,.int .i64 3,.int .i64 0,.int .i64 0,.int .i64 0,.bool false,.int .i64 g.ty,.bool g.mu] ((w4.setCell ⟨m,7,none⟩ (.int .i64 g.ty)).setCell ⟨m,8,none⟩ (.bool g.mu))):=((d.set (f.o _ d.hx) 7 (.int .i64 g.ty)).set (f.o _ d.hx) 8 (.bool g.mu));clear k s hM u d
   go_upto_region 13 with fail
   refine Ql (λV=>Wx w q ba bc bs D w.heap.size m [.string ⟨#[]⟩,.string ⟨#[]⟩,.int .i64 0,.int .i64 0,.int .i64 0,.int .i64 0,.bool false,.int .i64 0,.bool false] [.string a,.string b,.int .i64 3,.int .i64 0,.int .i64 0,.int .i64 0,.bool false,.int .i64 g.ty,.bool g.mu] V) B.o ?_
   rintro V4 d;clear B x7 bf x8 bd;have c:=Hm d;clear d;have y0:=c.o.x.2.1 0 _ rfl;have z0:=c.o.t.z.2.1 0 _ rfl;have aa:=c.o.t.z.2.2 0;have y1:=c.o.x.2.1 1 _ rfl;have z1:=c.o.t.z.2.1 1 _ rfl;have Z:=c.o.t.z.2.2 1;have y2:=c.o.x.2.1 2 _ rfl;have z2:=c.o.t.z.2.1 2 _ rfl;have Y:=c.o.t.z.2.2 2;have y3:=c.o.x.2.1 3 _ rfl;have z3:=c.o.t.z.2.1 3 _ rfl;have U:=c.o.t.z.2.2 3;have y4:=c.o.x.2.1 4 _ rfl;have z4:=c.o.t.z.2.1 4 _ rfl;have S:=c.o.t.z.2.2 4;have y5:=c.o.x.2.1 5 _ rfl;have z5:=c.o.t.z.2.1 5 _ rfl;have R:=c.o.t.z.2.2 5;have y6:=c.o.x.2.1 6 _ rfl;have z6:=c.o.t.z.2.1 6 _ rfl;have O:=c.o.t.z.2.2 6;have y7:=c.o.x.2.1 7 _ rfl;have z7:=c.o.t.z.2.1 7 _ rfl;have M:=c.o.t.z.2.2 7;have y8:=c.o.x.2.1 8 _ rfl;have z8:=c.o.t.z.2.1 8 _ rfl;have L:=c.o.t.z.2.2 8;have F:=Hm (((((((((c.o.t.zset (f.o _ lR) 0 (.string a)).zset (f.o _ lR) 1 (.string b)).zset (f.o _ lR) 2 (.int .i64 3)).zset (f.o _ lR) 3 (.int .i64 0)).zset (f.o _ lR) 4 (.int .i64 0)).zset (f.o _ lR) 5 (.int .i64 0)).zset (f.o _ lR) 6 (.bool false)).zset (f.o _ lR) 7 (.int .i64 g.ty)).zset (f.o _ lR) 8 (.bool g.mu))
   go_wp2_with fail
   exact bodyPost_ret (v:=.agg #[.string a,.string b,.int .i64 3,.int .i64 0,.int .i64 0,.int .i64 0,.bool false,.int .i64 g.ty,.bool g.mu]) (by simp [results,Tryz.results233,go_sem,y0,z0,y1,z1,y2,z2,y3,z3,y4,z4,y5,z5,y6,z6,y7,z7,y8,z8]) rfl (by
    refine ⟨F.o.g,?_⟩
    simp only [n.o,A.o,y.o,C.o,Rs.bind,if_neg (show ¬ (3:Int)=0 by decide),if_neg (show ¬ (3:Int)=1 by decide),if_neg (show ¬ (3:Int)=2 by decide),reduceIte]
    exact ⟨by first | rfl | trivial,F.o.r⟩)
section
variable {w:World} {q:Nat} {ba:Option Addr} {bc:Bf} {bs:List Int} {p p':Nat} {bx:List (Nat × List Value)} {rs new:List Qc} {V V':World}
structure Ws (w:World)(q:Nat)(ba:Option Addr)(bc:Bf)(bs:List Int)(p:Nat)(bx:List (Nat × List Value))(rs:List Qc)(V:World):Prop where
 r:Rd V q ba bc bs p
 g:w.grownBy V (some q)
 b:∀ x ∈ bx,Bk V x.1 x.2/\w.heap.size<=x.1
 o:Own w.heap.size V rs
 nd:(bx.map (·.1)).Nodup
 ap:∀ x ∈ bx,x.1 ∉ blk rs
theorem Ws.start (h:Rd w q ba bc bs p):Ws w q ba bc bs p [] [] w:=⟨h,World.grownBy.refl _ _,λx hx=>(by cases hx),Own.nil _ _,by simp,λx hx=>(by cases hx)⟩
theorem Ws.step (h:Ws w q ba bc bs p bx rs V)(a:q<w.heap.size)(hg:V.grownBy V' (some q))(hr:Rd V' q ba bc bs p'):Ws w q ba bc bs p' bx rs V' :=
 ⟨hr,Qa h.g hg,λx hx=>⟨(h.b x hx).1.grownR hg (by have:=(h.b x hx).2;simp;omega),(h.b x hx).2⟩,h.o.grown hg (λk e hk=>by cases e;have:=(h.o.lt hk).1;omega),h.nd,h.ap⟩
theorem Ws.rows (h:Ws w q ba bc bs p bx rs V)(c:q<w.heap.size)(hg:V.grownBy V' (some q))(hr:Rd V' q ba bc bs p')(d:Own V.heap.size V' new):Ws w q ba bc bs p' bx (rs++new) V' :=
 ⟨hr,Qa h.g hg,(h.step c hg hr).b,h.o.new (h.step c hg hr).o d h.g.size,h.nd,fun x hx a=>by
  rw [On,List.mem_append] at a
  rcases a with a|a
  . exact h.ap x hx a
  . have:=(d.lt a).1;have:=(h.b x hx).1.1;omega⟩
theorem Ws.keep (h:Ws w q ba bc bs p bx rs V)(a:Below V.heap.size V V'):Ws w q ba bc bs p bx rs V' :=
 ⟨h.r.keep a,Qa h.g (Qi a),λx hx=>⟨(h.b x hx).1.keep a,(h.b x hx).2⟩,h.o.keep a,h.nd,h.ap⟩
theorem Ws.box {t:TypeId}{xs:List Value}(h:Ws w q ba bc bs p bx rs V):Ws w q ba bc bs p ((V.heap.size,xs)::bx) rs (V.alloc (.cells xs.toArray t)):=by
 have c:=h.keep ((Below.refl V.heap.size V).alloc lR (.cells xs.toArray t))
 refine ⟨c.r,c.g,λx a=>?_,c.o,?_,λx a=>?_⟩
 . rcases List.mem_cons.1 a with rfl|a
   . exact ⟨Bk.new,h.g.size⟩
   . exact c.b x a
 . simp only [List.map_cons,List.nodup_cons]
   refine ⟨λhm=>?_,h.nd⟩
   obtain ⟨x,a,e⟩:=List.mem_map.1 hm
   have:=(h.b x a).1.1;omega
 . rcases List.mem_cons.1 a with rfl|a
   . exact λhm=>by have:=(h.o.lt hm).2;simp at this
   . exact h.ap x a
theorem Ws.set {l1 l:List (Nat × List Value)}{g:Nat}{xs:List Value}(h:Ws w q ba bc bs p (l1++(g,xs)::l) rs V)(t:∀ X,w.heap.size<=X->Lies w q ba bc.fs X)(j:Nat)(v:Value):Ws w q ba bc bs p (l1++(g,xs.set j v)::l) rs (V.setCell ⟨g,j,none⟩ v):=by
 have s:(g,xs) ∈ l1++(g,xs)::l:=by simp
 have m:=h.b _ s;have f:=Qp V g j v
 refine ⟨h.r.far (t g m.2) j v,Jh h.g (t g m.2) j v,λx a=>?_,h.o.grown f (λk e hk=>by cases e;exact h.ap _ s hk),by simpa using h.nd,λx a=>?_⟩
 . have d:(l1.map (·.1)++g::l.map (·.1)).Nodup:=by simpa using h.nd
   rw [List.nodup_append] at d
   rcases List.mem_append.1 a with a|a
   . have c:=h.b x (mL a)
     exact ⟨c.1.grownR f (by simpa using λe=>d.2.2 x.1 (List.mem_map_of_mem a) g (by simp) e.symm),c.2⟩
   . rcases List.mem_cons.1 a with rfl|a
     . exact ⟨m.1.set,m.2⟩
     . have c:=h.b x (mR (mC a));have n:g≠x.1:=λe=>(List.nodup_cons.1 d.2.1).1 (by rw [e];exact List.mem_map_of_mem a)
       exact ⟨c.1.grownR f (by simpa using n),c.2⟩
 . rcases List.mem_append.1 a with a|a
   . exact h.ap x (mL a)
   . rcases List.mem_cons.1 a with rfl|a
     . exact h.ap (g,xs) s
     . exact h.ap x (mR (mC a))
theorem Ws.b0 {g:Nat}{xs:List Value}{l:List (Nat × List Value)}(h:Ws w q ba bc bs p ((g,xs)::l) rs V):Bk V g xs:=(h.b (g,xs) (by simp)).1
theorem Ws.b1 {a:Nat × List Value}{g:Nat}{xs:List Value}{l:List (Nat × List Value)}(h:Ws w q ba bc bs p (a::(g,xs)::l) rs V):Bk V g xs:=(h.b (g,xs) (by simp)).1
theorem Ws.h0 {g:Nat}{xs:List Value}{l:List (Nat × List Value)}(h:Ws w q ba bc bs p ((g,xs)::l) rs V):w.heap.size<=g:=(h.b (g,xs) (by simp)).2
theorem Ws.set0 {g:Nat}{xs:List Value}{l:List (Nat × List Value)}(h:Ws w q ba bc bs p ((g,xs)::l) rs V)(a:∀ X,w.heap.size<=X->Lies w q ba bc.fs X)(j:Nat)(v:Value):Ws w q ba bc bs p ((g,xs.set j v)::l) rs (V.setCell ⟨g,j,none⟩ v):=Ws.set (l1:=[]) h a j v
theorem Ws.set1 {a:Nat × List Value}{g:Nat}{xs:List Value}{l:List (Nat × List Value)}(h:Ws w q ba bc bs p (a::(g,xs)::l) rs V)(b:∀ X,w.heap.size<=X->Lies w q ba bc.fs X)(j:Nat)(v:Value):Ws w q ba bc bs p (a::(g,xs.set j v)::l) rs (V.setCell ⟨g,j,none⟩ v):=Ws.set (l1:=[a]) h b j v
end
theorem ft_c (q ba bc bs p w)(h:Rd w q ba bc bs p)(C:Qm bs)(hl:bs.length<=1099511627776) :
    Calls Tryz.prog 231 #[.pointer (some ⟨q,0,none⟩)] w (ReP (ftM bs p) RFT agV w q ba bc bs):=by
 have G:=h.lt;obtain ⟨W,R⟩:∃ W,W=w.alloc (.cells #[.slice none 0 0,.slice none 0 0] 92):=⟨_,rfl⟩;have h0:Ws w q ba bc bs p [(w.heap.size,[.slice none 0 0,.slice none 0 0])] [] W:=by rw [R];exact (Ws.start h).box
 have HW:=Hm R;have J:=Hm h0;have LL:=Hm (λX (hX:w.heap.size<=X)=>JB h hX);clear R h0 h;unfold ftM QK
 go_enter Tryz.func231,Tryz.ntmps231
 go_wp2_with fail
 rw [<- HW.o]
 refine (mark96_c q ba bc bs p W J.o.r C hl).mono ?_
 rintro e w1 ⟨d,b⟩
 rcases hM:Gs 96 bs p with ⟨er,at_⟩|⟨u,p1⟩
 . rw [hM] at b;subst b
   refine ⟨rfl,Qa J.o.g d,?_⟩
   simp only [hM,Rs.bind]
 have j:=Hm hM;rw [hM] at b;obtain ⟨rfl,f⟩:=b;have I:=Hm (J.o.step G d f);clear d f hM J HW
 go_wp2_with fail
 refine (vecT_c q ba bc bs p1 w1 I.o.r C hl).mono ?_
 rintro e w2 ⟨d,b⟩
 rcases hM:Jj (Qz tyB bs) bs p1 with ⟨er,at_⟩|⟨F,p2⟩
 . rw [hM] at b;subst b
   refine ⟨rfl,Qa I.o.g d,?_⟩
   simp only [j.o,hM,Rs.bind]
 have k:=Hm hM;rw [hM] at b;obtain ⟨vp,cp,kp,rfl,A,m,f,_⟩:=b;obtain ⟨rfl,rfl⟩:=lr_ints A;have H:=Hm (I.o.rows G d f m);obtain ⟨U,O,rfl⟩:∃ a c,vp=.slice a F.length c:=Qc.Ok.slice m.head;clear d f hM I A m
 go_wp2_with fail
 refine (JR q ba bc bs p2 w2 H.o.r C hl).mono ?_
 rintro e Z ⟨d,b⟩
 rcases hM:Qy false 32 bs p2 with ⟨er,at_⟩|⟨n,L⟩
 . rw [hM] at b;subst b
   refine ⟨rfl,Qa H.o.g d,?_⟩
   simp only [j.o,k.o,hM,Rs.bind]
 have s:=Hm hM;have B:=Jq C hM;rw [hM] at b;obtain ⟨rfl,f⟩:=b;have t:=Hm (H.o.step G d f);clear d f hM H
 by_cases hn:1<n
 . have KF:=Hm (JE q 8 L Z t.o.r.c1)
   go_wp2_with fail
   refine (KF.o).mono ?_
   rintro e w' ⟨rfl,rfl⟩
   refine ⟨rfl,t.o.g,?_⟩
   simp only [j.o,k.o,s.o,Rs.bind,if_pos hn]
   exact rfl
 have y:n<=1:=by omega
 clear hn;have KE:=Hm (entT_c q ba bc bs L n Z t.o.r C hl B.1 B.2)
 go_wp2_with fail
 refine (KE.o).mono ?_
 rintro e w4 ⟨d,b⟩
 rcases hM:Q7 (Qz tyB bs) n.toNat [] L with ⟨er,at_⟩|⟨E,p4⟩
 . rw [hM] at b;subst b
   refine ⟨rfl,Qa t.o.g d,?_⟩
   simp only [j.o,k.o,s.o,hM,Rs.bind,if_neg (Int.not_lt.2 y)]
 have V:=Hm hM;rw [hM] at b;obtain ⟨vr,cr,kr,rfl,z,l,f,_⟩:=b;obtain ⟨rfl,rfl⟩:=lr_ints z;obtain ⟨S,M,rfl⟩:∃ a c,vr=.slice a E.length c:=Qc.Ok.slice l.head;have D:=Hm (t.o.rows G d f l);clear d f hM t z l KE;have z0:=D.o.b0.2.1 0 _ rfl;have z1:=D.o.b0.2.1 1 _ rfl;have ah:=D.o.b0.2.2 0;have ag:=D.o.b0.2.2 1;have Y:=Hm ((D.o.set0 LL.o 0 (.slice U F.length O)).set0 LL.o 1 (.slice S E.length M))
 go_wp2_with fail
 exact bodyPost_ret (v:=.agg #[.slice U F.length O,.slice S E.length M]) (by simp [results,Tryz.results231,go_sem,z0,z1]) rfl (by
  refine ⟨Y.o.g,?_⟩
  simp only [j.o,k.o,s.o,V.o,Rs.bind,if_neg (Int.not_lt.2 y)]
  exact ⟨[.slice U F.length O,.slice S E.length M],_,rfl,⟨_,_,rfl,rfl⟩,Y.o.o,Y.o.r⟩)
structure Kp (g:Nat)(v v':Value)(w w':World):Prop where
 os:w'.os=w.os
 tape:w'.tape=w.tape
 output:w'.output=w.output
 size:w.heap.size<=w'.heap.size
 block:∀ k,k<w.heap.size->k≠g->v.ownBlock≠some k->w'.heap[k]?=w.heap[k]?
 fz:∀ j,w'.frozen? ⟨g,j,none⟩=w.frozen? ⟨g,j,none⟩
 new:∀ k,v'.ownBlock=some k->v.ownBlock=some k\/w.heap.size<=k
theorem Kp.refl (g:Nat)(v:Value)(w:World):Kp g v v w w:=⟨rfl,rfl,rfl,lR,λ_ _ _ _=>rfl,λ_=>rfl,λk h=>.inl h⟩
theorem Ne.pushedL {B g:Nat}{v v':Value}{n:List Bool}{z:Bool}{w w1:World}{o:Obj}(h:Ne B g v n w)(d:w1.ownsRow B 4 1 v' (n.length+1) (Bs n++[.bool z]))(hg:(w.alloc o).grownBy w1 v.ownBlock)(hl:v'.ownBlock=v.ownBlock\/v'.ownBlock=some (w.alloc o).heap.size) :
    Ne B g v' (n++[z]) (w1.setCell ⟨g,0,none⟩ v')/\Kp g v v' w (w1.setCell ⟨g,0,none⟩ v')/\w1.cell? ⟨g,0,none⟩=some v/\w1.frozen? ⟨g,0,none⟩=false:=by
 have lt:=h.lt;have m:=hg.size
 simp only [World.size_alloc] at m
 have b:w1.heap[g]?=w.heap[g]?:=by
  rw [hg.block g (by simp;omega) (λe=>h.ne e.symm)];exact QF w o g lt
 have c0:w1.cell? ⟨g,0,none⟩=some v:=(World.cell?_of_block b).trans h.cell;have f:w1.frozen? ⟨g,0,none⟩=false:=(World.frozen?_of_block b).trans h.froz
 have a:v'.ownBlock≠some g:=by
  rcases hl with e|e
  . rw [e];exact h.ne
  . rw [e];intro c;injection c with c;simp at c;omega
 refine ⟨⟨QE c0,by rw [World.frozen?_setCell];exact f,?_,a,h.ge,by simp;omega⟩,?_,c0,f⟩
 . have:w1.ownsRow B 4 1 v' (n++[z]).length (Bs (n++[z])):=by simpa using d
   exact Js this a
 . have l:=hg.size;have hB:=(Ne.pushed h d hg hl).2.1
   refine ⟨hB.os,hB.tape,hB.output,by simp;omega,λk hk hkg hkv=>?_,λj=>by rw [World.frozen?_setCell];exact World.frozen?_of_block b,λk hk=>?_⟩
   . rw [Below.heap_setCell _ _ _ _ hkg,hg.block k (by simp;omega) (λe=>hkv e.symm)]
     exact QF w o k hk
   . rcases hl with e|e
     . exact .inl (e ▸ hk)
     . rw [e] at hk;injection hk with hk;simp at hk;exact .inr (by omega)
theorem Ne.setL {B g:Nat}{v:Value}{m:List Bool}{z:Bool}{w:World}{r cap:Nat}(h:Ne B g v (m++[z]) w)(hv:v=.slice (some ⟨r,0,none⟩) (m.length+1) cap)(b:r≠g)(hr:B<=r)(a:Bool):Ne B g v (m++[a]) (w.setCell ⟨r,m.length,none⟩ (.bool a))/\Kp g v v w (w.setCell ⟨r,m.length,none⟩ (.bool a)):=by
 have hB:=(Ne.set h hv b hr a).2;subst hv;have own:=h.own;rw [show (m++[z]).length=m.length+1 by simp] at own;obtain ⟨s1,_⟩:=own.stored m.length (.bool a)
 refine ⟨⟨?_,by rw [World.frozen?_setCell];exact h.froz,?_,h.ne,h.ge,by simpa using h.lt⟩,⟨hB.os,hB.tape,hB.output,by simp,λk hk _ hkv=>Below.heap_setCell _ _ _ _ (λe=>hkv (by simp [Value.ownBlock,e])),λj=>by rw [World.frozen?_setCell],λk h=>.inl h⟩⟩
 . rw [World.cell?_setCell_other _ _ _ _ (λe=>b (congrArg Addr.block e))];exact h.cell
 . have e:(Bs (m++[z])).set m.length (.bool a)=Bs (m++[a]):=by
     simp only [Bs,List.map_append,List.map_cons,List.map_nil]
     rw [List.set_append_right _ _ (by simp)];simp
   rw [e] at s1;rw [show (m++[a]).length=m.length+1 by simp]
   exact s1
theorem Ne.dropL {B g:Nat}{v:Value}{m:List Bool}{z:Bool}{w:World}{r cap:Nat}(h:Ne B g v (m++[z]) w)(hv:v=.slice (some ⟨r,0,none⟩) (m.length+1) cap)(a:r≠g)(hr:B<=r):Ne B g (.slice (some ⟨r,0,none⟩) m.length cap) m (w.setCell ⟨g,0,none⟩ (.slice (some ⟨r,0,none⟩) m.length cap))/\Kp g v (.slice (some ⟨r,0,none⟩) m.length cap) w (w.setCell ⟨g,0,none⟩ (.slice (some ⟨r,0,none⟩) m.length cap)):=by
 have hB:=(Ne.drop h hv a hr).2;subst hv;have own:=h.own;rw [show (m++[z]).length=m.length+1 by simp] at own;have c:=ownE_take own;have e:(Bs (m++[z])).take m.length=Bs m:=by simp [Bs]
 rw [e] at c;have b:(Value.slice (some ⟨r,0,none⟩) m.length cap).ownBlock≠some g:=λe=>a (by simpa [Value.ownBlock] using e)
 exact ⟨⟨QE h.cell,by rw [World.frozen?_setCell];exact h.froz,Js c b,b,h.ge,by simpa using h.lt⟩,⟨hB.os,hB.tape,hB.output,by simp,λk hk hkg _=>Below.heap_setCell _ _ _ _ hkg,λj=>by rw [World.frozen?_setCell],λk h=>.inl h⟩⟩
theorem step_nilL (B g:Nat)(v:Value)(b:Int)(w:World)(h:Ne B g v [] w):Calls Tryz.prog 211 #[.pointer (some ⟨g,0,none⟩),.int .i64 b] w λe w'=>e=.returned (.bool false)/\Kp g v v w w':=by
 obtain ⟨a,c,rfl⟩:=QZ h.own;have c0:=h.cell;clear h;have H:=Hm (GY a 0 c)
 go_enter Tryz.func211,Tryz.ntmps211
 go_wp2_with (refine (H.o _).mono ?_;rintro e d ⟨rfl,rfl⟩)
 go_ret
 exact ⟨rfl,Kp.refl _ _ _⟩
theorem step_pushL (B g:Nat)(v:Value)(n:List Bool)(s:Int)(w:World)(h:Ne B g v n w)(I:n≠[])(hl:n.length<=1099511627776)(u:s=2\/s=3\/s=4):Calls Tryz.prog 211 #[.pointer (some ⟨g,0,none⟩),.int .i64 s] w λe w'=>∃ r,e=.returned (.bool true)/\Ne B g r (n++[s==4]) w'/\Kp g v r w w':=by
 obtain ⟨t,y,p,m,l⟩:=info_parts Tryz.info4;have D:0<n.length:=List.length_pos_iff.2 I;obtain ⟨a,c,rfl⟩:=QZ h.own;have c0:=h.cell;have own:=h.own;have lt:=h.lt;have L:=h.ge;have q:=Hm h;have H:=Hm (GY a n.length c);have E:decide (n.length=0)=false:=by simp;omega
 rw [E] at H;clear h E;have J:IntKind.i64.wrap ((n.length:Int)-1)=(n.length:Int)-1:=by rw [IntKind.wrap_i64];omega
 rcases u with rfl|rfl|rfl
 . go_enter Tryz.func211,Tryz.ntmps211
   go_wp2_with (first|(refine (H.o _).mono ?_;rintro e A ⟨rfl,rfl⟩)|(at_builtin;refine wpList_append_own_at _ rfl _ _ 237 rfl B 4 t (.bool false) 1 1 Tryz.underlying237 y p m l rfl (by decide) _ _ _ rfl (own.alloc _) ⟨w.heap.size,0,none⟩ 1 1 [.bool false] rfl rfl (cell_one_new _ _ _) (oneV _) (by unfold maxLen;omega) (by omega) (by simp;omega) ?_;intro r z b d k j;have f:=Hm (q.o.pushedL b d j);have G:=f.o.2.2.1;have F:=f.o.2.2.2;obtain ⟨va,C,rfl⟩:=QZ b;clear b d k j own c0 q))
   go_ret
   exact ⟨_,rfl,f.o.1,f.o.2.1⟩
 . go_enter Tryz.func211,Tryz.ntmps211
   go_wp2_with (first|(refine (H.o _).mono ?_;rintro e A ⟨rfl,rfl⟩)|(at_builtin;refine wpList_append_own_at _ rfl _ _ 237 rfl B 4 t (.bool false) 1 1 Tryz.underlying237 y p m l rfl (by decide) _ _ _ rfl (own.alloc _) ⟨w.heap.size,0,none⟩ 1 1 [.bool false] rfl rfl (cell_one_new _ _ _) (oneV _) (by unfold maxLen;omega) (by omega) (by simp;omega) ?_;intro r z b d k j;have f:=Hm (q.o.pushedL b d j);have G:=f.o.2.2.1;have F:=f.o.2.2.2;obtain ⟨va,C,rfl⟩:=QZ b;clear b d k j own c0 q))
   go_ret
   exact ⟨_,rfl,f.o.1,f.o.2.1⟩
 . go_enter Tryz.func211,Tryz.ntmps211
   go_wp2_with (first|(refine (H.o _).mono ?_;rintro e A ⟨rfl,rfl⟩)|(at_builtin;refine wpList_append_own_at _ rfl _ _ 237 rfl B 4 t (.bool false) 1 1 Tryz.underlying237 y p m l rfl (by decide) _ _ _ rfl (own.alloc _) ⟨w.heap.size,0,none⟩ 1 1 [.bool true] rfl rfl (cell_one_new _ _ _) (oneV _) (by unfold maxLen;omega) (by omega) (by simp;omega) ?_;intro r z b d k j;have f:=Hm (q.o.pushedL b d j);have G:=f.o.2.2.1;have F:=f.o.2.2.2;obtain ⟨va,C,rfl⟩:=QZ b;clear b d k j own c0 q))
   go_ret
   exact ⟨_,rfl,f.o.1,f.o.2.1⟩
theorem step_elseL (B g:Nat)(v:Value)(m:List Bool)(z:Bool)(w:World)(h:Ne B g v (m++[z]) w)(hl:m.length<=1099511627776):Calls Tryz.prog 211 #[.pointer (some ⟨g,0,none⟩),.int .i64 5] w λe w'=>e=.returned (.bool z)/\(z=true->Ne B g v (m++[false]) w')/\Kp g v v w w':=by
 obtain ⟨r,a,f,k,u,t,j,s,q,p,n,own⟩:=ne_facts h;have c:=Hm (h.setL f j k false);have H:=Hm (GY (some ⟨r,0,none⟩) (m.length+1) a);have b:decide (m.length+1=0)=false:=by simp
 rw [b] at H;clear h b own;have l:IntKind.i64.wrap (((m.length+1:Nat):Int)-1)=m.length:=by rw [IntKind.wrap_i64];omega
 cases z
 . go_enter Tryz.func211,Tryz.ntmps211
   go_wp2_with (refine (H.o _).mono ?_;rintro e d ⟨rfl,rfl⟩)
   go_ret
   exact ⟨rfl,λh=>(by cases h),Kp.refl _ _ _⟩
 . go_enter Tryz.func211,Tryz.ntmps211
   go_wp2_with (refine (H.o _).mono ?_;rintro e d ⟨rfl,rfl⟩)
   go_ret
   exact ⟨rfl,λ_=>c.o.1,c.o.2⟩
theorem step_endL (B g:Nat)(v:Value)(m:List Bool)(z:Bool)(w:World)(h:Ne B g v (m++[z]) w)(hl:m.length<=1099511627776):Calls Tryz.prog 211 #[.pointer (some ⟨g,0,none⟩),.int .i64 11] w λe w'=>∃ v',e=.returned (.bool true)/\Ne B g v' m w'/\Kp g v v' w w':=by
 obtain ⟨r,a,d,j,y,u,f,t,s,q,p,own⟩:=ne_facts h;have c:=Hm (h.dropL d f j);have H:=Hm (GY (some ⟨r,0,none⟩) (m.length+1) a);have b:decide (m.length+1=0)=false:=by simp
 rw [b] at H;clear h b own;have n:IntKind.i64.wrap (((m.length+1:Nat):Int)-1)=m.length:=by rw [IntKind.wrap_i64];omega
 have l:(m.length:Int)<=(a:Int):=by omega
 go_enter Tryz.func211,Tryz.ntmps211
 go_wp2_with (refine (H.o _).mono ?_;rintro e k ⟨rfl,rfl⟩)
 go_ret
 exact ⟨_,rfl,c.o.1,c.o.2⟩
theorem step_sameL (B g:Nat)(v:Value)(n:List Bool)(b:Int)(w:World)(h:Ne B g v n w)(q:n≠[])(hl:n.length<=1099511627776)(p:b≠2)(m:b≠3)(l:b≠4)(k:b≠5)(j:b≠11):Calls Tryz.prog 211 #[.pointer (some ⟨g,0,none⟩),.int .i64 b] w λe w'=>e=.returned (.bool true)/\w=w':=by
 have d:0<n.length:=List.length_pos_iff.2 q;obtain ⟨a,c,rfl⟩:=QZ h.own;have c0:=h.cell;have H:=Hm (GY a n.length c);have f:decide (n.length=0)=false:=by simp;omega
 rw [f] at H;clear h f;have A:IntKind.i64.wrap ((n.length:Int)-1)=(n.length:Int)-1:=by rw [IntKind.wrap_i64];omega
 have z:(b==2)=false:=by simpa using p
 have y:(b==3)=false:=by simpa using m
 have u:(b==4)=false:=by simpa using l
 have t:(b==5)=false:=by simpa using k
 have s:(b==11)=false:=by simpa using j
 go_enter Tryz.func211,Tryz.ntmps211
 go_wp2_with (refine (H.o _).mono ?_;rintro e r ⟨rfl,rfl⟩)
 go_ret
 exact ⟨rfl,rfl⟩
theorem step_cL (B g:Nat)(v:Value)(n:List Bool)(d:Int)(w:World)(h:Ne B g v n w)(hl:n.length<=1099511627776):Calls Tryz.prog 211 #[.pointer (some ⟨g,0,none⟩),.int .i64 d] w λe w'=>∃ v',e=.returned (.bool (Jf n d).isSome)/\(∀ n',Jf n d=some n'->Ne B g v' n' w')/\Kp g v v' w w':=by
 by_cases f:n=[]
 . subst f
   exact (step_nilL B g v d w h).mono λe w' ⟨a,b⟩=>⟨v,a,λn' e=>by simp [Jf] at e,b⟩
 . have q:n.isEmpty=false:=by simpa using f
   by_cases p:d=2\/d=3
   . have e:Jf n d=some (n++[false]):=by simp [Jf,f,p]
     rw [e];have r:(d==4)=false:=by rcases p with rfl|rfl<;>rfl
     refine (step_pushL B g v n d w h f hl (by omega)).mono λe w' ⟨v',a,b,c⟩=>⟨v',a,λn' e=>?_,c⟩
     rw [r] at b;cases e;exact b
   . by_cases o:d=4
     . subst o;have e:Jf n 4=some (n++[true]):=by simp [Jf,f]
       rw [e]
       exact (step_pushL B g v n 4 w h f hl (by omega)).mono λe w' ⟨v',a,b,c⟩=>⟨v',a,λn' e=>by cases e;exact b,c⟩
     . obtain ⟨m,z,rfl⟩:∃ m z,n=m++[z]:=⟨n.dropLast,n.getLast f,(List.dropLast_concat_getLast f).symm⟩;have j:m.length<=1099511627776:=by simp at hl;omega
       by_cases l:d=5
       . subst l;have e:Jf (m++[z]) 5=if z then some (m++[false]) else none:=by cases z<;>simp [Jf]
         rw [e]
         refine (step_elseL B g v m z w h j).mono λe w' ⟨a,b,c⟩=>⟨v,?_,λn' e=>?_,c⟩
         . rw [a];cases z<;>rfl
         . cases z
           . cases e
           . cases e;exact b rfl
       . by_cases k:d=11
         . subst k;have e:Jf (m++[z]) 11=some m:=by simp [Jf]
           rw [e]
           exact (step_endL B g v m z w h j).mono λe w' ⟨v',a,b,c⟩=>⟨v',a,λn' e=>by cases e;exact b,c⟩
         . have e:Jf (m++[z]) d=some (m++[z]):=by simp only [Jf,p,o,l,k,if_false];simp
           rw [e]
           refine (step_sameL B g v (m++[z]) d w h f hl (by omega) (by omega) o l k).mono λe w' ⟨a,b⟩=>⟨v,a,λn' e=>?_,?_⟩
           . subst b;cases e;exact h
           . subst b;exact Kp.refl _ _ _
theorem Rd.bel {w w1 q B ba bc bs p}(h:Rd w q ba bc bs p)(d:Below B w w1)(j:q<B)(g:ByL ba bc B):Rd w1 q ba bc bs p:=by
 have a:w1.heap[q]?=w.heap[q]?:=d.block q j
 have f:By.Has w1 ba bc.fs:=by
  by_cases c:bc.fs=[]
  . exact .inl c
  . rcases h.hasF with l|⟨b,o,e,k⟩
    . exact absurd l c
    . exact .inr ⟨b,o,e,λi hi=>(World.cell?_of_block (d.block b (g ⟨b,o,none⟩ e c))).trans (k i hi)⟩
 exact { h with
  c0:=(World.cell?_of_block a).trans h.c0,c1:=(World.cell?_of_block a).trans h.c1,c2:=(World.cell?_of_block a).trans h.c2,fz:=λi=>(World.frozen?_of_block a).trans (h.fz i)
  has:=by rw [h.win];exact JS f _
  cn:=(World.cell?_of_block a).trans h.cn,cw:=(World.cell?_of_block a).trans h.cw,hasF:=f,rst:=fun i v hv=>(World.cell?_of_block a).trans (h.rst i v hv) }
def Rs.up {α:Type}(p:Nat)(r:Rs α):Prop:=∀ v p',r=.ok v p'->p<=p'
theorem Qs {α β:Type}{p:Nat}{r:Rs α}{k:α->Nat->Rs β}(h:r.up p)(a:∀ v p1,(k v p1).up p1):(r.bind k).up p:=by
 intro v p' e
 cases r with
 |bad er at_=>cases e
 |ok x p1=>exact Nat.le_trans (h x p1 rfl) (a x p1 v p' e)
theorem Q6 {α:Type}(v:α)(p:Nat):(Rs.ok v p).up p:=λx p' e=>by cases e;exact lR
theorem Xb {α:Type}(er a:Int)(p:Nat):(Rs.bad er a:Rs α).up p:=λx p' e=>by cases e
theorem JJ {α:Type}{p:Nat}{c:Prop}[Decidable c]{x y:Rs α}(h1:x.up p)(a:y.up p):(if c then x else y).up p:=by split<;>assumption
theorem up_take (bs:List Int)(p:Nat):(Qx bs p).up p:=λv p' e=>by have:=Gj e;omega
theorem up_only (f:Int->Bool)(bs:List Int)(p:Nat):(Qz f bs p).up p:=λv p' e=>by have:=onlyG_next e;omega
theorem up_only' (bs:List Int)(p:Nat):(onlyM bs p).up p:=Qs (up_take _ _) λv p1=>JJ (Q6 _ _) (Xb _ _ _)
theorem up_mark' (bs:List Int)(p:Nat):(Xp bs p).up p:=Qs (up_take _ _) λv p1=>JJ (Q6 _ _) (Xb _ _ _)
theorem Oc (s:Bool){B:Int}(hB:1<=B/\B<=64)(bs:List Int)(p:Nat):(Qy s B bs p).up p:=λv p' e=>by have:=Xo hB.2 e;omega
theorem up_fix (bs:List Int)(p n:Nat):(XC bs p n).up p:=by
 unfold XC
 split
 · exact λv p' e=>by cases e;omega
 . exact Xb _ _ _
theorem up_rep (bs:List Int):∀ (n:Nat) (a:List Int) (p:Nat),(GP bs n a p).up p
 |0,a,p=>Q6 _ _
 |n+1,a,p=>Qs (Oc _ (by decide) _ _) λv p1=>up_rep bs n _ p1
theorem up_vec (bs:List Int)(p:Nat):(vecM bs p).up p:=Qs (Oc _ (by decide) _ _) λv p1=>up_rep _ _ _ _
theorem up_dec (f a:Int)(bs:List Int)(p:Nat):(JQ f a bs p).up p:=by
 unfold JQ
 repeat' refine JJ ?_ ?_
 . exact Qs (up_only' _ _) λ_ _=>Q6 _ _
 . exact Qs (Oc _ (by decide) _ _) λ_ _=>Q6 _ _
 . exact Qs (up_vec _ _) λ_ _=>Qs (Oc _ (by decide) _ _) λ_ _=>Q6 _ _
 . exact Qs (Oc _ (by decide) _ _) λ_ _=>Qs (up_mark' _ _) λ_ _=>Q6 _ _
 . exact Qs (Oc _ (by decide) _ _) λ_ _=>Qs (Oc _ (by decide) _ _) λ_ _=>Q6 _ _
 . exact Qs (up_mark' _ _) λ_ _=>Q6 _ _
 . exact Qs (Oc _ (by decide) _ _) λ_ _=>Q6 _ _
 . exact Qs (Oc _ (by decide) _ _) λ_ _=>Q6 _ _
 . exact Qs (up_fix _ _ _) λ_ _=>Q6 _ _
 . exact Qs (up_fix _ _ _) λ_ _=>Q6 _ _
 . exact Q6 _ _
theorem opM_next {bs:List Int}{p a:Nat}{v:Int}(h:opM bs p=.ok v a):p+1<=a:=by
 unfold opM at h
 rcases hM:Qx bs p with ⟨er,at_⟩|⟨x,b⟩
 . rw [hM] at h;cases h
 . rw [hM] at h
   simp only [Rs.bind] at h
   split at h
   · cases h
   . cases h;exact Gj hM
section
variable {w:World} {q:Nat} {ba:Option Addr} {bc:Bf} {bs:List Int} {p p':Nat} {bx:List (Nat × List Value)} {rs ks:List Qc} {V V':World}
theorem Ws.push {r r':Qc}(h:Ws w q ba bc bs p bx (r::rs) V)(n:q<w.heap.size)(m:ByL ba bc w.heap.size)(f:V.grownBy V' r.v.ownBlock)(own:r'.Ok w.heap.size V')(d:r'.v.ownBlock=r.v.ownBlock\/r'.v.ownBlock=some V.heap.size):Ws w q ba bc bs p bx (r'::rs) V':=by
 have c:∀ k,r.v.ownBlock=some k->w.heap.size<=k:=λk hk=>(World.ownsRow.lt h.o.head k hk).1
 refine ⟨h.r.grown f (λe=>?_) (λa ea hx e=>?_),Gu h.g f c,λx hx=>⟨(h.b x hx).1.grownR f (λe=>h.ap x hx (Qn.2 ⟨r,by simp,e⟩)),(h.b x hx).2⟩,h.o.push f own d,h.nd,λx hx hm=>?_⟩
 . have:=c q e.symm;omega
 . have s:=m a ea hx;have:=c _ e.symm;omega
 . obtain ⟨y,j,e⟩:=Qn.1 hm
   rcases List.mem_cons.1 j with rfl|j
   . rcases d with l|l
     . exact h.ap x hx (Qn.2 ⟨r,by simp,by rw [<- l];exact e⟩)
     . rw [l] at e;injection e with e;have:=(h.b x hx).1.1;omega
   . exact h.ap x hx (Qn.2 ⟨y,by simp [j],e⟩)
theorem Ws.ne {g:Nat}{a:Value}{n:List Bool}{r:Qc}(h:Ws w q ba bc bs p ((g,[a])::bx) (r::⟨4,1,n.length,a,Bs n⟩::ks) V):Ne w.heap.size g a n V :=
 ⟨h.b0.2.1 0 _ rfl,h.b0.2.2 0,h.o.tail.head,λe=>h.ap (g,[a]) (by simp) (Qn.2 ⟨⟨4,1,n.length,a,Bs n⟩,by simp,e⟩),h.h0,h.b0.1⟩
theorem Ws.nest {g:Nat}{d b:Value}{n s:List Bool}{r:Qc}(h:Ws w q ba bc bs p [(g,[d])] (r::⟨4,1,n.length,d,Bs n⟩::ks) V)(C:q<w.heap.size)(D:ByL ba bc w.heap.size)(a:Kp g d b V V')(t:Ne w.heap.size g b s V'):Ws w q ba bc bs p [(g,[b])] (r::⟨4,1,s.length,b,Bs s⟩::ks) V':=by
 have u:∀ k,d.ownBlock=some k->w.heap.size<=k:=λk hk=>(World.ownsRow.lt h.o.tail.head k hk).1;have A:=h.h0;have B:Below w.heap.size V V':=⟨a.os,a.tape,a.output,a.size,λk hk=>a.block k (Nat.lt_of_lt_of_le hk h.g.size) (by omega) (λe=>by have:=u k e;omega)⟩;have f:g ∉ blk (r::⟨4,1,n.length,d,Bs n⟩::ks):=h.ap (g,[d]) (by simp)
 refine ⟨h.r.bel B C D,⟨a.os.trans h.g.os,a.tape.trans h.g.tape,a.output.trans h.g.output,Nat.le_trans h.g.size a.size,λk hk hne=>(B.block k hk).trans (h.g.block k hk hne)⟩,λx hx=>?_,?_,by simp,λx hx=>?_⟩
 . simp at hx;subst hx
   refine ⟨⟨t.lt,λj v hv=>?_,λj=>(a.fz j).trans (h.b0.2.2 j)⟩,A⟩
   cases j with
   |zero=>simp at hv;subst hv;exact t.cell
   |succ j=>simp at hv
 . refine Own.frame (pre:=[r]) (L:=[⟨4,1,n.length,d,Bs n⟩]) (L':=[⟨4,1,s.length,b,Bs s⟩]) (post:=ks) h.o a.size (λk hk hn1 z=>a.block k hk (λe=>?_) (λe=>hn1 (Qn.2 ⟨_,List.mem_singleton.2 rfl,e⟩))) (Own.one t.own) (λk hk=>?_)
   . subst e
     refine f (Qn.2 ?_)
     obtain ⟨y,c,l⟩:=Qn.1 z
     exact ⟨y,by simp at c⊢;rcases c with m|m<;>simp [m],l⟩
   . obtain ⟨y,c,l⟩:=Qn.1 hk
     simp at c;subst c
     rcases a.new k l with m|m
     . exact .inl (Qn.2 ⟨_,List.mem_singleton.2 rfl,m⟩)
     . exact .inr m
 . simp at hx;subst hx
   intro z
   obtain ⟨y,c,l⟩:=Qn.1 z
   simp at c
   rcases c with rfl|rfl|c
   . exact f (Qn.2 ⟨y,by simp,l⟩)
   . exact t.ne l
   . exact f (Qn.2 ⟨y,by simp [c],l⟩)
end
theorem tellI_c (q ba bc bs p)(k:Int)(x:In)(la:Option Addr)(lc:Nat)(w)(h:Rd w q ba bc bs p) :
    Calls Tryz.prog 291 #[.pointer (some ⟨q,0,none⟩),.agg #[.int .i64 k,.int .i64 0,.int .i64 x.op,.int .i64 x.a,.int .i64 x.b,.int .u64 x.v,.slice la x.l.length lc,.slice none 0 0]] w λe w'=>e=.returned (.tuple #[])/\Below w.heap.size w w':=by
 have c:∀ o,(w.alloc o).cell? ⟨q,19,none⟩=some (.slice none 0 0):=λo=>(World.cell?_of_block (QF w o q h.lt)).trans h.cw;clear h
 go_enter Tryz.func291,Tryz.ntmps291
 go_wp2
 refine wp_loop_rounds 1 ?_
 rw [rounds_succ]
 go_wp2
 go_end0
 exact ⟨rfl,bF.alloc lR _⟩
theorem inner_c (a:Option Addr)(n c:Nat)(w:World):Calls Tryz.prog 320 #[.slice a n c] w λe w'=>(∃ k,e=.returned (.int .i64 k))/\w=w':=by
 go_enter Tryz.func320,Tryz.ntmps320
 go_wp2
 go_ret
 exact ⟨⟨_,rfl⟩,rfl⟩
theorem info_list:(Tryz.prog.info? 170).map (λi=>(i.zero,i.size,i.bytes))=some (some (.agg #[.int .i64 0,.int .i64 0,.int .i64 0,.int .u64 0,.slice none 0 0]),5,56):=by kernel_rfl
theorem list_start {w q ba bc bs p}(h:Rd w q ba bc bs p):Ws w q ba bc bs p [(w.heap.size+1,[.slice (some ⟨w.heap.size,0,none⟩) 1 1])] [⟨170,5,0,.slice none 0 0,[]⟩,⟨4,1,1,.slice (some ⟨w.heap.size,0,none⟩) 1 1,Bs [false]⟩] ((w.alloc (.cells #[.bool false] 4)).alloc (.cells #[.slice (some ⟨w.heap.size,0,none⟩) 1 1] 237)):=by
 have f:(w.alloc (.cells #[.bool false] 4)).heap.size=w.heap.size+1:=by simp
 have c:Below w.heap.size w (w.alloc (.cells #[.bool false] 4)):=bF.alloc lR _
 have g:Ws w q ba bc bs p [] [⟨170,5,0,.slice none 0 0,[]⟩,⟨4,1,1,.slice (some ⟨w.heap.size,0,none⟩) 1 1,Bs [false]⟩] (w.alloc (.cells #[.bool false] 4)) :=
  ⟨h.keep c,Qi c,λx hx=>(by cases hx),Own.app (a:=[_]) (b:=[_]) (Own.one (World.ownsRow_nil _ _ _ _)) (Own.one (World.ownsRow_lit (base:=w.heap.size) (e:=4) (size:=1) w #[.bool false] 1 lR (by unfold maxLen;omega) rfl)) (λk hk=>by simp [blk,Value.ownBlock] at hk),by simp,λx hx=>(by cases hx)⟩
 have d:=g.box (t:=237) (xs:=[.slice (some ⟨w.heap.size,0,none⟩) 1 1]);rw [f] at d
 exact d
theorem list_c (q ba bc bs p)(kd:Int)(w)(h:Rd w q ba bc bs p)(hA:Qm bs)(hl:bs.length<=1099511627776) :
    Calls Tryz.prog 290 #[.pointer (some ⟨q,0,none⟩),.int .i64 kd] w (RlP (Jx bs p) RIn 170 5 w q ba bc bs):=by
 obtain ⟨i0,hi,bd,bb,a9⟩:=info_parts info_list;have HS:=Hm (list_start h);have HL:=Hm h.byl;have HA:=Hm hA;have hq:=h.lt;have KN:=Hm (nestNew_c w);clear h hA
 go_enter Tryz.func290,Tryz.ntmps290
 go_wp2_with fail
 refine KN.o.mono ?_
 rintro e w1 ⟨rfl,rfl⟩
 go_wp2_with fail
 go_loopw [5] (λv wr=>∃ (f:Nat) (n:List Bool) (nv:Value) (d:List In) (c:List Value) (ks:List Qc) (p1:Nat),Jx bs p=Xl bs f n d p1/\bs.length+1<=f+p1/\d.length<=p1/\n.length<=d.length+1/\LR RIn d c ks/\Ws w q ba bc bs p1 [(w.heap.size+1,[nv])] (⟨170,5,d.length,v,c⟩::⟨4,1,n.length,nv,Bs n⟩::ks) wr) (λ_ wr=>bs.length-(posOf q wr).toNat)
 case atStart=>exact ⟨bs.length+1,[false],_,[],[],[],p,rfl,by omega,by simp,by simp,LR.nil _,HS.o⟩
 case round =>
  obtain ⟨f,n,nv,d,c,ks,p1,hM,cs,b3,cr,bg,H⟩:=hrel;have HW:=Hm H;have ay:=Hm bg;have cd:=H.r.le;have HP:Hid (posOf q wr=p1):=H.r.pos;obtain ⟨na,nc,rfl⟩:=QZ H.ne.own;have n0:=H.b0.2.1 0 _ rfl;have KC:=Hm (GY na n.length nc);have KO:=Hm (opc_c q ba bc bs p1 wr H.r HA.o hl);clear H bg HS KN;obtain ⟨f,rfl⟩:∃ k,f=k+1:=⟨f-1,by omega⟩
  by_cases hn:n=[]
  . subst hn;have HM:Hid (Jx bs p=.ok d p1):=by show _=_;rw [hM];simp [Xl]
    clear hM KO
    go_wp2_with fail
    refine (KC.o _).mono ?_
    rintro e w2 ⟨rfl,rfl⟩
    go_wp2_with fail
    go_ret
    refine ⟨HW.o.g,?_⟩
    rw [HM.o]
    exact ⟨_,_,_,rfl,ay.o,(HW.o.o.perm (List.Perm.swap _ _ _)).tail,HW.o.r,b3⟩
  . have hd:decide (n.length=0)=false:=by cases n with
      |nil=>exact absurd rfl hn
      |cons a b=>simp
    rw [hd] at KC
    rcases hX:opM bs p1 with ⟨er,at_⟩|⟨B,M⟩
    . have HM:Hid (Jx bs p=.bad er at_):=by show _=_;rw [hM];simp only [Xl,if_neg hn,hX,Rs.bind]
      rw [hX] at KO;clear hM hX
      go_wp2_with fail
      refine (KC.o _).mono ?_
      rintro e w2 ⟨rfl,rfl⟩
      go_wp2_with fail
      refine (KO.o).mono ?_
      rintro e w3 ⟨O,L⟩;replace L:e=.panicked [bc.flt er at_]:=L;subst L
      refine ⟨rfl,Qa HW.o.g O,?_⟩
      rw [HM.o]
    have cq:=opM_next hX;have bh:=opM_form hX;have HM:Hid (Jx bs p=(match Jf n B with|none=>.bad 10 M|some n'=>(JQ (QM (Qr B)) B bs M).bind λx C=>Xl bs f n' (d++[x]) C)):=by show _=_;rw [hM];simp only [Xl,if_neg hn,hX,Rs.bind];cases Jf n B<;>rfl
    rw [hX] at KO;clear hM hX
    go_wp2_with fail
    refine (KC.o _).mono ?_
    rintro e w2 ⟨rfl,rfl⟩
    go_wp2_with fail
    refine (KO.o).mono ?_
    rintro e w3 ⟨O,rfl,S⟩;have cc:=S.le;have H3:=Hm (HW.o.step hq O S);have KS:=Hm (step_cL _ _ _ n B w3 H3.o.ne (by omega));clear O S HW n0 KC KO
    cases hst:Jf n B with
    |none =>
     rw [hst] at KS HM;have G:Hid (Jx bs p=.bad 10 M):=HM.o;clear HM
     go_wp2_with fail
     refine KS.o.mono ?_
     rintro e w4 ⟨v',rfl,J,I⟩;have hb:Below w.heap.size w3 w4:=⟨I.os,I.tape,I.output,I.size,λk hk=>I.block k (Nat.lt_of_lt_of_le hk H3.o.g.size) (by omega) (λe=>by have:=(World.ownsRow.lt H3.o.o.tail.head k e).1;omega)⟩;have b6:=Hm (H3.o.r.bel hb hq HL.o);have b8:Hid (w.grownBy w4 (some q)):=⟨I.os.trans H3.o.g.os,I.tape.trans H3.o.g.tape,I.output.trans H3.o.g.output,Nat.le_trans H3.o.g.size I.size,λk hk J=>(hb.block k hk).trans (H3.o.g.block k hk J)⟩;have KF:=Hm (JE q 10 M w4 b6.o.c1);clear J I hb KS
     go_wp2_with fail
     refine (KF.o).mono ?_
     rintro e R ⟨rfl,rfl⟩
     refine ⟨rfl,b8.o,?_⟩
     rw [G.o]
     exact rfl
    |some n' =>
     rw [hst] at KS HM;have G:Hid (Jx bs p=(JQ (QM (Qr B)) B bs M).bind λx C=>Xl bs f n' (d++[x]) C):=HM.o;have ce:=stepM_len hst;clear HM;have bn:=Hm (GJ B)
     go_wp2_with fail
     refine KS.o.mono ?_
     rintro e w4 ⟨cn,rfl,J,I⟩;have X:=J n' rfl;have H4:=Hm (H3.o.nest hq HL.o I X);obtain ⟨s,j,rfl⟩:=QZ X.own;clear J X I KS H3 hst
     go_wp2_with fail
     refine (bn.o _).mono ?_
     rintro e R ⟨rfl,hb⟩;have u:=Hm (H4.o.keep hb);clear hb H4 bn;have n0:=u.o.b0.2.1 0 _ rfl;have KI:=Hm (inner_c s n'.length j)
     by_cases bk:QM (Qr B)=1
     . have KT:=Hm (λm V hV=>X6 q ba bc bs M 1 m V hV);have bj:(QM (Qr B)==1)=true:=by simpa using bk
       go_wp2_with fail
       refine (KI.o _).mono ?_
       rintro e w6 ⟨⟨m,rfl⟩,rfl⟩
       go_wp2_with fail
       refine (KT.o _ _ u.o.r).mono ?_
       rintro e w6 ⟨rfl,hb⟩;have H6:=Hm (u.o.keep hb);clear hb u KT KI n0
       go_upto_region 9 with fail
       refine Ql (λV=>Ws w q ba bc bs M [(w.heap.size+1,[.slice s n'.length j])] (⟨170,5,d.length,u5,c⟩::⟨4,1,n'.length,.slice s n'.length j,Bs n'⟩::ks) V) H6.o ?_
       rintro V hV;have HV:=Hm hV;clear hV H6;have HI:=Hm (rins_c q ba bc bs M B V bh HV.o.r HA.o hl)
       go_wp2_with fail
       refine (HI.o).mono ?_
       rintro e w4 ⟨O,L⟩
       rcases hX:JQ (QM (Qr B)) B bs M with ⟨er,at_⟩|⟨x,C⟩
       . rw [hX] at L;subst L
         refine ⟨rfl,Qa HV.o.g O,?_⟩
         rw [G.o,hX]
         exact rfl
       have b2:=up_dec _ _ _ _ x C hX;have ax:Hid (Jx bs p=Xl bs f n' (d++[x]) C):=by show _=_;rw [G.o,hX];rfl
       rw [hX] at L;obtain ⟨A,z,he,E,S,bx⟩:=L;replace he:e=.returned (.agg #[.int .i64 x.op,.int .i64 x.a,.int .i64 x.b,.int .u64 x.v,.slice A x.l.length z]):=he;subst he;have H4:=Hm ((HV.o.rows hq O S (Own.one (r:=nR (.slice A x.l.length z) x.l) E)).box (t:=170) (xs:=[.int .i64 x.op,.int .i64 x.a,.int .i64 x.b,.int .u64 x.v,.slice A x.l.length z]));have bf:=S.le;clear O S E hX HI HV G
       go_upto_region 10 with fail
       obtain ⟨gx,Y⟩:∃ gx,gx=w4.heap.size:=⟨_,rfl⟩;rw [<- Y] at H4⊢;clear Y
       refine Ql (λU=>Ws w q ba bc bs C [(gx,[.int .i64 x.op,.int .i64 x.a,.int .i64 x.b,.int .u64 x.v,.slice A x.l.length z]),(w.heap.size+1,[(.slice s n'.length j)])] ((⟨170,5,d.length,u5,c⟩::⟨4,1,n'.length,(.slice s n'.length j),Bs n'⟩::ks)++[nR (.slice A x.l.length z) x.l]) U) H4.o ?_
       rintro U hU;clear H4;have F:=Hm hU;clear hU;have x0:=F.o.b0.2.1 0 _ rfl;have x1:=F.o.b0.2.1 1 _ rfl;have x2:=F.o.b0.2.1 2 _ rfl;have x3:=F.o.b0.2.1 3 _ rfl;have x4:=F.o.b0.2.1 4 _ rfl;have KT:=Hm (tellI_c q ba bc bs C kd x A z U F.o.r)
       go_wp2_with fail
       refine (KT.o).mono ?_
       rintro e R ⟨rfl,Z⟩;have u:=Hm (F.o.keep Z);clear x0 x1 x2 x3 x4 Z F KT;have x0:=u.o.b0.2.1 0 _ rfl;have x1:=u.o.b0.2.1 1 _ rfl;have x2:=u.o.b0.2.1 2 _ rfl;have x3:=u.o.b0.2.1 3 _ rfl;have x4:=u.o.b0.2.1 4 _ rfl;have aw:Hid (∀ o,(R.alloc o).ownsRow w.heap.size 170 5 u5 d.length c):=λo=>World.ownsRow.alloc (Own.head u.o.o) o;have bz:w.heap.size<=R.heap.size:=u.o.g.size;have HK:Hid (∀ o,Ws w q ba bc bs C [(gx,[.int .i64 x.op,.int .i64 x.a,.int .i64 x.b,.int .u64 x.v,.slice A x.l.length z]),(w.heap.size+1,[(.slice s n'.length j)])] (⟨170,5,d.length,u5,c⟩::(⟨4,1,n'.length,(.slice s n'.length j),Bs n'⟩::ks++[nR (.slice A x.l.length z) x.l])) (R.alloc o)):=λo=>u.o.keep (bF.alloc lR _)
       go_wp2_with (at_builtin;refine Hid.o ?_)
       refine Hm ?_
       refine wpList_append_own_at _ rfl _ _ 77 rfl w.heap.size 170 i0 (.agg #[.int .i64 0,.int .i64 0,.int .i64 0,.int .u64 0,.slice none 0 0]) 5 56 Tryz.underlying77 hi bd bb a9 rfl (by decide) _ _ _ rfl (aw.o _) ⟨R.heap.size,0,none⟩ 1 1 [.int .i64 x.op,.int .i64 x.a,.int .i64 x.b,.int .u64 x.v,.slice A x.l.length z] rfl rfl (Jd _ _ _) (by simp [Value.oneCell']) (by unfold maxLen;omega) (by omega) (by simp;omega) ?_
       intro v3 w3 D ac ar aa
       have HE:=Hm (Ws.push (r':=⟨170,5,d.length+1,v3,c++([.int .i64 x.op,.int .i64 x.a,.int .i64 x.b,.int .u64 x.v,.slice A x.l.length z]:List Value)⟩) (HK.o _) hq HL.o ac D aa);clear D ac ar aa
       go_wp2_with fail
       go_roundw
       case rel =>
        refine ⟨f,n',(.slice s n'.length j),d++[x],_,_,C,ax.o,by omega,by simp;omega,by simp;omega,ay.o.snoc ⟨.slice A x.l.length z,rfl,rfl⟩,?_⟩
        have hE:=HE.o
        refine ⟨hE.r,hE.g,λy hy=>hE.b y (mC hy),?_,by simp,λy hy=>?_⟩
        . simpa using hE.o
        . simpa using hE.ap y (mC hy)
       case measure =>
        have e1:=HE.o.r.pos;have e2:=HP.o
        simp only [e1,e2]
        omega
     . have bj:(QM (Qr B)==1)=false:=by simpa using bk
       go_upto_region 9 with fail
       refine Ql (λV=>Ws w q ba bc bs M [(w.heap.size+1,[.slice s n'.length j])] (⟨170,5,d.length,u5,c⟩::⟨4,1,n'.length,.slice s n'.length j,Bs n'⟩::ks) V) u.o ?_
       rintro V hV;have HV:=Hm hV;clear hV u KI n0;have HI:=Hm (rins_c q ba bc bs M B V bh HV.o.r HA.o hl)
       go_wp2_with fail
       refine (HI.o).mono ?_
       rintro e w4 ⟨O,L⟩
       rcases hX:JQ (QM (Qr B)) B bs M with ⟨er,at_⟩|⟨x,C⟩
       . rw [hX] at L;subst L
         refine ⟨rfl,Qa HV.o.g O,?_⟩
         rw [G.o,hX]
         exact rfl
       have b2:=up_dec _ _ _ _ x C hX;have ax:Hid (Jx bs p=Xl bs f n' (d++[x]) C):=by show _=_;rw [G.o,hX];rfl
       rw [hX] at L;obtain ⟨A,z,he,E,S,bx⟩:=L;replace he:e=.returned (.agg #[.int .i64 x.op,.int .i64 x.a,.int .i64 x.b,.int .u64 x.v,.slice A x.l.length z]):=he;subst he;have H4:=Hm ((HV.o.rows hq O S (Own.one (r:=nR (.slice A x.l.length z) x.l) E)).box (t:=170) (xs:=[.int .i64 x.op,.int .i64 x.a,.int .i64 x.b,.int .u64 x.v,.slice A x.l.length z]));have bf:=S.le;clear O S E hX HI HV G
       go_upto_region 10 with fail
       obtain ⟨gx,Y⟩:∃ gx,gx=w4.heap.size:=⟨_,rfl⟩;rw [<- Y] at H4⊢;clear Y
       refine Ql (λU=>Ws w q ba bc bs C [(gx,[.int .i64 x.op,.int .i64 x.a,.int .i64 x.b,.int .u64 x.v,.slice A x.l.length z]),(w.heap.size+1,[(.slice s n'.length j)])] ((⟨170,5,d.length,u5,c⟩::⟨4,1,n'.length,(.slice s n'.length j),Bs n'⟩::ks)++[nR (.slice A x.l.length z) x.l]) U) H4.o ?_
       rintro U hU;clear H4;have F:=Hm hU;clear hU;have x0:=F.o.b0.2.1 0 _ rfl;have x1:=F.o.b0.2.1 1 _ rfl;have x2:=F.o.b0.2.1 2 _ rfl;have x3:=F.o.b0.2.1 3 _ rfl;have x4:=F.o.b0.2.1 4 _ rfl;have KT:=Hm (tellI_c q ba bc bs C kd x A z U F.o.r)
       go_wp2_with fail
       refine (KT.o).mono ?_
       rintro e R ⟨rfl,Z⟩;have u:=Hm (F.o.keep Z);clear x0 x1 x2 x3 x4 Z F KT;have x0:=u.o.b0.2.1 0 _ rfl;have x1:=u.o.b0.2.1 1 _ rfl;have x2:=u.o.b0.2.1 2 _ rfl;have x3:=u.o.b0.2.1 3 _ rfl;have x4:=u.o.b0.2.1 4 _ rfl;have aw:Hid (∀ o,(R.alloc o).ownsRow w.heap.size 170 5 u5 d.length c):=λo=>World.ownsRow.alloc (Own.head u.o.o) o;have bz:w.heap.size<=R.heap.size:=u.o.g.size;have HK:Hid (∀ o,Ws w q ba bc bs C [(gx,[.int .i64 x.op,.int .i64 x.a,.int .i64 x.b,.int .u64 x.v,.slice A x.l.length z]),(w.heap.size+1,[(.slice s n'.length j)])] (⟨170,5,d.length,u5,c⟩::(⟨4,1,n'.length,(.slice s n'.length j),Bs n'⟩::ks++[nR (.slice A x.l.length z) x.l])) (R.alloc o)):=λo=>u.o.keep (bF.alloc lR _)
       go_wp2_with (at_builtin;refine Hid.o ?_)
       refine Hm ?_
       refine wpList_append_own_at _ rfl _ _ 77 rfl w.heap.size 170 i0 (.agg #[.int .i64 0,.int .i64 0,.int .i64 0,.int .u64 0,.slice none 0 0]) 5 56 Tryz.underlying77 hi bd bb a9 rfl (by decide) _ _ _ rfl (aw.o _) ⟨R.heap.size,0,none⟩ 1 1 [.int .i64 x.op,.int .i64 x.a,.int .i64 x.b,.int .u64 x.v,.slice A x.l.length z] rfl rfl (Jd _ _ _) (by simp [Value.oneCell']) (by unfold maxLen;omega) (by omega) (by simp;omega) ?_
       intro v3 w3 D ac ar aa
       have HE:=Hm (Ws.push (r':=⟨170,5,d.length+1,v3,c++([.int .i64 x.op,.int .i64 x.a,.int .i64 x.b,.int .u64 x.v,.slice A x.l.length z]:List Value)⟩) (HK.o _) hq HL.o ac D aa);clear D ac ar aa
       go_wp2_with fail
       go_roundw
       case rel =>
        refine ⟨f,n',(.slice s n'.length j),d++[x],_,_,C,ax.o,by omega,by simp;omega,by simp;omega,ay.o.snoc ⟨.slice A x.l.length z,rfl,rfl⟩,?_⟩
        have hE:=HE.o
        refine ⟨hE.r,hE.g,λy hy=>hE.b y (mC hy),?_,by simp,λy hy=>?_⟩
        . simpa using hE.o
        . simpa using hE.ap y (mC hy)
       case measure =>
        have e1:=HE.o.r.pos;have e2:=HP.o
        simp only [e1,e2]
        omega
theorem glob_c (q ba bc bs p w)(h:Rd w q ba bc bs p)(O:Qm bs)(hl:bs.length<=1099511627776) :
    Calls Tryz.prog 240 #[.pointer (some ⟨q,0,none⟩)] w (ReP (XH bs p) X5 agV w q ba bc bs):=by
 have L:=h.lt;have D:=Hm (λX (hX:w.heap.size<=X)=>JB h hX);have R:=Hm O;have h0:Ws w q ba bc bs p [(w.heap.size,[.int .i64 0,.bool false,.slice none 0 0])] ([]) (w.alloc (.cells #[.int .i64 0,.bool false,.slice none 0 0] 107)):=by have h1:=((Ws.start h).box (t:=107) (xs:=[.int .i64 0,.bool false,.slice none 0 0]));simpa only [World.size_alloc] using h1
 have E:=Hm h0;clear h0 h O;unfold XH
 go_enter Tryz.func240,Tryz.ntmps240
 go_wp2_with fail
 refine (gty_c q ba bc bs p _ E.o.r R.o hl).mono ?_
 rintro e w1 ⟨j,d⟩
 rcases hM:gtyM bs p with ⟨er,at_⟩|⟨g,G⟩
 . rw [hM] at d;subst d
   refine ⟨rfl,Qa E.o.g j,?_⟩
   simp only [hM,Rs.bind]
 have B:=Hm hM;rw [hM] at d;obtain ⟨rfl,u⟩:=d;have k:=Hm (E.o.step L j u);clear j u hM E ;have s:=Hm (k.o.box (t:=107) (xs:=[.int .i64 g.ty,.bool g.mu,.slice none 0 0]));clear k;obtain ⟨C,z⟩:∃ C,C=w1.heap.size:=⟨_,rfl⟩
 go_upto_region 2 with fail
 rw [<- z] at s⊢;clear z
 refine Ql (λV=>Ws w q ba bc bs G [(C,[.int .i64 g.ty,.bool g.mu,.slice none 0 0]),(w.heap.size,[.int .i64 0,.bool false,.slice none 0 0])] ([]) V) s.o ?_
 rintro V1 A;have k:=Hm A;clear A s
 go_wp2_with fail
 refine (list_c q ba bc bs G 4 V1 k.o.r R.o hl).mono ?_
 rintro e w2 ⟨j,d⟩
 rcases hM:Jx bs G with ⟨er,at_⟩|⟨l,p2⟩
 . rw [hM] at d;subst d
   refine ⟨rfl,Qa k.o.g j,?_⟩
   simp only [B.o,hM,Rs.bind]
 have H:=Hm hM;rw [hM] at d;obtain ⟨vl,cl,kl,rfl,y,f,u,M⟩:=d;obtain ⟨n,m,rfl⟩:∃ a c,vl=.slice a l.length c:=Qc.Ok.slice f.head;have I:=Hm y;have b:=Hm (k.o.rows L j u f);clear j u hM k f y ;have x2:=b.o.b0.2.1 2 _ rfl;have F:=b.o.b0.2.2 2;have s:=Hm (b.o.set0 D.o 2 (.slice n l.length m));clear b
 go_upto_region 3 with fail
 refine Ql (λV=>Ws w q ba bc bs p2 [(C,[.int .i64 g.ty,.bool g.mu,.slice n l.length m]),(w.heap.size,[.int .i64 0,.bool false,.slice none 0 0])] ([]++(⟨170,5,l.length,.slice n l.length m,cl⟩::kl)) V) s.o ?_
 rintro V2 A;have b:=Hm A;clear A s;clear x2 F;have y0:=b.o.b0.2.1 0 _ rfl;have z0:=b.o.b1.2.1 0 _ rfl;have Y:=b.o.b1.2.2 0;have y1:=b.o.b0.2.1 1 _ rfl;have z1:=b.o.b1.2.1 1 _ rfl;have U:=b.o.b1.2.2 1;have y2:=b.o.b0.2.1 2 _ rfl;have Z:=b.o.b1.2.1 2 _ rfl;have S:=b.o.b1.2.2 2;have J:=Hm (((b.o.set1 D.o 0 (.int .i64 g.ty)).set1 D.o 1 (.bool g.mu)).set1 D.o 2 (.slice n l.length m))
 go_wp2_with fail
 exact bodyPost_ret (v:=.agg #[.int .i64 g.ty,.bool g.mu,.slice n l.length m]) (by simp [results,Tryz.results240,go_sem,y0,z0,y1,z1,y2,Z]) rfl (by
  refine ⟨J.o.g,?_⟩
  simp only [B.o,H.o,Rs.bind]
  exact ⟨[.int .i64 g.ty,.bool g.mu,.slice n l.length m],_,rfl,⟨_,rfl,⟨_,_,I.o,rfl⟩⟩,J.o.o,J.o.r⟩)
theorem seg_c (q ba bc bs p)(B:Int)(w)(h:Rd w q ba bc bs p)(E:Qm bs)(hl:bs.length<=1099511627776) :
    Calls Tryz.prog 293 #[.pointer (some ⟨q,0,none⟩),.int .i64 B] w (RlP (segM bs p) RIn 170 5 w q ba bc bs):=by
 have C:=h.lt;have G:=Hm E;have n:=Hm (Ws.start h);clear h E;unfold segM
 go_enter Tryz.func293,Tryz.ntmps293
 go_wp2_with fail
 refine (mark0_c q ba bc bs p w n.o.r G.o hl).mono ?_
 rintro e H ⟨c,a⟩
 rcases hM:Gs 0 bs p with ⟨er,at_⟩|⟨u,t⟩
 . rw [hM] at a;subst a
   refine ⟨rfl,Qa n.o.g c,?_⟩
   simp only [hM,Rs.bind]
 have m:=Hm hM;rw [hM] at a;obtain ⟨rfl,d⟩:=a;have A:=Hm (n.o.step C c d);clear c d hM n ;have F:=Hm (X6 q ba bc bs t 5 B H A.o.r)
 go_wp2_with fail
 refine (F.o).mono ?_
 rintro e s ⟨rfl,D⟩;have b:=Hm (A.o.keep D);clear D F A
 go_wp2_with fail
 refine (list_c q ba bc bs t 6 s b.o.r G.o hl).mono ?_
 rintro e I ⟨c,a⟩
 rcases hM:Jx bs t with ⟨er,at_⟩|⟨l,L⟩
 . rw [hM] at a;subst a
   refine ⟨rfl,Qa b.o.g c,?_⟩
   simp only [m.o,hM,Rs.bind]
 have v:=Hm hM;rw [hM] at a;obtain ⟨J,O,M,rfl,j,f,d,k⟩:=a;have y:=Hm j;have z:=Hm (b.o.rows C c d f);clear c d hM b f j
 go_wp2_with fail
 go_ret
 refine ⟨z.o.g,?_⟩
 simp only [m.o,v.o,Rs.bind]
 exact ⟨_,_,_,rfl,y.o,z.o.o,z.o.r,k⟩
theorem ele_c (q ba bc bs p w)(h:Rd w q ba bc bs p)(hA:Qm bs)(hl:bs.length<=1099511627776) :
    Calls Tryz.prog 245 #[.pointer (some ⟨q,0,none⟩)] w (ReP (Xk bs p) REle agV w q ba bc bs):=by
 have hq:=h.lt;have S:=Hm (λX (hX:w.heap.size<=X)=>JB h hX);have HA:=Hm hA;have h0:Ws w q ba bc bs p [((w.heap.size+1),[.slice none 0 0,.slice none 0 0]),(w.heap.size,[.pointer (some ⟨q,0,none⟩)])] ([]) ((w.alloc (.cells #[.pointer (some ⟨q,0,none⟩)] 133)).alloc (.cells #[.slice none 0 0,.slice none 0 0] 79)):=by have h1:=(((Ws.start h).box (t:=133) (xs:=[.pointer (some ⟨q,0,none⟩)])).box (t:=79) (xs:=[.slice none 0 0,.slice none 0 0]));simpa only [World.size_alloc] using h1
 have I:=Hm h0;clear h0 h hA;unfold Xk
 go_enter Tryz.func245,Tryz.ntmps245
 have J:=I.o.b1.2.1 0 _ rfl
 go_wp2_with fail
 refine (seg_c q ba bc bs p 1 _ I.o.r HA.o hl).mono ?_
 rintro e w1 ⟨A,n⟩
 rcases hM:segM bs p with ⟨er,at_⟩|⟨l,R⟩
 . rw [hM] at n;subst n
   refine ⟨rfl,Qa I.o.g A,?_⟩
   simp only [hM,Rs.bind]
 have G:=Hm hM;rw [hM] at n;obtain ⟨vl,cl,kl,rfl,m,d,C,D⟩:=n;obtain ⟨y,s,rfl⟩:∃ a c,vl=.slice a l.length c:=Qc.Ok.slice d.head;have Y:=Hm m;have z:=Hm (I.o.rows hq A C d);clear A C hM I d m J;have B:=Hm (z.o.box (t:=79) (xs:=[.slice y l.length s,.slice none 0 0]));clear z;obtain ⟨L,E⟩:∃ L,L=w1.heap.size:=⟨_,rfl⟩
 go_upto_region 2 with fail
 rw [<- E] at B⊢;clear E
 refine Ql (λV=>Ws w q ba bc bs R [(L,[.slice y l.length s,.slice none 0 0]),((w.heap.size+1),[.slice none 0 0,.slice none 0 0]),(w.heap.size,[.pointer (some ⟨q,0,none⟩)])] ([]++(⟨170,5,l.length,.slice y l.length s,cl⟩::kl)) V) B.o ?_
 rintro V1 F;have z:=Hm F;clear F B;have J:=(z.o.b _ (mC (mC (List.mem_singleton.2 rfl)))).1.2.1 0 _ rfl;have pn:w.heap.size≠q:=by omega
 go_wp2_with fail
 refine (vecE_c q ba bc bs R V1 z.o.r HA.o hl w.heap.size J pn).mono ?_
 rintro e w2 ⟨A,n⟩
 rcases hM:Jj (QK bs) bs R with ⟨er,at_⟩|⟨u,p2⟩
 . rw [hM] at n;subst n
   refine ⟨rfl,Qa z.o.g A,?_⟩
   simp only [G.o,hM,Rs.bind]
 have U:=Hm hM;rw [hM] at n;obtain ⟨O,ax,av,rfl,m,d,C,D⟩:=n;obtain ⟨j,f,rfl⟩:∃ a c,O=.slice a u.length c:=Qc.Ok.slice d.head;have H:=Hm m;have k:=Hm (z.o.rows hq A C d);clear A C hM z d m ;clear J;obtain ⟨rfl,rfl⟩:=lr_ints H.o;have x1:=k.o.b0.2.1 1 _ rfl;have M:=k.o.b0.2.2 1;have B:=Hm (k.o.set0 S.o 1 (.slice j u.length f));clear k
 go_upto_region 3 with fail
 refine Ql (λV=>Ws w q ba bc bs p2 [(L,[.slice y l.length s,.slice j u.length f]),((w.heap.size+1),[.slice none 0 0,.slice none 0 0]),(w.heap.size,[.pointer (some ⟨q,0,none⟩)])] ([]++(⟨170,5,l.length,.slice y l.length s,cl⟩::kl)++[nR (.slice j u.length f) u]) V) B.o ?_
 rintro V2 F;have k:=Hm F;clear F B;clear x1 M;have y0:=k.o.b0.2.1 0 _ rfl;have z0:=k.o.b1.2.1 0 _ rfl;have ag:=k.o.b1.2.2 0;have y1:=k.o.b0.2.1 1 _ rfl;have z1:=k.o.b1.2.1 1 _ rfl;have af:=k.o.b1.2.2 1;have Z:=Hm ((k.o.set1 S.o 0 (.slice y l.length s)).set1 S.o 1 (.slice j u.length f))
 go_wp2_with fail
 exact bodyPost_ret (v:=.agg #[.slice y l.length s,.slice j u.length f]) (by simp [results,Tryz.results245,go_sem,y0,z0,y1,z1]) rfl (by
  refine ⟨Z.o.g,?_⟩
  simp only [G.o,U.o,Rs.bind]
  exact ⟨[.slice y l.length s,.slice j u.length f],_,rfl,⟨_,_,_,rfl,⟨_,_,Y.o,rfl⟩,rfl⟩,Z.o.o,Z.o.r⟩)
theorem dat_c (q ba bc bs p w)(h:Rd w q ba bc bs p)(hA:Qm bs)(hl:bs.length<=1099511627776)(hE:bc.E<=9223372036854775807) :
    Calls Tryz.prog 249 #[.pointer (some ⟨q,0,none⟩)] w (ReP (Xq bs bc.E p) RDat agV w q ba bc bs):=by
 have S:=h.lt;have Y:=Hm (λX (hX:w.heap.size<=X)=>JB h hX);have J:=Hm hA;have h0:Ws w q ba bc bs p [(w.heap.size,[.slice none 0 0,.slice none 0 0])] ([]) (w.alloc (.cells #[.slice none 0 0,.slice none 0 0] 85)):=by have h1:=((Ws.start h).box (t:=85) (xs:=[.slice none 0 0,.slice none 0 0]));simpa only [World.size_alloc] using h1
 have M:=Hm h0;clear h0 h hA;unfold Xq
 go_enter Tryz.func249,Tryz.ntmps249
 go_wp2_with fail
 refine (seg_c q ba bc bs p 2 _ M.o.r J.o hl).mono ?_
 rintro e w1 ⟨k,f⟩
 rcases hM:segM bs p with ⟨er,at_⟩|⟨l,R⟩
 . rw [hM] at f;subst f
   refine ⟨rfl,Qa M.o.g k,?_⟩
   simp only [hM,Rs.bind]
 have z:=Hm hM;rw [hM] at f;obtain ⟨vl,cl,kl,rfl,F,d,s,af⟩:=f;obtain ⟨u,m,rfl⟩:∃ a c,vl=.slice a l.length c:=Qc.Ok.slice d.head;have aa:=Hm F;have A:=Hm (M.o.rows S k s d);clear k s hM M d F ;have D:=Hm (A.o.box (t:=85) (xs:=[.slice u l.length m,.slice none 0 0]));clear A;obtain ⟨I,G⟩:∃ I,I=w1.heap.size:=⟨_,rfl⟩
 go_upto_region 2 with fail
 rw [<- G] at D⊢;clear G
 refine Ql (λV=>Ws w q ba bc bs R [(I,[.slice u l.length m,.slice none 0 0]),(w.heap.size,[.slice none 0 0,.slice none 0 0])] ([]++(⟨170,5,l.length,.slice u l.length m,cl⟩::kl)) V) D.o ?_
 rintro V1 H;have A:=Hm H;clear H D
 go_wp2_with fail
 refine (size_c q ba bc bs R V1 A.o.r J.o hl hE).mono ?_
 rintro e w2 ⟨k,f⟩
 rcases hM:Jl bs bc.E R with ⟨er,at_⟩|⟨n,p2⟩
 . rw [hM] at f;subst f
   refine ⟨rfl,Qa A.o.g k,?_⟩
   simp only [z.o,hM,Rs.bind]
 have y:=Hm hM;rw [hM] at f;obtain ⟨rfl,s⟩:=f;have L:=Hm (A.o.step S k s);clear k s hM A ;have U:=GH J.o y.o;obtain ⟨N,rfl⟩:=Int.eq_ofNat_of_zero_le U.1
 go_wp2_with fail
 refine (bytes_c q ba bc bs p2 N w2 L.o.r J.o hl (by omega)).mono ?_
 rintro e w3 ⟨k,f⟩
 rcases hM:JF bs N p2 with ⟨er,at_⟩|⟨b,p3⟩
 . rw [hM] at f;subst f
   refine ⟨rfl,Qa L.o.g k,?_⟩
   simp only [z.o,y.o,hM,Rs.bind,Int.toNat_natCast]
 have Z:=Hm hM;rw [hM] at f;obtain ⟨vb,rfl,d,s⟩:=f;obtain ⟨C,B,rfl⟩:∃ a c,vb=.slice a b.length c:=Qc.Ok.slice d.head;have j:=Hm (L.o.rows S k s d);clear k s hM L d ;have x1:=j.o.b0.2.1 1 _ rfl;have O:=j.o.b0.2.2 1;have D:=Hm (j.o.set0 Y.o 1 (.slice C b.length B));clear j
 go_upto_region 3 with fail
 refine Ql (λV=>Ws w q ba bc bs p3 [(I,[.slice u l.length m,.slice C b.length B]),(w.heap.size,[.slice none 0 0,.slice none 0 0])] ([]++(⟨170,5,l.length,.slice u l.length m,cl⟩::kl)++[bR (.slice C b.length B) b]) V) D.o ?_
 rintro V3 H;have j:=Hm H;clear H D;clear x1 O;have y0:=j.o.b0.2.1 0 _ rfl;have z0:=j.o.b1.2.1 0 _ rfl;have aj:=j.o.b1.2.2 0;have y1:=j.o.b0.2.1 1 _ rfl;have z1:=j.o.b1.2.1 1 _ rfl;have ai:=j.o.b1.2.2 1;have HE:=Hm ((j.o.set1 Y.o 0 (.slice u l.length m)).set1 Y.o 1 (.slice C b.length B))
 go_wp2_with fail
 exact bodyPost_ret (v:=.agg #[.slice u l.length m,.slice C b.length B]) (by simp [results,Tryz.results249,go_sem,y0,z0,y1,z1]) rfl (by
  refine ⟨HE.o.g,?_⟩
  simp only [z.o,y.o,Z.o,Rs.bind,Int.toNat_natCast]
  exact ⟨[.slice u l.length m,.slice C b.length B],_,rfl,⟨_,_,_,rfl,⟨_,_,aa.o,rfl⟩,rfl⟩,HE.o.o,HE.o.r⟩)
structure K2 (q s:Nat)(w w':World):Prop where
 os:w'.os=w.os
 tape:w'.tape=w.tape
 output:w'.output=w.output
 size:w.heap.size<=w'.heap.size
 block:∀ k,k<w.heap.size->k≠q->k≠s->w'.heap[k]?=w.heap[k]?
theorem K2.refl (q s:Nat)(w:World):K2 q s w w:=⟨rfl,rfl,rfl,lR,λ_ _ _ _=>rfl⟩
theorem K2.trans {q s:Nat}{a b c:World}(h:K2 q s a b)(k:K2 q s b c):K2 q s a c :=
 ⟨k.os.trans h.os,k.tape.trans h.tape,k.output.trans h.output,Nat.le_trans h.size k.size,λi hi h1 h2=>(k.block i (Nat.lt_of_lt_of_le hi h.size) h1 h2).trans (h.block i hi h1 h2)⟩
theorem K2.of {q s:Nat}{a b:World}(h:a.grownBy b (some q)):K2 q s a b:=⟨h.os,h.tape,h.output,h.size,λk hk h1 _=>h.block k hk (by simpa using h1)⟩
theorem K2.past {q s:Nat}{a b c:World}{r:Option Nat}(h:K2 q s a b)(hg:b.grownBy c r)(hr:∀ k,r=some k->a.heap.size<=k):K2 q s a c :=
 ⟨hg.os.trans h.os,hg.tape.trans h.tape,hg.output.trans h.output,Nat.le_trans h.size hg.size,λk hk h1 h2=>(hg.block k (Nat.lt_of_lt_of_le hk h.size) (λe=>by have:=hr k e.symm;omega)).trans (h.block k hk h1 h2)⟩
theorem K2.cell {q s:Nat}{a b:World}(h:K2 q s a b){x:Addr}{v:Value}(hv:a.cell? x=some v)(h1:x.block≠q)(c:x.block≠s):b.cell? x=some v :=
 (World.cell?_of_block (h.block x.block (World.block_lt_of_cell? a _ hv) h1 c)).trans hv
theorem GV {a b:World}{r:Option Nat}(h:a.grownBy b r){k j:Nat}(c:k<a.heap.size)(hr:some k≠r)(d:a.frozen? ⟨k,j,none⟩=false):b.frozen? ⟨k,j,none⟩=false :=
 (World.frozen?_of_block (h.block k c hr)).trans d
theorem Ws.rebase {w:World}{q:Nat}{ba:Option Addr}{bc:Bf}{bs:List Int}{p:Nat}{bx:List (Nat × List Value)}{rs:List Qc}{V:World}(h:Ws w q ba bc bs p bx rs V){s j:Nat}(v:Value)(n:s<w.heap.size)(f:s≠q)(l:∀ a,ba=some a->bc.fs≠[]->a.block≠s):Ws (w.setCell ⟨s,j,none⟩ v) q ba bc bs p bx rs (V.setCell ⟨s,j,none⟩ v):=by
 have c:=Qp V s j v;have d:(w.setCell ⟨s,j,none⟩ v).heap.size=w.heap.size:=by simp
 refine ⟨h.r.grown c (by simpa using λe=>f e.symm) (λa ha hx=>by simpa using l a ha hx),⟨h.g.os,h.g.tape,h.g.output,by simpa using h.g.size,λk hk hne=>?_⟩,λx hx=>?_,?_,h.nd,h.ap⟩
 . rw [d] at hk
   by_cases e:k=s
   . subst e;have m:V.heap[k]?=w.heap[k]?:=h.g.block k hk hne
     simp only [World.setCell,Array.getElem?_modify,m]
   . rw [Below.heap_setCell _ _ _ _ e,Below.heap_setCell _ _ _ _ e]
     exact h.g.block k hk hne
 . rw [d]
   exact ⟨(h.b x hx).1.grownR c (by have:=(h.b x hx).2;simp;omega),(h.b x hx).2⟩
 . rw [d]
   exact h.o.grown c (λk e hk=>by cases e;have:=(h.o.lt hk).1;omega)
def grp1M (bs:List Int)(s:Int)(p:Nat):Rs (Grp × Int):=(QK bs p).bind λn p1=>if 4294967295<s+n then .bad 12 p1 else (Qz tyB bs p1).bind λt p2=>.ok (⟨n,t⟩,s+n) p2
theorem grpG_step (bs:List Int)(k:Nat)(s:Int)(b:List Grp)(p:Nat):XY bs (k+1) s b p=(grp1M bs s p).bind λg p1=>XY bs k g.2 (b++[g.1]) p1:=by
 unfold grp1M;rw [XY]
 cases QK bs p with
 |bad e a=>rfl
 |ok n p1 =>
  simp only [Rs.bind]
  by_cases h:4294967295<s+n
  . simp only [if_pos h]
  . simp only [if_neg h]
    cases Qz tyB bs p1 with
    |bad e a=>rfl
    |ok t p2=>rfl
theorem grp1_bd {bs}(c:Qm bs){s:Int}{p a:Nat}{g:Grp × Int}(f:0<=s)(h:grp1M bs s p=.ok g a):p+1<=a/\0<=g.2/\g.2<=4294967295:=by
 unfold grp1M QK at h
 rcases hM:Qy false 32 bs p with ⟨er,at_⟩|⟨n,b⟩
 . rw [hM] at h;cases h
 . rw [hM] at h
   simp only [Rs.bind] at h
   have l:=Xo (by omega) hM;have k:=Jq c hM
   split at h
   · cases h
   . rcases hT:Qz tyB bs b with ⟨er,at_⟩|⟨t,d⟩
     . rw [hT] at h;cases h
     . rw [hT] at h;have j:=onlyG_next hT
       cases h
       refine ⟨by omega,?_,?_⟩<;>simp<;>omega
def GcP (M:Rs (Grp × Int))(w:World)(q sb:Nat)(ba:Option Addr)(bc:Bf)(bs:List Int)(e:Ending)(w':World):Prop :=
 K2 q sb w w'/\(match M with
  |.bad er at_=>e=.panicked [bc.flt er at_]
  | .ok g p'=>e=.returned (.agg #[.int .i64 g.1.n,.int .i64 g.1.ty])/\Rd w' q ba bc bs p'/\w'.cell? ⟨sb,0,none⟩=some (.int .i64 g.2)/\w'.frozen? ⟨sb,0,none⟩=false)
theorem grp1_c (q ba bc bs)(p bx f:Nat)(s:Int)(w)(h:Rd w q ba bc bs p)(hA:Qm bs)(hl:bs.length<=1099511627776)(bb:0<=s)(a9:s<=4294967295)(hb:w.cell? ⟨bx,0,none⟩=some (.pointer (some ⟨q,0,none⟩)))(F:bx≠q)(aj:bx≠f)(Z:w.cell? ⟨f,0,none⟩=some (.int .i64 s))(D:w.frozen? ⟨f,0,none⟩=false)(l:f≠q)(ah:∀ a,ba=some a->bc.fs≠[]->a.block≠f) :
    Calls Tryz.prog 323 #[.pointer (some ⟨bx,0,none⟩),.pointer (some ⟨f,0,none⟩)] w (GcP (grp1M bs s p) w q f ba bc bs):=by
 have I:f<w.heap.size:=World.block_lt_of_cell? w _ Z;have hq:=h.lt;have LL:=Hm (λX (hX:w.heap.size<=X)=>JB h hX);have HA:=Hm hA;have h0:Ws w q ba bc bs p [(w.heap.size,[.int .i64 0,.int .i64 0])] ([]) (w.alloc (.cells #[.int .i64 0,.int .i64 0] 173)):=by have h1:=((Ws.start h).box (t:=173) (xs:=[.int .i64 0,.int .i64 0]));simpa only [World.size_alloc] using h1
 have U:=Hm h0;clear h0 h hA;unfold grp1M QK
 go_enter Tryz.func323,Tryz.ntmps323
 have H:=U.o.g.cell hb (by simpa using F)
 go_wp2_with fail
 refine (JR q ba bc bs p _ U.o.r HA.o hl).mono ?_
 rintro e w1 ⟨E,z⟩
 rcases hM:Qy false 32 bs p with ⟨er,at_⟩|⟨n,C⟩
 . rw [hM] at z;subst z
   refine ⟨rfl,K2.of (Qa U.o.g E),?_⟩
   simp only [hM,Rs.bind]
 have A:=Hm hM;rw [hM] at z;obtain ⟨rfl,J⟩:=z;have b:=Hm (U.o.step hq E J);clear E J hM U H;have bf:=Jq HA.o A.o;have m:=Hm (b.o.box (t:=173) (xs:=[.int .i64 n,.int .i64 0]));clear b;obtain ⟨G,M⟩:∃ G,G=w1.heap.size:=⟨_,rfl⟩
 go_upto_region 2 with fail
 rw [<- M] at m⊢;clear M
 refine Ql (λV=>Ws w q ba bc bs C [(G,[.int .i64 n,.int .i64 0]),(w.heap.size,[.int .i64 0,.int .i64 0])] ([]) V) m.o ?_
 rintro R y;have b:=Hm y;clear y m;have ps:=b.o.g.cell Z (by simpa using l);have ad:=GV b.o.g I (by simpa using l) D;have y0:=b.o.b0.2.1 0 _ rfl;have af:IntKind.i64.wrap (s+n)=s+n:=by rw [IntKind.wrap_i64];omega
 obtain ⟨d,c⟩:∃ d,d=w.setCell ⟨f,0,none⟩ (.int .i64 (s+n)):=⟨_,rfl⟩;have m:=Hm (b.o.rebase (j:=0) (.int .i64 (s+n)) I l ah);have oz:d.heap.size=w.heap.size:=by rw [c];simp
 have ob:d.cell? ⟨bx,0,none⟩=some (.pointer (some ⟨q,0,none⟩)):=by rw [c];exact (World.cell?_setCell_other _ _ _ _ (λe=>aj (congrArg Addr.block e).symm)).trans hb
 have os:d.cell? ⟨f,0,none⟩=some (.int .i64 (s+n)):=by rw [c];exact QE Z
 have of:d.frozen? ⟨f,0,none⟩=false:=by rw [c,World.frozen?_setCell];exact D
 have OK:Hid (K2 q f w d):=by show K2 q f w d;rw [c];exact ⟨rfl,rfl,rfl,by simp,λk hk _ h2=>Below.heap_setCell _ _ _ _ h2⟩
 rw [<- c] at m;have LO:=Hm (λX (hX:d.heap.size<=X)=>(⟨(LL.o X (by omega)).ne,(LL.o X (by omega)).by_,hX⟩:Lies d q ba bc.fs X));have ai:q<d.heap.size:=by omega
 clear b c hb Z D
 go_upto_region 3 with fail
 refine Ql (λV=>Ws d q ba bc bs C [(G,[.int .i64 n,.int .i64 0]),(w.heap.size,[.int .i64 0,.int .i64 0])] ([]) V) m.o ?_
 rintro R y;have b:=Hm y;clear y m;clear ps ad y0 af;have ps:=b.o.g.cell os (by simpa using l);have H:=b.o.g.cell ob (by simpa using F);have S:=Hm (iu32_c (s+n));have KF:=Hm (JE q 12 C R b.o.r.c1);have KT:=Hm (X6 q ba bc bs C 9 (s+n) R b.o.r)
 by_cases L:4294967295<s+n
 . have hu:u32B (s+n)=false:=by unfold u32B;simp;omega
   rw [hu] at S
   go_wp2_with fail
   refine (S.o _).mono ?_
   rintro e w' ⟨rfl,rfl⟩
   go_wp2_with fail
   refine (KF.o).mono ?_
   rintro e w' ⟨rfl,rfl⟩
   refine ⟨rfl,OK.o.trans (K2.of b.o.g),?_⟩
   simp only [A.o,Rs.bind,if_pos L]
   exact rfl
 have B:s+n<=4294967295:=by omega
 clear L;have hu:u32B (s+n)=true:=by unfold u32B;simp;omega
 rw [hu] at S
 go_wp2_with fail
 refine (S.o _).mono ?_
 rintro e w' ⟨rfl,rfl⟩
 go_wp2_with fail
 refine (KT.o).mono ?_
 rintro e w5 ⟨rfl,O⟩;have m:=Hm (b.o.keep O);clear O b KT KF S ps H
 go_upto_region 6 with fail
 refine Ql (λV=>Ws d q ba bc bs C [(G,[.int .i64 n,.int .i64 0]),(w.heap.size,[.int .i64 0,.int .i64 0])] ([]) V) m.o ?_
 rintro R y;have b:=Hm y;clear y m;have H:=b.o.g.cell ob (by simpa using F)
 go_wp2_with fail
 refine (vty_c q ba bc bs C R b.o.r HA.o hl).mono ?_
 rintro e w2 ⟨E,z⟩
 rcases hM:Qz tyB bs C with ⟨er,at_⟩|⟨Y,p2⟩
 . rw [hM] at z;subst z
   refine ⟨rfl,OK.o.trans (K2.of (Qa b.o.g E)),?_⟩
   simp only [A.o,hM,Rs.bind,if_neg (Int.not_lt.2 B)]
 have aq:=Hm hM;rw [hM] at z;obtain ⟨rfl,J⟩:=z;have u:=Hm (b.o.step ai E J);clear E J hM b H;have x1:=u.o.b0.2.1 1 _ rfl;have ac:=u.o.b0.2.2 1;have m:=Hm (u.o.set0 LO.o 1 (.int .i64 Y));clear u
 go_upto_region 7 with fail
 refine Ql (λV=>Ws d q ba bc bs p2 [(G,[.int .i64 n,.int .i64 Y]),(w.heap.size,[.int .i64 0,.int .i64 0])] ([]) V) m.o ?_
 rintro V2 y;have u:=Hm y;clear y m;clear x1 ac;have y0:=u.o.b0.2.1 0 _ rfl;have z0:=u.o.b1.2.1 0 _ rfl;have a2:=u.o.b1.2.2 0;have y1:=u.o.b0.2.1 1 _ rfl;have z1:=u.o.b1.2.1 1 _ rfl;have a1:=u.o.b1.2.2 1;have HE:=Hm ((u.o.set1 LO.o 0 (.int .i64 n)).set1 LO.o 1 (.int .i64 Y))
 go_wp2_with fail
 exact bodyPost_ret (v:=.agg #[.int .i64 n,.int .i64 Y]) (by simp [results,Tryz.results323,go_sem,y0,z0,y1,z1]) rfl (by
  refine ⟨OK.o.trans (K2.of HE.o.g),?_⟩
  simp only [A.o,aq.o,Rs.bind,if_neg (Int.not_lt.2 B)]
  exact ⟨by first | rfl | trivial,HE.o.r,HE.o.g.cell os (by simpa using l),GV HE.o.g (by omega) (by simpa using l) of⟩)
theorem Bk.same {W W':World}{g cs}(h:Bk W g cs)(b:W.heap.size<=W'.heap.size)(a:W'.heap[g]?=W.heap[g]?):Bk W' g cs :=
 ⟨Nat.lt_of_lt_of_le h.1 b,λj v hv=>(World.cell?_of_block a).trans (h.2.1 j v hv),λj=>(World.frozen?_of_block a).trans (h.2.2 j)⟩
theorem Ws.k2 {w:World}{q:Nat}{ba:Option Addr}{bc:Bf}{bs:List Int}{p p' s:Nat}{bx:List (Nat × List Value)}{rs new:List Qc}{V V':World}{xs:List Value}(h:Ws w q ba bc bs p ((s,xs)::bx) rs V)(n:q<w.heap.size)(c:K2 q s V V')(hr:Rd V' q ba bc bs p')(j:Own V.heap.size V' new):Ws w q ba bc bs p' bx (rs++new) V':=by
 have l:=h.h0;have d:=h.nd
 simp only [List.map_cons,List.nodup_cons] at d
 have m:Own w.heap.size V' rs:=h.o.blocks (λk hk'=>c.block k (h.o.lt hk').2 (by have:=(h.o.lt hk').1;omega) (λe=>h.ap (s,xs) (by simp) (e ▸ hk')))
 refine ⟨hr,⟨c.os.trans h.g.os,c.tape.trans h.g.tape,c.output.trans h.g.output,Nat.le_trans h.g.size c.size,λk hk' hne=>(c.block k (Nat.lt_of_lt_of_le hk' h.g.size) (by simpa using hne) (by omega)).trans (h.g.block k hk' hne)⟩,λx hx=>?_,h.o.new m j h.g.size,d.2,λx hx f=>?_⟩
 . have a:=h.b x (mC hx)
   exact ⟨a.1.same c.size (c.block x.1 a.1.1 (by have:=a.2;omega) (λe=>d.1 (e ▸ List.mem_map_of_mem hx))),a.2⟩
 . have a:=h.b x (mC hx);rw [On,List.mem_append] at f
   rcases f with f|f
   . exact h.ap x (mC hx) f
   . have:=(j.lt f).1;have:=a.1.1;omega
theorem grp_step {w t w1 g:World}{q b:Nat}{ba:Option Addr}{bc:Bf}{bs:List Int}{B e sz n:Nat}{v z A:Value}{c cs:List Value}{o:Obj}(F:Own w.heap.size t [⟨e,sz,n,v,c⟩])(p:K2 q b w t)(H:q<w.heap.size)(D:b<w.heap.size)(G:ByL ba bc w.heap.size)
    (y:K2 q b t w1) (u:Rd w1 q ba bc bs B) (C:w1.cell? ⟨b,0,none⟩=some A) (E:w1.frozen? ⟨b,0,none⟩=false) (f:(w1.alloc o).grownBy g v.ownBlock) (j:g.ownsRow w.heap.size e sz z (n+1) (c++cs)) :
    Own w.heap.size g [⟨e,sz,n+1,z,c++cs⟩]/\Rd g q ba bc bs B/\K2 q b w g/\g.cell? ⟨b,0,none⟩=some A/\g.frozen? ⟨b,0,none⟩=false:=by
 have s:Below w1.heap.size w1 (w1.alloc o):=bF.alloc lR _;have d:∀ k,v.ownBlock=some k->w.heap.size<=k:=λk p=>(World.ownsRow.lt F.head k p).1;have m:b<w1.heap.size:=World.block_lt_of_cell? w1 _ C;have l:some b≠v.ownBlock:=λe=>by have:=d b e.symm;omega
 refine ⟨Own.one j,(u.keep s).grown f (λe=>?_) (λa ea hx e=>?_),((p.trans y).past (Qi (r:=none) s) (λk p=>by cases p)).past f d,f.cell ((World.cell?_of_block (QF w1 o b m)).trans C) l,GV f (by simp;omega) l ((World.frozen?_of_block (QF w1 o b m)).trans E)⟩
 . have:=d q e.symm;omega
 . have I:=G a ea hx;have:=d _ e.symm;omega
def GlP (M:Rs (List Grp))(w:World)(q sb:Nat)(ba:Option Addr)(bc:Bf)(bs:List Int)(e:Ending)(w':World):Prop :=
 K2 q sb w w'/\(match M with
  |.bad er at_=>e=.panicked [bc.flt er at_]
  | .ok xs p'=>∃ v c,e=.returned v/\LR RGrp xs c []/\Own w.heap.size w' [⟨173,2,xs.length,v,c⟩]/\Rd w' q ba bc bs p'/\xs.length<=p')
theorem info_entG:(Tryz.prog.info? 173).map (λi=>(i.zero,i.size,i.bytes))=some (some (.agg #[.int .i64 0,.int .i64 0]),2,16):=by kernel_rfl
theorem entG_c (q ba bc bs p)(n:Int)(bx d:Nat)(w)(h:Rd w q ba bc bs p)(hA:Qm bs)(hl:bs.length<=1099511627776)(H:0<=n)(a4:n<=4294967295)(hb:w.cell? ⟨bx,0,none⟩=some (.pointer (some ⟨q,0,none⟩)))(L:bx≠q)(J:bx≠d)(hs:w.cell? ⟨d,0,none⟩=some (.int .i64 0))(af:w.frozen? ⟨d,0,none⟩=false)(ad:d≠q)(ag:∀ a,ba=some a->bc.fs≠[]->a.block≠d) :
    Calls Tryz.prog 322 #[.int .i64 n,.func (.func 323) #[] #[.pointer (some ⟨bx,0,none⟩),.pointer (some ⟨d,0,none⟩)]] w (GlP (XY bs n.toNat 0 [] p) w q d ba bc bs):=by
 obtain ⟨i0,hi,ac,ab,aa⟩:=info_parts info_entG;obtain ⟨N,rfl⟩:=Int.eq_ofNat_of_zero_le H;rw [Int.toNat_natCast];have HR:=Hm h;have HA:=Hm hA;have HL:=Hm h.byl;have hq:=h.lt;have ae:d<w.heap.size:=World.block_lt_of_cell? w _ hs;clear h hA H
 go_enter Tryz.func322,Tryz.ntmps322
 go_wp2_with fail
 go_loopw [5,7] (λv i wr=>∃ (k:Nat) (b:List Grp) (c:List Value) (u:Nat) (s:Int),k<=N/\i=.int .i64 (k:Int)/\XY bs N 0 [] p=XY bs (N-k) s b u/\b.length<=u/\0<=s/\s<=4294967295/\LR RGrp b c []/\Own w.heap.size wr [⟨173,2,b.length,v,c⟩]/\Rd wr q ba bc bs u/\K2 q d w wr/\wr.cell? ⟨d,0,none⟩=some (.int .i64 s)/\wr.frozen? ⟨d,0,none⟩=false) (λ_ i _=>N-(intOf i).toNat)
 case atStart=>exact ⟨0,[],[],p,0,Nat.zero_le _,rfl,rfl,by simp,by omega,by omega,LR.nil _,Own.one (World.ownsRow_nil _ _ _ _),HR.o,K2.refl _ _ _,hs,af⟩
 case round =>
  obtain ⟨k,b,c,u,s,hk,rfl,O,ak,E,ah,I,t,G,y,D,B⟩:=hrel;have Y:=Hm y;have A:=Hm t;have U:=Hm I;have a3:=G.le;clear t I HR
  by_cases a5:k<N
  . have a6:(k:Int)<(N:Int):=by omega
    have K:=Hm (grp1_c q ba bc bs u bx d s wr G HA.o hl E ah (y.cell hb L J) L J D B ad ag);have C:N-k=(N-(k+1))+1:=by omega
    rw [C,grpG_step] at O;have S:=Hm O;clear O C G y D B
    go_wp2_with fail
    refine (K.o).mono ?_
    rintro e Z ⟨f,X⟩
    rcases hX:grp1M bs s u with ⟨er,at_⟩|⟨g,p2⟩
    . rw [hX] at X;subst X
      refine ⟨rfl,Y.o.trans f,?_⟩
      rw [S.o,hX]
      exact rfl
    have M:=grp1_bd HA.o E hX;have ap:Hid (XY bs N 0 [] p=XY bs (N-(k+1)) g.2 (b++[g.1]) p2):=by show _=_;rw [S.o,hX];rfl
    rw [hX] at X;obtain ⟨rfl,F,r,m⟩:=X;have z:=Hm F;have aq:=Hm f;have au:=Hm r;have ar:=Hm m;have ao:Hid (∀ o,(Z.alloc o).ownsRow w.heap.size 173 2 u5 b.length c):=λo=>World.ownsRow.alloc (Own.head (A.o.blocks (λj hj=>f.block j (A.o.lt hj).2 (by have:=(A.o.lt hj).1;omega) (by have:=(A.o.lt hj).1;omega)))) o;have aw:w.heap.size<=Z.heap.size:=Nat.le_trans Y.o.size f.size;clear F f r m K hX S
    go_wp2_with (at_builtin;refine Hid.o ?_)
    refine Hm ?_
    refine wpList_append_own_at _ rfl _ _ 81 rfl w.heap.size 173 i0 (.agg #[.int .i64 0,.int .i64 0]) 2 16 Tryz.underlying81 hi ac ab aa rfl (by decide) _ _ _ rfl (ao.o _) ⟨Z.heap.size,0,none⟩ 1 1 [.int .i64 g.1.n,.int .i64 g.1.ty] rfl rfl (Jd _ _ _) (by simp [Value.oneCell']) (by unfold maxLen;omega) (by omega) (by simp;omega) ?_
    intro v3 w3 l R ai aj
    have V:=Hm (grp_step A.o Y.o hq ae HL.o aq.o z.o au.o ar.o R l);clear l R ai aj
    go_wp2_with fail
    go_roundw
    case rel=>exact ⟨k+1,b++[g.1],_,p2,g.2,by omega,by go_num,ap.o,by simp;omega,M.2.1,M.2.2,U.o.snoc (rs:=[]) ⟨rfl,rfl⟩,by simpa using V.o.1,V.o.2.1,V.o.2.2.1,V.o.2.2.2.1,V.o.2.2.2.2⟩
    case measure=>simp [intOf];omega
  . have e:k=N:=by omega
    subst e;have z:=Hm G;have S:Hid (XY bs k 0 [] p=.ok b u):=by show _=_;rw [O,Nat.sub_self];rfl
    clear G O
    go_wp2_with fail
    go_ret
    refine ⟨Y.o,?_⟩
    rw [S.o]
    exact ⟨_,_,rfl,U.o,A.o,z.o,ak⟩
theorem tellG_c (q ba bc bs p)(k:Int)(la:Option Addr)(ln lc:Nat)(w)(h:Rd w q ba bc bs p) :
    Calls Tryz.prog 291 #[.pointer (some ⟨q,0,none⟩),.agg #[.int .i64 k,.int .i64 0,.int .i64 0,.int .i64 0,.int .i64 0,.int .u64 0,.slice none 0 0,.slice la ln lc]] w λe w'=>e=.returned (.tuple #[])/\Below w.heap.size w w':=by
 have a:∀ o,(w.alloc o).cell? ⟨q,19,none⟩=some (.slice none 0 0):=λo=>(World.cell?_of_block (QF w o q h.lt)).trans h.cw;clear h
 go_enter Tryz.func291,Tryz.ntmps291
 go_wp2
 refine wp_loop_rounds 1 ?_
 rw [rounds_succ]
 go_wp2
 go_end0
 exact ⟨rfl,bF.alloc lR _⟩
theorem grps_c (q ba bc bs p w)(h:Rd w q ba bc bs p)(U:Qm bs)(hl:bs.length<=1099511627776) :
    Calls Tryz.prog 296 #[.pointer (some ⟨q,0,none⟩)] w (RlP (X4 bs p) RGrp 173 2 w q ba bc bs):=by
 have HY:=Hm h.byl;have R:=h.lt;have M:=Hm U;have h0:Ws w q ba bc bs p [(w.heap.size,[.pointer (some ⟨q,0,none⟩)])] ([]) (w.alloc (.cells #[.pointer (some ⟨q,0,none⟩)] 133)):=by have h1:=((Ws.start h).box (t:=133) (xs:=[.pointer (some ⟨q,0,none⟩)]));simpa only [World.size_alloc] using h1
 have E:=Hm h0;clear h0 h U;unfold X4 QK
 go_enter Tryz.func296,Tryz.ntmps296
 have j:=E.o.b0.2.1 0 _ rfl
 go_wp2_with fail
 refine (JR q ba bc bs p _ E.o.r M.o hl).mono ?_
 rintro e w1 ⟨H,f⟩
 rcases hM:Qy false 32 bs p with ⟨er,at_⟩|⟨n,F⟩
 . rw [hM] at f;subst f
   refine ⟨rfl,Qa E.o.g H,?_⟩
   simp only [hM,Rs.bind]
 have s:=Hm hM;rw [hM] at f;obtain ⟨rfl,y⟩:=f;have b:=Hm (E.o.step R H y);clear H y hM E j;have B:=Jq M.o s.o;have j:=b.o.b0.2.1 0 _ rfl;have D:=Hm (X6 q ba bc bs F 8 n w1 b.o.r)
 go_wp2_with fail
 refine (D.o).mono ?_
 rintro e Z ⟨rfl,C⟩;have I:=Hm ((b.o.keep C).box (t:=2) (xs:=[.int .i64 0]));clear C D b j;obtain ⟨u,v⟩:∃ u,u=Z.heap.size:=⟨_,rfl⟩
 go_upto_region 4 with fail
 rw [<- v] at I⊢;clear v
 refine Ql (λV=>Ws w q ba bc bs F [(u,[.int .i64 0]),(w.heap.size,[.pointer (some ⟨q,0,none⟩)])] ([]) V) I.o ?_
 rintro V1 S;have b:=Hm S;clear S I;have j:=b.o.b1.2.1 0 _ rfl;have ad:=b.o.h0;have d:w.heap.size≠u:=by have:=b.o.nd;simp at this;exact λe=>this e.symm
 have X:=Hm (entG_c q ba bc bs F n w.heap.size u V1 b.o.r M.o hl B.1 B.2 j (by omega) d (b.o.b0.2.1 0 _ rfl) (b.o.b0.2.2 0) (by omega) (λa ha hx e=>by have:=HY.o a ha hx;omega));clear j
 go_wp2_with fail
 refine (X.o).mono ?_
 rintro e Y ⟨m,f⟩
 rcases hM:XY bs n.toNat 0 [] F with ⟨er,at_⟩|⟨xs,p2⟩
 . rw [hM] at f;subst f
   refine ⟨rfl,⟨m.os.trans b.o.g.os,m.tape.trans b.o.g.tape,m.output.trans b.o.g.output,Nat.le_trans b.o.g.size m.size,λk hk' d=>(m.block k (Nat.lt_of_lt_of_le hk' b.o.g.size) (by simpa using d) (by omega)).trans (b.o.g.block k hk' d)⟩,?_⟩
   simp only [s.o,hM,Rs.bind]
 have J:=Hm hM;rw [hM] at f;obtain ⟨vx,cx,rfl,z,l,y,A⟩:=f;obtain ⟨ax,nx,rfl⟩:∃ a c,vx=.slice a xs.length c:=Qc.Ok.slice l.head;have L:=Hm z;have G:=Hm (b.o.k2 R m y l);clear m y hM b l z X;have j:=G.o.b0.2.1 0 _ rfl;have D:=Hm (tellG_c q ba bc bs p2 10 ax xs.length nx Y G.o.r)
 go_wp2_with fail
 refine (D.o).mono ?_
 rintro e w4 ⟨rfl,C⟩;have O:=Hm (G.o.keep C);clear C D G j
 go_wp2_with fail
 go_ret
 refine ⟨O.o.g,?_⟩
 simp only [s.o,J.o,Rs.bind]
 exact ⟨_,_,_,rfl,L.o,O.o.o,O.o.r,A⟩
end Go.Proofs.YtedcmcdbejjgcaaGreat
