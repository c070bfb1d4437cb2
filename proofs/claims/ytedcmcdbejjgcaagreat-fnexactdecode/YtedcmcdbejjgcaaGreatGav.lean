import Derived.Test.YtedcmcdbejjgcaaGreatGar
import Derived.Deep.Cut
import Derived.Test.YtedcmcdbejjgcaaGreatGaa
import Derived.Laws.BytesArg
import Derived.Laws.Cover3
import Derived.Test.YtedcmcdbejjgcaaGreatGap
import Derived.Maps.AppendAt
set_option linter.all false
set_option maxHeartbeats 400000000
set_option maxRecDepth 100000
namespace Go.Proofs.YtedcmcdbejjgcaaGreat
open Go.RowKit Go.Sort
theorem Bk.grownR {W W':World}{g cs}{r:Option Nat}(h:Bk W g cs)(hg:W.grownBy W' r)(a:r≠some g):Bk W' g cs:=by
 have b:=hg.block g h.1 (λe=>a e.symm)
 exact ⟨Nat.lt_of_lt_of_le h.1 hg.size,λj v hv=>(World.cell?_of_block b).trans (h.2.1 j v hv),λj=>(World.frozen?_of_block b).trans (h.2.2 j)⟩
section
variable {w:World} {q:Nat} {ba:Option Addr} {bc:Bf} {bs:List Int} {p p' gz gx:Nat} {zs xs:List Value} {V V':World}
structure Wz (w:World)(q:Nat)(ba:Option Addr)(bc:Bf)(bs:List Int)(p gz:Nat)(zs:List Value)(V:World):Prop where
 r:Rd V q ba bc bs p
 g:w.grownBy V (some q)
 z:Bk V gz zs
 hz:w.heap.size<=gz
structure Wx (w:World)(q:Nat)(ba:Option Addr)(bc:Bf)(bs:List Int)(p gz gx:Nat)(zs xs:List Value)(V:World):Prop where
 t:Wz w q ba bc bs p gz zs V
 x:Bk V gx xs
 hx:w.heap.size<=gx
 ne:gz≠gx
theorem Wz.start {t:TypeId}(h:Rd w q ba bc bs p):Wz w q ba bc bs p w.heap.size zs (w.alloc (.cells zs.toArray t)) :=
 ⟨h.keep (bF.alloc lR _),Qi (bF.alloc lR _),Bk.new,lR⟩
theorem Wz.step (h:Wz w q ba bc bs p gz zs V)(a:q<w.heap.size)(hg:V.grownBy V' (some q))(hr:Rd V' q ba bc bs p'):Wz w q ba bc bs p' gz zs V' :=
 ⟨hr,Qa h.g hg,h.z.grownR hg (by have:=h.hz;simp;omega),h.hz⟩
theorem Wz.keep (h:Wz w q ba bc bs p gz zs V)(a:Below V.heap.size V V'):Wz w q ba bc bs p gz zs V' :=
 ⟨h.r.keep a,Qa h.g (Qi a),h.z.keep a,h.hz⟩
theorem Wz.box {t:TypeId}(h:Wz w q ba bc bs p gz zs V):Wx w q ba bc bs p gz V.heap.size zs xs (V.alloc (.cells xs.toArray t)) :=
 ⟨h.keep (bF.alloc lR _),Bk.new,h.g.size,λe=>by have:=h.z.1;omega⟩
theorem Wx.step (h:Wx w q ba bc bs p gz gx zs xs V)(a:q<w.heap.size)(hg:V.grownBy V' (some q))(hr:Rd V' q ba bc bs p'):Wx w q ba bc bs p' gz gx zs xs V' :=
 ⟨h.t.step a hg hr,h.x.grownR hg (by have:=h.hx;simp;omega),h.hx,h.ne⟩
theorem Wz.far (h:Wz w q ba bc bs p gz zs V)(b:Lies w q ba bc.fs gx)(a:gz≠gx)(j:Nat)(v:Value):Wz w q ba bc bs p gz zs (V.setCell ⟨gx,j,none⟩ v) :=
 ⟨h.r.far b j v,Jh h.g b j v,h.z.grownR (Qp V gx j v) (by simpa using λe=>a e.symm),h.hz⟩
theorem Wx.set (h:Wx w q ba bc bs p gz gx zs xs V)(a:Lies w q ba bc.fs gx)(j:Nat)(v:Value):Wx w q ba bc bs p gz gx zs (xs.set j v) (V.setCell ⟨gx,j,none⟩ v) :=
 ⟨h.t.far a h.ne j v,h.x.set,h.hx,h.ne⟩
theorem Wz.zset (h:Wz w q ba bc bs p gz zs V)(a:Lies w q ba bc.fs gz)(j:Nat)(v:Value):Wz w q ba bc bs p gz (zs.set j v) (V.setCell ⟨gz,j,none⟩ v) :=
 ⟨h.r.far a j v,Jh h.g a j v,h.z.set,h.hz⟩
end
theorem lim_c (q ba bc bs p w)(h:Rd w q ba bc bs p)(hA:Qm bs)(hl:bs.length<=1099511627776) :
    Calls Tryz.prog 238 #[.pointer (some ⟨q,0,none⟩)] w (RdP (XR bs p) (λl=>.agg #[.int .i64 l.min,.int .i64 l.max,.bool l.has]) w q ba bc bs):=by
 have hq:=h.lt;obtain ⟨W,hW⟩:∃ W,W=w.alloc (.cells #[.int .i64 0,.int .i64 0,.bool false] 96):=⟨_,rfl⟩;have h0:Wz w q ba bc bs p w.heap.size [.int .i64 0,.int .i64 0,.bool false] W:=by rw [hW];exact Wz.start h
 have HW:=Hm hW;have H:=Hm h0;have u:=Hm (λX (hX:w.heap.size<=X)=>JB h hX);clear hW h0 h;unfold XR QK
 go_enter Tryz.func238,Tryz.ntmps238
 go_wp2_with fail
 rw [<- HW.o]
 refine (flag_c q ba bc bs p W H.o.r hA hl).mono ?_
 rintro e w1 ⟨d,c⟩
 rcases hM:flagM bs p with ⟨er,at_⟩|⟨b,G⟩
 . rw [hM] at c;subst c
   refine ⟨rfl,Qa H.o.g d,?_⟩
   simp only [hM,Rs.bind]
 have k:=Hm hM;rw [hM] at c;obtain ⟨rfl,m⟩:=c;have y:Hid (Wx w q ba bc bs G w.heap.size w1.heap.size [.int .i64 0,.int .i64 0,.bool false] [.int .i64 0,.int .i64 0,.bool b] (w1.alloc (.cells #[.int .i64 0,.int .i64 0,.bool b] 96))):=(H.o.step hq d m).box;clear d m hM H HW;obtain ⟨gx,C⟩:∃ gx,gx=w1.heap.size:=⟨_,rfl⟩
 go_upto_region 2 with fail
 rw [<- C] at y⊢;clear C
 refine Ql (λV=>Wx w q ba bc bs G w.heap.size gx [.int .i64 0,.int .i64 0,.bool false] [.int .i64 0,.int .i64 0,.bool b] V) y.o ?_
 rintro V1 h1;clear y;have y:=Hm h1;clear h1
 go_wp2_with fail
 refine (JR q ba bc bs G V1 y.o.t.r hA hl).mono ?_
 rintro e w2 ⟨d,c⟩
 rcases hM:Qy false 32 bs G with ⟨er,at_⟩|⟨f,F⟩
 . rw [hM] at c;subst c
   refine ⟨rfl,Qa y.o.t.g d,?_⟩
   simp only [k.o,hM,Rs.bind]
 have A:=Hm hM;rw [hM] at c;obtain ⟨rfl,m⟩:=c;have s:=y.o.step hq d m;have x0:=s.x.2.1 0 _ rfl;have aa:=s.x.2.2 0;have D:Hid (Wx w q ba bc bs F w.heap.size gx [.int .i64 0,.int .i64 0,.bool false] [.int .i64 f,.int .i64 0,.bool b] (w2.setCell ⟨gx,0,none⟩ (.int .i64 f))):=(s.set (u.o _ s.hx) 0 (.int .i64 f));clear d m hM y s
 go_upto_region 3 with fail
 refine Ql (λV=>Wx w q ba bc bs F w.heap.size gx [.int .i64 0,.int .i64 0,.bool false] [.int .i64 f,.int .i64 0,.bool b] V) D.o ?_
 rintro V2 s;clear D x0 aa;have a:=Hm s;clear s
 cases b with
 |true =>
  have l2:=a.o.x.2.1 2 _ rfl
  go_wp2_with fail
  refine (JR q ba bc bs F V2 a.o.t.r hA hl).mono ?_
  rintro e w3 ⟨d,c⟩
  rcases hM:Qy false 32 bs F with ⟨er,at_⟩|⟨B,p3⟩
  . rw [hM] at c;subst c
    refine ⟨rfl,Qa a.o.t.g d,?_⟩
    simp only [k.o,A.o,hM,Rs.bind,if_true]
  have af:=Hm hM;rw [hM] at c;obtain ⟨rfl,m⟩:=c;have n:=a.o.step hq d m;clear l2;have x1:=n.x.2.1 1 _ rfl;have Z:=n.x.2.2 1;have D:Hid (Wx w q ba bc bs p3 w.heap.size gx [.int .i64 0,.int .i64 0,.bool false] [.int .i64 f,.int .i64 B,.bool true] (w3.setCell ⟨gx,1,none⟩ (.int .i64 B))):=(n.set (u.o _ n.hx) 1 (.int .i64 B));clear d m hM a n
  go_upto_region 5 with fail
  refine Ql (λV=>Wx w q ba bc bs p3 w.heap.size gx [.int .i64 0,.int .i64 0,.bool false] [.int .i64 f,.int .i64 B,.bool true] V) D.o ?_
  rintro V3 n;clear D x1 Z;have j:=Hm n;clear n;have Y:=j.o.x.2.1 0 _ rfl;have R:=j.o.t.z.2.1 0 _ rfl;have L:=j.o.t.z.2.2 0;have U:=j.o.x.2.1 1 _ rfl;have O:=j.o.t.z.2.1 1 _ rfl;have J:=j.o.t.z.2.2 1;have S:=j.o.x.2.1 2 _ rfl;have M:=j.o.t.z.2.1 2 _ rfl;have I:=j.o.t.z.2.2 2;have E:=Hm (((j.o.t.zset (u.o _ lR) 0 (.int .i64 f)).zset (u.o _ lR) 1 (.int .i64 B)).zset (u.o _ lR) 2 (.bool true))
  go_wp2_with fail
  exact bodyPost_ret (v:=.agg #[.int .i64 f,.int .i64 B,.bool true]) (by simp [results,Tryz.results238,go_sem,Y,R,U,O,S,M]) rfl (by
   refine ⟨E.o.g,?_⟩
   simp only [k.o,A.o,af.o,Rs.bind,if_true]
   exact ⟨by first | rfl | trivial,E.o.r⟩)
 |false =>
  have l2:=a.o.x.2.1 2 _ rfl;have Y:=a.o.x.2.1 0 _ rfl;have R:=a.o.t.z.2.1 0 _ rfl;have L:=a.o.t.z.2.2 0;have U:=a.o.x.2.1 1 _ rfl;have O:=a.o.t.z.2.1 1 _ rfl;have J:=a.o.t.z.2.2 1;have S:=a.o.x.2.1 2 _ rfl;have M:=a.o.t.z.2.1 2 _ rfl;have I:=a.o.t.z.2.2 2;have E:=Hm (((a.o.t.zset (u.o _ lR) 0 (.int .i64 f)).zset (u.o _ lR) 1 (.int .i64 0)).zset (u.o _ lR) 2 (.bool false))
  go_wp2_with fail
  exact bodyPost_ret (v:=.agg #[.int .i64 f,.int .i64 0,.bool false]) (by simp [results,Tryz.results238,go_sem,Y,R,U,O,S,M]) rfl (by
   refine ⟨E.o.g,?_⟩
   simp only [k.o,A.o,Rs.bind,if_false,Bool.false_eq_true]
   exact ⟨by first | rfl | trivial,E.o.r⟩)
theorem gty_c (q ba bc bs p w)(h:Rd w q ba bc bs p)(F:Qm bs)(hl:bs.length<=1099511627776) :
    Calls Tryz.prog 286 #[.pointer (some ⟨q,0,none⟩)] w (RdP (gtyM bs p) (λg=>.agg #[.int .i64 g.ty,.bool g.mu]) w q ba bc bs):=by
 have E:=h.lt;obtain ⟨W,A⟩:∃ W,W=w.alloc (.cells #[.int .i64 0,.bool false] 98):=⟨_,rfl⟩;have h0:Wz w q ba bc bs p w.heap.size [.int .i64 0,.bool false] W:=by rw [A];exact Wz.start h
 have H:=Hm A;have s:=Hm h0;have B:=Hm (λX (hX:w.heap.size<=X)=>JB h hX);clear A h0 h;unfold gtyM
 go_enter Tryz.func286,Tryz.ntmps286
 go_wp2_with fail
 rw [<- H.o]
 refine (vty_c q ba bc bs p W s.o.r F hl).mono ?_
 rintro e y ⟨d,a⟩
 rcases hM:Qz tyB bs p with ⟨er,at_⟩|⟨t,n⟩
 . rw [hM] at a;subst a
   refine ⟨rfl,Qa s.o.g d,?_⟩
   simp only [hM,Rs.bind]
 have l:=Hm hM;rw [hM] at a;obtain ⟨rfl,j⟩:=a;have c:Hid (Wx w q ba bc bs n w.heap.size y.heap.size [.int .i64 0,.bool false] [.int .i64 t,.bool false] (y.alloc (.cells #[.int .i64 t,.bool false] 98))):=(s.o.step E d j).box;clear d j hM s H;obtain ⟨gx,k⟩:∃ gx,gx=y.heap.size:=⟨_,rfl⟩
 go_upto_region 2 with fail
 rw [<- k] at c⊢;clear k
 refine Ql (λV=>Wx w q ba bc bs n w.heap.size gx [.int .i64 0,.bool false] [.int .i64 t,.bool false] V) c.o ?_
 rintro V1 G;clear c;have c:=Hm G;clear G
 go_wp2_with fail
 refine (flag_c q ba bc bs n V1 c.o.t.r F hl).mono ?_
 rintro e Z ⟨d,a⟩
 rcases hM:flagM bs n with ⟨er,at_⟩|⟨m,D⟩
 . rw [hM] at a;subst a
   refine ⟨rfl,Qa c.o.t.g d,?_⟩
   simp only [l.o,hM,Rs.bind]
 have C:=Hm hM;rw [hM] at a;obtain ⟨rfl,j⟩:=a;have b:=c.o.step E d j;have Y:=b.x.2.1 1 _ rfl;have u:=b.x.2.2 1;have I:Hid (Wx w q ba bc bs D w.heap.size gx [.int .i64 0,.bool false] [.int .i64 t,.bool m] (Z.setCell ⟨gx,1,none⟩ (.bool m))):=(b.set (B.o _ b.hx) 1 (.bool m));clear d j hM c b
 go_upto_region 3 with fail
 refine Ql (λV=>Wx w q ba bc bs D w.heap.size gx [.int .i64 0,.bool false] [.int .i64 t,.bool m] V) I.o ?_
 rintro V2 b;clear I Y u;have f:=Hm b;clear b;have U:=f.o.x.2.1 0 _ rfl;have R:=f.o.t.z.2.1 0 _ rfl;have M:=f.o.t.z.2.2 0;have S:=f.o.x.2.1 1 _ rfl;have O:=f.o.t.z.2.1 1 _ rfl;have L:=f.o.t.z.2.2 1;have J:=Hm ((f.o.t.zset (B.o _ lR) 0 (.int .i64 t)).zset (B.o _ lR) 1 (.bool m))
 go_wp2_with fail
 exact bodyPost_ret (v:=.agg #[.int .i64 t,.bool m]) (by simp [results,Tryz.results286,go_sem,U,R,S,O]) rfl (by
  refine ⟨J.o.g,?_⟩
  simp only [l.o,C.o,Rs.bind]
  exact ⟨by first | rfl | trivial,J.o.r⟩)
theorem tab_c (q ba bc bs p w)(h:Rd w q ba bc bs p)(A:Qm bs)(hl:bs.length<=1099511627776) :
    Calls Tryz.prog 237 #[.pointer (some ⟨q,0,none⟩)] w (RdP (GC bs p) (λl=>.agg #[.int .i64 l.min,.int .i64 l.max,.bool l.has]) w q ba bc bs):=by
 have y:=h.lt;obtain ⟨W,m⟩:∃ W,W=w.alloc (.cells #[.int .i64 0,.int .i64 0,.bool false] 96):=⟨_,rfl⟩;have h0:Wz w q ba bc bs p w.heap.size [.int .i64 0,.int .i64 0,.bool false] W:=by rw [m];exact Wz.start h
 have B:=Hm m;have k:=Hm h0;have n:=Hm (λX (hX:w.heap.size<=X)=>JB h hX);clear m h0 h;unfold GC
 go_enter Tryz.func237,Tryz.ntmps237
 go_wp2_with fail
 rw [<- B.o]
 refine (mark112_c q ba bc bs p W k.o.r A hl).mono ?_
 rintro e J ⟨b,a⟩
 rcases hM:Gs 112 bs p with ⟨er,at_⟩|⟨u,t⟩
 . rw [hM] at a;subst a
   refine ⟨rfl,Qa k.o.g b,?_⟩
   simp only [hM,Rs.bind]
 have f:=Hm hM;rw [hM] at a;obtain ⟨rfl,d⟩:=a;have j:=Hm (k.o.step y b d);clear b d hM k B
 go_wp2_with fail
 refine (lim_c q ba bc bs t J j.o.r A hl).mono ?_
 rintro e L ⟨b,a⟩
 rcases hM:XR bs t with ⟨er,at_⟩|⟨l,M⟩
 . rw [hM] at a;subst a
   refine ⟨rfl,Qa j.o.g b,?_⟩
   simp only [f.o,hM,Rs.bind]
 have s:=Hm hM;rw [hM] at a;obtain ⟨rfl,d⟩:=a;have c:=Hm (j.o.step y b d);clear b d hM j;have I:=c.o.z.2.1 0 _ rfl;have H:=c.o.z.2.1 1 _ rfl;have G:=c.o.z.2.1 2 _ rfl;have F:=c.o.z.2.2 0;have E:=c.o.z.2.2 1;have D:=c.o.z.2.2 2;have C:=Hm (((c.o.zset (n.o _ lR) 0 (.int .i64 l.min)).zset (n.o _ lR) 1 (.int .i64 l.max)).zset (n.o _ lR) 2 (.bool l.has))
 go_wp2_with fail
 exact bodyPost_ret (v:=.agg #[.int .i64 l.min,.int .i64 l.max,.bool l.has]) (by simp [results,Tryz.results237,go_sem,I,H,G]) rfl (by
  refine ⟨C.o.g,?_⟩
  simp only [f.o,s.o,Rs.bind]
  exact ⟨by first | rfl | trivial,C.o.r⟩)
theorem eql_nil (a:Option Addr)(l c:Nat)(w:World):(binOp .eql 22 (.slice a l c) (.slice none 0 0)).run Tryz.prog w=.ok (.bool a.isNone) w:=by
 simp only [binOp]
 simp [run_equal_slice_nil w 22 5 a l c Tryz.underlying22]
theorem clone_c (a:Option Addr)(c:Nat)(l:List Int)(w:World)(hl:l.length<=1099511627776)(z:By.Has w a l)(y:a=none->l=[])(G:l.length<=c) :
    Calls Tryz.prog 280 #[.slice a l.length c] w λe w'=>∃ v,e=.returned v/\w'.ownsRow w.heap.size 5 1 v l.length (U l)/\Below w.heap.size w w':=by
 cases a with
 |none =>
  have e:=y rfl;subst e;have A:=eql_nil none 0 c w
  simp only [Option.isNone_none] at A
  clear y G z
  go_enter Tryz.func280,Tryz.ntmps280
  go_wp2
  go_ret
  exact ⟨_,rfl,World.ownsRow_nil _ _ _ _,bF⟩
 |some ad =>
  obtain ⟨E,F,p,n,m⟩:=info_parts Tryz.info5;have J:Hid (∀ t,(w.alloc (.cells #[] t)).ownsRow w.heap.size t 1 (.slice (some ⟨w.heap.size,0,none⟩) 0 0) 0 []):=λt=>World.ownsRow_lit w #[] 0 lR (Nat.zero_le _) rfl
  have L:Hid (∀ t j u,(U l)[j]?=some u->(w.alloc (.cells #[] t)).cell? (ad.add j)=some u):=λt j u hu=>by
   rcases z with h0|⟨b,o,e,s⟩
   . subst h0;simp [U] at hu
   . cases e
     have r:j<l.length:=by have:=(List.getElem?_eq_some_iff.1 hu).1;simpa [U] using this
     have C:=s j r;rw [Addr.add_lit,World.cell?_alloc_past _ _ _ (World.block_lt_of_cell? w _ C),C]
     simp only [U,List.getElem?_map,List.getElem?_eq_getElem r,Option.map_some,Option.some.injEq] at hu
     rw [<- hu,List.getD_eq_getElem?_getD,List.getElem?_eq_getElem r]
     rfl
  have H:Hid (∀ t,w.heap.size<=(w.alloc (.cells #[] t)).heap.size):=λt=>by simp
  have A:=eql_nil (some ad) l.length c w
  simp only [Option.isNone_some] at A
  clear y z
  go_enter Tryz.func280,Tryz.ntmps280
  go_wp2_with (at_builtin;refine wpList_append_own_at _ rfl _ _ 22 rfl w.heap.size 5 E (.int .u8 0) 1 1 Tryz.underlying22 F p n m rfl (by decide) (.slice (some ⟨w.heap.size,0,none⟩) 0 0) 0 _ rfl (J.o _) ad l.length c (U l) rfl (by simp [U]) (L.o _) (oneU _) (by unfold maxLen;omega) (by omega) (H.o _) ?_;intro O M B D q f;have I:=Hm B;have g:=Hm D;clear B D q f)
  go_ret
  refine ⟨_,rfl,by simpa using I.o,?_⟩
  have d:Below w.heap.size w (w.alloc (.cells #[] 5)):=bF.alloc lR _
  exact ⟨g.o.os.trans d.os,g.o.tape.trans d.tape,g.o.output.trans d.output,Nat.le_trans d.size g.o.size,λk hk=>(g.o.block k (by simp;omega) (by simp [Value.ownBlock];omega)).trans (d.block k hk)⟩
theorem has_sub {W:World}{ba:Option Addr}{c:List Int}{cap p k:Nat}(h:By.Has W ba c)(j:c.length<=cap)(g:p+k<=c.length) :
    By.Has W (if cap=p then ba else Option.map (λx=>x.add p) ba) ((c.drop p).take k)/\((if cap=p then ba else Option.map (λx=>x.add p) ba)=none->(c.drop p).take k=[]):=by
 by_cases f:k=0
 . subst f;rw [List.take_zero]
   exact ⟨.inl rfl,λ_=>rfl⟩
 . rcases h with h0|⟨b,o,rfl,a⟩
   . subst h0;simp at g;omega
   . rw [if_neg (by omega),Option.map_some,Addr.add_lit]
     refine ⟨.inr ⟨b,o+p,rfl,λi hi=>?_⟩,λe=>by cases e⟩
     have d:i<k:=by simp at hi;omega
     have:=a (p+i) (by omega)
     rw [show o+p+i=o+(p+i) by omega,this]
     simp [List.getD,d]
theorem win_sub {w q ba bc bs r}(h:Rd w q ba bc bs r){p k:Nat}(c:p+k<=bs.length):(bs.drop p).take k=(bc.fs.drop p).take k:=by
 have b:=h.wl;rw [h.win]
 apply List.ext_getElem?
 intro i
 simp only [List.getElem?_take,List.getElem?_drop]
 by_cases a:i<k
 . rw [if_pos a,if_pos a,if_pos (by omega)]
 . rw [if_neg a,if_neg a]
def RbP (M:Rs (List Int))(w:World)(q:Nat)(ba:Option Addr)(bc:Bf)(bs:List Int)(e:Ending)(w':World):Prop :=
 w.grownBy w' (some q)/\(match M with
  |.bad er at_=>e=.panicked [bc.flt er at_]
  | .ok l p'=>∃ v,e=.returned v/\Own w.heap.size w' [bR v l]/\Rd w' q ba bc bs p')
theorem bytes_c (q ba bc bs)(p n:Nat)(w)(h:Rd w q ba bc bs p)(hA:Qm bs)(hl:bs.length<=1099511627776)(hn:(n:Int)<=9223372036854775807) :
    Calls Tryz.prog 229 #[.pointer (some ⟨q,0,none⟩),.int .i64 n] w (RbP (JF bs n p) w q ba bc bs):=by
 have c1:=h.c1;have R:=Hm h;have ab:=h.le;clear h
 go_enter Tryz.func229,Tryz.ntmps229
 go_wp2_with fail
 go_loopw [11] (λi wr=>∃ k:Nat,k<=n/\i=.int .i64 (k:Int)/\Rd wr q ba bc bs (p+k)/\w.grownBy wr (some q)) (λi _=>n-(intOf i).toNat)
 case atStart=>exact ⟨0,Nat.zero_le _,rfl,R.o,World.grownBy.refl _ _⟩
 case round =>
  obtain ⟨k,hk,rfl,d,L⟩:=hrel;have u:=Hm L;clear L R c1
  by_cases D:k<n
  . have ac:(k:Int)<(n:Int):=by omega
    by_cases C:bs.length<=p+k
    . have z:=Hm (XP q ba bc bs (p+k) wr d C);have H:Hid (JF bs n p=.bad 2 bs.length):=by show _=_;unfold JF;rw [if_neg (by omega)]
      clear d
      go_wp2_with fail
      refine (z.o).mono ?_
      rintro e S ⟨rfl,m⟩
      refine ⟨rfl,Qa u.o m,?_⟩
      rw [H.o]
    . have z:=Hm (GG q ba bc bs (p+k) wr d (by omega) hl);clear d
      go_wp2_with fail
      refine (z.o).mono ?_
      rintro e S ⟨rfl,t,m⟩;have g:=Hm t;have I:=Hm (Qa u.o m);clear t m z u
      go_wp2_with fail
      go_roundw
      case rel=>exact ⟨k+1,by omega,by go_num,g.o,I.o⟩
      case measure=>simp [intOf];omega
  . have e:k=n:=by omega
    subst e;have g:=Hm d;have H:Hid (JF bs k p=.ok ((bs.drop p).take k) (p+k)):=by show _=_;unfold JF;rw [if_pos d.le]
    have aa:¬ (k:Int)<(k:Int):=by omega
    have Z:=d.le;clear d D hk
    go_upto_region 6 with fail
    refine Rp.pg_list (N:=27) (gs:=[Rp.is (.pointer (some ⟨q,0,none⟩)),Rp.is (.pointer (some ⟨q,0,none⟩)),Rp.is (.pointer (some ⟨q,0,none⟩)),Rp.is (.slice ba bc.fs.length bc.cap),Rp.is (.int .i64 p),Rp.is (.pointer (some ⟨q,0,none⟩)),Rp.is (.pointer (some ⟨q,0,none⟩)),Rp.is (.pointer (some ⟨q,1,none⟩)),Rp.is (.int .i64 ((p+k:Nat):Int)),Rp.is (.slice (if bc.cap=p then ba else Option.map (λx=>x.add p) ba) (p+k-p) (bc.cap-p)),λW v=>W.ownsRow wr.heap.size 5 1 v k (U ((bs.drop p).take k)),λW v=>W.ownsRow wr.heap.size 5 1 v k (U ((bs.drop p).take k))]) (by kernel_rfl) (by kernel_rfl) rfl ?_ ?_ ?_
    . exact .cons (Rp.QC _) (.cons (Rp.QC _) (.cons (Rp.QC _) (.cons (Rp.QC _) (.cons (Rp.QC _) (.cons (Rp.QC _) (.cons (Rp.QC _) (.cons (Rp.QC _) (.cons (Rp.QC _) (.cons (Rp.QC _) (.cons (λW W' v h hb=>Qc.Ok.blocks (r:=⟨5,1,k,v,U ((bs.drop p).take k)⟩) h (λj hj=>hb.block j (World.ownsRow.lt h j hj).2)) (.cons (λW W' v h hb=>Qc.Ok.blocks (r:=⟨5,1,k,v,U ((bs.drop p).take k)⟩) h (λj hj=>hb.block j (World.ownsRow.lt h j hj).2)) (.nil))))))))))))
    . refine Rp.Jz.cons (λa W K Q f hK=>?_) ?_
      . have e0:a.tmps[0]?.getD undef=.pointer (some ⟨q,0,none⟩):=(Rp.Xu f 0 (by kernel_rfl)).trans rfl
        refine Rp.QD (.pointer (some ⟨q,0,none⟩)) (Rp.Qe rfl) bF ?_ rfl hK
        clear f hK
        go_simp
        try rfl
      refine Rp.Jz.cons (λa W K Q f hK=>?_) ?_
      . have aw:a.tmps[16]?.getD undef=.pointer (some ⟨q,0,none⟩):=Rp.Q0 f 2 0 16 (by kernel_rfl)
        refine Rp.QD (.pointer (some ⟨q,0,none⟩)) (Rp.Qe rfl) bF ?_ rfl hK
        clear f hK
        go_simp
        try rfl
      refine Rp.Jz.cons (λa W K Q f hK=>?_) ?_
      . have av:a.tmps[17]?.getD undef=.pointer (some ⟨q,0,none⟩):=Rp.Q0 f 2 1 17 (by kernel_rfl)
        refine Rp.QD (.pointer (some ⟨q,0,none⟩)) (Rp.Qe rfl) bF ?_ rfl hK
        clear f hK
        go_simp
        try rfl
      refine Rp.Jz.cons (λa W K Q f hK=>?_) ?_
      . have au:a.tmps[18]?.getD undef=.pointer (some ⟨q,0,none⟩):=Rp.Q0 f 2 2 18 (by kernel_rfl);have d:=g.o.keep (show Below wr.heap.size wr W from f.kp);have c:=d.c0
        refine Rp.QD (.slice ba bc.fs.length bc.cap) (Rp.Qe rfl) bF ?_ rfl hK
        clear f hK
        go_simp
        try rfl
      refine Rp.Jz.cons (λa W K Q f hK=>?_) ?_
      . have e5:a.tmps[5]?.getD undef=.int .i64 p:=(Rp.Xu f 5 (by kernel_rfl)).trans rfl
        refine Rp.QD (.int .i64 p) (Rp.Qe rfl) bF ?_ rfl hK
        clear f hK
        go_simp
        try rfl
      refine Rp.Jz.cons (λa W K Q f hK=>?_) ?_
      . have e0:a.tmps[0]?.getD undef=.pointer (some ⟨q,0,none⟩):=(Rp.Xu f 0 (by kernel_rfl)).trans rfl
        refine Rp.QD (.pointer (some ⟨q,0,none⟩)) (Rp.Qe rfl) bF ?_ rfl hK
        clear f hK
        go_simp
        try rfl
      refine Rp.Jz.cons (λa W K Q f hK=>?_) ?_
      . have ap:a.tmps[21]?.getD undef=.pointer (some ⟨q,0,none⟩):=Rp.Q0 f 2 5 21 (by kernel_rfl)
        refine Rp.QD (.pointer (some ⟨q,0,none⟩)) (Rp.Qe rfl) bF ?_ rfl hK
        clear f hK
        go_simp
        try rfl
      refine Rp.Jz.cons (λa W K Q f hK=>?_) ?_
      . have ao:a.tmps[22]?.getD undef=.pointer (some ⟨q,0,none⟩):=Rp.Q0 f 2 6 22 (by kernel_rfl)
        refine Rp.QD (.pointer (some ⟨q,1,none⟩)) (Rp.Qe rfl) bF ?_ rfl hK
        clear f hK
        go_simp
        try rfl
      refine Rp.Jz.cons (λa W K Q f hK=>?_) ?_
      . have ak:a.tmps[23]?.getD undef=.pointer (some ⟨q,1,none⟩):=Rp.Q0 f 2 7 23 (by kernel_rfl);have d:=g.o.keep (show Below wr.heap.size wr W from f.kp);have c:=d.c1
        refine Rp.QD (.int .i64 ((p+k:Nat):Int)) (Rp.Qe rfl) bF ?_ rfl hK
        clear f hK
        go_simp
        try rfl
      refine Rp.Jz.cons (λa W K Q f hK=>?_) ?_
      . have ar:a.tmps[19]?.getD undef=.slice ba bc.fs.length bc.cap:=Rp.Q0 f 2 3 19 (by kernel_rfl);have aq:a.tmps[20]?.getD undef=.int .i64 p:=Rp.Q0 f 2 4 20 (by kernel_rfl);have aj:a.tmps[24]?.getD undef=.int .i64 ((p+k:Nat):Int):=Rp.Q0 f 2 8 24 (by kernel_rfl);have d:=g.o.keep (show Below wr.heap.size wr W from f.kp);have ah:(0:Int)<=(p:Int)+(k:Int):=by omega
        have ag:(p:Int)+(k:Int)<=(bc.cap:Int):=by have:=d.cap;omega
        have af:(p:Int)<=(p:Int)+(k:Int):=by omega
        have ae:((p:Int)+(k:Int)).toNat=p+k:=by omega
        refine Rp.QD (.slice (if bc.cap=p then ba else Option.map (λx=>x.add p) ba) (p+k-p) (bc.cap-p)) (Rp.Qe rfl) bF ?_ rfl hK
        clear f hK
        go_simp
        try rfl
      refine Rp.Jz.cons (λa W K Q f hK=>?_) ?_
      . have ai:a.tmps[25]?.getD undef=.slice (if bc.cap=p then ba else Option.map (λx=>x.add p) ba) (p+k-p) (bc.cap-p):=Rp.Q0 f 2 9 25 (by kernel_rfl);have d:=g.o.keep (show Below wr.heap.size wr W from f.kp);have Y:=d.wl;have l:=has_sub (cap:=bc.cap) (p:=p) (k:=k) d.hasF d.capF (by omega);rw [<- win_sub d (by omega)] at l;have E:((bs.drop p).take k).length=p+k-p:=by simp;omega
        have A:=clone_c _ (bc.cap-p) _ W (by omega) l.1 l.2 (by have:=d.cap;omega);rw [E] at A;replace A:=A.mono (λe B ⟨v,h1,h2,h3⟩=>(⟨v,h1,(by have M:=h2.mono (show wr.heap.size<=W.heap.size from f.kp.size);rw [show p+k-p=k by omega] at M;exact M),h3⟩:∃ v,e=Ending.returned v/\B.ownsRow wr.heap.size 5 1 v k (U ((bs.drop p).take k))/\Below W.heap.size W B))
        refine Rp.st_call (Rp.Qe rfl) ?_ (A.mono (by rintro e B ⟨v,rfl,o,b⟩;exact ⟨_,rfl,b,o⟩)) hK
        clear f hK
        go_simp
        try rfl
      refine Rp.Jz.cons (λa W K Q f hK=>?_) ?_
      . have G:=Rp.Q0 f 2 10 26 (by kernel_rfl)
        refine Rp.QD (a.tmps[26]?.getD undef) (Rp.Qe rfl) bF ?_ (G) hK
        clear f hK
        go_simp
        try rfl
      exact Rp.Jz.nil
    . intro a V F
      have X:Below _ _ V:=F.kp;have df:a.defers=_:=F.df;have s:=Rp.XN F 11 4 (by kernel_rfl);rw [Rp.QW] at s;obtain ⟨y,J⟩:∃ v,a.tmps[4]?.getD undef=v:=⟨_,rfl⟩;rw [J] at s;replace s:V.ownsRow wr.heap.size 5 1 y k (U ((bs.drop p).take k)):=s;have E4:=Hm s;have O:=Hm X;clear s;clear F
      go_wp2_with fail
      exact bodyPost_ret (v:=y) (by simp [results,Tryz.results229,go_sem,J]) df (by
       refine ⟨Qa u.o (Qi O.o),?_⟩
       rw [H.o]
       refine ⟨y,rfl,Own.one (World.ownsRow.mono (show V.ownsRow wr.heap.size 5 1 y ((bs.drop p).take k).length _ from ?_) u.o.size),g.o.keep O.o⟩
       rw [show ((bs.drop p).take k).length=k by simp;omega]
       exact E4.o)
theorem GX {W:World}{a:Option Addr}{xs:List Int}{c:Nat}(h:By.Has W a xs):(convert 22 9 (.slice a xs.length c)).run Tryz.prog W=.ok (.string (strOfNums xs)) W:=by
 by_cases d:xs=[]
 . subst d
   cases a with
   |none=>exact run_convert_bytes_nil W 22 5 Tryz.underlying22 Tryz.underlying5 _ _ 9 Tryz.underlying9
   |some p=>exact run_convert_bytes_back W 22 9 5 p c [] Tryz.underlying22 Tryz.underlying5 Tryz.underlying9 (λj hj=>by simp at hj)
 . rcases h with h|⟨b,o,rfl,f⟩
   . exact absurd h d
   . exact run_convert_bytes_arg W 22 5 Tryz.underlying22 Tryz.underlying5 b o _ c xs rfl (λi hi=>f i hi) 9 Tryz.underlying9
theorem allB_sub {bs}(h:Qm bs)(p k:Nat):Qm ((bs.drop p).take k):=λi=>by
 by_cases a:i<k
 . have:((bs.drop p).take k).getD i 0=bs.getD (p+i) 0:=by simp [List.getD,a]
   rw [this];exact h (p+i)
 . have:((bs.drop p).take k).getD i 0=0:=by simp [List.getD,List.getElem?_take,a]
   rw [this];omega
theorem GH {bs}{E:Int}(a:Qm bs){p p1:Nat}{v:Int}(h:Jl bs E p=.ok v p1):0<=v/\v<=4294967295:=by
 unfold Jl QK at h
 rcases hM:Qy false 32 bs p with ⟨er,at_⟩|⟨x,b⟩
 . rw [hM] at h;cases h
 . rw [hM] at h
   simp only [Rs.bind] at h
   split at h
   · cases h
   . cases h;exact Jq a hM
theorem utf_sub {W q ba bc bs r}(h:Rd W q ba bc bs r)(j:Qm bs)(hl:bs.length<=1099511627776){p k:Nat}(d:p+k<=bs.length)(h0:0<k) :
    Calls Tryz.prog 208 #[.slice (if bc.cap=p then ba else Option.map (λx=>x.add p) ba) k (bc.cap-p)] W λe w'=>e=.returned (.int .i64 (uf 0 0 0 0 ((bs.drop p).take k)))/\W=w':=by
 have l:=h.wl;have c:=(has_sub (cap:=bc.cap) (p:=p) (k:=k) h.hasF h.capF (by omega)).1;rw [<- win_sub h d] at c;have a:((bs.drop p).take k).length=k:=by simp;omega
 rcases c with f|⟨b,o,e,g⟩
 . rw [f] at a;simp at a;omega
 . rw [e]
   have:=implUtf8_row b o (bc.cap-p) ((bs.drop p).take k) W (by omega) g (allB_sub j p k)
   rwa [a] at this
theorem name_c (q ba bc bs p w)(h:Rd w q ba bc bs p)(hA:Qm bs)(hl:bs.length<=1099511627776)(hE:bc.E<=9223372036854775807) :
    Calls Tryz.prog 228 #[.pointer (some ⟨q,0,none⟩)] w (RdP (Xa bs bc.E p) (λv=>.string v) w q ba bc bs):=by
 have K:=Hm (size_c q ba bc bs p w h hA hl hE);have ag:=λv p1=>GH (p:=p) (p1:=p1) (v:=v) (E:=bc.E) hA;have HA:=Hm hA;clear h hA;unfold Xa
 go_enter Tryz.func228,Tryz.ntmps228
 go_wp2_with fail
 refine (K.o).mono ?_
 rintro e w1 ⟨hg,hm⟩
 rcases hM:Jl bs bc.E p with ⟨er,at_⟩|⟨nI,p1⟩
 . rw [hM] at hm;subst hm
   refine ⟨rfl,hg,?_⟩
   simp only [hM,Rs.bind]
 have HM:=Hm hM;rw [hM] at hm;obtain ⟨rfl,g⟩:=hm;obtain ⟨n0,n1⟩:=ag nI p1 hM;obtain ⟨n,rfl⟩:=Int.eq_ofNat_of_zero_le n0;have X:=Hm (X6 q ba bc bs p1 0 n w1 g);have HR:=Hm g;have Y:=Hm hg;clear hM g hg K ag n0
 go_wp2_with fail
 refine (X.o).mono ?_
 rintro e w2 ⟨rfl,hb⟩;have ac:=Hm (HR.o.keep hb);have ak:=Hm (Qa Y.o (Qi hb));have c1:=ac.o.c1;clear hb X HR Y
 go_wp2_with fail
 go_quiet (fail)
 go_wp2_with fail
 go_loopw [5,20] (λvw vi wr=>∃ (k d:Nat),k<=n/\vi=.int .i64 (k:Int)/\vw=.int .i64 (d:Int)/\p1<=d/\d<=p1+k/\Jn bs n p1 p1=Jn bs (n-k) d (p1+k)/\Rd wr q ba bc bs (p1+k)/\w.grownBy wr (some q)) (λ_ vi _=>n-(intOf vi).toNat)
 case atStart=>exact ⟨0,p1,Nat.zero_le _,rfl,rfl,lR,lR,rfl,ac.o.drewN _,Q2 ak.o _⟩
 case round =>
  obtain ⟨k,d,hk,rfl,rfl,bk,ax,m,g,hg⟩:=hrel;have Y:=Hm hg;clear hg c1 ac ak
  by_cases a0:k<n
  . have bo:(k:Int)<(n:Int):=by omega
    have Z:n-k=(n-(k+1))+1:=by omega
    rw [Z] at m
    simp only [Jn] at m
    by_cases R:bs.length<=p1+k
    . have X:=Hm (XP q ba bc bs (p1+k) wr g R);have J:Hid (Jn bs n p1 p1=.bad 2 bs.length):=by show _=_;rw [m];unfold Qx;rw [if_pos R];rfl
      clear g m Z
      go_wp2_with fail
      refine (X.o).mono ?_
      rintro e M ⟨rfl,S⟩
      refine ⟨rfl,Qa Y.o S,?_⟩
      simp only [HM.o,Rs.bind,Int.toNat_natCast,J.o]
    have X:=Hm (GG q ba bc bs (p1+k) wr g (by omega) hl);obtain ⟨b,l⟩:∃ b,b=p1+k+1:=⟨_,rfl⟩;obtain ⟨t,ab⟩:∃ t,uf 0 0 0 0 ((bs.drop d).take (b-d))=t:=⟨_,rfl⟩
    have L:Hid (Jn bs n p1 p1=if t=-1 then Jn bs (n-(k+1)) b b else if t=((b:Int)-d) then Jn bs (n-(k+1)) d b else .bad 9 b):=by
     show _=_
     rw [m];unfold Qx;rw [if_neg R]
     simp only [Rs.bind]
     rw [<- l,ab]
    have a4:b<=bs.length:=by omega
    have HP:=Hm l;rw [<- l] at X;clear g m Z
    go_wp2_with fail
    refine (X.o).mono ?_
    rintro e M ⟨rfl,aa,S⟩;have j:=Hm aa;have a7:=Hm (Qa Y.o S)
    have KU:Hid (∀ W,Below M.heap.size M W->Calls Tryz.prog 208 #[.slice (if bc.cap=d then ba else Option.map (λx=>x.add d) ba) (b-d) (bc.cap-d)] W λe w'=>e=.returned (.int .i64 t)/\W=w'):=λW hb=>by
     have:=utf_sub (aa.keep hb) HA.o hl (p:=d) (k:=b-d) (by omega) (by omega)
     rwa [ab] at this
    have O:d<b:=by omega
    clear aa S X Y ab l R
    go_upto_region 7 with fail
    refine Rp.pg_list (N:=71) (gs:=[Rp.is (.pointer (some ⟨q,0,none⟩)),Rp.is (.pointer (some ⟨q,0,none⟩)),Rp.is (.pointer (some ⟨q,0,none⟩)),Rp.is (.slice ba bc.fs.length bc.cap),Rp.is (.int .i64 d),Rp.is (.pointer (some ⟨q,0,none⟩)),Rp.is (.pointer (some ⟨q,0,none⟩)),Rp.is (.pointer (some ⟨q,1,none⟩)),Rp.is (.int .i64 b),Rp.is (.slice (if bc.cap=d then ba else Option.map (λx=>x.add d) ba) (b-d) (bc.cap-d)),Rp.is (.int .i64 t)]) (by kernel_rfl) (by kernel_rfl) rfl ?_ ?_ ?_
    . exact .cons (Rp.QC _) (.cons (Rp.QC _) (.cons (Rp.QC _) (.cons (Rp.QC _) (.cons (Rp.QC _) (.cons (Rp.QC _) (.cons (Rp.QC _) (.cons (Rp.QC _) (.cons (Rp.QC _) (.cons (Rp.QC _) (.cons (Rp.QC _) (.nil)))))))))))
    . refine Rp.Jz.cons (λa W K Q f hK=>?_) ?_
      . have e0:a.tmps[0]?.getD undef=.pointer (some ⟨q,0,none⟩):=(Rp.Xu f 0 (by kernel_rfl)).trans rfl
        refine Rp.QD (.pointer (some ⟨q,0,none⟩)) (Rp.Qe rfl) bF ?_ rfl hK
        clear f hK
        go_simp
        try rfl
      refine Rp.Jz.cons (λa W K Q f hK=>?_) ?_
      . have I:a.tmps[24]?.getD undef=.pointer (some ⟨q,0,none⟩):=Rp.Q0 f 2 0 24 (by kernel_rfl)
        refine Rp.QD (.pointer (some ⟨q,0,none⟩)) (Rp.Qe rfl) bF ?_ rfl hK
        clear f hK
        go_simp
        try rfl
      refine Rp.Jz.cons (λa W K Q f hK=>?_) ?_
      . have H:a.tmps[25]?.getD undef=.pointer (some ⟨q,0,none⟩):=Rp.Q0 f 2 1 25 (by kernel_rfl)
        refine Rp.QD (.pointer (some ⟨q,0,none⟩)) (Rp.Qe rfl) bF ?_ rfl hK
        clear f hK
        go_simp
        try rfl
      refine Rp.Jz.cons (λa W K Q f hK=>?_) ?_
      . have G:a.tmps[26]?.getD undef=.pointer (some ⟨q,0,none⟩):=Rp.Q0 f 2 2 26 (by kernel_rfl);have g:=j.o.keep (show Below M.heap.size M W from f.kp);have c:=g.c0
        refine Rp.QD (.slice ba bc.fs.length bc.cap) (Rp.Qe rfl) bF ?_ rfl hK
        clear f hK
        go_simp
        try rfl
      refine Rp.Jz.cons (λa W K Q f hK=>?_) ?_
      . have e5:a.tmps[5]?.getD undef=.int .i64 d:=(Rp.Xu f 5 (by kernel_rfl)).trans rfl
        refine Rp.QD (.int .i64 d) (Rp.Qe rfl) bF ?_ rfl hK
        clear f hK
        go_simp
        try rfl
      refine Rp.Jz.cons (λa W K Q f hK=>?_) ?_
      . have e0:a.tmps[0]?.getD undef=.pointer (some ⟨q,0,none⟩):=(Rp.Xu f 0 (by kernel_rfl)).trans rfl
        refine Rp.QD (.pointer (some ⟨q,0,none⟩)) (Rp.Qe rfl) bF ?_ rfl hK
        clear f hK
        go_simp
        try rfl
      refine Rp.Jz.cons (λa W K Q f hK=>?_) ?_
      . have B:a.tmps[29]?.getD undef=.pointer (some ⟨q,0,none⟩):=Rp.Q0 f 2 5 29 (by kernel_rfl)
        refine Rp.QD (.pointer (some ⟨q,0,none⟩)) (Rp.Qe rfl) bF ?_ rfl hK
        clear f hK
        go_simp
        try rfl
      refine Rp.Jz.cons (λa W K Q f hK=>?_) ?_
      . have A:a.tmps[30]?.getD undef=.pointer (some ⟨q,0,none⟩):=Rp.Q0 f 2 6 30 (by kernel_rfl)
        refine Rp.QD (.pointer (some ⟨q,1,none⟩)) (Rp.Qe rfl) bF ?_ rfl hK
        clear f hK
        go_simp
        try rfl
      refine Rp.Jz.cons (λa W K Q f hK=>?_) ?_
      . have z:a.tmps[31]?.getD undef=.pointer (some ⟨q,1,none⟩):=Rp.Q0 f 2 7 31 (by kernel_rfl);have g:=j.o.keep (show Below M.heap.size M W from f.kp);have c:=g.c1
        refine Rp.QD (.int .i64 b) (Rp.Qe rfl) bF ?_ rfl hK
        clear f hK
        go_simp
        try rfl
      refine Rp.Jz.cons (λa W K Q f hK=>?_) ?_
      . have D:a.tmps[27]?.getD undef=.slice ba bc.fs.length bc.cap:=Rp.Q0 f 2 3 27 (by kernel_rfl);have C:a.tmps[28]?.getD undef=.int .i64 d:=Rp.Q0 f 2 4 28 (by kernel_rfl);have y:a.tmps[32]?.getD undef=.int .i64 b:=Rp.Q0 f 2 8 32 (by kernel_rfl);have g:=j.o.keep (show Below M.heap.size M W from f.kp);have a3:(b:Int)<=(bc.cap:Int):=by have:=g.cap;have:=g.le;omega
        have a2:(d:Int)<=(b:Int):=by omega
        refine Rp.QD (.slice (if bc.cap=d then ba else Option.map (λx=>x.add d) ba) (b-d) (bc.cap-d)) (Rp.Qe rfl) bF ?_ rfl hK
        clear f hK
        go_simp
        try rfl
      refine Rp.Jz.cons (λa W K Q f hK=>?_) ?_
      . have u:a.tmps[33]?.getD undef=.slice (if bc.cap=d then ba else Option.map (λx=>x.add d) ba) (b-d) (bc.cap-d):=Rp.Q0 f 2 9 33 (by kernel_rfl)
        refine Rp.st_call (Rp.Qe rfl) ?_ ((KU.o W f.kp).mono (by rintro e w' ⟨rfl,rfl⟩;exact ⟨_,rfl,bF,rfl⟩)) hK
        clear f hK
        go_simp
        try rfl
      exact Rp.Jz.nil
    . intro a V F
      have ea:=Rp.fin_act F [24,25,26,27,28,29,30,31,32,33,34] (by kernel_rfl) rfl;have kp:Below _ _ V:=F.kp;have I:=Rp.XN F 0 24 (by kernel_rfl);replace I:a.eval (.tmp 24)=.pointer (some ⟨q,0,none⟩):=I;have H:=Rp.XN F 1 25 (by kernel_rfl);replace H:a.eval (.tmp 25)=.pointer (some ⟨q,0,none⟩):=H;have G:=Rp.XN F 2 26 (by kernel_rfl);replace G:a.eval (.tmp 26)=.pointer (some ⟨q,0,none⟩):=G;have D:=Rp.XN F 3 27 (by kernel_rfl);replace D:a.eval (.tmp 27)=.slice ba bc.fs.length bc.cap:=D;have C:=Rp.XN F 4 28 (by kernel_rfl);replace C:a.eval (.tmp 28)=.int .i64 d:=C;have B:=Rp.XN F 5 29 (by kernel_rfl);replace B:a.eval (.tmp 29)=.pointer (some ⟨q,0,none⟩):=B;have A:=Rp.XN F 6 30 (by kernel_rfl);replace A:a.eval (.tmp 30)=.pointer (some ⟨q,0,none⟩):=A;have z:=Rp.XN F 7 31 (by kernel_rfl);replace z:a.eval (.tmp 31)=.pointer (some ⟨q,1,none⟩):=z;have y:=Rp.XN F 8 32 (by kernel_rfl);replace y:a.eval (.tmp 32)=.int .i64 b:=y;have u:=Rp.XN F 9 33 (by kernel_rfl);replace u:a.eval (.tmp 33)=.slice (if bc.cap=d then ba else Option.map (λx=>x.add d) ba) (b-d) (bc.cap-d):=u;have U:=Rp.XN F 10 34 (by kernel_rfl);replace U:a.eval (.tmp 34)=.int .i64 t:=U
      simp only [List.foldl_cons,List.foldl_nil,I,H,G,D,C,B,A,z,y,u,U] at ea
      clear F I H G D C B A z y u U;subst ea;have HV:=Hm (j.o.keep kp);have ad:=Hm (Qa a7.o (Qi kp));have d1:=HV.o.c1;clear kp
      by_cases r:t=-1
      . have J:Hid (Jn bs n p1 p1=Jn bs (n-(k+1)) b b):=by show _=_;rw [L.o,if_pos r]
        subst r;clear L KU
        go_wp2_with fail
        go_roundw
        case rel=>exact ⟨k+1,b,by omega,by go_num,rfl,by omega,by have:=HP.o;omega,by have:=HP.o;rw [J.o,show p1+(k+1)=b by omega],by have:=HP.o;rw [show p1+(k+1)=b by omega];exact HV.o,ad.o⟩
        case measure=>simp [intOf];omega
      have bm:(t==(-1:Int))=false:=by simpa using r
      have bj:IntKind.i64.wrap ((b:Int)-(d:Int))=(b:Int)-(d:Int):=by rw [IntKind.wrap_i64];omega
      by_cases s:t=(b:Int)-(d:Int)
      . have J:Hid (Jn bs n p1 p1=Jn bs (n-(k+1)) d b):=by show _=_;rw [L.o,if_neg r,if_pos s]
        have az:(t==(b:Int)-(d:Int))=true:=by simpa using s
        clear L KU r s
        go_wp2_with fail
        go_roundw
        case rel=>exact ⟨k+1,d,by omega,by go_num,rfl,by omega,by omega,by have:=HP.o;rw [J.o,show p1+(k+1)=b by omega],by have:=HP.o;rw [show p1+(k+1)=b by omega];exact HV.o,ad.o⟩
        case measure=>simp [intOf];omega
      . have J:Hid (Jn bs n p1 p1=.bad 9 b):=by show _=_;rw [L.o,if_neg r,if_neg s]
        have az:(t==(b:Int)-(d:Int))=false:=by simpa using s
        have KF:=Hm (JE q 9 b V HV.o.c1);clear L KU r s
        go_wp2_with fail
        all_goals
         refine (KF.o).mono ?_
         rintro e w4 ⟨rfl,rfl⟩
         refine ⟨rfl,ad.o,?_⟩
         simp only [HM.o,Rs.bind,Int.toNat_natCast,J.o]
         rfl
  . have e:k=n:=by omega
    subst e;have bn:¬ (k:Int)<(k:Int):=by omega
    obtain ⟨b,l⟩:∃ b,b=p1+k:=⟨_,rfl⟩;have ai:Jn bs k p1 p1=if d<b then .bad 9 b else .ok () b:=by rw [m,Nat.sub_self,l];rfl
    rw [<- l] at g ax;have j:=Hm g;have L:=Hm ai;have e1:=g.c1;have a4:=g.le;clear g m ai a0 hk l
    by_cases O:d<b
    . have aw:(d:Int)<(b:Int):=by omega
      have KF:=Hm (λn=>JE q 9 b (wr.drewN n) (j.o.drewN n).c1);have a6:=Hm (JE q 9 b wr j.o.c1);have J:Hid (Jn bs k p1 p1=.bad 9 b):=by show _=_;rw [L.o,if_pos O]
      clear L
      go_wp2_with fail
      refine (a6.o).mono ?_
      rintro e M ⟨rfl,rfl⟩
      refine ⟨rfl,Y.o,?_⟩
      simp only [HM.o,Rs.bind,Int.toNat_natCast,J.o]
      rfl
    have aw:¬ (d:Int)<(b:Int):=by omega
    have J:Hid (Jn bs k p1 p1=.ok () b):=by show _=_;rw [L.o,if_neg O]
    clear L O
    go_upto_region 15 with fail
    refine Rp.pg_list (N:=71) (gs:=[Rp.is (.pointer (some ⟨q,0,none⟩)),Rp.is (.pointer (some ⟨q,0,none⟩)),Rp.is (.pointer (some ⟨q,0,none⟩)),Rp.is (.slice ba bc.fs.length bc.cap),Rp.is (.int .i64 p1),Rp.is (.pointer (some ⟨q,0,none⟩)),Rp.is (.pointer (some ⟨q,0,none⟩)),Rp.is (.pointer (some ⟨q,1,none⟩)),Rp.is (.int .i64 b),Rp.is (.slice (if bc.cap=p1 then ba else Option.map (λx=>x.add p1) ba) (b-p1) (bc.cap-p1)),Rp.is (.string (strOfNums ((bs.drop p1).take (b-p1)))),Rp.is (.string (strOfNums ((bs.drop p1).take (b-p1))))]) (by kernel_rfl) (by kernel_rfl) rfl ?_ ?_ ?_
    . exact .cons (Rp.QC _) (.cons (Rp.QC _) (.cons (Rp.QC _) (.cons (Rp.QC _) (.cons (Rp.QC _) (.cons (Rp.QC _) (.cons (Rp.QC _) (.cons (Rp.QC _) (.cons (Rp.QC _) (.cons (Rp.QC _) (.cons (Rp.QC _) (.cons (Rp.QC _) (.nil))))))))))))
    . refine Rp.Jz.cons (λa W K Q f hK=>?_) ?_
      . have e0:a.tmps[0]?.getD undef=.pointer (some ⟨q,0,none⟩):=(Rp.Xu f 0 (by kernel_rfl)).trans rfl
        refine Rp.QD (.pointer (some ⟨q,0,none⟩)) (Rp.Qe rfl) bF ?_ rfl hK
        clear f hK
        go_simp
        try rfl
      refine Rp.Jz.cons (λa W K Q f hK=>?_) ?_
      . have b5:a.tmps[60]?.getD undef=.pointer (some ⟨q,0,none⟩):=Rp.Q0 f 2 0 60 (by kernel_rfl)
        refine Rp.QD (.pointer (some ⟨q,0,none⟩)) (Rp.Qe rfl) bF ?_ rfl hK
        clear f hK
        go_simp
        try rfl
      refine Rp.Jz.cons (λa W K Q f hK=>?_) ?_
      . have b4:a.tmps[61]?.getD undef=.pointer (some ⟨q,0,none⟩):=Rp.Q0 f 2 1 61 (by kernel_rfl)
        refine Rp.QD (.pointer (some ⟨q,0,none⟩)) (Rp.Qe rfl) bF ?_ rfl hK
        clear f hK
        go_simp
        try rfl
      refine Rp.Jz.cons (λa W K Q f hK=>?_) ?_
      . have b3:a.tmps[62]?.getD undef=.pointer (some ⟨q,0,none⟩):=Rp.Q0 f 2 2 62 (by kernel_rfl);have g:=j.o.keep (show Below wr.heap.size wr W from f.kp);have c:=g.c0
        refine Rp.QD (.slice ba bc.fs.length bc.cap) (Rp.Qe rfl) bF ?_ rfl hK
        clear f hK
        go_simp
        try rfl
      refine Rp.Jz.cons (λa W K Q f hK=>?_) ?_
      . have e4:a.tmps[4]?.getD undef=.int .i64 p1:=(Rp.Xu f 4 (by kernel_rfl)).trans rfl
        refine Rp.QD (.int .i64 p1) (Rp.Qe rfl) bF ?_ rfl hK
        clear f hK
        go_simp
        try rfl
      refine Rp.Jz.cons (λa W K Q f hK=>?_) ?_
      . have e0:a.tmps[0]?.getD undef=.pointer (some ⟨q,0,none⟩):=(Rp.Xu f 0 (by kernel_rfl)).trans rfl
        refine Rp.QD (.pointer (some ⟨q,0,none⟩)) (Rp.Qe rfl) bF ?_ rfl hK
        clear f hK
        go_simp
        try rfl
      refine Rp.Jz.cons (λa W K Q f hK=>?_) ?_
      . have bx:a.tmps[65]?.getD undef=.pointer (some ⟨q,0,none⟩):=Rp.Q0 f 2 5 65 (by kernel_rfl)
        refine Rp.QD (.pointer (some ⟨q,0,none⟩)) (Rp.Qe rfl) bF ?_ rfl hK
        clear f hK
        go_simp
        try rfl
      refine Rp.Jz.cons (λa W K Q f hK=>?_) ?_
      . have bw:a.tmps[66]?.getD undef=.pointer (some ⟨q,0,none⟩):=Rp.Q0 f 2 6 66 (by kernel_rfl)
        refine Rp.QD (.pointer (some ⟨q,1,none⟩)) (Rp.Qe rfl) bF ?_ rfl hK
        clear f hK
        go_simp
        try rfl
      refine Rp.Jz.cons (λa W K Q f hK=>?_) ?_
      . have bv:a.tmps[67]?.getD undef=.pointer (some ⟨q,1,none⟩):=Rp.Q0 f 2 7 67 (by kernel_rfl);have g:=j.o.keep (show Below wr.heap.size wr W from f.kp);have c:=g.c1
        refine Rp.QD (.int .i64 b) (Rp.Qe rfl) bF ?_ rfl hK
        clear f hK
        go_simp
        try rfl
      refine Rp.Jz.cons (λa W K Q f hK=>?_) ?_
      . have b2:a.tmps[63]?.getD undef=.slice ba bc.fs.length bc.cap:=Rp.Q0 f 2 3 63 (by kernel_rfl);have bz:a.tmps[64]?.getD undef=.int .i64 p1:=Rp.Q0 f 2 4 64 (by kernel_rfl);have bu:a.tmps[68]?.getD undef=.int .i64 b:=Rp.Q0 f 2 8 68 (by kernel_rfl);have g:=j.o.keep (show Below wr.heap.size wr W from f.kp);have a3:(b:Int)<=(bc.cap:Int):=by have:=g.cap;have:=g.le;omega
        have a2:(p1:Int)<=(b:Int):=by omega
        refine Rp.QD (.slice (if bc.cap=p1 then ba else Option.map (λx=>x.add p1) ba) (b-p1) (bc.cap-p1)) (Rp.Qe rfl) bF ?_ rfl hK
        clear f hK
        go_simp
        try rfl
      refine Rp.Jz.cons (λa W K Q f hK=>?_) ?_
      . have bt:a.tmps[69]?.getD undef=.slice (if bc.cap=p1 then ba else Option.map (λx=>x.add p1) ba) (b-p1) (bc.cap-p1):=Rp.Q0 f 2 9 69 (by kernel_rfl);have g:=j.o.keep (show Below wr.heap.size wr W from f.kp);have av:=g.wl;have hs:=(has_sub (cap:=bc.cap) (p:=p1) (k:=b-p1) g.hasF g.capF (by omega)).1;rw [<- win_sub g (by omega)] at hs;have a1:=GX (c:=bc.cap-p1) hs;rw [show ((bs.drop p1).take (b-p1)).length=b-p1 by simp;omega] at a1;clear av hs
        refine Rp.QD (.string (strOfNums ((bs.drop p1).take (b-p1)))) (Rp.Qe rfl) bF ?_ rfl hK
        clear f hK
        go_simp
        try rfl
      refine Rp.Jz.cons (λa W K Q f hK=>?_) ?_
      . have br:a.tmps[70]?.getD undef=.string (strOfNums ((bs.drop p1).take (b-p1))):=Rp.Q0 f 2 10 70 (by kernel_rfl)
        refine Rp.QD (.string (strOfNums ((bs.drop p1).take (b-p1)))) (Rp.Qe rfl) bF ?_ rfl hK
        clear f hK
        go_simp
        try rfl
      exact Rp.Jz.nil
    . intro a V F
      have kp:Below _ _ V:=F.kp;have df:a.defers=_:=F.df;have e2:a.tmps[2]?.getD undef=.string (strOfNums ((bs.drop p1).take (b-p1))):=(Rp.QW a 2).symm.trans (Rp.XN F 11 2 (by kernel_rfl));clear F;have KV:=Hm kp;clear kp
      go_wp2_with fail
      exact bodyPost_ret (v:=.string (strOfNums ((bs.drop p1).take (b-p1)))) (by simp [results,Tryz.results228,go_sem,e2]) df (by
       refine ⟨Qa Y.o (Qi KV.o),?_⟩
       simp only [HM.o,Rs.bind,Int.toNat_natCast,J.o]
       exact ⟨by first | rfl | trivial,j.o.keep KV.o⟩)
theorem Jd (w:World)(cs:List Value)(t:TypeId):∀ j u,cs[j]?=some u->(w.alloc (.cells cs.toArray t)).cell? ((⟨w.heap.size,0,none⟩:Addr).add j)=some u:=by
 intro j u a
 have k:Bk (w.alloc (.cells cs.toArray t)) w.heap.size cs:=Bk.new;rw [Addr.add_lit,Nat.zero_add]
 exact k.2.1 j u a
def ByL (ba:Option Addr)(bc:Bf)(B:Nat):Prop:=∀ a,ba=some a->bc.fs≠[]->a.block<B
theorem Rd.byl {w q ba bc bs p}(h:Rd w q ba bc bs p):ByL ba bc w.heap.size:=λa e hx=>By.Has.lt (a:=a) (by rw [<- e];exact h.hasF) hx
theorem ent_step {w j w1 l:World}{q:Nat}{ba:Option Addr}{bc:Bf}{bs:List Int}{z e sz n:Nat}{v s:Value}{c cs:List Value}{b rs:List Qc}{o:Obj}(y:Own w.heap.size j (⟨e,sz,n,v,c⟩::b))(hg:w.grownBy j (some q))(C:q<w.heap.size)(B:ByL ba bc w.heap.size)
    (p:j.grownBy w1 (some q)) (t:Rd w1 q ba bc bs z) (A:Own j.heap.size w1 rs) (g:(w1.alloc o).grownBy l v.ownBlock) (m:l.ownsRow w.heap.size e sz s (n+1) (c++cs)) (u:s.ownBlock=v.ownBlock\/s.ownBlock=some (w1.alloc o).heap.size) :
    Own w.heap.size l (⟨e,sz,n+1,s,c++cs⟩::(b++rs))/\Rd l q ba bc bs z/\w.grownBy l (some q):=by
 have d:Below w1.heap.size w1 (w1.alloc o):=bF.alloc lR _;have r:Own w.heap.size w1 (⟨e,sz,n,v,c⟩::b):=y.grown p (λk hk hm=>by cases hk;have:=(y.lt hm).1;omega);have hB:=hg.size;have f:∀ k,v.ownBlock=some k->w.heap.size<=k:=λk hk=>(World.ownsRow.lt r.head k hk).1
 refine ⟨Own.snoc (W:=j) (W1:=w1.alloc o) y (r.keep d) (A.keep d) hB g m u,?_,Gu (Qa hg (Qa p (Qi d))) g f⟩
 refine (t.keep d).grown g (λe=>?_) (λa ea hx e=>?_)
 . have:=f q e.symm;omega
 . have D:=B a ea hx;have:=f _ e.symm;omega
theorem Gj {bs:List Int}{p a:Nat}{v:Int}(h:Qx bs p=.ok v a):p+1<=a:=by
 unfold Qx at h
 split at h
 · cases h
 . cases h;omega
theorem onlyG_next {f:Int->Bool}{bs:List Int}{p a:Nat}{v:Int}(h:Qz f bs p=.ok v a):p+1<=a:=by
 unfold Qz at h
 rcases hM:Qx bs p with ⟨er,at_⟩|⟨x,b⟩
 . rw [hM] at h;cases h
 . rw [hM] at h
   simp only [Rs.bind] at h
   split at h
   · cases h;exact Gj hM
   . cases h
theorem re_int {M:Rs Int}{w a:World}{q:Nat}{ba:Option Addr}{bc:Bf}{bs:List Int}{e:Ending}(h:RdP M (λv=>.int .i64 v) w q ba bc bs e a):ReP M RInt oneV' w q ba bc bs e a:=by
 refine ⟨h.1,?_⟩
 cases M with
 |bad er at_=>exact h.2
 |ok x p'=>exact ⟨[.int .i64 x],[],h.2.1,⟨rfl,rfl⟩,Own.nil _ _,h.2.2⟩
theorem info_entT_c:(Tryz.prog.info? 2).map (λi=>(i.zero,i.size,i.bytes))=some (some (.int .i64 0),1,8):=by kernel_rfl
theorem el1_c (q ba bc bs)(p j:Nat)(w)(h:Rd w q ba bc bs p)(n:Qm bs)(hl:bs.length<=1099511627776)(m:w.cell? ⟨j,0,none⟩=some (.pointer (some ⟨q,0,none⟩)))(f:j≠q) :
    Calls Tryz.prog 294 #[.pointer (some ⟨j,0,none⟩)] w (RdP (QK bs p) (λv=>.int .i64 v) w q ba bc bs):=by
 have K:=Hm (JR q ba bc bs p w h n hl);unfold QK;clear h n
 go_enter Tryz.func294,Tryz.ntmps294
 go_wp2_with fail
 refine (K.o).mono ?_
 rintro e s ⟨c,b⟩
 rcases hM:Qy false 32 bs p with ⟨er,at_⟩|⟨v,t⟩
 . rw [hM] at b;subst b
   refine ⟨rfl,c,?_⟩
   rw [hM]
 have y:=Hm hM;rw [hM] at b;obtain ⟨rfl,d⟩:=b;have g:=c.cell m (by simpa using f);have r:=Hm (X6 q ba bc bs t 7 v s d);have z:=Hm c;have u:=Hm d;clear c d hM K m
 go_wp2_with fail
 refine (r.o).mono ?_
 rintro e A ⟨rfl,a⟩;have k:=Hm (u.o.keep a);have l:=Hm (Qa z.o (Qi a));clear a g r
 go_wp2_with fail
 go_ret
 refine ⟨l.o,?_⟩
 rw [y.o]
 exact ⟨rfl,k.o⟩
theorem info_entE_c:(Tryz.prog.info? 2).map (λi=>(i.zero,i.size,i.bytes))=some (some (.int .i64 0),1,8):=by kernel_rfl
theorem entT_x:(∀ (q:Nat) (ba:Option Addr) (bc:Bf) (bs:List Int) (p:Nat) (n:Int) (w:World) (h:Rd w q ba bc bs p) (S:Qm bs) (hl:bs.length<=1099511627776) (g:0<=n) (y:n<=4294967295),Calls Tryz.prog 284 #[.int .i64 n,.func (.func 283) #[.pointer (some ⟨q,0,none⟩)] #[]] w (RlP (Q7 (λp_=>Qz tyB bs p_) n.toNat [] p) RInt 2 1 w q ba bc bs))/\(∀ (q:Nat) (ba:Option Addr) (bc:Bf) (bs:List Int) (p:Nat) (n:Int) (w:World) (h:Rd w q ba bc bs p) (S:Qm bs) (hl:bs.length<=1099511627776) (g:0<=n) (y:n<=4294967295) (V:Nat) (hb:w.cell? ⟨V,0,none⟩=some (.pointer (some ⟨q,0,none⟩))) (z:V≠q),Calls Tryz.prog 284 #[.int .i64 n,.func (.func 294) #[] #[.pointer (some ⟨V,0,none⟩)]] w (RlP (Q7 (λp_=>QK bs p_) n.toNat [] p) RInt 2 1 w q ba bc bs)):=by
 refine ⟨?c0,?c1⟩
 case' c0=>intro q ba bc bs p n w h S hl g y;have d:=0
 case' c1=>intro q ba bc bs p n w h S hl g y V hb z;have t1:=0
 all_goals
  first|(replace d:=d;obtain ⟨i0,hi,J,I,H⟩:=info_parts info_entT_c)|(obtain ⟨i0,hi,J,I,H⟩:=info_parts info_entE_c)
  obtain ⟨N,rfl⟩:=Int.eq_ofNat_of_zero_le g;rw [Int.toNat_natCast];have HR:=Hm h;have HA:=Hm S;have HL:=Hm h.byl;have hq:=h.lt;clear h S g
  go_enter Tryz.func284,Tryz.ntmps284
  go_wp2_with fail
  first|(replace d:=d;go_loopw [5,7] (λv i wr=>∃ (k:Nat) (a:List _) (c:List Value) (E:List Qc) (b:Nat),k<=N/\i=.int .i64 (k:Int)/\Q7 (λp_=>Qz tyB bs p_) N [] p=Q7 (λp_=>Qz tyB bs p_) (N-k) a b/\a.length<=b/\LR RInt a c E/\Own w.heap.size wr (⟨2,1,a.length,v,c⟩::E)/\Rd wr q ba bc bs b/\w.grownBy wr (some q)) (λ_ i _=>N-(intOf i).toNat))|(go_loopw [5,7] (λv i wr=>∃ (k:Nat) (a:List _) (c:List Value) (E:List Qc) (b:Nat),k<=N/\i=.int .i64 (k:Int)/\Q7 (λp_=>QK bs p_) N [] p=Q7 (λp_=>QK bs p_) (N-k) a b/\a.length<=b/\LR RInt a c E/\Own w.heap.size wr (⟨2,1,a.length,v,c⟩::E)/\Rd wr q ba bc bs b/\w.grownBy wr (some q)) (λ_ i _=>N-(intOf i).toNat))
  case atStart=>exact ⟨0,[],[],[],p,Nat.zero_le _,rfl,rfl,by simp,LR.nil _,Own.one (World.ownsRow_nil _ _ _ _),HR.o,World.grownBy.refl _ _⟩
  case round =>
   obtain ⟨k,a,c,E,b,hk,rfl,B,af,O,r,M,hg⟩:=hrel;have HG:=Hm hg;have HO:=Hm r;have aa:=Hm O;clear hg r O HR
   by_cases ay:k<N
   . have az:(k:Int)<(N:Int):=by omega
     first|(replace d:=d;have K:=Hm ((vty_c q ba bc bs b wr M HA.o hl).mono (λe G h=>re_int h)))|(have K:=Hm ((el1_c q ba bc bs b V wr M HA.o hl (HG.o.cell hb (by simpa using z)) z).mono (λe G h=>re_int h)))
     first|(replace d:=d;have A:∀ v f,Qz tyB bs b=.ok v f->b+1<=f:=λv f h=>onlyG_next h)|(have A:∀ v f,QK bs b=.ok v f->b+1<=f:=λv f h=>Xo (by omega) h)
     have L:N-k=(N-(k+1))+1:=by omega
     rw [L] at B
     simp only [Q7] at B
     have D:=Hm B;clear B L M
     go_wp2_with fail
     refine (K.o).mono ?_
     rintro e G ⟨l,F⟩
     first|(replace d:=d;rcases hX:Qz tyB bs b with ⟨er,at_⟩|⟨x,f⟩)|(rcases hX:QK bs b with ⟨er,at_⟩|⟨x,f⟩)
     . rw [hX] at F;subst F
       refine ⟨rfl,Qa HG.o l,?_⟩
       rw [D.o,hX]
       exact rfl
     have ax:=A x f hX
     first|(replace d:=d;have Z:Hid (Q7 (λp_=>Qz tyB bs p_) N [] p=Q7 (λp_=>Qz tyB bs p_) (N-(k+1)) (a++[x]) f):=by show _=_;rw [D.o,hX];rfl)|(have Z:Hid (Q7 (λp_=>QK bs p_) N [] p=Q7 (λp_=>QK bs p_) (N-(k+1)) (a++[x]) f):=by show _=_;rw [D.o,hX];rfl)
     rw [hX] at F;obtain ⟨cs,rs,he,s,t,u⟩:=F;have X:=Hm s;have Y:=Hm t;obtain ⟨rfl,rfl⟩:=s;replace he:e=.returned (.int .i64 x):=he;subst he;have ak:=u.le;have C:=Hm u;have ah:=Hm l;have ag:Hid (∀ o,(G.alloc o).ownsRow w.heap.size 2 1 _ a.length c):=λo=>World.ownsRow.alloc (HO.o.grown l (λj hj F=>by cases hj;have:=(HO.o.lt F).1;omega)).head o;have av:w.heap.size<=G.heap.size:=Nat.le_trans HG.o.size l.size;clear u l K t hX A D
     go_wp2_with (at_builtin;refine wpList_append_own_at _ rfl _ _ 25 rfl w.heap.size 2 i0 (.int .i64 0) 1 8 Tryz.underlying25 hi J I H rfl (by decide) _ _ _ rfl (ag.o _) ⟨G.heap.size,0,none⟩ 1 1 [.int .i64 x] rfl rfl (Jd _ _ _) (by simp [Value.oneCell']) (by unfold maxLen;omega) (by omega) (by simp;omega) ?_;intro v3 w3 m U ad R;have HE:=Hm (ent_step HO.o HG.o hq HL.o ah.o C.o Y.o U m R);clear m U ad R)
     go_roundw
     case rel=>exact ⟨k+1,a++[x],_,_,f,by omega,by go_num,Z.o,by simp;omega,aa.o.snoc X.o,by simpa using HE.o.1,HE.o.2.1,HE.o.2.2⟩
     case measure=>simp [intOf];omega
   . have e:k=N:=by omega
     subst e;have C:=Hm M
     first|(replace d:=d;have D:Hid (Q7 (λp_=>Qz tyB bs p_) k [] p=.ok a b):=by show _=_;rw [B,Nat.sub_self];rfl)|(have D:Hid (Q7 (λp_=>QK bs p_) k [] p=.ok a b):=by show _=_;rw [B,Nat.sub_self];rfl)
     clear M B
     go_wp2_with fail
     go_ret
     refine ⟨HG.o,?_⟩
     rw [D.o]
     exact ⟨_,_,_,rfl,aa.o,HO.o,C.o,af⟩
def entT_c:=entT_x.1
def entE_c:=entT_x.2
theorem vec_x:(∀ (q:Nat) (ba:Option Addr) (bc:Bf) (bs:List Int) (p:Nat) (w:World) (h:Rd w q ba bc bs p) (f:Qm bs) (hl:bs.length<=1099511627776),Calls Tryz.prog 282 #[.pointer (some ⟨q,0,none⟩),.func (.func 283) #[.pointer (some ⟨q,0,none⟩)] #[]] w (RlP (Jj (λp_=>Qz tyB bs p_) bs p) RInt 2 1 w q ba bc bs))/\(∀ (q:Nat) (ba:Option Addr) (bc:Bf) (bs:List Int) (p:Nat) (w:World) (h:Rd w q ba bc bs p) (f:Qm bs) (hl:bs.length<=1099511627776) (j:Nat) (A:w.cell? ⟨j,0,none⟩=some (.pointer (some ⟨q,0,none⟩))) (d:j≠q),Calls Tryz.prog 282 #[.pointer (some ⟨q,0,none⟩),.func (.func 294) #[] #[.pointer (some ⟨j,0,none⟩)]] w (RlP (Jj (λp_=>QK bs p_) bs p) RInt 2 1 w q ba bc bs)):=by
 refine ⟨?c0,?c1⟩
 case' c0=>intro q ba bc bs p w h f hl;have l:=0
 case' c1=>intro q ba bc bs p w h f hl j A d;have O:=0
 all_goals
  have K:=Hm (JR q ba bc bs p w h f hl);have g:=λv p1=>Jq (p:=p) (p1:=p1) (v:=v) f;unfold Jj;have F:=Hm f;clear h f
  go_enter Tryz.func282,Tryz.ntmps282
  go_wp2_with fail
  refine (K.o).mono ?_
  rintro e z ⟨n,m⟩
  rcases hM:Qy false 32 bs p with ⟨er,at_⟩|⟨v,p1⟩
  . rw [hM] at m;subst m
    refine ⟨rfl,n,?_⟩
    simp only [hM,Rs.bind]
  have E:=Hm hM;rw [hM] at m;obtain ⟨rfl,t⟩:=m;obtain ⟨v0,v1⟩:=g v p1 hM
  first|(replace l:=l;have y:=Hm (entT_c q ba bc bs p1 v z t F.o hl v0 v1))|(have y:=Hm (entE_c q ba bc bs p1 v z t F.o hl v0 v1 j (n.cell A (by simpa using d)) d))
  have r:=Hm n;clear t hM K n g
  go_wp2_with fail
  refine (y.o).mono ?_
  rintro e M ⟨b,a⟩
  first|(replace l:=l;rcases hX:Q7 (λp_=>Qz tyB bs p_) v.toNat [] p1 with ⟨er,at_⟩|⟨xs,I⟩)|(rcases hX:Q7 (λp_=>QK bs p_) v.toNat [] p1 with ⟨er,at_⟩|⟨xs,I⟩)
  . rw [hX] at a;subst a
    refine ⟨rfl,Qa r.o b,?_⟩
    simp only [E.o,Rs.bind,hX]
  rw [hX] at a;obtain ⟨G,c,J,rfl,D,u,C,B⟩:=a;have L:=Hm hX;have k:=Hm (And.intro (Qa r.o b) (And.intro D (And.intro (u.mono r.o.size) (And.intro C B))));obtain ⟨va,H,s⟩:=Qc.Ok.slice u.head;replace s:G=.slice va xs.length H:=s;subst s;clear hX D u C B b y r
  go_wp2_with fail
  go_ret
  refine ⟨k.o.1,?_⟩
  simp only [E.o,Rs.bind,L.o]
  exact ⟨_,c,J,by first|rfl|trivial,k.o.2.1,k.o.2.2.1,k.o.2.2.2.1,k.o.2.2.2.2⟩
def vecT_c:=vec_x.1
def vecE_c:=vec_x.2
end Go.Proofs.YtedcmcdbejjgcaaGreat
