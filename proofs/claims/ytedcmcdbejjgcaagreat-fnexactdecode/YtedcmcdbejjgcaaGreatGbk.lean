import Derived.Test.YtedcmcdbejjgcaaGreatGaa
import Derived.Test.YtedcmcdbejjgcaaGreatGbj
import Derived.Test.YtedcmcdbejjgcaaGreatGai
set_option linter.all false
set_option maxHeartbeats 400000000
set_option maxRecDepth 100000
namespace Go.Proofs.YtedcmcdbejjgcaaGreat.Ms
open Go.RowKit Go.Sort
def wE (bs1:List Int)(q:Nat)(e:Int):Int:=if e=2 then (if q<bs1.length then 6 else 2) else e
def wA (bs1:List Int)(q:Nat)(e a:Int):Int:=if e=2 then (if q<bs1.length then ((q:Int)+1) else bs1.length) else a
theorem win_bad {bc1 bc2:Bd}{bs1:List Int}{q:Nat}{e a:Int}(k:bc2.fs=bc1.fs)(l:bc2.E=(q:Int))(j:bc2.E<=bc1.E)(g:bs1=bc1.fs.take bc1.E.toNat) :
    bc2.fe e=bc1.fe (wE bs1 q e)/\bc2.fa e a=bc1.fa (wE bs1 q e) (wA bs1 q e a):=by
 have c:bs1.length=min bc1.E.toNat bc1.fs.length:=by rw [g,List.length_take]
 unfold wE wA Bd.fe Bd.fa Bd.er Bd.ea';rw [k,l]
 by_cases d:e=2
 . subst d
   simp only [if_pos]
   by_cases b:q<bs1.length
   . rw [if_pos b,if_pos b]
     simp only [show ((6:Int)=2)=False by simp,if_false]
     have:(q:Int)<(bc1.fs.length:Int):=by omega
     simp [this]
   . rw [if_neg b,if_neg b]
     simp only [if_pos]
     by_cases f:(q:Int)<(bc1.fs.length:Int)
     . have:bc1.E=(q:Int):=by omega
       rw [this];simp
     . have m:¬ bc1.E<(bc1.fs.length:Int):=by omega
       simp [f,m]
 . simp only [if_neg d]
   simp
theorem within_bad {α:Type}{rd:List Int->Int->Nat->Rs α}{bs:List Int}{E:Int}{p p1:Nat}{n e a:Int}(h:Jl bs E p=.ok n p1)(hr:rd (bs.take (p1+n.toNat)) (p1+n) p1=.bad e a)(c:0<=n):QU rd bs E p=.bad (wE bs (p1+n.toNat) e) (wA bs (p1+n.toNat) e a):=by
 unfold QU;rw [h]
 simp only [Rs.bind,hr,wE,wA]
 by_cases b:e=2
 . simp only [b,if_pos]
   split
   · rw [show ((p1+n.toNat:Nat):Int)+1=(p1:Int)+n+1 by omega]
   . rfl
 . simp only [b,if_false]
def sE (bs1:List Int)(q:Nat):Int:=if bs1.length<=q then 2 else 6
def sA (bs1:List Int)(q:Nat):Int:=if bs1.length<=q then bs1.length else (q:Int)+1
theorem within_short {α:Type}{rd:List Int->Int->Nat->Rs α}{bs:List Int}{E:Int}{p p1 a:Nat}{n:Int}{v:α}(h:Jl bs E p=.ok n p1)(hr:rd (bs.take (p1+n.toNat)) (p1+n) p1=.ok v a)(b:a<p1+n.toNat):QU rd bs E p=.bad (sE bs a) (sA bs a):=by
 unfold QU;rw [h]
 simp only [Rs.bind,hr,if_pos b,sE,sA]
 split<;>rfl
theorem within_ok {α:Type}{rd:List Int->Int->Nat->Rs α}{bs:List Int}{E:Int}{p p1 a:Nat}{n:Int}{v:α}(h:Jl bs E p=.ok n p1)(hr:rd (bs.take (p1+n.toNat)) (p1+n) p1=.ok v a)(b:¬ a<p1+n.toNat):QU rd bs E p=.ok v a:=by
 unfold QU;rw [h]
 simp only [Rs.bind,hr,if_neg b]
theorem GK {α:Type}{rd:List Int->Int->Nat->Rs α}{bs:List Int}{E:Int}{p:Nat}{e a:Int}(h:Jl bs E p=.bad e a):QU rd bs E p=.bad e a:=by
 unfold QU;rw [h];rfl
theorem short_bad {bc1 bc2:Bd}{bs1:List Int}{q:Nat}(m:bc2.fs=bc1.fs)(l:(q:Int)<bc2.E)(f:bc2.E<=bc1.E)(c:bs1=bc1.fs.take bc1.E.toNat)(d:q<=bc1.fs.length) :
    (if (bc1.fs.length:Int)<=q then (2:Int) else 6)=bc1.fe (sE bs1 q)/\(if (bc1.fs.length:Int)<=q then (bc1.fs.length:Int) else (q:Int)+1)=bc1.fa (sE bs1 q) (sA bs1 q):=by
 have b:bs1.length=min bc1.E.toNat bc1.fs.length:=by rw [c,List.length_take]
 unfold sE sA Bd.fe Bd.fa Bd.er Bd.ea'
 by_cases a:bs1.length<=q
 . have k:bc1.fs.length<=q:=by omega
   have j:¬ bc1.E<(bc1.fs.length:Int):=by omega
   rw [if_pos a,if_pos (by omega),if_pos (by omega)]
   simp [j]
   intro g
   omega
 . have k:¬ bc1.fs.length<=q:=by omega
   rw [if_neg a,if_neg (by omega),if_neg (by omega),if_neg a]
   simp
   intro g
   omega
def itM (rd:Mod->Nat->Rs Mod):Nat->Mod->Nat->Rs Mod
 |0,m,p=>.ok m p
 |n+1,m,p=>(rd m p).bind λm' p1=>itM rd n m' p1
theorem rep_it {α:Type}{rd:Nat->Rs α}(f:List α->Mod)(g:Mod->α->Mod)(h:∀ b x,f (b++[x])=g (f b) x):∀ (n:Nat) (b:List α) (p:Nat),((Q7 rd n b p).bind λl p1=>.ok (f l) p1)=itM (λm p=>(rd p).bind λx p1=>.ok (g m x) p1) n (f b) p
 |0,b,p=>rfl
 |n+1,b,p=>by
  simp only [Q7,itM]
  cases hM:rd p with
  |bad er a=>rfl
  |ok x p1 =>
   simp only [Rs.bind]
   have:=rep_it (rd:=rd) f g h n (b++[x]) p1
   rw [h] at this
   simp only [Rs.bind] at this
   exact this
def entM (k:Int)(bs:List Int)(E:Int)(m:Mod)(p:Nat):Rs Mod :=
 if k=1 then (ftM bs p).bind λx p1=>.ok { m with types:=m.types++[x] } p1
 else if k=2 then (XK bs E p).bind λx p1=>.ok { m with imps:=m.imps++[x] } p1
 else if k=3 then (QK bs p).bind λx p1=>.ok { m with funcs:=m.funcs++[x] } p1
 else if k=4 then (GC bs p).bind λx p1=>.ok { m with tabs:=m.tabs++[x] } p1
 else if k=5 then (XR bs p).bind λx p1=>.ok { m with mems:=m.mems++[x] } p1
 else if k=6 then (XH bs p).bind λx p1=>.ok { m with globs:=m.globs++[x] } p1
 else if k=7 then (expM bs E p).bind λx p1=>.ok { m with exps:=m.exps++[x] } p1
 else if k=9 then (Xk bs p).bind λx p1=>.ok { m with elems:=m.elems++[x] } p1
 else if k=10 then (Xw bs E p).bind λx p1=>.ok { m with codes:=m.codes++[x] } p1
 else (Xq bs E p).bind λx p1=>.ok { m with datas:=m.datas++[x] } p1
theorem Oa {α:Type}{rd:Nat->Rs α}{bs:List Int}{p:Nat}(f:List α->Mod)(g:Mod->α->Mod)(h:∀ acc x,f (acc++[x])=g (f acc) x){m:Mod}(h0:f []=m):((Jj rd bs p).bind λl p1=>.ok (f l) p1)=(QK bs p).bind λn p1=>itM (λm p=>(rd p).bind λx p1=>.ok (g m x) p1) n.toNat m p1:=by
 unfold Jj QK
 cases hM:Qy false 32 bs p with
 |bad er a=>rfl
 |ok n p1 =>
  show ((Q7 rd n.toNat [] p1).bind λl p1=>Rs.ok (f l) p1)=_
  rw [rep_it f g h,h0]
  rfl
structure Em (m:Mod)(last:Int):Prop where
 g6:last<6->m.globs=[]
 e9:last<9->m.elems=[]
 c10:last<10->m.codes=[]
 d11:last<11->m.datas=[]
 cf:last=10->m.codes.length=m.funcs.length
 fu:∀ x ∈ m.funcs,0<=x
theorem sec_it {k f:Int}{m:Mod}{bs:List Int}{E:Int}{p:Nat}(h1:1<=k)(j:k<=11)(q:k≠8){last:Int}(hl:last<k)(d:Em m last) :
    Jk k f m bs E p=(QK bs p).bind λn p1=>if k=10/\n≠(m.funcs.length:Int) then .bad 11 p1 else itM (entM k bs E) n.toNat m p1:=by
 have g:k=1\/k=2\/k=3\/k=4\/k=5\/k=6\/k=7\/k=9\/k=10\/k=11:=by omega
 have b:∀ {k':Int} {n:Int} {A B:Rs Mod},k'≠10->(if k'=10/\n≠(m.funcs.length:Int) then A else B)=B:=λh=>if_neg (λe=>h e.1)
 rcases g with rfl|rfl|rfl|rfl|rfl|rfl|rfl|rfl|rfl|rfl
 . simp only [b (show (1:Int)≠10 by decide)]
   exact Oa (λl=>{ m with types:=m.types++l }) (λm x=>{ m with types:=m.types++[x] }) (λacc x=>by simp) (by simp)
 . simp only [b (show (2:Int)≠10 by decide)]
   exact Oa (λl=>{ m with imps:=m.imps++l }) (λm x=>{ m with imps:=m.imps++[x] }) (λacc x=>by simp) (by simp)
 . simp only [b (show (3:Int)≠10 by decide)]
   exact Oa (λl=>{ m with funcs:=m.funcs++l }) (λm x=>{ m with funcs:=m.funcs++[x] }) (λacc x=>by simp) (by simp)
 . simp only [b (show (4:Int)≠10 by decide)]
   exact Oa (λl=>{ m with tabs:=m.tabs++l }) (λm x=>{ m with tabs:=m.tabs++[x] }) (λacc x=>by simp) (by simp)
 . simp only [b (show (5:Int)≠10 by decide)]
   exact Oa (λl=>{ m with mems:=m.mems++l }) (λm x=>{ m with mems:=m.mems++[x] }) (λacc x=>by simp) (by simp)
 . simp only [b (show (6:Int)≠10 by decide)]
   exact Oa (λl=>{ m with globs:=m.globs++l }) (λm x=>{ m with globs:=m.globs++[x] }) (λacc x=>by simp) (by simp)
 . simp only [b (show (7:Int)≠10 by decide)]
   exact Oa (λl=>{ m with exps:=m.exps++l }) (λm x=>{ m with exps:=m.exps++[x] }) (λacc x=>by simp) (by simp)
 . simp only [b (show (9:Int)≠10 by decide)]
   exact Oa (λl=>{ m with elems:=l }) (λm x=>{ m with elems:=m.elems++[x] }) (λacc x=>by simp) (by rw [<- d.e9 hl])
 . show ((QK bs p).bind λn p1=>if n=(m.funcs.length:Int) then (Q7 (Xw bs E) n.toNat [] p1).bind λl p2=>.ok { m with codes:=l } p2 else .bad 11 p1)=_
   cases hM:QK bs p with
   |bad er a=>rfl
   |ok n p1 =>
    simp only [Rs.bind]
    by_cases c:n=(m.funcs.length:Int)
    . rw [if_pos c,if_neg (λe=>e.2 c)]
      have:=rep_it (rd:=Xw bs E) (λl=>{ m with codes:=l }) (λm x=>{ m with codes:=m.codes++[x] }) (λacc x=>by simp) n.toNat [] p1
      simp only [Rs.bind] at this
      have o:({ m with codes:=[] }:Mod)=m:=by have:=d.c10 hl;cases m;simp_all
      rw [this,o]
      rfl
    . rw [if_neg c,if_pos ⟨trivial,c⟩]
 . simp only [b (show (11:Int)≠10 by decide)]
   exact Oa (λl=>{ m with datas:=l }) (λm x=>{ m with datas:=m.datas++[x] }) (λacc x=>by simp) (by rw [<- d.d11 hl])
theorem EnD.fin {α:Type}{D:Nat}{M:Rs α}{b:α->List Value->List Qc->Prop}{l:List α}{ix T sz:Nat}{v:Value}{c:List Value}{k d:List Qc}{B w0 s ba}{bc:Bd}{bs p er at_ K bx w}(g:Lk M p er at_)(f:Sd B w0 s ba { bc with rest:=bc.rest.set ix v } bs p er at_ K bx (⟨T,sz,l.length+1,v,c⟩::(d++k)) w)(hr:∀ x q,M=.ok x q->LR b (l++[x]) c k)(hK:er=0->K<=4*p-D):EnD D M b l ix T sz B w0 s ba bc bs bx d (.returned (.tuple #[])) w:=by
 refine ⟨rfl,?_⟩
 cases M with
 |bad e a=>obtain ⟨j,rfl,rfl⟩:=g;exact (FaD.of f j).rest
 |ok x q =>
  obtain ⟨rfl,rfl,rfl⟩:=g
  refine ⟨bc.ea,bc.ec,v,c,k,hr x p rfl,?_⟩
  rw [List.length_append,List.length_singleton]
  exact f.more hK
theorem GR (k:Int)(bs:List Int)(p:Nat):Gs k bs p=(Qz (JP k k) bs p).bind λ_ p1=>.ok () p1:=by
 unfold Gs Qz
 cases Qx bs p with
 |bad e a=>rfl
 |ok x p1 =>
  simp only [Rs.bind]
  by_cases h:x=k
  . subst h;rw [if_pos rfl,if_pos (by simp [JP])]
  . rw [if_neg h,if_neg (by simp [JP];omega)]
theorem ft_eq {bs}(c:Qm bs)(p:Nat):ftM bs p=(Qz (JP 96 96) bs p).bind λ_ p1=>(typM 4294967295 bs p1).bind λps p2=>(typM 1 bs p2).bind λrs p3=>.ok ⟨ps,rs⟩ p3:=by
 unfold ftM;rw [GR]
 cases Qz (JP 96 96) bs p with
 |bad e a=>rfl
 |ok x p1 =>
  simp only [Rs.bind,Jj,typM,QK]
  cases hn:Qy false 32 bs p1 with
  |bad e a=>rfl
  |ok n p2 =>
   have b:=Jq c hn
   simp only [Rs.bind]
   rw [if_neg (by have:=b.2;omega)]
   cases Q7 (Qz tyB bs) n.toNat [] p2 with
   |bad e a=>rfl
   |ok ps p3 =>
    simp only [Rs.bind]
    cases Qy false 32 bs p3 with
    |bad e a=>rfl
    |ok n' p4 =>
     simp only [Rs.bind]
     split<;>rfl
theorem tab_eq (bs:List Int)(p:Nat):GC bs p=(Qz (JP 112 112) bs p).bind λ_ p1=>XR bs p1:=by
 unfold GC;rw [GR]
 cases Qz (JP 112 112) bs p<;>rfl
theorem tab_b {α:Type}(M:Rs α)(bs:List Int):((M.bind λ_ p=>Qz (JP 112 112) bs p).bind λ_ p=>XR bs p)=M.bind λ_ p=>GC bs p:=by
 cases M with
 |bad e a=>rfl
 |ok v p=>simp only [Rs.bind,tab_eq]
theorem info_FT:(Tryz.prog.info? 92).map (λi=>(i.zero,i.size,i.bytes))=some (some (.agg #[.slice none 0 0,.slice none 0 0]),2,48):=by kernel_rfl
theorem ent1 (i:Int){B w0 s ba bc bs p bx w}(l:List Q1)(v0:Value)(c0:List Value)(k0 os:List Qc)(h:Sd B w0 s ba bc bs p 0 0 (4*p) bx (⟨92,2,l.length,v0,c0⟩::(os++k0)) w)(au:LR RFT l c0 k0)(hm:bc.rest[0]?=some v0)(ak:bc.sec=1)(ce:l.length<=p)(hA:Qm bs)(hl:bs.length<=4194300) :
    Calls Tryz.prog 148 #[.pointer (some ⟨s,0,none⟩),.int .i64 i] w (EnD 0 (ftM bs p) RFT l 0 92 2 B w0 s ba bc bs bx os):=by
 obtain ⟨va,Z,rfl⟩:∃ a c,v0=.slice a l.length c:=Qc.Ok.slice (h.row mS);have c19:=h.c19;rw [ak] at c19;have cd:=h.le;have bq:=Hm au;clear au;obtain ⟨i0,hi,a9,a8,a7⟩:=info_parts info_FT;have K1:=Hm (oneC 96 96 (by decide) (by decide) h (Lk.ok () p) hA (by omega));clear h
 have H:∀ (x:List Int) (p3:Nat),(((Rs.ok () p).bind λ_ p=>Qz (JP 96 96) bs p).bind λ_ p=>typM 4294967295 bs p).bind (λ_ p=>typM 1 bs p)=.ok x p3->∀ J R,Qz (JP 96 96) bs p=.ok R J->J<=p3:=λx p3 d J R g=>by
  simp only [g,Rs.bind] at d
  have up:∀ most p,(typM most bs p).up p:=λmost p=>Qs (JC _ _).up λn p1=>JJ (Xb _ _ _) (up_repG (λp=>up_only _ _ _) _ _ _)
  exact (Qs (up _ _) λ_ p=>up 1 p) _ _ d
 go_enter Tryz.func148,Tryz.ntmps148
 go_wp2_with fail
 refine (K1.o).mono ?_
 rintro e w1 ⟨u1,p1,cj,cn,rfl,⟨R,rfl⟩,aw,-,aq⟩;have g:=aq.box (t:=92) (xs:=[.slice none 0 0,.slice none 0 0]);have K2:=Hm (typC 4294967295 (by decide) g aw hA (by omega));clear K1 aq g c19
 go_wp2_with fail
 refine (K2.o).mono ?_
 rintro e w2 ⟨y,u,m,p2,ci,cl,rfl,av,D,Y⟩;have y0:=Y.b0.2.1 0 _ rfl;have a4:=Y.b0.2.2 0;have C:=Y.set0 0 (.slice y m.length u);have K3:=Hm (typC 1 (by decide) C av hA (by omega));have az:=Hm D;clear K2 Y C aw av D
 go_wp2_with fail
 refine (K3.o).mono ?_
 rintro e w3 ⟨b,r,j,p3,af,ag,rfl,O,G,X⟩;have z0:=X.b0.2.1 1 _ rfl;have b7:=X.b0.2.2 1;have M:=X.set0 1 (.slice b j.length r);have D:=az.o
 have HS:=Hm (M.perm (rs':=⟨92,2,l.length,.slice va l.length Z,c0⟩::(nR (.slice y m.length u) m::nR (.slice b j.length r) j::(os++k0))) (by
  refine (List.Perm.swap _ _ _).trans ?_
  refine (List.Perm.cons _ (List.Perm.swap _ _ _)).trans ?_
  exact List.Perm.swap _ _ _))
 have a0:=Hm O;have bo:=Hm G;have ay:=Hm D;have bp:=Hm H;clear K3 X M O G D H az y0 a4
 go_upto_region 6 with fail
 refine Ql (λV=>Sd B w0 s ba bc bs p3 af ag (4*p) ((w1.heap.size,[.slice y m.length u,.slice b j.length r])::bx) (⟨92,2,l.length,.slice va l.length Z,c0⟩::(nR (.slice y m.length u) m::nR (.slice b j.length r) j::(os++k0))) V) HS.o ?_
 intro z I
 have m5:z.cell? ⟨s,5,none⟩=some (.slice va l.length Z):=I.cm hm;have F:=I.b0.2.1 0 _ rfl;have E:=I.b0.2.1 1 _ rfl;have H5:=Hm I;have cg:=I.hB;clear I HS
 refine Rp.Ji (N:=176) (vs:=[.pointer (some ⟨s,0,none⟩),.pointer (some ⟨s,0,none⟩),.pointer (some ⟨s,0,none⟩),.pointer (some ⟨s,5,none⟩),.pointer (some ⟨s,5,none⟩),.slice va l.length Z,.agg #[.slice y m.length u,.slice b j.length r],.slice (some ⟨z.heap.size,0,none⟩) 1 1,undef,.pointer (some ⟨s,0,none⟩),.pointer (some ⟨s,5,none⟩),.pointer (some ⟨s,5,none⟩)]) (i1:=7) (i2:=8) (L:=12) (S:=λW=>W.cell? ⟨s,5,none⟩=some (.slice va l.length Z)/\W.cell? ⟨w1.heap.size,0,none⟩=some (.slice y m.length u)/\W.cell? ⟨w1.heap.size,1,none⟩=some (.slice b j.length r)) (A:=λW v=>(∃ a3 c3,v=.slice a3 (l.length+1) c3)/\(W.cell? ⟨s,5,none⟩=some (.slice va l.length Z)/\W.cell? ⟨w1.heap.size,0,none⟩=some (.slice y m.length u)/\W.cell? ⟨w1.heap.size,1,none⟩=some (.slice b j.length r))/\W.frozen? ⟨s,5,none⟩=false/\Sd B w0 s ba { bc with rest:=bc.rest.set 0 v } bs p3 af ag (4*p) ((w1.heap.size,[.slice y m.length u,.slice b j.length r])::bx) (⟨92,2,l.length+1,v,c0++([.slice y m.length u,.slice b j.length r]:List Value)⟩::(nR (.slice y m.length u) m::nR (.slice b j.length r) j::(os++k0))) (W.setCell ⟨s,5,none⟩ v)) (w2:=({ z with drawn:=z.drawn+1 }:World).alloc (.cells #[.slice y m.length u,.slice b j.length r] 92)) (by kernel_rfl) (by kernel_rfl) (by kernel_rfl) rfl ?_ ?_ ?_ ?_
 . exact ⟨m5,F,E⟩
 .   exact ⟨Qg (w:={ z with drawn:=z.drawn+1 }) m5,Qg (w:={ z with drawn:=z.drawn+1 }) F,Qg (w:={ z with drawn:=z.drawn+1 }) E⟩
 . intro W v h
   exact h.2.1
 . refine Rp.v0 0 (.pointer (some ⟨s,0,none⟩)) (by kernel_rfl) rfl rfl rfl (λa W _ e=>by go_simp;try rfl) ?_
   refine Rp.v0 0 (.pointer (some ⟨s,0,none⟩)) (by kernel_rfl) rfl rfl rfl (λa W _ e=>by go_simp;try rfl) ?_
   refine Rp.v1 1 rfl (by kernel_rfl) rfl rfl rfl rfl (λa W _ e=>by go_simp;try rfl) ?_
   refine Rp.v1 2 rfl (by kernel_rfl) rfl rfl rfl rfl (λa W _ e=>by go_simp;try rfl) ?_
   refine Rp.v1 3 rfl (by kernel_rfl) rfl rfl rfl rfl (λa W _ e=>by go_simp;try rfl) ?_
   refine Rp.v1 4 rfl (by kernel_rfl) rfl rfl rfl rfl (λa W hS e=>by obtain ⟨m5,F,E⟩:=hS;go_simp;try rfl) ?_
   refine Rp.v0 4 (.pointer (some ⟨w1.heap.size,0,none⟩)) (by kernel_rfl) rfl rfl rfl (λa W hS e=>by obtain ⟨m5,F,E⟩:=hS;go_simp;try rfl) ?_
   refine Rp.l1 6 rfl (by kernel_rfl) rfl rfl rfl rfl (λa e=>by go_simp;try rfl) ?_
   refine Rp.QX.a (by rfl) (λa Kc f hK=>?_) ?_
   . have bm:=Rp.Jb f 3 5 30 _ (by kernel_rfl) rfl rfl;have bk:=Rp.Jb f 3 7 32 _ (by kernel_rfl) rfl rfl
     refine Qv rfl (.tmp 30) (.tmp 32) 23 rfl B 92 i0 (.agg #[.slice none 0 0,.slice none 0 0]) 2 48 Tryz.underlying23 hi a9 a8 a7 rfl (by decide) (.slice va l.length Z) l.length c0 (by simp [Act.eval,bm]) ?own ⟨z.heap.size,0,none⟩ 1 1 [.slice y m.length u,.slice b j.length r] (by simp [Act.eval,bk]) rfl ?lit (by simp [Value.oneCell']) (by unfold maxLen;omega) (by omega) ?hbase ?_
     case own=>exact World.ownsRow.alloc (show World.ownsRow { z with drawn:=z.drawn+1 } B 92 2 (.slice va l.length Z) l.length c0 from H5.o.row mS) _
     case lit=>exact Jd _ _ _
     case hbase=>simp;omega
     intro v3 w6 aa bg bf
     have hq:=Xr (ix:=0) (V1:=({ z with drawn:=z.drawn+1 }:World).alloc (.cells #[.slice y m.length u,.slice b j.length r] 92)) H5.o hm (by decide) ⟨rfl,rfl,rfl,by show z.heap.size<=(z.alloc (.cells #[.slice y m.length u,.slice b j.length r] 92)).heap.size;simp,λk hk=>QF z _ k hk⟩ bg aa bf
     exact hK v3 w6 ⟨JG aa,⟨hq.1.cm hm,hq.1.b0.2.1 0 _ rfl,hq.1.b0.2.1 1 _ rfl⟩,hq.1.fz _,hq.2⟩
   refine Rp.v1 0 rfl (by kernel_rfl) rfl rfl rfl rfl (λa W _ e=>by go_simp;try rfl) ?_
   refine Rp.v1 9 rfl (by kernel_rfl) rfl rfl rfl rfl (λa W _ e=>by go_simp;try rfl) ?_
   refine Rp.v1 10 rfl (by kernel_rfl) rfl rfl rfl rfl (λa W _ e=>by go_simp;try rfl) ?_
   refine Rp.QX.e (by rfl) (λa W Kc f hK=>?_) Rp.QX.nil
   . have hA:=Rp.XF f 33 (by kernel_rfl);obtain ⟨v3,U⟩:∃ v3,a.eval (.tmp 33)=v3:=⟨_,rfl⟩;rw [U] at hA;obtain ⟨⟨a3,c3,rfl⟩,⟨s5,-⟩,bd,ao⟩:=hA;have bh:=(Rp.QW a 36).symm.trans (Rp.XI f 11 36 _ (by kernel_rfl) rfl);have bj:a.tmps[33]?.getD undef=(.slice a3 (l.length+1) c3):=(Rp.QW a 33).symm.trans U;have ea:=Rp.Xs f rfl U (by kernel_rfl) rfl
     simp only [Rp.Oe,List.set,Nat.reduceAdd] at ea
     refine Rp.JL (Rp.Qe rfl) (W':=W.setCell ⟨s,5,none⟩ (.slice a3 (l.length+1) c3)) ?hst (hK undef _ ?hen)
     case hst =>
      clear f hK ea
      go_simp
      try rfl
     case hen =>
      clear f hK bh bj;clear U;subst ea;have H6:=Hm ao;clear ao s5 bd H5 m5
      go_wp2_with fail
      refine (tellC 1 i 0 0 H6.o a0.o.at0 (by omega)).mono ?_
      rintro e w8 ⟨rfl,ap⟩;have H8:=Hm ap;clear ap H6
      go_wp2_with fail
      go_end0
      have O:=a0.o;have G:=bo.o;have D:=ay.o;have H:=bp.o;rw [ft_eq hA]
      refine EnD.fin (k:=k0++[nR (.slice y m.length u) m,nR (.slice b j.length r) j]) (p:=p3) (er:=af) (at_:=ag) (K:=4*p+1) ?_ (by
       have h9:=H8.o.unbox.perm (rs':=⟨92,2,l.length+1,.slice a3 (l.length+1) c3,c0++([.slice y m.length u,.slice b j.length r]:List Value)⟩::(os++(k0++[nR (.slice y m.length u) m,nR (.slice b j.length r) j]))) (by
        refine List.Perm.cons _ ?_
        rw [<- List.append_assoc]
        exact List.perm_append_comm (l₁:=[nR (.slice y m.length u) m,nR (.slice b j.length r) j]))
       exact h9) ?_ ?_
      . refine O.tu (λe a d=>?_) (λv q d=>?_)
        . rcases g:Qz (JP 96 96) bs p with ⟨e1,b1⟩|⟨R,J⟩
          . simp only [g,Rs.bind] at d⊢;cases d;rfl
          . rcases C:typM 4294967295 bs J with ⟨e2,b2⟩|⟨x2,q2⟩
            . simp only [g,C,Rs.bind] at d⊢;cases d;rfl
            . rcases M:typM 1 bs q2 with ⟨e3,b3⟩|⟨x3,q3⟩
              . simp only [g,C,M,Rs.bind] at d⊢;cases d;rfl
              . simp only [g,C,M,Rs.bind] at d;cases d
        . rcases g:Qz (JP 96 96) bs p with ⟨e1,b1⟩|⟨R,J⟩
          . simp only [g,Rs.bind] at d;cases d
          . rcases C:typM 4294967295 bs J with ⟨e2,b2⟩|⟨x2,q2⟩
            . simp only [g,C,Rs.bind] at d;cases d
            . rcases M:typM 1 bs q2 with ⟨e3,b3⟩|⟨x3,q3⟩
              . simp only [g,C,M,Rs.bind] at d;cases d
              . simp only [g,C,M,Rs.bind] at d⊢;cases d;exact ⟨_,rfl⟩
      . intro x q d
        refine bq.o.snoc ⟨_,_,rfl,?_⟩
        rcases g:Qz (JP 96 96) bs p with ⟨e1,b1⟩|⟨R,J⟩
        . simp only [g,Rs.bind] at d;cases d
        . rcases C:typM 4294967295 bs J with ⟨e2,b2⟩|⟨x2,q2⟩
          . simp only [g,C,Rs.bind] at d;cases d
          . rcases M:typM 1 bs q2 with ⟨e3,b3⟩|⟨x3,q3⟩
            . simp only [g,C,M,Rs.bind] at d;cases d
            . simp only [g,C,M,Rs.bind] at d
              cases d
              rw [D x2 q2 (by simp only [g,C,Rs.bind]),G x3 q (by simp only [g,C,M,Rs.bind])]
      . intro e0
        subst e0;obtain ⟨x,d,_⟩:=O.zero
        rcases g:Qz (JP 96 96) bs p with ⟨e1,b1⟩|⟨R,J⟩
        . simp only [g,Rs.bind] at d;cases d
        . have:=X8 _ _ _ R J g
          have:=H _ _ d J R g
          omega
end Go.Proofs.YtedcmcdbejjgcaaGreat.Ms
