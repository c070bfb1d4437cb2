import Derived.Test.YtedcmcdbejjgcaaGreatGar
import Derived.Test.YtedcmcdbejjgcaaGreatGaa
import Derived.Test.YtedcmcdbejjgcaaGreatGaq
set_option linter.all false
set_option maxHeartbeats 400000000
set_option maxRecDepth 100000
namespace Go.Proofs.YtedcmcdbejjgcaaGreat.Ms
open Go.RowKit Go.Sort
structure Bd where
 cap:Nat
 fs:List Int
 ea:Option Addr
 en:Nat
 ec:Nat
 ends:List Int
 E:Int
 rest:List Value
 ev:Value
 sec:Int
 last:Int
 full:Int
def Bd.er (b:Bd):Int:=if b.E<b.fs.length then 6 else 2
def Bd.ea' (b:Bd):Int:=if b.E<b.fs.length then b.E+1 else b.fs.length
def Bd.fe (b:Bd)(er:Int):Int:=if er=2 then b.er else er
def Bd.fa (b:Bd)(er at_:Int):Int:=if er=2 then b.ea' else at_
theorem Bd.fe_ne {b:Bd}{er:Int}(h:er≠0):b.fe er≠0:=by
 unfold Bd.fe Bd.er;split<;>(try split)<;>omega
structure Sr (w:World)(s:Nat)(ba:Option Addr)(bc:Bd)(bs:List Int)(p:Nat)(er at_:Int):Prop where
 c0:w.cell? ⟨s,0,none⟩=some (.slice ba bc.fs.length bc.cap)
 c1:w.cell? ⟨s,1,none⟩=some (.int .i64 p)
 c2:w.cell? ⟨s,2,none⟩=some (.slice bc.ea bc.en bc.ec)
 d3:w.cell? ⟨s,3,none⟩=some (.int .i64 (bc.fe er))
 d4:w.cell? ⟨s,4,none⟩=some (.int .i64 (bc.fa er at_))
 rst:∀ i v,bc.rest[i]?=some v->w.cell? ⟨s,5+i,none⟩=some v
 ev:w.cell? ⟨s,18,none⟩=some bc.ev
 c19:w.cell? ⟨s,19,none⟩=some (.int .i64 bc.sec)
 c20:w.cell? ⟨s,20,none⟩=some (.int .i64 bc.last)
 c21:w.cell? ⟨s,21,none⟩=some (.int .i64 bc.full)
 fz:∀ i,w.frozen? ⟨s,i,none⟩=false
 has:By.Has w ba bs
 ne:∀ a,ba=some a->a.block<s
 le:p<=bs.length
 hasF:By.Has w ba bc.fs
 win:bs=bc.fs.take bc.E.toNat
 e0:0<=bc.E
 rl:bc.rest.length=13
 fl:bc.fs.length<=1099511627776
 eo:bc.en=0->(bc.fs.length:Int)<=bc.E
 em:∀ k,bc.en=k+1->∃ b o,bc.ea=some ⟨b,o,none⟩/\b≠s/\w.cell? ⟨b,o+k,none⟩=some (.int .i64 bc.E)
 eb:bc.E<=9223372036854775807
 el:∀ b o,bc.ea=some ⟨b,o,none⟩->b<w.heap.size
 enb:bc.en<=1099511627776
theorem Sr.lt {w s ba bc bs p er at_}(h:Sr w s ba bc bs p er at_):s<w.heap.size:=World.block_lt_of_cell? w _ h.c0
theorem Sr.c3 {w s ba bc bs p at_}(h:Sr w s ba bc bs p 0 at_):w.cell? ⟨s,3,none⟩=some (.int .i64 0):=h.d3
theorem Sr.c3n {w s ba bc bs p er at_}(h:Sr w s ba bc bs p er at_)(a:er≠0):∃ z:Int,(z==0)=false/\(z != 0)=true/\w.cell? ⟨s,3,none⟩=some (.int .i64 z) :=
 ⟨_,by simpa using Bd.fe_ne a,by simpa using Bd.fe_ne a,h.d3⟩
theorem Sr.grown {w s ba bc bs p er at_}{w1:World}{r:Option Nat}(h:Sr w s ba bc bs p er at_)(hg:w.grownBy w1 r)(f:some s≠r)(hr:∀ k,r=some k->s<=k)(g:∀ k,r=some k->∀ b o,bc.ea=some ⟨b,o,none⟩->b≠k):Sr w1 s ba bc bs p er at_:=by
 have a:w1.heap[s]?=w.heap[s]?:=hg.block s h.lt f;have C:∀ i v,w.cell? ⟨s,i,none⟩=some v->w1.cell? ⟨s,i,none⟩=some v:=λi v hv=>(World.cell?_of_block a).trans hv
 have d:∀ xs,By.Has w ba xs->By.Has w1 ba xs:=by
  rintro xs (h'|⟨b,o,e,c⟩)
  . exact .inl h'
  . exact .inr ⟨b,o,e,λi hi=>hg.cell (c i hi) (λe'=>by have l:=h.ne _ e;have:=hr b e'.symm;simp at l;omega)⟩
 refine ⟨C _ _ h.c0,C _ _ h.c1,C _ _ h.c2,C _ _ h.d3,C _ _ h.d4,λi v hv=>C _ _ (h.rst i v hv),C _ _ h.ev,C _ _ h.c19,C _ _ h.c20,C _ _ h.c21,λi=>(World.frozen?_of_block a).trans (h.fz i),d _ h.has,h.ne,h.le,d _ h.hasF,h.win,h.e0,h.rl,h.fl,h.eo,λk a=>?_,h.eb,λb o e=>Nat.lt_of_lt_of_le (h.el b o e) hg.size,h.enb⟩
 obtain ⟨b,o,e,j,c⟩:=h.em k a
 exact ⟨b,o,e,j,hg.cell c (λe'=>g b e'.symm b o e rfl)⟩
theorem Sr.keep {w s ba bc bs p er at_ w1}(h:Sr w s ba bc bs p er at_)(a:Below w.heap.size w w1):Sr w1 s ba bc bs p er at_ :=
 h.grown (r:=none) (Qi a) (by simp) (by simp) (by simp)
theorem Sr.drewN {w s ba bc bs p er at_}(h:Sr w s ba bc bs p er at_)(n:Nat):Sr (w.drewN n) s ba bc bs p er at_ :=
 ⟨h.c0,h.c1,h.c2,h.d3,h.d4,h.rst,h.ev,h.c19,h.c20,h.c21,h.fz,h.has,h.ne,h.le,h.hasF,h.win,h.e0,h.rl,h.fl,h.eo,h.em,h.eb,h.el,h.enb⟩
theorem Sr.has_set {w:World}{s:Nat}{b:Option Addr}{bs:List Int}(h:By.Has w b bs)(ne:∀ a,b=some a->a.block<s)(o:Nat)(v:Value):By.Has (w.setCell ⟨s,o,none⟩ v) b bs :=
 h.grown (Qp w s o v) (λa ha=>by have:=ne a ha;omega)
theorem Sr.em_set {w s ba bc bs p er at_}(h:Sr w s ba bc bs p er at_)(j:Nat)(v:Value):∀ k,bc.en=k+1->∃ b o,bc.ea=some ⟨b,o,none⟩/\b≠s/\(w.setCell ⟨s,j,none⟩ v).cell? ⟨b,o+k,none⟩=some (.int .i64 bc.E):=λk hk=>by
 obtain ⟨b,o,e,a,c⟩:=h.em k hk
 exact ⟨b,o,e,a,(Qp w s j v).cell c (by simpa using a)⟩
theorem Sr.step {w s ba bc bs p er at_}(h:Sr w s ba bc bs p er at_)(a:Nat)(hp:a<=bs.length):Sr (w.setCell ⟨s,1,none⟩ (.int .i64 a)) s ba bc bs a er at_ :=
 ⟨Qd h.c0 (by decide),QE h.c1,Qd h.c2 (by decide),Qd h.d3 (by decide),Qd h.d4 (by decide),λi v hv=>Qd (h.rst i v hv) (by omega),Qd h.ev (by decide),Qd h.c19 (by decide),Qd h.c20 (by decide),Qd h.c21 (by decide),λi=>by rw [World.frozen?_setCell];exact h.fz i,Sr.has_set h.has h.ne _ _,h.ne,hp,Sr.has_set h.hasF h.ne _ _,h.win,h.e0,h.rl,h.fl,h.eo,h.em_set _ _,h.eb,λb o e=>by simpa using h.el b o e,h.enb⟩
theorem Sr.err {w s ba bc bs p er at_}(h:Sr w s ba bc bs p er at_)(a c:Int):Sr ((w.setCell ⟨s,3,none⟩ (.int .i64 (bc.fe a))).setCell ⟨s,4,none⟩ (.int .i64 (bc.fa a c))) s ba bc bs p a c:=by
 refine ⟨Qd (Qd h.c0 (by decide)) (by decide),Qd (Qd h.c1 (by decide)) (by decide),Qd (Qd h.c2 (by decide)) (by decide),Qd (QE h.d3) (by decide),QE (Qd h.d4 (by decide)),λi v hv=>Qd (Qd (h.rst i v hv) (by omega)) (by omega),Qd (Qd h.ev (by decide)) (by decide),Qd (Qd h.c19 (by decide)) (by decide),Qd (Qd h.c20 (by decide)) (by decide),Qd (Qd h.c21 (by decide)) (by decide),λi=>by simp only [World.frozen?_setCell];exact h.fz i,Sr.has_set (Sr.has_set h.has h.ne _ _) h.ne _ _,h.ne,h.le,Sr.has_set (Sr.has_set h.hasF h.ne _ _) h.ne _ _,h.win,h.e0,h.rl,h.fl,h.eo,λk hk=>?_,h.eb,λb o e=>by simpa using h.el b o e,h.enb⟩
 obtain ⟨b,o,e,d,f⟩:=h.em_set 3 (.int .i64 (bc.fe a)) k hk
 exact ⟨b,o,e,d,(Qp _ s 4 _).cell f (by simpa using d)⟩
theorem fail_g (s ba bc bs p)(er at_ ec c:Int)(w)(h:Sr w s ba bc bs p 0 0)(a:ec=bc.fe er)(b:c=bc.fa er at_) :
    Calls Tryz.prog 74 #[.pointer (some ⟨s,0,none⟩),.int .i64 ec,.int .i64 c] w λe w'=>e=.returned (.tuple #[])/\Sr w' s ba bc bs p er at_/\w.grownBy w' (some s):=by
 have c3:=h.c3;obtain ⟨d,j⟩:∃ v,w.cell? ⟨s,4,none⟩=some v:=⟨_,h.d4⟩;have g:=h.fz 3;have f:=h.fz 4;have H:=Hm (h.err er at_);rw [<- a,<- b] at H;clear h a b
 go_enter Tryz.func74,Tryz.ntmps74
 go_wp2
 go_end0
 exact ⟨rfl,H.o,Qa (Qp _ s 3 _) (Qp _ s 4 _)⟩
theorem JT (s ba bc bs p)(er at_:Int)(w)(h:Sr w s ba bc bs p 0 0)(a:er≠2) :
    Calls Tryz.prog 74 #[.pointer (some ⟨s,0,none⟩),.int .i64 er,.int .i64 at_] w λe w'=>e=.returned (.tuple #[])/\Sr w' s ba bc bs p er at_/\w.grownBy w' (some s) :=
 fail_g s ba bc bs p er at_ er at_ w h (by unfold Bd.fe;rw [if_neg a]) (by unfold Bd.fa;rw [if_neg a])
theorem fail_se (s ba bc bs p)(er at_ a b:Int)(w)(h:Sr w s ba bc bs p er at_)(c:er≠0) :
    Calls Tryz.prog 74 #[.pointer (some ⟨s,0,none⟩),.int .i64 a,.int .i64 b] w λe w'=>e=.returned (.tuple #[])/\w=w':=by
 obtain ⟨z,f,d,c3⟩:=h.c3n c;clear h c
 go_enter Tryz.func74,Tryz.ntmps74
 go_wp2
 go_end0
 exact ⟨rfl,rfl⟩
def Bd.left (b:Bd)(p:Nat):Int:=if b.en=0 then 4294967296 else b.E-p
theorem left_sc (s ba bc bs p er at_ w)(h:Sr w s ba bc bs p er at_) :
    Calls Tryz.prog 144 #[.pointer (some ⟨s,0,none⟩)] w λe w'=>e=.returned (.int .i64 (bc.left p))/\∃ n,w'=w.drewN n:=by
 have c1:=h.c1;have d:=h.c2;have m:=h.fl;have u:=h.e0;have t:=h.eb;have j:=h.le;have r:bs.length<=bc.fs.length:=by rw [h.win];simp;omega
 have q:=h.enb
 rcases hk:bc.en with _|k
 . have a:Hid (bc.left p=4294967296):=by show _=_;unfold Bd.left;rw [if_pos hk]
   rw [hk] at d;clear h hk
   go_enter Tryz.func144,Tryz.ntmps144
   go_wp2
   go_ret
   exact ⟨by rw [a.o];rfl,0,rfl⟩
 . have a:Hid (bc.left p=bc.E-p):=by show _=_;unfold Bd.left;rw [if_neg (by omega)]
   obtain ⟨b,o,e,z,y⟩:=h.em k hk;rw [hk,e] at d;have c:((k:Int)+1==0)=false:=by simp;omega
   have v:IntKind.i64.wrap (((k+1:Nat):Int)-1)=(k:Int):=by rw [IntKind.wrap_i64];omega
   have g:IntKind.i64.wrap (k:Int)=(k:Int):=by rw [IntKind.wrap_i64];omega
   have l:(k:Int)<(k:Int)+1:=by omega
   have f:IntKind.i64.wrap (bc.E-(p:Int))=bc.E-p:=by rw [IntKind.wrap_i64];omega
   clear h hk
   go_enter Tryz.func144,Tryz.ntmps144
   go_wp2_with fail
   go_quiet (fail)
   go_wp2_with fail
   go_ret
   exact ⟨by rw [a.o];rfl,_,rfl⟩
theorem byte_se (s ba bc bs p er at_ w)(h:Sr w s ba bc bs p er at_)(a:er≠0) :
    Calls Tryz.prog 73 #[.pointer (some ⟨s,0,none⟩)] w λe w'=>e=.returned (.int .u8 0)/\w=w':=by
 obtain ⟨z,c,b,c3⟩:=h.c3n a;clear h a
 go_enter Tryz.func73,Tryz.ntmps73
 go_wp2
 go_ret
 exact ⟨rfl,rfl⟩
def SpP {α:Type}(M:Rs α)(kv:α->Value)(bv:Value->Prop)(w:World)(s:Nat)(ba:Option Addr)(bc:Bd)(bs:List Int)(e:Ending)(w':World):Prop :=
 w.grownBy w' (some s)/\(match M with
  |.bad er a=>∃ u p',e=.returned u/\bv u/\Sr w' s ba bc bs p' er a
  | .ok v p'=>e=.returned (kv v)/\Sr w' s ba bc bs p' 0 0)
theorem Sr.stepI {w s ba bc bs p er at_}(h:Sr w s ba bc bs p er at_)(hp:p+1<=bs.length):Sr (w.setCell ⟨s,1,none⟩ (.int .i64 ((p:Int)+1))) s ba bc bs (p+1) er at_:=by
 have:=h.step (p+1) hp
 simpa using this
theorem byte_sc (s ba bc bs p w)(h:Sr w s ba bc bs p 0 0)(hl:bs.length<=1099511627776) :
    Calls Tryz.prog 73 #[.pointer (some ⟨s,0,none⟩)] w (SpP (Qx bs p) (λv=>.int .u8 v) isB w s ba bc bs):=by
 have c0:=h.c0;have c1:=h.c1;have c3:=h.c3;have b:=h.win;have R:=h.e0;have O:bs.length=min bc.E.toNat bc.fs.length:=by rw [b];simp
 have M:=h.fl;have L:=h.le
 by_cases z:bs.length<=p
 . have r:Hid (Qx bs p=.bad 2 bs.length):=by show _=_;unfold Qx;rw [if_pos z]
   by_cases J:bc.fs.length<=p
   . have j:(bc.fs.length:Int)<=(p:Int):=by omega
     have q:=Hm (λn=>fail_g s ba bc bs p 2 bs.length 2 bc.fs.length (w.drewN n) (h.drewN n) (by unfold Bd.fe Bd.er;rw [if_pos rfl,if_neg (by omega)]) (by unfold Bd.fa Bd.ea';rw [if_pos rfl,if_neg (by omega)]));clear h b
     go_enter Tryz.func73,Tryz.ntmps73
     go_wp2_with fail
     go_quiet (fail)
     go_wp2_with fail
     refine (q.o _).mono ?_
     rintro e t ⟨rfl,f,k⟩;have D:=Hm f;have a:=Hm k;clear f k q
     go_wp2_with fail
     go_ret
     refine ⟨⟨a.o.os,a.o.tape,a.o.output,a.o.size,a.o.block⟩,?_⟩
     rw [r.o]
     exact ⟨_,_,rfl,rfl,D.o⟩
   . have j:¬ (bc.fs.length:Int)<=(p:Int):=by omega
     have g:(p:Int)<(bc.fs.length:Int):=by omega
     have B:bc.en≠0:=λe=>by have:=h.eo e;omega
     have C:bc.E=(p:Int):=by omega
     have m:=Hm (λn=>left_sc s ba bc bs p 0 0 (w.drewN n) (h.drewN n));rw [show bc.left p=0 by unfold Bd.left;rw [if_neg B];omega] at m;have q:=Hm (λV hV=>fail_g s ba bc bs p 2 bs.length 6 ((p:Int)+1) V hV (by unfold Bd.fe Bd.er;rw [if_pos rfl,if_pos (by omega)]) (by unfold Bd.fa Bd.ea';rw [if_pos rfl,if_pos (by omega),C]));have Z:=Hm h;clear h b
     go_enter Tryz.func73,Tryz.ntmps73
     go_wp2_with fail
     go_quiet (fail)
     go_wp2_with fail
     refine (m.o _).mono ?_
     rintro e t ⟨rfl,k2,rfl⟩
     go_wp2_with fail
     refine (q.o _ (Z.o.drewN _)).mono ?_
     rintro e t ⟨rfl,f,k⟩;have D:=Hm f;have a:=Hm k;clear f k q
     go_wp2_with fail
     go_ret
     refine ⟨⟨a.o.os,a.o.tape,a.o.output,a.o.size,a.o.block⟩,?_⟩
     rw [r.o]
     exact ⟨_,_,rfl,rfl,D.o⟩
 . have j:¬ (bc.fs.length:Int)<=(p:Int):=by omega
   have g:(p:Int)<(bc.fs.length:Int):=by omega
   have A:(bc.left p==0)=false:=by unfold Bd.left;split<;>simp<;>omega
   have r:Hid (Qx bs p=.ok (bs.getD p 0) (p+1)):=by show _=_;unfold Qx;rw [if_neg z]
   obtain ⟨y,u⟩:∃ y,bs.getD p 0=y:=⟨_,rfl⟩;rw [u] at r;have X:=Hm u;have H:=Hm h;have m:=Hm (λn=>left_sc s ba bc bs p 0 0 (w.drewN n) (h.drewN n));have S:=h.fz 1;clear h u b
   go_enter Tryz.func73,Tryz.ntmps73
   go_wp2_with fail
   go_quiet (fail)
   go_wp2_with fail
   refine (m.o _).mono ?_
   rintro e t ⟨rfl,k2,rfl⟩
   go_upto_region 10 with fail
   refine Ql (λW=>Sr W s ba bc bs (p+1) 0 0/\w.grownBy W (some s)) ⟨?_,?_⟩ ?_
   . exact (H.o.drewN _).stepI (by omega)
   . exact Qa (Q2 (World.grownBy.refl _ _) _) (Qp _ s 1 _)
   rintro W ⟨l,G⟩;have e0:=l.c0;have U:=l.c1;have a:=Hm G;have Y:=Hm l
   rcases l.has with I|⟨b1,o1,ea,F⟩
   . subst I;simp at z
   have d:=F p (by omega);rw [X.o] at d;subst ea;have c:((p+1:Nat):Int)=(p:Int)+1:=by omega
   rw [c] at U;clear l G F H m S c0 c1 c3 c
   go_quiet (fail)
   go_wp2_with fail
   go_ret
   refine ⟨⟨a.o.os,a.o.tape,a.o.output,a.o.size,a.o.block⟩,?_⟩
   rw [r.o]
   exact ⟨rfl,Y.o.drewN _⟩
end Go.Proofs.YtedcmcdbejjgcaaGreat.Ms
namespace Go.Proofs.YtedcmcdbejjgcaaGreat
open Go.RowKit Go.Sort
theorem reFType_c (x:Q1)(n:Option Addr)(c1:Nat)(m:Option Addr)(c2:Nat)(b:Option Addr)(d:Nat)(a:Option Addr)(c:Nat)(w:World)(L:Q1.Is 0 w x n m)(y:Q1.Is 0 w x b a)(hl:Q1.LB 1048576 x) :
    Calls Tryz.prog 163 #[.agg #[.slice n x.ps.length c1,.slice m x.rs.length c2],.agg #[.slice b x.ps.length d,.slice a x.rs.length c]] w λe w'=>e=.returned (.bool true)/\Below w.heap.size w w':=by
 obtain ⟨U,l1⟩:=hl;obtain ⟨C,B⟩:=L;have R:=Hm C;have O:=Hm B;clear C B;obtain ⟨q,p⟩:=y;have A:=Hm q;have z:=Hm p;clear q p;have H:Hid (Bk ((w.alloc (.cells #[.slice n x.ps.length c1,.slice m x.rs.length c2] 92)).alloc (.cells #[.slice b x.ps.length d,.slice a x.rs.length c] 92)) w.heap.size [.slice n x.ps.length c1,.slice m x.rs.length c2]/\Bk ((w.alloc (.cells #[.slice n x.ps.length c1,.slice m x.rs.length c2] 92)).alloc (.cells #[.slice b x.ps.length d,.slice a x.rs.length c] 92)) (w.heap.size+1) [.slice b x.ps.length d,.slice a x.rs.length c]/\Below w.heap.size w ((w.alloc (.cells #[.slice n x.ps.length c1,.slice m x.rs.length c2] 92)).alloc (.cells #[.slice b x.ps.length d,.slice a x.rs.length c] 92))):=two w [.slice n x.ps.length c1,.slice m x.rs.length c2] [.slice b x.ps.length d,.slice a x.rs.length c] 92 92
 go_enter Tryz.func163,Tryz.ntmps163
 go_upto_region 1 with fail
 refine Ql (λW=>Bk W w.heap.size [.slice n x.ps.length c1,.slice m x.rs.length c2]/\Bk W (w.heap.size+1) [.slice b x.ps.length d,.slice a x.rs.length c]/\Below w.heap.size w W) H.o ?_
 rintro W ⟨j,g,f⟩;clear H;have E:=j.2.1 0 _ rfl;have G:=g.2.1 0 _ rfl;have D:=j.2.1 1 _ rfl;have F:=g.2.1 1 _ rfl;have u:=Hm (eq_any n b c1 d x.ps W (by omega) (R.o.up (Qh f)).has (A.o.up (Qh f)).has)
 go_wp2_with fail
 refine u.o.mono ?_
 rintro e v ⟨rfl,J,s⟩;have l:Below W.heap.size W v:=by rw [s];exact J6 bF _
 clear s;have j:=j.keep l;have g:=g.keep l;have f:=f.trans (l.mono f.size);clear u l;have E:=j.2.1 0 _ rfl;have G:=g.2.1 0 _ rfl;have D:=j.2.1 1 _ rfl;have F:=g.2.1 1 _ rfl;have t:=Hm (eq_any m a c2 c x.rs v (by omega) (O.o.up (Qh f)).has (z.o.up (Qh f)).has)
 go_wp2_with fail
 refine t.o.mono ?_
 rintro e M ⟨rfl,I,r⟩;have k:Below v.heap.size v M:=by rw [r];exact J6 bF _
 clear r;have j:=j.keep k;have g:=g.keep k;have f:=f.trans (k.mono f.size);clear t k;have E:=j.2.1 0 _ rfl;have G:=g.2.1 0 _ rfl;have D:=j.2.1 1 _ rfl;have F:=g.2.1 1 _ rfl;have S:=Hm f;clear f j g
 go_wp2
 go_ret
 exact ⟨rfl,S.o⟩
theorem reFTypes_c (a Y:Option Addr)(c c':Nat)(xs:List Q1)(w:World)(hl:xs.length<=1048576/\∀ i,i<xs.length->Q1.LB 1048576 (xs.getD i Q1.z))(h:Q1.Ls 0 w a xs)(L:Q1.Ls 0 w Y xs) :
    Calls Tryz.prog 84 #[.slice a xs.length c,.slice Y xs.length c'] w λe w'=>e=.returned (.bool true)/\Below w.heap.size w w':=by
 obtain ⟨hn,hl⟩:=hl;have H1:=Hm h;have H2:=Hm L;have H3:=Hm hl;clear h L hl
 go_enter Tryz.func84,Tryz.ntmps84
 go_wp2
 go_loopw [5] (λi wr=>∃ k:Nat,k<=xs.length/\i=.int .i64 k/\Below w.heap.size w wr) (λi _=>xs.length-(intOf i).toNat)
 case atStart=>exact ⟨0,Nat.zero_le _,rfl,bF⟩
 case round =>
  obtain ⟨k,hk,rfl,n⟩:=hrel
  by_cases f:k<xs.length
  . have ad:(k:Int)<(xs.length:Int):=by omega
    rcases H1.o.up (Qh n) with B|⟨b,o,ea,_,J⟩
    . subst B;simp at f
    rcases H2.o.up (Qh n) with B|⟨b',o',ea',_,m⟩
    . subst B;simp at f
    have O:=J k f;have M:=m k f;have hl:=H3.o k f;subst ea ea';generalize xs.getD k Q1.z=x at O M hl;obtain ⟨X,c1,V,U,⟨F,E⟩,I⟩:=O;obtain ⟨t,r,s,q,⟨H,G⟩,l⟩:=M;have v:=cell_regrown F;have A:=cell_regrown H;have u:=cell_regrown E;have y:=cell_regrown G;have S:∀ d os,Calls Tryz.prog 163 #[.agg #[.slice X x.ps.length c1,.slice V x.rs.length U],.agg #[.slice t x.ps.length r,.slice s x.rs.length q]] (grow (redrawn wr d) os) λe w''=>e=.returned (.bool true)/\∃ p:Regrown,w''=grow (redrawn wr p.d) p.os:=λd os=>Calls.regrown_of (reFType_c x X c1 V U t r s q _ (I.up (Qh (below_regrown wr d os))) (l.up (Qh (below_regrown wr d os))) hl);have Z:=Hm n;have HE:=Hm S;clear n J m I l hl H1 H2 H3 S F H E G
    go_wp2
    refine wp_region_quiet_below (by kernel_rfl) (by kernel_rfl) ?_
    repeat (quiet_step (exact HE.o _ _))
    refine wpQuiet_nil ?_
    intro _ D
    obtain ⟨⟨R,g⟩,j⟩:=D;subst j;have C:=Z.o.trans ((below_regrown wr R g).mono Z.o.size);clear v A u y;generalize grow (redrawn wr R) g=w5 at *
    show Exit.then _ _ Exit.normal _ w5
    go_wp2
    go_roundw
    case rel=>exact ⟨k+1,by omega,by go_num,C⟩
    case measure=>simp [intOf];omega
  . go_wp2
    go_ret
    exact ⟨rfl,n⟩
theorem reImp_c (x:Imp)(w:World)(L:Imp.Is 0 w x)(G:Imp.Is 0 w x)(hl:Imp.LB 1048576 x) :
    Calls Tryz.prog 164 #[.agg #[.string x.mod,.string x.nm,.int .i64 x.kind,.int .i64 x.ty,.int .i64 x.lim.min,.int .i64 x.lim.max,.bool x.lim.has,.int .i64 x.gl.ty,.bool x.gl.mu],.agg #[.string x.mod,.string x.nm,.int .i64 x.kind,.int .i64 x.ty,.int .i64 x.lim.min,.int .i64 x.lim.max,.bool x.lim.has,.int .i64 x.gl.ty,.bool x.gl.mu]] w λe w'=>e=.returned (.bool true)/\Below w.heap.size w w':=by
 obtain ⟨J,l1⟩:=hl;have F:Hid (Bk ((w.alloc (.cells #[.string x.mod,.string x.nm,.int .i64 x.kind,.int .i64 x.ty,.int .i64 x.lim.min,.int .i64 x.lim.max,.bool x.lim.has,.int .i64 x.gl.ty,.bool x.gl.mu] 100)).alloc (.cells #[.string x.mod,.string x.nm,.int .i64 x.kind,.int .i64 x.ty,.int .i64 x.lim.min,.int .i64 x.lim.max,.bool x.lim.has,.int .i64 x.gl.ty,.bool x.gl.mu] 100)) w.heap.size [.string x.mod,.string x.nm,.int .i64 x.kind,.int .i64 x.ty,.int .i64 x.lim.min,.int .i64 x.lim.max,.bool x.lim.has,.int .i64 x.gl.ty,.bool x.gl.mu]/\Bk ((w.alloc (.cells #[.string x.mod,.string x.nm,.int .i64 x.kind,.int .i64 x.ty,.int .i64 x.lim.min,.int .i64 x.lim.max,.bool x.lim.has,.int .i64 x.gl.ty,.bool x.gl.mu] 100)).alloc (.cells #[.string x.mod,.string x.nm,.int .i64 x.kind,.int .i64 x.ty,.int .i64 x.lim.min,.int .i64 x.lim.max,.bool x.lim.has,.int .i64 x.gl.ty,.bool x.gl.mu] 100)) (w.heap.size+1) [.string x.mod,.string x.nm,.int .i64 x.kind,.int .i64 x.ty,.int .i64 x.lim.min,.int .i64 x.lim.max,.bool x.lim.has,.int .i64 x.gl.ty,.bool x.gl.mu]/\Below w.heap.size w ((w.alloc (.cells #[.string x.mod,.string x.nm,.int .i64 x.kind,.int .i64 x.ty,.int .i64 x.lim.min,.int .i64 x.lim.max,.bool x.lim.has,.int .i64 x.gl.ty,.bool x.gl.mu] 100)).alloc (.cells #[.string x.mod,.string x.nm,.int .i64 x.kind,.int .i64 x.ty,.int .i64 x.lim.min,.int .i64 x.lim.max,.bool x.lim.has,.int .i64 x.gl.ty,.bool x.gl.mu] 100))):=two w [.string x.mod,.string x.nm,.int .i64 x.kind,.int .i64 x.ty,.int .i64 x.lim.min,.int .i64 x.lim.max,.bool x.lim.has,.int .i64 x.gl.ty,.bool x.gl.mu] [.string x.mod,.string x.nm,.int .i64 x.kind,.int .i64 x.ty,.int .i64 x.lim.min,.int .i64 x.lim.max,.bool x.lim.has,.int .i64 x.gl.ty,.bool x.gl.mu] 100 100
 go_enter Tryz.func164,Tryz.ntmps164
 go_upto_region 1 with fail
 refine Ql (λW=>Bk W w.heap.size [.string x.mod,.string x.nm,.int .i64 x.kind,.int .i64 x.ty,.int .i64 x.lim.min,.int .i64 x.lim.max,.bool x.lim.has,.int .i64 x.gl.ty,.bool x.gl.mu]/\Bk W (w.heap.size+1) [.string x.mod,.string x.nm,.int .i64 x.kind,.int .i64 x.ty,.int .i64 x.lim.min,.int .i64 x.lim.max,.bool x.lim.has,.int .i64 x.gl.ty,.bool x.gl.mu]/\Below w.heap.size w W) F.o ?_
 rintro W ⟨b,a,f⟩;clear F;have t:=b.2.1 0 _ rfl;have E:=a.2.1 0 _ rfl;have s:=b.2.1 1 _ rfl;have D:=a.2.1 1 _ rfl;have r:=b.2.1 2 _ rfl;have C:=a.2.1 2 _ rfl;have q:=b.2.1 3 _ rfl;have B:=a.2.1 3 _ rfl;have p:=b.2.1 4 _ rfl;have A:=a.2.1 4 _ rfl;have n:=b.2.1 5 _ rfl;have z:=a.2.1 5 _ rfl;have m:=b.2.1 6 _ rfl;have y:=a.2.1 6 _ rfl;have l:=b.2.1 7 _ rfl;have v:=a.2.1 7 _ rfl;have k:=b.2.1 8 _ rfl;have u:=a.2.1 8 _ rfl;have j:=Hm (reLimits_c x.lim W trivial trivial trivial)
 go_wp2_with fail
 refine j.o.mono ?_
 rintro e H ⟨rfl,d⟩;have b:=b.keep d;have a:=a.keep d;have f:=f.trans (d.mono f.size);clear j d;have t:=b.2.1 0 _ rfl;have E:=a.2.1 0 _ rfl;have s:=b.2.1 1 _ rfl;have D:=a.2.1 1 _ rfl;have r:=b.2.1 2 _ rfl;have C:=a.2.1 2 _ rfl;have q:=b.2.1 3 _ rfl;have B:=a.2.1 3 _ rfl;have p:=b.2.1 4 _ rfl;have A:=a.2.1 4 _ rfl;have n:=b.2.1 5 _ rfl;have z:=a.2.1 5 _ rfl;have m:=b.2.1 6 _ rfl;have y:=a.2.1 6 _ rfl;have l:=b.2.1 7 _ rfl;have v:=a.2.1 7 _ rfl;have k:=b.2.1 8 _ rfl;have u:=a.2.1 8 _ rfl;have g:=Hm (reGType_c x.gl H trivial trivial trivial)
 go_wp2_with fail
 refine g.o.mono ?_
 rintro e M ⟨rfl,c⟩;have b:=b.keep c;have a:=a.keep c;have f:=f.trans (c.mono f.size);clear g c;have t:=b.2.1 0 _ rfl;have E:=a.2.1 0 _ rfl;have s:=b.2.1 1 _ rfl;have D:=a.2.1 1 _ rfl;have r:=b.2.1 2 _ rfl;have C:=a.2.1 2 _ rfl;have q:=b.2.1 3 _ rfl;have B:=a.2.1 3 _ rfl;have p:=b.2.1 4 _ rfl;have A:=a.2.1 4 _ rfl;have n:=b.2.1 5 _ rfl;have z:=a.2.1 5 _ rfl;have m:=b.2.1 6 _ rfl;have y:=a.2.1 6 _ rfl;have l:=b.2.1 7 _ rfl;have v:=a.2.1 7 _ rfl;have k:=b.2.1 8 _ rfl;have u:=a.2.1 8 _ rfl;have I:=Hm f;clear f b a
 go_wp2
 go_ret
 exact ⟨rfl,I.o⟩
theorem reImps_c (a a':Option Addr)(c c':Nat)(xs:List Imp)(w:World)(hl:xs.length<=1048576/\∀ i,i<xs.length->Imp.LB 1048576 (xs.getD i Imp.z))(h:Imp.Ls 0 w a xs)(h':Imp.Ls 0 w a' xs) :
    Calls Tryz.prog 85 #[.slice a xs.length c,.slice a' xs.length c'] w λe w'=>e=.returned (.bool true)/\Below w.heap.size w w':=by
 obtain ⟨hn,hl⟩:=hl;have H1:=Hm h;have H2:=Hm h';have H3:=Hm hl;clear h h' hl
 go_enter Tryz.func85,Tryz.ntmps85
 go_wp2
 go_loopw [5] (λi wr=>∃ k:Nat,k<=xs.length/\i=.int .i64 k/\Below w.heap.size w wr) (λi _=>xs.length-(intOf i).toNat)
 case atStart=>exact ⟨0,Nat.zero_le _,rfl,bF⟩
 case round =>
  obtain ⟨k,hk,rfl,n⟩:=hrel
  by_cases f:k<xs.length
  . have a3:(k:Int)<(xs.length:Int):=by omega
    rcases H1.o.up (Qh n) with M|⟨b,o,ea,_,hc⟩
    . subst M;simp at f
    rcases H2.o.up (Qh n) with M|⟨b',o',ea',_,m⟩
    . subst M;simp at f
    have g1:=hc k f;have g2:=m k f;have hl:=H3.o k f;subst ea ea';generalize xs.getD k Imp.z=x at g1 g2 hl;obtain ⟨⟨q0,q1,q2,Z,Y,X,V,U,S⟩,hi⟩:=g1;obtain ⟨⟨p0,p1,p2,p3,p4,p5,p6,p7,p8⟩,l⟩:=g2;have B:=cell_regrown q0;have L:=cell_regrown p0;have A:=cell_regrown q1;have J:=cell_regrown p1;have y:=cell_regrown q2;have I:=cell_regrown p2;have v:=cell_regrown Z;have H:=cell_regrown p3;have u:=cell_regrown Y;have G:=cell_regrown p4;have t:=cell_regrown X;have F:=cell_regrown p5;have s:=cell_regrown V;have E:=cell_regrown p6;have r:=cell_regrown U;have D:=cell_regrown p7;have q:=cell_regrown S;have C:=cell_regrown p8;have cE:∀ d os,Calls Tryz.prog 164 #[.agg #[.string x.mod,.string x.nm,.int .i64 x.kind,.int .i64 x.ty,.int .i64 x.lim.min,.int .i64 x.lim.max,.bool x.lim.has,.int .i64 x.gl.ty,.bool x.gl.mu],.agg #[.string x.mod,.string x.nm,.int .i64 x.kind,.int .i64 x.ty,.int .i64 x.lim.min,.int .i64 x.lim.max,.bool x.lim.has,.int .i64 x.gl.ty,.bool x.gl.mu]] (grow (redrawn wr d) os) λe w''=>e=.returned (.bool true)/\∃ p:Regrown,w''=grow (redrawn wr p.d) p.os:=λd os=>Calls.regrown_of (reImp_c x _ (hi.up (Qh (below_regrown wr d os))) (l.up (Qh (below_regrown wr d os))) hl);have HB:=Hm n;have HE:=Hm cE;clear n hc m hi l hl H1 H2 H3 cE q0 p0 q1 p1 q2 p2 Z p3 Y p4 X p5 V p6 U p7 S p8
    go_wp2
    refine wp_region_quiet_below (by kernel_rfl) (by kernel_rfl) ?_
    repeat (quiet_step (exact HE.o _ _))
    refine wpQuiet_nil ?_
    intro _ R
    obtain ⟨⟨dq,g⟩,j⟩:=R;subst j;have O:=HB.o.trans ((below_regrown wr dq g).mono HB.o.size);clear B L A J y I v H u G t F s E r D q C;generalize grow (redrawn wr dq) g=w5 at *
    show Exit.then _ _ Exit.normal _ w5
    go_wp2
    go_roundw
    case rel=>exact ⟨k+1,by omega,by go_num,O⟩
    case measure=>simp [intOf];omega
  . go_wp2
    go_ret
    exact ⟨rfl,n⟩
theorem reExp_c (x:Exp)(w:World)(q:Exp.Is 0 w x)(f:Exp.Is 0 w x)(hl:Exp.LB 1048576 x) :
    Calls Tryz.prog 167 #[.agg #[.string x.nm,.int .i64 x.kind,.int .i64 x.ix],.agg #[.string x.nm,.int .i64 x.kind,.int .i64 x.ix]] w λe w'=>e=.returned (.bool true)/\Below w.heap.size w w':=by
 have d:Hid (Bk ((w.alloc (.cells #[.string x.nm,.int .i64 x.kind,.int .i64 x.ix] 111)).alloc (.cells #[.string x.nm,.int .i64 x.kind,.int .i64 x.ix] 111)) w.heap.size [.string x.nm,.int .i64 x.kind,.int .i64 x.ix]/\Bk ((w.alloc (.cells #[.string x.nm,.int .i64 x.kind,.int .i64 x.ix] 111)).alloc (.cells #[.string x.nm,.int .i64 x.kind,.int .i64 x.ix] 111)) (w.heap.size+1) [.string x.nm,.int .i64 x.kind,.int .i64 x.ix]/\Below w.heap.size w ((w.alloc (.cells #[.string x.nm,.int .i64 x.kind,.int .i64 x.ix] 111)).alloc (.cells #[.string x.nm,.int .i64 x.kind,.int .i64 x.ix] 111))):=two w [.string x.nm,.int .i64 x.kind,.int .i64 x.ix] [.string x.nm,.int .i64 x.kind,.int .i64 x.ix] 111 111
 go_enter Tryz.func167,Tryz.ntmps167
 go_upto_region 1 with fail
 refine Ql (λW=>Bk W w.heap.size [.string x.nm,.int .i64 x.kind,.int .i64 x.ix]/\Bk W (w.heap.size+1) [.string x.nm,.int .i64 x.kind,.int .i64 x.ix]/\Below w.heap.size w W) d.o ?_
 rintro W ⟨b,a,c⟩;clear d;have l:=b.2.1 0 _ rfl;have p:=a.2.1 0 _ rfl;have k:=b.2.1 1 _ rfl;have n:=a.2.1 1 _ rfl;have j:=b.2.1 2 _ rfl;have m:=a.2.1 2 _ rfl;have g:=Hm c;clear c b a
 go_wp2
 go_ret
 exact ⟨rfl,g.o⟩
theorem reExps_c (a U:Option Addr)(c c':Nat)(xs:List Exp)(w:World)(hl:xs.length<=1048576/\∀ i,i<xs.length->Exp.LB 1048576 (xs.getD i Exp.z))(h:Exp.Ls 0 w a xs)(L:Exp.Ls 0 w U xs) :
    Calls Tryz.prog 89 #[.slice a xs.length c,.slice U xs.length c'] w λe w'=>e=.returned (.bool true)/\Below w.heap.size w w':=by
 obtain ⟨hn,hl⟩:=hl;have Z:=Hm h;have Y:=Hm L;have X:=Hm hl;clear h L hl
 go_enter Tryz.func89,Tryz.ntmps89
 go_wp2
 go_loopw [5] (λi wr=>∃ k:Nat,k<=xs.length/\i=.int .i64 k/\Below w.heap.size w wr) (λi _=>xs.length-(intOf i).toNat)
 case atStart=>exact ⟨0,Nat.zero_le _,rfl,bF⟩
 case round =>
  obtain ⟨k,hk,rfl,n⟩:=hrel
  by_cases f:k<xs.length
  . have aa:(k:Int)<(xs.length:Int):=by omega
    rcases Z.o.up (Qh n) with y|⟨b,o,ea,_,J⟩
    . subst y;simp at f
    rcases Y.o.up (Qh n) with y|⟨b',o',ea',_,m⟩
    . subst y;simp at f
    have O:=J k f;have M:=m k f;have hl:=X.o k f;subst ea ea';generalize xs.getD k Exp.z=x at O M hl;obtain ⟨⟨E,D,C⟩,I⟩:=O;obtain ⟨⟨H,G,F⟩,l⟩:=M;have s:=cell_regrown E;have v:=cell_regrown H;have r:=cell_regrown D;have u:=cell_regrown G;have q:=cell_regrown C;have t:=cell_regrown F;have S:∀ d os,Calls Tryz.prog 167 #[.agg #[.string x.nm,.int .i64 x.kind,.int .i64 x.ix],.agg #[.string x.nm,.int .i64 x.kind,.int .i64 x.ix]] (grow (redrawn wr d) os) λe w''=>e=.returned (.bool true)/\∃ p:Regrown,w''=grow (redrawn wr p.d) p.os:=λd os=>Calls.regrown_of (reExp_c x _ (I.up (Qh (below_regrown wr d os))) (l.up (Qh (below_regrown wr d os))) hl);have V:=Hm n;have HE:=Hm S;clear n J m I l hl Z Y X S E H D G C F
    go_wp2
    refine wp_region_quiet_below (by kernel_rfl) (by kernel_rfl) ?_
    repeat (quiet_step (exact HE.o _ _))
    refine wpQuiet_nil ?_
    intro _ B
    obtain ⟨⟨R,g⟩,j⟩:=B;subst j;have A:=V.o.trans ((below_regrown wr R g).mono V.o.size);clear s v r u q t;generalize grow (redrawn wr R) g=w5 at *
    show Exit.then _ _ Exit.normal _ w5
    go_wp2
    go_roundw
    case rel=>exact ⟨k+1,by omega,by go_num,A⟩
    case measure=>simp [intOf];omega
  . go_wp2
    go_ret
    exact ⟨rfl,n⟩
end Go.Proofs.YtedcmcdbejjgcaaGreat
