import Derived.Test.YtedcmcdbejjgcaaGreatGaa
import Derived.Test.YtedcmcdbejjgcaaGreatGat
import Derived.Test.YtedcmcdbejjgcaaGreatGau
import Derived.Deep.RegionHeld3
import Derived.Maps.AppendAt
import Derived.Test.YtedcmcdbejjgcaaGreatGaw
import Derived.Test.YtedcmcdbejjgcaaGreatGar
import Derived.Test.YtedcmcdbejjgcaaGreatGaq
set_option linter.all false
set_option maxHeartbeats 400000000
set_option maxRecDepth 100000
namespace Go.Proofs.YtedcmcdbejjgcaaGreat.Ms
open Go.RowKit Go.Sort
theorem leb_se (a:Int)(d:Bool)(g:a=32\/a=64)(s ba bc bs p er at_ w)(h:Sr w s ba bc bs p er at_)(c:er≠0) :
    Calls Tryz.prog 217 #[.pointer (some ⟨s,0,none⟩),.int .i64 a,.bool d] w λe w'=>e=.returned (.int .u64 0)/\w=w':=by
 obtain ⟨z3,f,b,c3⟩:=h.c3n c;clear h c
 rcases g with rfl|rfl <;>
 (go_enter Tryz.func217,Tryz.ntmps217
  go_wp2
  refine wp_loop_rounds 1 ?_
  rw [rounds_succ]
  go_wp2
  go_ret
  exact ⟨rfl,rfl⟩)
theorem u32_se (s ba bc bs p er at_ w)(h:Sr w s ba bc bs p er at_)(a:er≠0) :
    Calls Tryz.prog 145 #[.pointer (some ⟨s,0,none⟩)] w λe w'=>e=.returned (.int .i64 0)/\w=w':=by
 have K:=Hm (leb_se 32 false (.inl rfl) s ba bc bs p er at_ w h a);clear h a
 go_enter Tryz.func145,Tryz.ntmps145
 go_wp2_with fail
 refine (K.o).mono ?_
 rintro e b ⟨rfl,rfl⟩
 go_wp2_with fail
 go_ret
 exact ⟨rfl,rfl⟩
theorem u32_sc (s ba bc bs p w)(h:Sr w s ba bc bs p 0 0)(j:Qm bs)(hl:bs.length<=1099511627776) :
    Calls Tryz.prog 145 #[.pointer (some ⟨s,0,none⟩)] w (SpP (Qy false 32 bs p) (λv=>.int .i64 v) isI w s ba bc bs):=by
 have K:=Hm (lebU_sc s ba bc bs p w h j hl);have b:=λv p1=>Jq (p:=p) (p1:=p1) (v:=v) j;generalize Qy false 32 bs p=M at *
 cases M with
 |bad er a =>
  clear b h
  go_enter Tryz.func145,Tryz.ntmps145
  go_wp2_with fail
  refine (K.o).mono ?_
  rintro e k ⟨d,u,l,rfl,⟨v,rfl,v0,v1⟩,c⟩;have g:=Hm d;have f:=Hm c;clear d c K
  go_wp2_with fail
  go_ret
  exact ⟨g.o,_,_,rfl,⟨_,rfl⟩,f.o⟩
 |ok v p1 =>
  obtain ⟨v0,v1⟩:=b v p1 rfl;have m:wrap64 v=v:=by unfold wrap64;omega
  clear b h
  go_enter Tryz.func145,Tryz.ntmps145
  go_wp2_with fail
  refine (K.o).mono ?_
  rintro e k ⟨d,rfl,c⟩;have g:=Hm d;have f:=Hm c;clear d c K
  go_wp2_with fail
  go_ret
  exact ⟨g.o,rfl,f.o⟩
theorem one_se (c f:Int)(s ba bc bs p er at_ w)(h:Sr w s ba bc bs p er at_)(a:er≠0) :
    Calls Tryz.prog 219 #[.pointer (some ⟨s,0,none⟩),.int .u8 c,.int .u8 f] w λe w'=>e=.returned (.int .i64 0)/\w=w':=by
 have K:=Hm (byte_se s ba bc bs p er at_ w h a);obtain ⟨z3,d,b,c3⟩:=h.c3n a;clear h a
 go_enter Tryz.func219,Tryz.ntmps219
 go_wp2_with fail
 refine (K.o).mono ?_
 rintro e g ⟨rfl,rfl⟩
 go_wp2_with fail
 go_ret
 exact ⟨rfl,rfl⟩
theorem nz_take0 (bs:List Int)(p:Nat):∀ er a,Qx bs p=.bad er a->er≠0:=by
 intro er a e
 unfold Qx at e
 split at e
 · cases e;decide
 . cases e
def JP (lo hi x:Int):Bool:=decide (lo<=x)&&decide (x<=hi)
def isO (lo hi:Int)(u:Value):Prop:=∃ v:Int,u=.int .i64 v/\(v=0\/JP lo hi v=false)
theorem one_sc (b c:Int)(H:0<=b)(I:c<=255)(s ba bc bs p w)(h:Sr w s ba bc bs p 0 0)(J:Qm bs)(hl:bs.length<=1099511627776) :
    Calls Tryz.prog 219 #[.pointer (some ⟨s,0,none⟩),.int .u8 b,.int .u8 c] w (SpP (Qz (JP b c) bs p) (λv=>.int .i64 v) (isO b c) w s ba bc bs):=by
 have K:=Hm (byte_sc s ba bc bs p w h hl);have k:=λv p1=>Xn (p:=p) (p1:=p1) (v:=v) J;have j:=nz_take0 bs p;unfold Qz;generalize Qx bs p=M at *
 cases M with
 |bad er a =>
  have y:=j er a rfl;clear k h j
  go_enter Tryz.func219,Tryz.ntmps219
  go_wp2_with fail
  refine (K.o).mono ?_
  rintro e t ⟨f,u,X,rfl,rfl,d⟩;have q:=Hm f;have A:=Hm d;obtain ⟨z3,G,D,E⟩:=d.c3n y;clear f d K
  go_wp2_with fail
  go_ret
  exact ⟨q.o,_,_,rfl,⟨_,rfl,.inl rfl⟩,A.o⟩
 |ok v p1 =>
  obtain ⟨v0,v1⟩:=k v p1 rfl
  show Calls _ _ _ _ (SpP (if JP b c v then .ok v p1 else .bad 8 p1) _ _ _ _ _ _ _)
  clear k h j
  by_cases g:JP b c v=true
  . rw [if_pos g];have l:b<=v/\v<=c:=by simpa [JP] using g
    have O:¬ v<b:=by omega
    have r:¬ c<v:=by omega
    have V:decide (v<b)=false:=decide_eq_false O;have C:decide (c<v)=false:=decide_eq_false r;clear g l
    go_enter Tryz.func219,Tryz.ntmps219
    go_wp2_with fail
    refine (K.o).mono ?_
    rintro e t ⟨f,rfl,d⟩;have q:=Hm f;have A:=Hm d;have E:=d.c3;clear f d K
    go_wp2_with fail
    go_ret
    exact ⟨q.o,rfl,A.o⟩
  . rw [if_neg g];have l:v<b\/c<v:=by simp [JP] at g;omega
    have R:Hid (JP b c v=false):=Hm (by simpa using g);clear g
    by_cases r:v<b
    all_goals
        first
         |(have C:decide (v<b)=true:=decide_eq_true r)
         | (have C:decide (v<b)=false:=decide_eq_false r
            have L:c<v:=(by omega);have U:decide (c<v)=true:=decide_eq_true L)
        go_enter Tryz.func219,Tryz.ntmps219
        go_wp2_with fail
        refine (K.o).mono ?_
        rintro e t ⟨f,rfl,d⟩;have q:=Hm f;have E:=d.c3;have Y:=d.c1;have F:=Hm (JT s ba bc bs p1 8 p1 t d (by decide));clear f d K
        go_wp2_with fail
        refine (F.o).mono ?_
        rintro e S ⟨rfl,m,n⟩;have B:=Hm (Qa q.o n);have z:=Hm m;clear m n F
        go_wp2_with fail
        go_ret
        exact ⟨B.o,_,_,rfl,⟨_,rfl,.inr R.o⟩,z.o⟩
theorem one0_sc (s ba bc bs p w)(h:Sr w s ba bc bs p 0 0)(k:Qm bs)(hl:bs.length<=1099511627776) :
    Calls Tryz.prog 219 #[.pointer (some ⟨s,0,none⟩),.int .u8 0,.int .u8 0] w (SpP (Xp bs p) (λ_=>.int .i64 0) isI w s ba bc bs):=by
 refine (one_sc 0 0 (by decide) (by decide) s ba bc bs p w h k hl).mono ?_
 rintro e l ⟨j,b⟩
 refine ⟨j,?_⟩
 unfold Qz at b;unfold Xp
 cases hX:Qx bs p with
 |bad er a=>rw [hX] at b;obtain ⟨u,c,g,⟨v,f,_⟩,d⟩:=b;exact ⟨u,c,g,⟨v,f⟩,d⟩
 |ok x p1 =>
  rw [hX] at b
  simp only [Rs.bind] at b⊢
  by_cases h0:x=0
  . subst h0;rw [if_pos (by decide)] at b;rw [if_pos rfl]
    exact b
  . rw [if_neg (by simp [JP];omega)] at b;rw [if_neg h0];obtain ⟨u,c,g,⟨v,f,_⟩,d⟩:=b
    exact ⟨u,c,g,⟨v,f⟩,d⟩
theorem tell_se (s ba bc bs p er at_)(w1 w2 d c:Int)(w)(h:Sr w s ba bc bs p er at_)(b:er≠0) :
    Calls Tryz.prog 147 #[.pointer (some ⟨s,0,none⟩),.int .i64 w1,.int .i64 w2,.int .i64 d,.int .i64 c] w λe w'=>e=.returned (.tuple #[])/\w=w':=by
 obtain ⟨z3,f,a,c3⟩:=h.c3n b;clear h b
 go_enter Tryz.func147,Tryz.ntmps147
 go_wp2
 go_end0
 exact ⟨rfl,rfl⟩
theorem P2_8 (k:Nat):By.P2 (8*(k:Int))=2 ^ (8*k):=by unfold By.P2;rw [show (8*(k:Int)).toNat=8*k by omega]
theorem fix_sc (s ba bc bs)(p n:Nat)(w)(h:Sr w s ba bc bs p 0 0)(L:Qm bs)(hl:bs.length<=1099511627776)(hn:n<=8) :
    Calls Tryz.prog 316 #[.pointer (some ⟨s,0,none⟩),.int .i64 (n:Int)] w (SpP (XC bs p n) (λv=>.int .u64 v) (λu=>∃ v:Int,u=.int .u64 v) w s ba bc bs):=by
 have M:=Hm h;have G:=Hm L;clear h L
 go_enter Tryz.func316,Tryz.ntmps316
 go_wp2_with fail
 go_loopw [5,6] (λx i wr=>∃ (k:Nat) (v:Int),k<=n/\i=.int .i64 (k:Int)/\x=.int .u64 v/\w.grownBy wr (some s)/\((v=sumB bs p k/\Sr wr s ba bc bs (p+k) 0 0)\/(∃ er a q,er≠0/\XC bs p n=.bad er a/\Sr wr s ba bc bs q er a))) (λ_ i _=>n-(intOf i).toNat)
 case atStart=>exact ⟨0,0,Nat.zero_le _,rfl,rfl,World.grownBy.refl _ _,.inl ⟨rfl,M.o⟩⟩
 case round =>
  obtain ⟨k,v,hk,rfl,rfl,J,j⟩:=hrel;have D:=Hm J;clear J M
  by_cases R:k<n
  . have S:(k:Int)<(n:Int):=by omega
    have U:(k:Int)<=7:=by omega
    rcases j with ⟨z,d⟩|⟨er,a,q,l,C,d⟩
    . have r:=Hm (byte_sc s ba bc bs (p+k) wr d hl);clear d
      by_cases B:bs.length<=p+k
      . have b:Qx bs (p+k)=.bad 2 bs.length:=by unfold Qx;rw [if_pos B]
        rw [b] at r;have F:Hid (XC bs p n=.bad 2 bs.length):=by show _=_;unfold XC;rw [if_neg (by omega)]
        clear b z
        go_wp2_with (first
         |(go_at_call 73;refine (r.o).mono ?_;rintro e I ⟨f,u,q,rfl,rfl,c⟩;have g:=Hm c;have m:=Hm (Qa D.o f);clear f c)
         | (go_at_call 276;refine (By.Jt _ _ (by omega) (by omega)).mono ?_;rintro e H ⟨rfl,rfl⟩))
        go_roundw
        case rel=>exact ⟨k+1,_,by omega,by go_num,rfl,m.o,.inr ⟨2,_,_,by decide,F.o,g.o⟩⟩
        case measure=>simp [intOf];omega
      . have b:Qx bs (p+k)=.ok (bs.getD (p+k) 0) (p+k+1):=by unfold Qx;rw [if_neg B]
        rw [b] at r;obtain ⟨X,V⟩:=G.o (p+k);obtain ⟨O,s1⟩:=sumB_bd bs G.o p k;have A:=sumB_bd bs G.o p (k+1)
        have Z:Hid (IntKind.u64.wrap (v+IntKind.u64.wrap (bs.getD (p+k) 0*By.P2 (8*(k:Int))))=sumB bs p (k+1)):=by
         have h3:(2:Int) ^ (8*(k+1))<=18446744073709551616:=by
          have Y:k=0\/k=1\/k=2\/k=3\/k=4\/k=5\/k=6\/k=7:=by omega
          rcases Y with rfl|rfl|rfl|rfl|rfl|rfl|rfl|rfl<;>decide
         show _=_
         simp only [sumB] at A⊢
         rw [P2_8,z,IntKind.wrap_u64,IntKind.wrap_u64];generalize bs.getD (p+k) 0*2 ^ (8*k)=t at *
         omega
        generalize bs.getD (p+k) 0=y at *;clear b z O s1 A
        go_wp2_with (first
         |(go_at_call 73;refine (r.o).mono ?_;rintro e I ⟨f,rfl,c⟩;have g:=Hm c;have m:=Hm (Qa D.o f);clear f c)
         | (go_at_call 276;refine (By.Jt _ _ (by omega) (by omega)).mono ?_;rintro e H ⟨rfl,rfl⟩))
        go_roundw
        case rel=>exact ⟨k+1,_,by omega,by go_num,rfl,m.o,.inl ⟨Z.o,g.o⟩⟩
        case measure=>simp [intOf];omega
    . have r:=Hm (byte_se s ba bc bs q er a wr d l);have F:=Hm C;have g:=Hm d;clear d C
      go_wp2_with (first
       |(go_at_call 73;refine (r.o).mono ?_;rintro e I ⟨rfl,rfl⟩)
       | (go_at_call 276;refine (By.Jt _ _ (by omega) (by omega)).mono ?_;rintro e H ⟨rfl,rfl⟩))
      go_roundw
      case rel=>exact ⟨k+1,_,by omega,by go_num,rfl,D.o,.inr ⟨er,a,q,l,F.o,g.o⟩⟩
      case measure=>simp [intOf];omega
  . have e:k=n:=by omega
    subst e;have E:=Hm j;clear j
    go_wp2_with fail
    go_ret
    refine ⟨D.o,?_⟩
    rcases E.o with ⟨z,d⟩|⟨er,a,q,l,C,d⟩
    . have:XC bs p k=.ok (sumB bs p k) (p+k):=by unfold XC;rw [if_pos d.le]
      rw [this]
      exact ⟨by rw [<- z];rfl,d⟩
    . rw [C]
      exact ⟨_,_,rfl,⟨_,rfl⟩,d⟩
end Go.Proofs.YtedcmcdbejjgcaaGreat.Ms
namespace Go.Proofs.YtedcmcdbejjgcaaGreat
open Go.RowKit Go.Sort
def Bf.win_ (b:Bf)(E:Int):Bf:={ b with E:=E }
theorem Rd.open_ {w q ba bc bs p}(h:Rd w q ba bc bs p)(n:Nat)(g:(p:Int)+n<=bc.E):Rd (w.setCell ⟨q,2,none⟩ (.int .i64 ((p:Int)+n))) q ba (bc.win_ ((p:Int)+n)) (bs.take (p+n)) p:=by
 have b:=Qp w q 2 (.int .i64 ((p:Int)+n));have d:=h.hasF.grown b h.ne
 have c:bs.take (p+n)=bc.fs.take ((p:Int)+n).toNat:=by
  rw [h.win,List.take_take]
  congr 1
  omega
 have f:=h.le;have a:=h.cap
 refine ⟨Qd h.c0 (by omega),Qd h.c1 (by omega),QE h.c2,λi=>by rw [World.frozen?_setCell];exact h.fz i,?_,h.ne,by simp;omega,Nat.le_trans (by simp;omega:(bs.take (p+n)).length<=bs.length) a,Qd h.cn (by omega),Qd h.cw (by omega),d,c,by show (0:Int)<=(p:Int)+n;omega,h.capF,λi v hv=>Qd (h.rst i v hv) (by omega),h.rl,h.fl⟩
 rw [c];exact JS d _
theorem Rd.shut {w q ba}{bc:Bf}{bs d:List Int}{p}{E:Int}(h:Rd w q ba (bc.win_ E) d p)(a:bs=bc.fs.take bc.E.toNat)(h0:0<=bc.E)(hp:p<=bs.length):Rd (w.setCell ⟨q,2,none⟩ (.int .i64 bc.E)) q ba bc bs p:=by
 have b:=Qp w q 2 (.int .i64 bc.E);have f:By.Has (w.setCell ⟨q,2,none⟩ (.int .i64 bc.E)) ba bc.fs:=h.hasF.grown b h.ne;have c:bc.fs.length<=bc.cap:=h.capF
 refine ⟨Qd h.c0 (by omega),Qd h.c1 (by omega),QE h.c2,λi=>by rw [World.frozen?_setCell];exact h.fz i,?_,h.ne,hp,by rw [a];simp;omega,Qd h.cn (by omega),Qd h.cw (by omega),f,a,h0,c,λi v hv=>Qd (h.rst i v hv) (by omega),h.rl,h.fl⟩
 rw [a];exact JS f _
theorem flt_win {bc:Bf}{bs:List Int}{p n:Nat}{er at_:Int}(b:bs=bc.fs.take bc.E.toNat)(h0:0<=bc.E)(g:(p:Int)+n<=bc.E) :
    (bc.win_ ((p:Int)+n)).flt er at_=(if er=2 then (if p+n<bs.length then bc.flt 6 ((p:Int)+n+1) else bc.flt 2 bs.length) else bc.flt er at_):=by
 have j:bs.length=min bc.E.toNat bc.fs.length:=by rw [b];simp
 by_cases d:er=2
 . rw [if_pos d];subst d
   by_cases f:p+n<bs.length
   . rw [if_pos f];have a:(p:Int)+n<bc.fs.length:=by omega
     simp only [Bf.flt,Bf.er,Bf.ea,Bf.win_,a,if_true]
     rw [if_neg (by decide)]
   . rw [if_neg f]
     by_cases a:(p:Int)+n<bc.fs.length
     . have c:bc.E=(p:Int)+n:=by omega
       simp only [Bf.flt,Bf.er,Bf.ea,Bf.win_,c,a,if_true]
     . have c:¬ bc.E<bc.fs.length:=by omega
       simp only [Bf.flt,Bf.er,Bf.ea,Bf.win_,a,c,if_true,if_false]
 . simp only [if_neg d,Bf.flt]
theorem LR.nokids {α:Type}{b:α->List Value->List Qc->Prop}{xs:List α}{c k}(h:LR b xs c k)(m:∀ x c r,b x c r->r=[]):k=[]:=by
 obtain ⟨f,d,g,rfl,rfl⟩:=h
 induction xs generalizing f with
 |nil=>cases f with
  |nil=>rfl
  |cons a l=>simp at d
 |cons x xs ih=>cases f with
  |nil=>simp at d
  |cons a l =>
   have j:=ih l (by simpa using d) (λi y ev hy he=>g (i+1) y ev (by simpa using hy) (by simpa using he));have n:=m _ _ _ (g 0 x a rfl rfl)
   simp only [List.flatMap_cons,n,j]
   rfl
theorem K2.set (q s j:Nat)(v:Value)(w:World):K2 q s w (w.setCell ⟨s,j,none⟩ v):=⟨rfl,rfl,rfl,by simp,λk _ _ h2=>Below.heap_setCell _ _ _ _ h2⟩
def CdP (M:Rs Cod)(w:World)(q X:Nat)(ba:Option Addr)(bc:Bf)(bs:List Int)(e:Ending)(w':World):Prop :=
 K2 q X w w'/\(match M with
  |.bad er at_=>e=.panicked [bc.flt er at_]
  | .ok x p'=>e=.returned (.tuple #[])/\Rd w' q ba bc bs p'/\∃ al nl ab nb r,Oq x [.slice al x.locs.length nl,.slice ab x.body.length nb] r/\Own w.heap.size w' r/\Bk w' X [.slice al x.locs.length nl,.slice ab x.body.length nb])
theorem bod_c (q ba bc bs)(p I X:Nat)(w)(h:Rd w q ba bc bs p)(hA:Qm bs)(hl:bs.length<=1099511627776)(hb:w.cell? ⟨I,0,none⟩=some (.pointer (some ⟨q,0,none⟩)))(G:I≠q)(ac:I≠X)(hX:Bk w X [.slice none 0 0,.slice none 0 0])(m:X≠q)(H:∀ a,ba=some a->bc.fs≠[]->a.block≠X) :
    Calls Tryz.prog 295 #[.pointer (some ⟨I,0,none⟩),.pointer (some ⟨X,0,none⟩)] w (CdP (bodM bs bc.E p) w q X ba bc bs):=by
 have hq:=h.lt;have HA:=Hm hA;have b:=Hm hX;have HB:=Hm hb;have H0:=Hm (Ws.start h);clear h hA hX;unfold bodM
 go_enter Tryz.func295,Tryz.ntmps295
 go_wp2_with fail
 refine (grps_c q ba bc bs p w H0.o.r HA.o hl).mono ?_
 rintro e w1 ⟨z,s⟩
 rcases hM:X4 bs p with ⟨er,at_⟩|⟨g,Y⟩
 . rw [hM] at s;subst s
   refine ⟨rfl,K2.of z,?_⟩
   simp only [hM,Rs.bind]
 have L:=Hm hM;rw [hM] at s;obtain ⟨vg,cg,kg,rfl,k,f,F,ak⟩:=s;obtain ⟨J,D,rfl⟩:∃ a c,vg=.slice a g.length c:=Qc.Ok.slice f.head;obtain rfl:=k.nokids (λx c r hx=>hx.2);have ah:=Hm k;have u:=Hm (H0.o.rows hq z F f);clear z F hM H0 f k hb;have C:=Hm (b.o.grownR u.o.g (by simpa using λe=>m e.symm));have x0:=C.o.2.1 0 _ rfl;have S:=C.o.2.2 0;obtain ⟨y,d⟩:∃ wz:World,wz=w.setCell ⟨X,0,none⟩ (.slice J g.length D):=⟨_,rfl⟩;have t:=Hm (u.o.rebase (j:=0) (.slice J g.length D) (by have:=b.o.1;omega) m H);have a0:y.heap.size=w.heap.size:=by rw [d];simp
 have A:Hid (K2 q X w y):=by show K2 q X w y;rw [d];exact K2.set _ _ _ _ _
 have n:=Hm (b.o.set (j:=0) (v:=.slice J g.length D));rw [<- d] at t n;clear C b d u
 rename Hid (Bk y X _)=>b
 go_upto_region 1 with fail
 refine Ql (λV=>Ws y q ba bc bs Y [] ([]++[⟨173,2,g.length,.slice J g.length D,cg⟩]) V) t.o ?_
 rintro V1 hV;have u:=Hm hV;clear hV t x0 S;have U:Hid (y.cell? ⟨I,0,none⟩=some (.pointer (some ⟨q,0,none⟩))):=A.o.cell HB.o G ac;have pb:=u.o.g.cell U.o (by simpa using G)
 go_wp2_with fail
 refine (list_c q ba bc bs Y 11 V1 u.o.r HA.o hl).mono ?_
 rintro e w2 ⟨z,s⟩
 rcases hM:Jx bs Y with ⟨er,at_⟩|⟨l,p2⟩
 . rw [hM] at s;subst s
   refine ⟨rfl,A.o.trans (K2.of (Qa u.o.g z)),?_⟩
   simp only [L.o,hM,Rs.bind]
 have ae:=Hm hM;rw [hM] at s;obtain ⟨vl,cl,kl,rfl,k,f,F,ab⟩:=s;obtain ⟨R,O,rfl⟩:∃ a c,vl=.slice a l.length c:=Qc.Ok.slice f.head;have af:=Hm k;have aa:q<y.heap.size:=by omega
 have H2:=Hm (u.o.rows aa z F f);clear z F hM u f k pb;have B:=Hm (b.o.grownR H2.o.g (by simpa using λe=>m e.symm));have x1:=B.o.2.1 1 _ rfl;have av:=B.o.2.2 1;obtain ⟨M,d⟩:∃ wz:World,wz=y.setCell ⟨X,1,none⟩ (.slice R l.length O):=⟨_,rfl⟩;have t:=Hm (H2.o.rebase (j:=1) (.slice R l.length O) (by have:=b.o.1;omega) m H);have Z:M.heap.size=w.heap.size:=by rw [d];simp;omega
 have ad:Hid (K2 q X w M):=by show K2 q X w M;rw [d];exact A.o.trans (K2.set _ _ _ _ _)
 have n:=Hm (b.o.set (j:=1) (v:=.slice R l.length O));rw [<- d] at t n;clear B b d H2
 rename Hid (Bk M X _)=>b
 go_wp2_with fail
 go_end0
 refine ⟨ad.o.trans (K2.of t.o.g),?_⟩
 simp only [L.o,ae.o,Rs.bind]
 refine ⟨by trivial,t.o.r,J,D,R,O,_,⟨_,_,_,_,rfl,ah.o,⟨_,_,af.o,rfl⟩,rfl⟩,?_,b.o.grownR t.o.g (by simpa using λe=>m e.symm)⟩
 have:=t.o.o
 rw [Z] at this
 exact this
theorem size_le {bs:List Int}{E:Int}{p p1:Nat}{v:Int}(h:Jl bs E p=.ok v p1):(p1:Int)+v<=E:=by
 unfold Jl at h
 rcases hM:QK bs p with ⟨er,at_⟩|⟨x,a⟩
 . rw [hM] at h;cases h
 . rw [hM] at h
   simp only [Rs.bind] at h
   split at h
   · cases h
   . cases h;omega
theorem wcod_c (q ba bc bs)(p L X:Nat)(w)(h:Rd w q ba bc bs p)(hA:Qm bs)(hl:bs.length<=1099511627776)(hb:w.cell? ⟨L,0,none⟩=some (.pointer (some ⟨q,0,none⟩)))(D:L≠q)(aq:L≠X)(hX:Bk w X [.slice none 0 0,.slice none 0 0])(j:X≠q)(ar:∀ a,ba=some a->bc.fs≠[]->a.block≠X)(hE:bc.E<=9223372036854775807) :
    Calls Tryz.prog 82 #[.pointer (some ⟨q,0,none⟩),.func (.func 295) #[] #[.pointer (some ⟨L,0,none⟩),.pointer (some ⟨X,0,none⟩)]] w (CdP (Xw bs bc.E p) w q X ba bc bs):=by
 have hq:=h.lt;have HA:=Hm hA;have aa:=Hm hX;have HB:=Hm hb;have f:=Hm h.win;have C:=h.e0;have K:=Hm (size_c q ba bc bs p w h hA hl hE);clear h hA hX hb;unfold Xw QU
 go_enter Tryz.func82,Tryz.ntmps82
 go_wp2_with fail
 refine (K.o).mono ?_
 rintro e M ⟨V,z⟩
 rcases hM:Jl bs bc.E p with ⟨er,at_⟩|⟨n,b⟩
 . rw [hM] at z;subst z
   refine ⟨rfl,K2.of V,?_⟩
   simp only [hM,Rs.bind]
 have l:=Hm hM;have ak:=GH HA.o hM;have a8:=size_le hM;obtain ⟨n,rfl⟩:=Int.eq_ofNat_of_zero_le ak.1;rw [hM] at z;obtain ⟨rfl,J⟩:=z;have ay:=J.le;have e1:=J.c1;have e2:=J.c2;have ef:=J.fz 2;have ad:=Hm (aa.o.grownR V (by simpa using λe=>j e.symm));have ah:=Hm (V.cell HB.o (by simpa using D));have hw:IntKind.i64.wrap ((b:Int)+n)=(b:Int)+n:=by rw [IntKind.wrap_i64];omega
 have HO:=Hm (J.open_ n (by omega));have ac:=Hm (ad.o.grownR (Qp M q 2 (.int .i64 ((b:Int)+n))) (by simpa using λe=>j e.symm));have ag:Hid ((M.setCell ⟨q,2,none⟩ (.int .i64 ((b:Int)+n))).cell? ⟨L,0,none⟩=some (.pointer (some ⟨q,0,none⟩))):=(Qp M q 2 _).cell ah.o (by simpa using D);have KB:=Hm (bod_c q ba (bc.win_ ((b:Int)+n)) (bs.take (b+n)) b L X _ HO.o (Gh HA.o _) (by simp;omega) ag.o D aq ac.o j ar);have F:=Hm ((K2.of (s:=X) V).trans (K2.of (s:=X) (Qp M q 2 (.int .i64 ((b:Int)+n)))));clear V J hM K ad ah ac ag HB aa
 go_wp2_with fail
 refine (KB.o).mono ?_
 rintro e w3 ⟨U,z⟩
 rcases hM:bodM (bs.take (b+n)) ((b:Int)+n) b with ⟨er,at_⟩|⟨x,d⟩
 . have ao:e=.panicked [(bc.win_ ((b:Int)+n)).flt er at_]:=by
     have R:=z;rw [show (bc.win_ ((b:Int)+n)).E=(b:Int)+n from rfl,hM] at R
     exact R
   subst ao
   refine ⟨rfl,F.o.trans U,?_⟩
   rw [flt_win f.o C (by omega)]
   simp only [l.o,Rs.bind,Int.toNat_natCast,hM]
   by_cases h2:er=2
   . simp only [if_pos h2]
     by_cases h3:b+n<bs.length
     . simp only [if_pos h3]
     . simp only [if_neg h3]
   . simp only [if_neg h2]
 rw [show (bc.win_ ((b:Int)+n)).E=(b:Int)+n from rfl,hM] at z;have H:=Hm hM;obtain ⟨rfl,c,al,nl,ab,nb,r,u,y,Z⟩:=z;have f1:=c.c1;have f2:w3.cell? ⟨q,2,none⟩=some (.int .i64 ((b:Int)+n)):=c.c2;have ff:=c.fz 2;have v:d<=(bs.take (b+n)).length:=c.le;have A:d<=b+n/\d<=bs.length:=by simp at v;omega
 have G:=Hm c;have I:=Hm (F.o.trans U);have t:Hid (w.heap.size<=(M.setCell ⟨q,2,none⟩ (.int .i64 ((b:Int)+n))).heap.size):=F.o.size;have af:=Hm (y.mono t.o);have ae:=Hm u;have aw:=Hm Z;clear c U hM y u Z KB t v
 by_cases B:d<b+n
 . have S:(d:Int)<(b:Int)+n:=by omega
   by_cases Y:bs.length<=d
   . have KT:=Hm (λm=>XP q ba (bc.win_ ((b:Int)+n)) (bs.take (b+n)) d (w3.drewN m) (G.o.drewN m) (by simp;omega))
     go_wp2_with fail
     go_quiet (fail)
     go_wp2_with fail
     refine (KT.o _).mono ?_
     rintro e w4 ⟨rfl,g⟩
     refine ⟨rfl,I.o.trans (K2.of (Qa (Q2 (World.grownBy.refl _ _) _) g)),?_⟩
     simp only [l.o,Rs.bind,Int.toNat_natCast,H.o,if_pos B,if_pos Y]
     rw [show (bc.win_ ((b:Int)+n)).flt 2 (bs.take (b+n)).length=bc.flt 2 bs.length from (flt_win f.o C (by omega)).trans (by rw [if_pos rfl,if_neg (by omega)])]
   . have KT:=Hm (λm=>GG q ba (bc.win_ ((b:Int)+n)) (bs.take (b+n)) d (w3.drewN m) (G.o.drewN m) (by simp;omega) (by simp;omega))
     go_wp2_with fail
     go_quiet (fail)
     go_wp2_with fail
     refine (KT.o _).mono ?_
     rintro e w4 ⟨rfl,O,g⟩;have KF:=Hm (JE q 6 ((d+1:Nat):Int) w4 O.c1);have av:=Hm (I.o.trans (K2.of (s:=X) (Qa (Q2 (World.grownBy.refl _ _) _) g)));clear O g KT
     go_wp2_with fail
     refine (KF.o).mono ?_
     rintro e w5 ⟨rfl,rfl⟩
     refine ⟨rfl,av.o,?_⟩
     simp only [l.o,Rs.bind,Int.toNat_natCast,H.o,if_pos B,if_neg Y]
     exact rfl
 . have S:(b:Int)+n<=(d:Int):=by omega
   have ap:b+n<=d:=by omega
   clear B;have HS:=Hm (λm=>(G.o.drewN m).shut f.o C A.2)
   go_wp2_with fail
   go_quiet (fail)
   go_wp2_with fail
   go_end0
   refine ⟨I.o.trans (K2.of (Qa (Q2 (World.grownBy.refl _ _) _) (Qp _ q 2 _))),?_⟩
   simp only [l.o,Rs.bind,Int.toNat_natCast,H.o,if_neg (Nat.not_lt.2 ap)]
   exact ⟨trivial,HS.o _,al,nl,ab,nb,r,ae.o,af.o.grown (Qa (Q2 (World.grownBy.refl _ _) _) (Qp _ q 2 _)) (λk e U=>by cases e;have:=(af.o.lt U).1;omega),aw.o.grownR (Qa (Q2 (World.grownBy.refl _ _) _) (Qp _ q 2 _)) (by simpa using λe=>j e.symm)⟩
theorem cod_c (q ba bc bs p w)(h:Rd w q ba bc bs p)(G:Qm bs)(hl:bs.length<=1099511627776)(V:bc.E<=9223372036854775807) :
    Calls Tryz.prog 247 #[.pointer (some ⟨q,0,none⟩)] w (ReP (Xw bs bc.E p) Oq agV w q ba bc bs):=by
 have Z:=Hm h.byl;have U:=h.lt;have H:=Hm (λX (hX:w.heap.size<=X)=>JB h hX);have HA:=Hm G;have h0:Ws w q ba bc bs p [((w.heap.size+2),[.slice none 0 0,.slice none 0 0]),((w.heap.size+1),[.slice none 0 0,.slice none 0 0]),(w.heap.size,[.pointer (some ⟨q,0,none⟩)])] ([]) (((w.alloc (.cells #[.pointer (some ⟨q,0,none⟩)] 133)).alloc (.cells #[.slice none 0 0,.slice none 0 0] 83)).alloc (.cells #[.slice none 0 0,.slice none 0 0] 83)):=by have Y:=((((Ws.start h).box (t:=133) (xs:=[.pointer (some ⟨q,0,none⟩)])).box (t:=83) (xs:=[.slice none 0 0,.slice none 0 0])).box (t:=83) (xs:=[.slice none 0 0,.slice none 0 0]));simpa only [World.size_alloc] using Y
 have c:=Hm h0;clear h0 h G
 go_enter Tryz.func247,Tryz.ntmps247
 have D:=(c.o.b _ (mC (mC (List.mem_singleton.2 rfl)))).1.2.1 0 _ rfl;have I:=Hm (wcod_c q ba bc bs p w.heap.size (w.heap.size+2) _ c.o.r HA.o hl D (by omega) (by omega) c.o.b0 (by omega) (λa ha hx e=>by have:=Z.o a ha hx;omega) V)
 go_wp2_with fail
 refine (I.o).mono ?_
 rintro e w1 ⟨j,s⟩
 rcases hM:Xw bs bc.E p with ⟨er,at_⟩|⟨x,p1⟩
 . rw [hM] at s;subst s
   refine ⟨rfl,⟨j.os.trans c.o.g.os,j.tape.trans c.o.g.tape,j.output.trans c.o.g.output,Nat.le_trans c.o.g.size j.size,λk hk' hne=>(j.block k (Nat.lt_of_lt_of_le hk' c.o.g.size) (by simpa using hne) (by omega)).trans (c.o.g.block k hk' hne)⟩,?_⟩
   simp only [hM]
 have B:=Hm hM;rw [hM] at s;obtain ⟨rfl,F,z,u,A,y,r,d,f,l⟩:=s;have n:=Hm (c.o.k2 U j F f);have m:=Hm d;have S:=l.2.1 0 _ rfl;have R:=l.2.1 1 _ rfl;have O:=n.o.b0.2.1 0 _ rfl;have M:=n.o.b0.2.1 1 _ rfl;have L:=n.o.b0.2.2 0;have J:=n.o.b0.2.2 1;clear j F hM d f l I c D;have C:=Hm ((n.o.set0 H.o 0 (.slice z x.locs.length u)).set0 H.o 1 (.slice A x.body.length y))
 go_wp2_with fail
 exact bodyPost_ret (v:=.agg #[.slice z x.locs.length u,.slice A x.body.length y]) (by simp [results,Tryz.results247,go_sem,S,R,O,M]) rfl (by
  refine ⟨C.o.g,?_⟩
  simp only [B.o]
  exact ⟨[.slice z x.locs.length u,.slice A x.body.length y],_,rfl,m.o,C.o.o,C.o.r⟩)
def JO {α:Type}(T sz:Nat)(Rep:α->List Value->List Qc->Prop)(l:List α)(v:Option Value)(r:Option (List Qc)):Prop:=∃ v' c k,v=some v'/\r=some (⟨T,sz,l.length,v',c⟩::k)/\LR Rep l c k
structure MR (m:Mod)(cells:List Value)(L:List (List Qc)):Prop where
 cl:13<=cells.length
 ll:L.length=11
 hs:cells[7]?=some (.bool m.hasS)
 st:cells[8]?=some (.int .i64 m.start)
 types:JO 92 2 RFT m.types cells[0]? L[0]?
 imps:JO 100 9 RImp m.imps cells[1]? L[1]?
 funcs:JO 2 1 RInt m.funcs cells[2]? L[2]?
 tabs:JO 96 3 Gz m.tabs cells[3]? L[3]?
 mems:JO 96 3 Gz m.mems cells[4]? L[4]?
 globs:JO 107 3 X5 m.globs cells[5]? L[5]?
 exps:JO 111 3 RExp m.exps cells[6]? L[6]?
 elems:JO 79 2 REle m.elems cells[9]? L[7]?
 codes:JO 83 2 Oq m.codes cells[10]? L[8]?
 datas:JO 85 2 RDat m.datas cells[11]? L[9]?
 customs:JO 72 3 RCus m.customs cells[12]? L[10]?
theorem fl_at {α:Type}:∀ (L:List (List α)) (i:Nat) (r:List α),L[i]?=some r->L.flatten.Perm (r++(L.eraseIdx i).flatten)
 |[],i,r,h=>by simp at h
 |a::L,0,r,h=>by simp at h;subst h;simp
 |a::L,i+1,r,h=>by
  have:=fl_at L i r (by simpa using h)
  simp only [List.flatten_cons,List.eraseIdx_cons_succ]
  exact (this.append_left a).trans (List.perm_append_comm_assoc a r _)
theorem fl_set {α:Type}(L:List (List α))(i:Nat)(r:List α)(h:i<L.length):(L.set i r).flatten.Perm (r++(L.eraseIdx i).flatten):=by
 have:=fl_at (L.set i r) i r (List.getElem?_set_self h)
 rwa [List.eraseIdx_set_eq] at this
theorem JO.off {α:Type}{T sz:Nat}{a:α->List Value->List Qc->Prop}{l:List α}{cells:List Value}{L:List (List Qc)}{i j c b:Nat}{u:Value}{r:List Qc}(h:JO T sz a l cells[i]? L[j]?)(f:c≠i)(d:b≠j):JO T sz a l (cells.set c u)[i]? (L.set b r)[j]?:=by
 rw [List.getElem?_set_ne f,List.getElem?_set_ne d];exact h
theorem JO.offc {α:Type}{T sz:Nat}{a:α->List Value->List Qc->Prop}{l:List α}{cells:List Value}{i b:Nat}{o:Option (List Qc)}{u:Value}(h:JO T sz a l cells[i]? o)(c:b≠i):JO T sz a l (cells.set b u)[i]? o:=by
 rw [List.getElem?_set_ne c];exact h
theorem JO.new {α:Type}{T sz:Nat}{a:α->List Value->List Qc->Prop}{l:List α}{cells:List Value}{L:List (List Qc)}{i j:Nat}{u:Value}{c k}(d:i<cells.length)(b:j<L.length)(h:LR a l c k):JO T sz a l (cells.set i u)[i]? (L.set j (⟨T,sz,l.length,u,c⟩::k))[j]? :=
 ⟨u,c,k,List.getElem?_set_self d,List.getElem?_set_self b,h⟩
theorem JO.at_ {α:Type}{T sz:Nat}{a:α->List Value->List Qc->Prop}{l:List α}{o:Option Value}{L:List (List Qc)}{j:Nat}(h:JO T sz a l o L[j]?):∃ v c k,o=some v/\LR a l c k/\L.flatten.Perm (⟨T,sz,l.length,v,c⟩::((L.eraseIdx j).flatten++k)):=by
 obtain ⟨v,c,k,f,d,b⟩:=h
 refine ⟨v,c,k,f,b,(fl_at L j _ d).trans ?_⟩
 rw [List.cons_append]
 exact (List.perm_append_comm).cons _
theorem JO.back {L:List (List Qc)}{j:Nat}{r:Qc}{k:List Qc}(a:j<L.length):(r::((L.eraseIdx j).flatten++k)).Perm (L.set j (r::k)).flatten:=by
 refine List.Perm.trans ?_ (fl_set L j _ a).symm
 rw [List.cons_append]
 exact (List.perm_append_comm).cons _
theorem MR.set_types {m cells L}(h:MR m cells L){l:List Q1}{u:Value}{c k}(hl:LR RFT l c k):MR { m with types:=l } (cells.set 0 u) (L.set 0 (⟨92,2,l.length,u,c⟩::k)) :=
 ⟨by have:=h.cl;simpa using this,by have:=h.ll;simpa using this,by rw [List.getElem?_set_ne (by decide)];exact h.hs,by rw [List.getElem?_set_ne (by decide)];exact h.st,JO.new (by have:=h.cl;omega) (by have:=h.ll;omega) hl,h.imps.off (by decide) (by decide),h.funcs.off (by decide) (by decide),h.tabs.off (by decide) (by decide),h.mems.off (by decide) (by decide),h.globs.off (by decide) (by decide),h.exps.off (by decide) (by decide),h.elems.off (by decide) (by decide),h.codes.off (by decide) (by decide),h.datas.off (by decide) (by decide),h.customs.off (by decide) (by decide)⟩
theorem MR.set_imps {m cells L}(h:MR m cells L){l:List Imp}{u:Value}{c k}(hl:LR RImp l c k):MR { m with imps:=l } (cells.set 1 u) (L.set 1 (⟨100,9,l.length,u,c⟩::k)) :=
 ⟨by have:=h.cl;simpa using this,by have:=h.ll;simpa using this,by rw [List.getElem?_set_ne (by decide)];exact h.hs,by rw [List.getElem?_set_ne (by decide)];exact h.st,h.types.off (by decide) (by decide),JO.new (by have:=h.cl;omega) (by have:=h.ll;omega) hl,h.funcs.off (by decide) (by decide),h.tabs.off (by decide) (by decide),h.mems.off (by decide) (by decide),h.globs.off (by decide) (by decide),h.exps.off (by decide) (by decide),h.elems.off (by decide) (by decide),h.codes.off (by decide) (by decide),h.datas.off (by decide) (by decide),h.customs.off (by decide) (by decide)⟩
theorem MR.set_funcs {m cells L}(h:MR m cells L){l}{u:Value}{c k}(hl:LR RInt l c k):MR { m with funcs:=l } (cells.set 2 u) (L.set 2 (⟨2,1,l.length,u,c⟩::k)) :=
 ⟨by have:=h.cl;simpa using this,by have:=h.ll;simpa using this,by rw [List.getElem?_set_ne (by decide)];exact h.hs,by rw [List.getElem?_set_ne (by decide)];exact h.st,h.types.off (by decide) (by decide),h.imps.off (by decide) (by decide),JO.new (by have:=h.cl;omega) (by have:=h.ll;omega) hl,h.tabs.off (by decide) (by decide),h.mems.off (by decide) (by decide),h.globs.off (by decide) (by decide),h.exps.off (by decide) (by decide),h.elems.off (by decide) (by decide),h.codes.off (by decide) (by decide),h.datas.off (by decide) (by decide),h.customs.off (by decide) (by decide)⟩
theorem MR.set_tabs {m cells L}(h:MR m cells L){l:List Qq}{u:Value}{c k}(hl:LR Gz l c k):MR { m with tabs:=l } (cells.set 3 u) (L.set 3 (⟨96,3,l.length,u,c⟩::k)) :=
 ⟨by have:=h.cl;simpa using this,by have:=h.ll;simpa using this,by rw [List.getElem?_set_ne (by decide)];exact h.hs,by rw [List.getElem?_set_ne (by decide)];exact h.st,h.types.off (by decide) (by decide),h.imps.off (by decide) (by decide),h.funcs.off (by decide) (by decide),JO.new (by have:=h.cl;omega) (by have:=h.ll;omega) hl,h.mems.off (by decide) (by decide),h.globs.off (by decide) (by decide),h.exps.off (by decide) (by decide),h.elems.off (by decide) (by decide),h.codes.off (by decide) (by decide),h.datas.off (by decide) (by decide),h.customs.off (by decide) (by decide)⟩
theorem MR.set_mems {m cells L}(h:MR m cells L){l:List Qq}{u:Value}{c k}(hl:LR Gz l c k):MR { m with mems:=l } (cells.set 4 u) (L.set 4 (⟨96,3,l.length,u,c⟩::k)) :=
 ⟨by have:=h.cl;simpa using this,by have:=h.ll;simpa using this,by rw [List.getElem?_set_ne (by decide)];exact h.hs,by rw [List.getElem?_set_ne (by decide)];exact h.st,h.types.off (by decide) (by decide),h.imps.off (by decide) (by decide),h.funcs.off (by decide) (by decide),h.tabs.off (by decide) (by decide),JO.new (by have:=h.cl;omega) (by have:=h.ll;omega) hl,h.globs.off (by decide) (by decide),h.exps.off (by decide) (by decide),h.elems.off (by decide) (by decide),h.codes.off (by decide) (by decide),h.datas.off (by decide) (by decide),h.customs.off (by decide) (by decide)⟩
theorem MR.set_globs {m cells L}(h:MR m cells L){l:List Jv}{u:Value}{c k}(hl:LR X5 l c k):MR { m with globs:=l } (cells.set 5 u) (L.set 5 (⟨107,3,l.length,u,c⟩::k)) :=
 ⟨by have:=h.cl;simpa using this,by have:=h.ll;simpa using this,by rw [List.getElem?_set_ne (by decide)];exact h.hs,by rw [List.getElem?_set_ne (by decide)];exact h.st,h.types.off (by decide) (by decide),h.imps.off (by decide) (by decide),h.funcs.off (by decide) (by decide),h.tabs.off (by decide) (by decide),h.mems.off (by decide) (by decide),JO.new (by have:=h.cl;omega) (by have:=h.ll;omega) hl,h.exps.off (by decide) (by decide),h.elems.off (by decide) (by decide),h.codes.off (by decide) (by decide),h.datas.off (by decide) (by decide),h.customs.off (by decide) (by decide)⟩
theorem MR.set_exps {m cells L}(h:MR m cells L){l:List Exp}{u:Value}{c k}(hl:LR RExp l c k):MR { m with exps:=l } (cells.set 6 u) (L.set 6 (⟨111,3,l.length,u,c⟩::k)) :=
 ⟨by have:=h.cl;simpa using this,by have:=h.ll;simpa using this,by rw [List.getElem?_set_ne (by decide)];exact h.hs,by rw [List.getElem?_set_ne (by decide)];exact h.st,h.types.off (by decide) (by decide),h.imps.off (by decide) (by decide),h.funcs.off (by decide) (by decide),h.tabs.off (by decide) (by decide),h.mems.off (by decide) (by decide),h.globs.off (by decide) (by decide),JO.new (by have:=h.cl;omega) (by have:=h.ll;omega) hl,h.elems.off (by decide) (by decide),h.codes.off (by decide) (by decide),h.datas.off (by decide) (by decide),h.customs.off (by decide) (by decide)⟩
theorem MR.set_elems {m cells L}(h:MR m cells L){l:List Ele}{u:Value}{c k}(hl:LR REle l c k):MR { m with elems:=l } (cells.set 9 u) (L.set 7 (⟨79,2,l.length,u,c⟩::k)) :=
 ⟨by have:=h.cl;simpa using this,by have:=h.ll;simpa using this,by rw [List.getElem?_set_ne (by decide)];exact h.hs,by rw [List.getElem?_set_ne (by decide)];exact h.st,h.types.off (by decide) (by decide),h.imps.off (by decide) (by decide),h.funcs.off (by decide) (by decide),h.tabs.off (by decide) (by decide),h.mems.off (by decide) (by decide),h.globs.off (by decide) (by decide),h.exps.off (by decide) (by decide),JO.new (by have:=h.cl;omega) (by have:=h.ll;omega) hl,h.codes.off (by decide) (by decide),h.datas.off (by decide) (by decide),h.customs.off (by decide) (by decide)⟩
theorem MR.set_codes {m cells L}(h:MR m cells L){l:List Cod}{u:Value}{c k}(hl:LR Oq l c k):MR { m with codes:=l } (cells.set 10 u) (L.set 8 (⟨83,2,l.length,u,c⟩::k)) :=
 ⟨by have:=h.cl;simpa using this,by have:=h.ll;simpa using this,by rw [List.getElem?_set_ne (by decide)];exact h.hs,by rw [List.getElem?_set_ne (by decide)];exact h.st,h.types.off (by decide) (by decide),h.imps.off (by decide) (by decide),h.funcs.off (by decide) (by decide),h.tabs.off (by decide) (by decide),h.mems.off (by decide) (by decide),h.globs.off (by decide) (by decide),h.exps.off (by decide) (by decide),h.elems.off (by decide) (by decide),JO.new (by have:=h.cl;omega) (by have:=h.ll;omega) hl,h.datas.off (by decide) (by decide),h.customs.off (by decide) (by decide)⟩
theorem MR.set_datas {m cells L}(h:MR m cells L){l:List Dat}{u:Value}{c k}(hl:LR RDat l c k):MR { m with datas:=l } (cells.set 11 u) (L.set 9 (⟨85,2,l.length,u,c⟩::k)) :=
 ⟨by have:=h.cl;simpa using this,by have:=h.ll;simpa using this,by rw [List.getElem?_set_ne (by decide)];exact h.hs,by rw [List.getElem?_set_ne (by decide)];exact h.st,h.types.off (by decide) (by decide),h.imps.off (by decide) (by decide),h.funcs.off (by decide) (by decide),h.tabs.off (by decide) (by decide),h.mems.off (by decide) (by decide),h.globs.off (by decide) (by decide),h.exps.off (by decide) (by decide),h.elems.off (by decide) (by decide),h.codes.off (by decide) (by decide),JO.new (by have:=h.cl;omega) (by have:=h.ll;omega) hl,h.customs.off (by decide) (by decide)⟩
theorem MR.set_customs {m cells L}(h:MR m cells L){l:List Cus}{u:Value}{c k}(hl:LR RCus l c k):MR { m with customs:=l } (cells.set 12 u) (L.set 10 (⟨72,3,l.length,u,c⟩::k)) :=
 ⟨by have:=h.cl;simpa using this,by have:=h.ll;simpa using this,by rw [List.getElem?_set_ne (by decide)];exact h.hs,by rw [List.getElem?_set_ne (by decide)];exact h.st,h.types.off (by decide) (by decide),h.imps.off (by decide) (by decide),h.funcs.off (by decide) (by decide),h.tabs.off (by decide) (by decide),h.mems.off (by decide) (by decide),h.globs.off (by decide) (by decide),h.exps.off (by decide) (by decide),h.elems.off (by decide) (by decide),h.codes.off (by decide) (by decide),h.datas.off (by decide) (by decide),JO.new (by have:=h.cl;omega) (by have:=h.ll;omega) hl⟩
theorem MR.set_start {m cells L}(h:MR m cells L)(x:Int):MR { m with hasS:=true,start:=x } ((cells.set 7 (.bool true)).set 8 (.int .i64 x)) L :=
 ⟨by have:=h.cl;simpa using this,h.ll,by rw [List.getElem?_set_ne (by decide)];exact List.getElem?_set_self (by have:=h.cl;omega),List.getElem?_set_self (by have:=h.cl;simp;omega),(h.types.offc (by decide)).offc (by decide),(h.imps.offc (by decide)).offc (by decide),(h.funcs.offc (by decide)).offc (by decide),(h.tabs.offc (by decide)).offc (by decide),(h.mems.offc (by decide)).offc (by decide),(h.globs.offc (by decide)).offc (by decide),(h.exps.offc (by decide)).offc (by decide),(h.elems.offc (by decide)).offc (by decide),(h.codes.offc (by decide)).offc (by decide),(h.datas.offc (by decide)).offc (by decide),(h.customs.offc (by decide)).offc (by decide)⟩
theorem MR.set_far {m cells L}(h:MR m cells L){i:Nat}(a:13<=i)(u:Value):MR m (cells.set i u) L :=
 ⟨by have:=h.cl;simpa using this,h.ll,by rw [List.getElem?_set_ne (by omega)];exact h.hs,by rw [List.getElem?_set_ne (by omega)];exact h.st,h.types.offc (by have:=h.cl;omega),h.imps.offc (by have:=h.cl;omega),h.funcs.offc (by have:=h.cl;omega),h.tabs.offc (by have:=h.cl;omega),h.mems.offc (by have:=h.cl;omega),h.globs.offc (by have:=h.cl;omega),h.exps.offc (by have:=h.cl;omega),h.elems.offc (by have:=h.cl;omega),h.codes.offc (by have:=h.cl;omega),h.datas.offc (by have:=h.cl;omega),h.customs.offc (by have:=h.cl;omega)⟩
theorem ssz_c (x:Mod)(E:Option Addr)(c1:Nat)(D:Option Addr)(c2:Nat)(C:Option Addr)(c3:Nat)(B:Option Addr)(t:Nat)(A:Option Addr)(r:Nat)(z:Option Addr)(q:Nat)(y:Option Addr)(p:Nat)(v:Option Addr)(n:Nat)(u:Option Addr)(m:Nat)(k:Option Addr)(f:Nat)(j:Option Addr)(d:Nat)(w:World)(hl:x.Ln)(s:Int)(c:(if x.hasS then 1 else 0:Int)=s) :
    Calls Tryz.prog 39 #[.agg #[.slice E x.types.length c1,.slice D x.imps.length c2,.slice C x.funcs.length c3,.slice B x.tabs.length t,.slice A x.mems.length r,.slice z x.globs.length q,.slice y x.exps.length p,.bool x.hasS,.int .i64 x.start,.slice v x.elems.length n,.slice u x.codes.length m,.slice k x.datas.length f,.slice j x.customs.length d]] w λe w'=>∃ g,e=.returned (.slice (some ⟨g,0,none⟩) 12 12)/\w.heap.size<=g/\Bk w' g [.int .i64 0,.int .i64 x.types.length,.int .i64 x.imps.length,.int .i64 x.funcs.length,.int .i64 x.tabs.length,.int .i64 x.mems.length,.int .i64 x.globs.length,.int .i64 x.exps.length,.int .i64 s,.int .i64 x.elems.length,.int .i64 x.codes.length,.int .i64 x.datas.length]/\Below w.heap.size w w':=by
 obtain ⟨l1,l2,l3,l4,l5,l6,l7,Z,Y,I,H⟩:=hl
 go_enter Tryz.func39,Tryz.ntmps39
 go_upto_region 1 with fail
 refine Ql (λW=>Bk W w.heap.size [.slice E x.types.length c1,.slice D x.imps.length c2,.slice C x.funcs.length c3,.slice B x.tabs.length t,.slice A x.mems.length r,.slice z x.globs.length q,.slice y x.exps.length p,.bool x.hasS,.int .i64 x.start,.slice v x.elems.length n,.slice u x.codes.length m,.slice k x.datas.length f,.slice j x.customs.length d]/\Below w.heap.size w W) ⟨Bk.new,bF.alloc lR _⟩ ?_
 rintro W ⟨a,b⟩;have X:=a.2.1 0 _ rfl;have V:=a.2.1 1 _ rfl;have U:=a.2.1 2 _ rfl;have S:=a.2.1 3 _ rfl;have R:=a.2.1 4 _ rfl;have O:=a.2.1 5 _ rfl;have M:=a.2.1 6 _ rfl;have L:=a.2.1 7 _ rfl;have J:=a.2.1 9 _ rfl;have G:=a.2.1 10 _ rfl;have F:=a.2.1 11 _ rfl;have l:=Hm c;clear c;generalize x.hasS=hs at *
 cases hs
 . have e:Hid (s=0):=by show s=_;have:=l.o;simpa using this.symm
   clear l
   go_wp2
   go_ret
   rw [e.o]
   exact ⟨W.heap.size,rfl,b.size,Bk.new,b.trans (((Below.refl _ W).alloc lR _).mono b.size)⟩
 . have e:Hid (s=1):=by show s=_;have:=l.o;simpa using this.symm
   clear l
   go_wp2
   go_ret
   rw [e.o]
   exact ⟨W.heap.size,rfl,b.size,Bk.new,b.trans (((Below.refl _ W).alloc lR _).mono b.size)⟩
end Go.Proofs.YtedcmcdbejjgcaaGreat
