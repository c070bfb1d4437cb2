import Derived.Test.YtedcmcdbejjgcaaGreatGaa
import Derived.Test.YtedcmcdbejjgcaaGreatGao
import Derived.Test.YtedcmcdbejjgcaaGreatGai
import Derived.ScopeJumps
import Derived.Deep.Cut
set_option linter.all false
set_option maxHeartbeats 400000000
set_option maxRecDepth 100000
namespace Go.Proofs.YtedcmcdbejjgcaaGreat
open Go.RowKit Go.Sort
abbrev U8 (xs:List Int):List Value:=xs.map λx=>Value.int .u8 x
theorem copyB_step (k:Nat)(xs:List Int)(h:k<xs.length):(U8 (xs.take k++(List.replicate xs.length 0).drop k)).set k (.int .u8 (xs.getD k 0))=U8 (xs.take (k+1)++(List.replicate xs.length 0).drop (k+1)):=by
 have b:(List.replicate xs.length (0:Int)).drop k=0::(List.replicate xs.length (0:Int)).drop (k+1):=by
  rw [List.drop_eq_getElem_cons (by simpa using h)];simp
 have a:xs.take (k+1)=xs.take k++[xs.getD k 0]:=by
  rw [List.take_succ_eq_append_getElem h];simp [List.getD,h]
 rw [b,a]
 simp only [U8,List.map_append,List.map_cons,List.append_assoc,List.cons_append,List.nil_append,List.map_nil]
 rw [List.set_append_right _ _ (by simp;omega)]
 simp [Nat.min_eq_left (Nat.le_of_lt h)]
theorem toB_c (a)(c:Nat)(xs:List Int)(w)(D:xs.length<=1048576)(t:HI .u8 0 w a xs) :
    Calls Tryz.prog 8 #[.slice a xs.length c] w λe w'=>e=.returned (.slice (some ⟨w.heap.size,0,none⟩) xs.length xs.length)/\w'.ownsRow w.heap.size 5 1 (.slice (some ⟨w.heap.size,0,none⟩) xs.length xs.length) xs.length (U8 xs)/\Below w.heap.size w w':=by
 have q:=run_make_row' (P:=Tryz.prog) 22 5 (.int .u8 0) 1 Tryz.underlying22 Tryz.info5 rfl .i64 .i64 xs.length (by omega) (by omega);have y:=Hm t;clear t
 have m:(w.alloc (.cells (madeCells #[.int .u8 0] xs.length) 5)).ownsRow w.heap.size 5 1 (.slice (some ⟨w.heap.size,0,none⟩) xs.length xs.length) xs.length (U8 (xs.take 0++(List.replicate xs.length 0).drop 0)):=by
  have:=World.ownsRow_lit (base:=w.heap.size) (e:=5) (size:=1) w (madeCells #[.int .u8 0] xs.length) xs.length lR (by unfold maxLen;omega) (by simp [madeCells])
  have e:(madeCells #[.int .u8 0] xs.length).toList=U8 (xs.take 0++(List.replicate xs.length 0).drop 0):=by
   apply List.ext_getElem?
   intro i
   by_cases s:i<xs.length
   . simp [madeCells,s,Nat.mod_one]
   . simp [madeCells,s]
  rw [e] at this
  exact this
 have v:=Hm m;clear m
 go_enter Tryz.func8,Tryz.ntmps8
 go_wp2
 go_loopw [4] (λi wr=>∃ k:Nat,k<=xs.length/\i=.int .i64 k/\wr.ownsRow w.heap.size 5 1 (.slice (some ⟨w.heap.size,0,none⟩) xs.length xs.length) xs.length (U8 (xs.take k++(List.replicate xs.length 0).drop k))/\Below w.heap.size w wr) (λi _=>xs.length-(intOf i).toNat)
 case atStart=>exact ⟨0,Nat.zero_le _,rfl,v.o,bF.alloc lR _⟩
 case round =>
  obtain ⟨k,E,rfl,l,n⟩:=hrel;clear v q
  by_cases f:k<xs.length
  . have A:(k:Int)<(xs.length:Int):=by omega
    rcases y.o with j|⟨b,o,ea,_,r⟩
    . subst j;simp at f
    have d:wr.cell? ⟨b,o+k,none⟩=some (.int .u8 (xs.getD k 0)):=(n.cell (p:=⟨b,o+k,none⟩) (World.block_lt_of_cell? w _ (r k f))).trans (r k f);subst ea
    have g:∃ u,wr.cell? ⟨w.heap.size,k,none⟩=some u:=by
     rw [l.cellAt k (by omega)]
     exact ⟨_,List.getElem?_eq_getElem (by simp;omega)⟩
    obtain ⟨u,C⟩:=g;have B:=l.frozenAt k;obtain ⟨x,j⟩:∃ x,x=xs.getD k 0:=⟨_,rfl⟩;obtain ⟨s1,z⟩:=l.stored k (.int .u8 x);rw [j,copyB_step k xs f,<- j] at s1;rw [<- j] at d;have R:=And.intro s1 (n.setCell (p:=⟨w.heap.size,k,none⟩) lR (.int .u8 x));clear s1 z l n r j y
    go_wp2
    go_roundw
    case rel=>exact ⟨k+1,by omega,by go_num,R.1,R.2⟩
    case measure=>simp [intOf];omega
  . have e:k=xs.length:=by omega
    subst e;rw [List.take_length,List.drop_of_length_le (by simp),List.append_nil] at l
    go_wp2
    go_ret
    exact ⟨rfl,l,n⟩
def Bk (W:World)(g:Nat)(cs:List Value):Prop:=g<W.heap.size/\(∀ j v,cs[j]?=some v->W.cell? ⟨g,j,none⟩=some v)/\∀ j,W.frozen? ⟨g,j,none⟩=false
theorem Bk.keep {W W' g cs}(h:Bk W g cs)(a:Below W.heap.size W W'):Bk W' g cs :=
 ⟨Nat.lt_of_lt_of_le h.1 a.size,λj v hj=>(a.cell (p:=⟨g,j,none⟩) h.1).trans (h.2.1 j v hj),λj=>(a.frozen (p:=⟨g,j,none⟩) h.1).trans (h.2.2 j)⟩
theorem Bk.new {w:World}{cs:List Value}{t:TypeId}:Bk (w.alloc (.cells cs.toArray t)) w.heap.size cs :=
 ⟨by simp,λj v hj=>Qw rfl (by simpa using hj),λj=>World.frozen?_alloc_new _ _ _ _⟩
theorem Bk.past {w g cs}{o:Obj}(h:Bk w g cs):Bk (w.alloc o) g cs:=h.keep (bF.alloc lR _)
theorem Bk.set {W}{g j:Nat}{v:Value}{cs}(h:Bk W g cs):Bk (W.setCell ⟨g,j,none⟩ v) g (cs.set j v):=by
 refine ⟨by simpa using h.1,λi u hi=>?_,λi=>by rw [World.frozen?_setCell];exact h.2.2 i⟩
 by_cases e:j=i
 . subst e
   have b:j<cs.length:=by
    rcases Nat.lt_or_ge j cs.length with a|a
    . exact a
    . rw [List.getElem?_eq_none (by simpa using a)] at hi;cases hi
   rw [List.getElem?_set_self b] at hi
   cases hi
   exact QE (h.2.1 j _ (List.getElem?_eq_getElem b))
 . rw [List.getElem?_set_ne e] at hi
   exact Qd (h.2.1 i u hi) e
open Go.RowKit
theorem specUtf8_any (a:Option Addr)(cap:Nat)(bs:List Int)(w:World)(hl:bs.length<=1099511627776)(Z:HasB w a bs)(hB:Qm bs) :
    Calls Tryz.prog 127 #[.slice a bs.length cap] w λe z=>e=.returned (.int .i64 (uf 0 0 0 0 bs))/\w=z:=by
 obtain ⟨R,G⟩:∃ R,R=uf 0 0 0 0 bs:=⟨_,rfl⟩;have H:Hid (uf 0 0 0 0 (bs.drop 0)=R):=by rw [G];rfl
 rw [<- G];clear G
 rcases Z with U|⟨b1,A,rfl,s⟩
 . subst U;have e:R=-1:=by rw [<- H.o];rfl
   subst e;clear H hB hl
   go_enter Tryz.func127,Tryz.ntmps127
   go_wp2
   refine wp_loop_rounds 1 ?_
   rw [rounds_succ]
   go_wp2
   go_ret
   exact ⟨rfl,rfl⟩
 . have y:Hid (∀ i,i<bs.length->w.cell? ⟨b1,A+i,none⟩=some (.int .u8 (bs.getD i 0))):=s;clear s
   go_enter Tryz.func127,Tryz.ntmps127
   go_wp2
   go_loop [4] (λi=>∃ p:Nat,p<=bs.length/\i=.int .i64 p/\Hid (uf 0 0 0 p (bs.drop p)=R)) (λi=>bs.length-(intOf i).toNat)
   case atStart=>exact ⟨0,Nat.zero_le _,rfl,H⟩
   case round =>
    obtain ⟨p,hp,rfl,J⟩:=hrel
    by_cases j:p<bs.length
    . have S:w.cell? ⟨b1,A+p,none⟩=some (.int .u8 (bs.getD p 0)):=y.o p j;have V:(p:Int)<(bs.length:Int):=by omega
      obtain ⟨c,d⟩:∃ c,c=bs.getD p 0:=⟨_,rfl⟩;rw [<- d] at S;have M:Hid (c=bs.getD p 0):=d;have O:=hB p;rw [<- d] at O;obtain ⟨u,t⟩:=O;have hn:=ldN_bd c;clear d
      by_cases f:ldN c<0
      . have e:R=p:=by rw [<- J.o,uf_bad j (by rw [<- M.o];exact f)]
        subst e
        go_wp2_with (go_at_call 207;refine (follow_any _ _ u t).mono ?_;rintro e z ⟨rfl,rfl⟩)
        go_ret
        exact ⟨rfl,rfl⟩
      . have I:Hid (uf (ldN c).toNat (XT c) (XU c) (p+1) (bs.drop (p+1))=R):=by
          have:=J.o
          rw [uf_lead j (by rw [<- M.o];exact f),<- M.o] at this
          exact this
        go_wp2_with (go_at_call 207;refine (follow_any _ _ u t).mono ?_;rintro e z ⟨rfl,rfl⟩)
        go_loop [6,7,8] (λlv hv kv=>∃ (k l:Nat) (n r:Int),(k:Int)+l=ldN c+1/\1<=k/\p+k<=bs.length/\kv=.int .i64 k/\lv=.int .u8 n/\hv=.int .u8 r/\Hid (uf l n r (p+k) (bs.drop (p+k))=R)) (λ_ _ kv=>5-(intOf kv).toNat)
        case atStart=>exact ⟨1,(ldN c).toNat,_,_,by omega,by omega,by omega,rfl,rfl,rfl,I⟩
        case round =>
         obtain ⟨k,l,n,r,X,Y,B,rfl,rfl,rfl,v⟩:=hrel;clear S
         cases l with
         |zero =>
          have E:ldN c<(k:Int):=by omega
          go_wp2
          go_round
          case rel=>exact ⟨p+k,B,by rw [show ((p+k:Nat):Int)=(p:Int)+1+ldN c by omega],(uf_any0 n r _).trans v.o⟩
          case measure=>simp [intOf];omega
         |succ l =>
          have E:(k:Int)<=ldN c:=by omega
          by_cases b:p+k<bs.length
          . have d2:w.cell? ⟨b1,A+(p+k),none⟩=some (.int .u8 (bs.getD (p+k) 0)):=y.o (p+k) b;obtain ⟨q,g⟩:∃ q,q=bs.getD (p+k) 0:=⟨_,rfl⟩;rw [<- g] at d2;have m:Hid (q=bs.getD (p+k) 0):=g;clear g;have F:(p:Int)+k<(bs.length:Int):=by omega
            by_cases D:q<n
            . have e:R=((p+k:Nat):Int):=by rw [<- v.o,uf_out b (by rw [<- m.o];exact .inl D)]
              subst e
              go_wp2
              go_ret
              exact ⟨rfl,rfl⟩
            . by_cases C:r<q
              . have e:R=((p+k:Nat):Int):=by rw [<- v.o,uf_out b (by rw [<- m.o];exact .inr C)]
                subst e
                go_wp2
                go_ret
                exact ⟨rfl,rfl⟩
              . have L:Hid (uf l 128 191 (p+k+1) (bs.drop (p+k+1))=R):=by
                  have:=v.o
                  rw [uf_next b (by rw [<- m.o];omega)] at this
                  exact this
                go_wp2
                go_round
                case rel=>exact ⟨k+1,l,128,191,by omega,by omega,by omega,by go_num,rfl,rfl,L⟩
                case measure=>simp [intOf];omega
          . have e:R=(bs.length:Int):=by rw [<- v.o,uf_endl (by omega)];omega
            subst e;have F:(bs.length:Int)<=(p:Int)+k:=by omega
            go_wp2
            go_ret
            exact ⟨rfl,rfl⟩
    . have e:R=-1:=by rw [<- J.o,uf_end0 (by omega)]
      subst e
      go_wp2
      go_ret
      exact ⟨rfl,rfl⟩
theorem Ob (c:Int)(w:World)(h0:0<=c)(h1:c<=255) :
    Calls Tryz.prog 269 #[.int .u8 c] w λe w'=>e=.returned (.tuple #[.int .i64 (ldN c),.int .u8 (XT c),.int .u8 (XU c)])/\w=w':=by
 rcases (show c<128\/(128<=c/\c<194)\/(194<=c/\c<224)\/c=224\/(225<=c/\c<237)\/c=237\/(238<=c/\c<240)\/c=240\/(241<=c/\c<244)\/c=244\/244<c by omega) with h|⟨h,a⟩|⟨h,a⟩|rfl|⟨h,a⟩|rfl|⟨h,a⟩|rfl|⟨h,a⟩|rfl|h
 . rw [show ldN c=0 by unfold ldN;omega,show XT c=0 by unfold XT;omega,show XU c=0 by unfold XU;omega]
   go_enter Tryz.func269,Tryz.ntmps269
   go_wp2
   go_ret3
   exact ⟨rfl,rfl⟩
 . rw [show ldN c=-1 by unfold ldN;omega,show XT c=0 by unfold XT;omega,show XU c=0 by unfold XU;omega]
   go_enter Tryz.func269,Tryz.ntmps269
   go_wp2
   go_ret3
   exact ⟨rfl,rfl⟩
 . rw [show ldN c=1 by unfold ldN;omega,show XT c=128 by unfold XT;omega,show XU c=191 by unfold XU;omega]
   go_enter Tryz.func269,Tryz.ntmps269
   go_wp2
   go_ret3
   exact ⟨rfl,rfl⟩
 . rw [show ldN 224=2 by decide,show XT 224=160 by decide,show XU 224=191 by decide]
   go_enter Tryz.func269,Tryz.ntmps269
   go_wp2
   go_ret3
   exact ⟨rfl,rfl⟩
 . rw [show ldN c=2 by unfold ldN;omega,show XT c=128 by unfold XT;omega,show XU c=191 by unfold XU;omega]
   go_enter Tryz.func269,Tryz.ntmps269
   go_wp2
   go_ret3
   exact ⟨rfl,rfl⟩
 . rw [show ldN 237=2 by decide,show XT 237=128 by decide,show XU 237=159 by decide]
   go_enter Tryz.func269,Tryz.ntmps269
   go_wp2
   go_ret3
   exact ⟨rfl,rfl⟩
 . rw [show ldN c=2 by unfold ldN;omega,show XT c=128 by unfold XT;omega,show XU c=191 by unfold XU;omega]
   go_enter Tryz.func269,Tryz.ntmps269
   go_wp2
   go_ret3
   exact ⟨rfl,rfl⟩
 . rw [show ldN 240=3 by decide,show XT 240=144 by decide,show XU 240=191 by decide]
   go_enter Tryz.func269,Tryz.ntmps269
   go_wp2
   go_ret3
   exact ⟨rfl,rfl⟩
 . rw [show ldN c=3 by unfold ldN;omega,show XT c=128 by unfold XT;omega,show XU c=191 by unfold XU;omega]
   go_enter Tryz.func269,Tryz.ntmps269
   go_wp2
   go_ret3
   exact ⟨rfl,rfl⟩
 . rw [show ldN 244=3 by decide,show XT 244=128 by decide,show XU 244=143 by decide]
   go_enter Tryz.func269,Tryz.ntmps269
   go_wp2
   go_ret3
   exact ⟨rfl,rfl⟩
 . rw [show ldN c=-1 by unfold ldN;omega,show XT c=0 by unfold XT;omega,show XU c=0 by unfold XU;omega]
   go_enter Tryz.func269,Tryz.ntmps269
   go_wp2
   go_ret3
   exact ⟨rfl,rfl⟩
def jumps (J:Nat->Act->World->Prop)(Q:Exit->Act->World->Prop):Exit->Act->World->Prop
 |.goto l,a,w=>J l a w
 |e,a,w=>Q e a w
theorem wp_scope_many {P:Program}{a:Act}{w:World}{Q:Exit->Act->World->Prop}{c:Code}(J:Nat->Act->World->Prop)(μ:Nat->Act->World->Nat)
    (first:c.wp P (jumps J Q) a w)
    (p:∀ l a w,J l a w->∃ rest,findLabel c l=some rest/\rest.wp P (jumps (λl' a' w'=>J l' a' w'/\μ l' a' w'<μ l a w) Q) a w):(Code.scope c).wp P Q a w:=by
 intro b k u
 have D:∀ l rest,findLabel c l=some rest->gotoIn l (.inScope c::k)=some (.code rest::.inScope c::k):=λl rest A=>by simp [gotoIn,A]
 have z:∀ n l a w rest,μ l a w=n->J l a w->findLabel c l=some rest->∃ e a' w',Q e a' w'/\Arrives P (lone (b.at a (.code rest::.inScope c::k)) u w) b k u e a' w':=by
  intro n
  induction n using Nat.strongRecOn with
  |_ n ih =>
   intro l a w rest H G A
   obtain ⟨y,s,E⟩:=p l a w G;rw [A] at s;obtain rfl:=Option.some.inj s;obtain ⟨e,m,g,o,d⟩:=E b (.inScope c::k) u
   cases e with
   |normal=>exact ⟨.normal,m,g,o,Steps.trans d (.one step_inScope)⟩
   |exit id=>exact ⟨.exit id,m,g,o,λk' hk=>d k' (by simp [exitTo,hk])⟩
   |goto l' =>
    obtain ⟨t,F⟩:=o;obtain ⟨f,q,_⟩:=p l' m g t;obtain ⟨B,C,v,r,j⟩:=ih _ (by omega) l' m g f rfl t q
    exact ⟨B,C,v,r,.of_steps (d _ (D l' f q)) j⟩
   |ret=>exact ⟨_,m,g,o,d⟩
   |panic ch=>exact ⟨_,m,g,o,d⟩
   |outgrown=>exact ⟨_,m,g,o,d⟩
 obtain ⟨e,m,g,o,d⟩:=first b (.inScope c::k) u
 cases e with
 |normal=>exact ⟨.normal,m,g,o,.head step_scope (Steps.trans d (.one step_inScope))⟩
 |exit id=>exact ⟨.exit id,m,g,o,λk' hk=>.head step_scope (d k' (by simp [exitTo,hk]))⟩
 |goto l' =>
  obtain ⟨f,q,_⟩:=p l' m g o;obtain ⟨B,C,v,r,j⟩:=z _ l' m g f rfl o q
  exact ⟨B,C,v,r,.of_steps (.head step_scope (d _ (D l' f q))) j⟩
 |ret=>exact ⟨_,m,g,o,.of_steps (.one step_scope) d⟩
 |panic ch=>exact ⟨_,m,g,o,.of_steps (.one step_scope) d⟩
 |outgrown=>exact ⟨_,m,g,o,.of_steps (.one step_scope) d⟩
theorem wp_skip_seq {P:Program}{a:Act}{w:World}{Q:Exit->Act->World->Prop}{r:Code}(h:r.wp P Q a w):(Code.skip.seq r).wp P Q a w:=wp_seq (wp_skip h)
theorem wp_scope_three {P:Program}{a:Act}{w:World}{Q:Exit->Act->World->Prop}{c k m n:Code}(f g j:Act->World->Prop)(μ0 μ1 μ2:Act->World->Nat)
    (t:findLabel c 0=some (Code.skip.seq k)) (s:findLabel c 2=some (Code.skip.seq m)) (r:findLabel c 1=some (Code.skip.seq n))
    (first:(∀ a w,f a w->k.wp P (jumps (fun|0,a,w=>f a w|1,a,w=>j a w|2,a,w=>g a w|_,_,_=>False) Q) a w)->c.wp P (jumps (fun|0,a,w=>f a w|1,a,w=>j a w|2,a,w=>g a w|_,_,_=>False) Q) a w)
    (q:∀ a w,f a w->(∀ a' w',g a' w'->μ1 a' w'<μ0 a w->m.wp P (jumps (fun | 0,b,v=>f b v/\μ0 b v<μ0 a w | 1,b,v=>j b v/\μ2 b v<μ0 a w | 2,b,v=>g b v/\μ1 b v<μ0 a w | _,_,_=>False) Q) a' w') ->
     k.wp P (jumps (fun | 0,b,v=>f b v/\μ0 b v<μ0 a w | 1,b,v=>j b v/\μ2 b v<μ0 a w | 2,b,v=>g b v/\μ1 b v<μ0 a w | _,_,_=>False) Q) a w)
    (p1:∀ a w,g a w->m.wp P (jumps (fun|0,b,v=>f b v/\μ0 b v<μ1 a w|1,b,v=>j b v/\μ2 b v<μ1 a w|2,b,v=>g b v/\μ1 b v<μ1 a w|_,_,_=>False) Q) a w)
    (p:∀ a w,j a w->n.wp P (jumps (λ_ _ _=>False) Q) a w):(Code.scope c).wp P Q a w:=by
 have o:∀ a w,f a w->k.wp P (jumps (fun|0,b,v=>f b v/\μ0 b v<μ0 a w|1,b,v=>j b v/\μ2 b v<μ0 a w|2,b,v=>g b v/\μ1 b v<μ0 a w|_,_,_=>False) Q) a w:=by
  intro a w h
  refine q a w h λa' w' h' hlt=>Code.wp_mono ?_ (p1 a' w' h')
  intro e b v d
  cases e with
  |goto l =>
   match l with
   |0=>exact ⟨d.1,Nat.lt_trans d.2 hlt⟩
   |1=>exact ⟨d.1,Nat.lt_trans d.2 hlt⟩
   |2=>exact ⟨d.1,Nat.lt_trans d.2 hlt⟩
   |_+3=>exact d
  |normal=>exact d
  |exit _=>exact d
  |ret=>exact d
  |panic _=>exact d
  |outgrown=>exact d
 refine wp_scope_many (fun|0,a,w=>f a w|1,a,w=>j a w|2,a,w=>g a w|_,_,_=>False) (fun|0,a,w=>μ0 a w|1,a,w=>μ2 a w|_,a,w=>μ1 a w) (first ?_) ?_
 . intro a w h
   refine Code.wp_mono ?_ (o a w h)
   intro e b v d
   cases e with
   |goto l =>
    match l with
    |0=>exact d.1
    |1=>exact d.1
    |2=>exact d.1
    |_+3=>exact d
   |normal=>exact d
   |exit _=>exact d
   |ret=>exact d
   |panic _=>exact d
   |outgrown=>exact d
 . intro l a w h
   match l with
   |0 =>
    refine ⟨_,t,wp_skip_seq (Code.wp_mono ?_ (o a w h))⟩
    intro e b v d
    cases e with
    |goto l =>
     match l with
     |0=>exact d
     |1=>exact d
     |2=>exact d
     |_+3=>exact d.elim
    |normal=>exact d
    |exit _=>exact d
    |ret=>exact d
    |panic _=>exact d
    |outgrown=>exact d
   |2 =>
    refine ⟨_,s,wp_skip_seq (Code.wp_mono ?_ (p1 a w h))⟩
    intro e b v d
    cases e with
    |goto l =>
     match l with
     |0=>exact d
     |1=>exact d
     |2=>exact d
     |_+3=>exact d.elim
    |normal=>exact d
    |exit _=>exact d
    |ret=>exact d
    |panic _=>exact d
    |outgrown=>exact d
   |1 =>
    refine ⟨_,r,wp_skip_seq (Code.wp_mono ?_ (p a w h))⟩
    intro e b v d
    cases e with
    |goto l=>exact d.elim
    |normal=>exact d
    |exit _=>exact d
    |ret=>exact d
    |panic _=>exact d
    |outgrown=>exact d
   |_+3=>exact h.elim
def frU (b1 o1 cap:Nat)(bs:List Int)(p:Nat)(u4 u5 u6:Value)(a:Act):Prop:=∃ (u2 u8 u9 u10 u11 u12 u13 u14 u15 u16 u17 u18 u19 u20 u21 u22 u23 u24 u25 u26 u27 u28 u29 u30 u31 u32 u33 u34 u35 u36 u37 u38 u39 u40 u41 u42 u43 u44 u45 u46 u47 u48 u49 u50 u51 u52 u53:Value),a={ tmps:=#[.slice (some ⟨b1,o1,none⟩) bs.length cap,undef,u2,.int .i64 p,u4,u5,u6,.int .i64 bs.length,u8,u9,u10,u11,u12,u13,u14,u15,u16,u17,u18,u19,u20,u21,u22,u23,u24,u25,u26,u27,u28,u29,u30,u31,u32,u33,u34,u35,u36,u37,u38,u39,u40,u41,u42,u43,u44,u45,u46,u47,u48,u49,u50,u51,u52,u53],defers:=[] }
theorem implUtf8_row (b1 k:Nat)(cap:Nat)(bs:List Int)(w:World)(hl:bs.length<=1099511627776)(a5:∀ i,i<bs.length->w.cell? ⟨b1,k+i,none⟩=some (.int .u8 (bs.getD i 0)))(hB:Qm bs) :
    Calls Tryz.prog 208 #[.slice (some ⟨b1,k,none⟩) bs.length cap] w λe d=>e=.returned (.int .i64 (uf 0 0 0 0 bs))/\w=d:=by
 obtain ⟨R,hR⟩:∃ R,R=uf 0 0 0 0 bs:=⟨_,rfl⟩;have HR:Hid (uf 0 0 0 0 (bs.drop 0)=R):=by rw [hR];rfl
 rw [<- hR];clear hR;have a6:Hid (∀ i,i<bs.length->w.cell? ⟨b1,k+i,none⟩=some (.int .u8 (bs.getD i 0))):=a5;clear a5
 go_enter Tryz.func208,Tryz.ntmps208
 go_wp2
 refine wp_scope_three
  (λb d=>w=d/\∃ (p:Nat) (U D y:Value),p<=bs.length/\frU b1 k cap bs p U D y b/\Hid (uf 0 0 0 p (bs.drop p)=R))
  (λb d=>w=d/\∃ (p l:Nat) (lo hi:Int),p<=bs.length/\l<=2/\frU b1 k cap bs p (.int .i64 ((l:Int)+1)) (.int .u8 lo) (.int .u8 hi) b/\Hid (uf (l+1) lo hi p (bs.drop p)=R))
  (λb d=>w=d/\∃ (p:Nat) (U D y:Value),frU b1 k cap bs p U D y b/\Hid (R=p))
  (λb _=>2*(bs.length-(intOf (b.tmps.getD 3 undef)).toNat)+1)
  (λb _=>2*(bs.length-(intOf (b.tmps.getD 3 undef)).toNat)+1)
  (λb _=>2*(bs.length-(intOf (b.tmps.getD 3 undef)).toNat)) rfl rfl rfl ?_ ?_ ?_ ?_
 . intro h0
   go_wp2
   go_step3
   simp only [Exit.then]
   rename_i hK
   refine hK _ _ (h0 _ _ ?_)
   exact ⟨rfl,0,_,_,_,Nat.zero_le _,⟨_,_,_,_,_,_,_,_,_,_,_,_,_,_,_,_,_,_,_,_,_,_,_,_,_,_,_,_,_,_,_,_,_,_,_,_,_,_,_,_,_,_,_,_,_,_,_,rfl⟩,HR⟩
 . rintro b d ⟨rfl,p,U,D,y,hp,⟨u2,u8,u9,a4,a3,a2,a1,a0,az,ay,ax,aw,av,au,ar,aq,ap,ao,ak,aj,ai,ah,ag,af,ae,ad,ac,ab,aa,Z,Y,X,V,S,O,M,L,J,I,H,G,F,E,C,B,A,z,rfl⟩,g⟩ h1
   by_cases a:p<bs.length
   . have d1:w.cell? ⟨b1,k+p,none⟩=some (.int .u8 (bs.getD p 0)):=a6.o p a;have bb:(p:Int)<(bs.length:Int):=by omega
     obtain ⟨c,j⟩:∃ c,c=bs.getD p 0:=⟨_,rfl⟩;rw [<- j] at d1;have HC:Hid (c=bs.getD p 0):=j;have hb:=hB p;rw [<- j] at hb;obtain ⟨t,s⟩:=hb;have hn:=ldN_bd c;clear j;have r:((p:Int)==(bs.length:Int))=false:=beq_eq_false_iff_ne.2 (by omega);have H1:=Hm h1;clear h1
     by_cases m:ldN c<0
     . have u:Hid (R=p):=by show _=_;rw [<- g.o,uf_bad a (by rw [<- HC.o];exact m)]
       go_wp2_with (go_at_call 269;refine (Ob _ _ t s).mono ?_;rintro e d ⟨rfl,rfl⟩)
       go_step3
       refine ⟨⟨rfl,p,_,_,_,⟨_,_,_,_,_,_,_,_,_,_,_,_,_,_,_,_,_,_,_,_,_,_,_,_,_,_,_,_,_,_,_,_,_,_,_,_,_,_,_,_,_,_,_,_,_,_,_,rfl⟩,u⟩,?_⟩
       simp [intOf]
     . have f:Hid (uf (ldN c).toNat (XT c) (XU c) (p+1) (bs.drop (p+1))=R):=by
         have:=g.o
         rw [uf_lead a (by rw [<- HC.o];exact m),<- HC.o] at this
         exact this
       by_cases hz:ldN c=0
       . have ba:(ldN c==0)=true:=beq_iff_eq.2 hz;have HZ:Hid (ldN c=0):=hz;clear hz
         go_wp2_with (go_at_call 269;refine (Ob _ _ t s).mono ?_;rintro e d ⟨rfl,rfl⟩)
         go_step3
         refine ⟨⟨rfl,p+1,_,_,_,by omega,⟨_,_,_,_,_,_,_,_,_,_,_,_,_,_,_,_,_,_,_,_,_,_,_,_,_,_,_,_,_,_,_,_,_,_,_,_,_,_,_,_,_,_,_,_,_,_,_,rfl⟩,?_⟩,?_⟩
         . have:=f.o
           rw [HZ.o] at this
           exact (uf_any0 _ _ _).trans this
         . simp [intOf];omega
       . have ba:(ldN c==0)=false:=beq_eq_false_iff_ne.2 hz
         go_wp2_with (go_at_call 269;refine (Ob _ _ t s).mono ?_;rintro e d ⟨rfl,rfl⟩)
         go_step3
         simp only [Exit.then]
         rename_i hK
         refine hK _ _ (H1.o _ _ ?_ ?_)
         . obtain ⟨l,bf⟩:∃ l,(ldN c).toNat=l+1:=⟨(ldN c).toNat-1,by omega⟩;have e:=f.o;rw [bf] at e
           refine ⟨rfl,p+1,l,XT c,XU c,by omega,by omega,?_,e⟩
           rw [show (l:Int)+1=ldN c by omega]
           exact ⟨_,_,_,_,_,_,_,_,_,_,_,_,_,_,_,_,_,_,_,_,_,_,_,_,_,_,_,_,_,_,_,_,_,_,_,_,_,_,_,_,_,_,_,_,_,_,_,rfl⟩
         . simp [intOf];omega
   . have e:R=-1:=by rw [<- g.o,uf_end0 (by omega)]
     subst e;have r:((p:Int)==(bs.length:Int))=true:=beq_iff_eq.2 (by omega)
     go_wp2
     simp only [jumps]
     go_ret
     exact ⟨rfl,rfl⟩
 . rintro b d ⟨rfl,p,l,lo,hi,hp,br,⟨u2,u8,u9,a4,a3,a2,a1,a0,az,ay,ax,aw,av,au,ar,aq,ap,ao,ak,aj,ai,ah,ag,af,ae,ad,ac,ab,aa,Z,Y,X,V,S,O,M,L,J,I,H,G,F,E,C,B,A,z,rfl⟩,g⟩
   by_cases a:p<bs.length
   . have d2:w.cell? ⟨b1,k+p,none⟩=some (.int .u8 (bs.getD p 0)):=a6.o p a;obtain ⟨q,n⟩:∃ q,q=bs.getD p 0:=⟨_,rfl⟩;rw [<- n] at d2;have v:Hid (q=bs.getD p 0):=n;clear n;have bb:(p:Int)<(bs.length:Int):=by omega
     have r:((p:Int)==(bs.length:Int))=false:=beq_eq_false_iff_ne.2 (by omega)
     by_cases bd:q<lo
     . have u:Hid (R=p):=by show _=_;rw [<- g.o,uf_out a (by rw [<- v.o];exact .inl bd)]
       go_wp2
       go_step3
       refine ⟨⟨rfl,p,_,_,_,⟨_,_,_,_,_,_,_,_,_,_,_,_,_,_,_,_,_,_,_,_,_,_,_,_,_,_,_,_,_,_,_,_,_,_,_,_,_,_,_,_,_,_,_,_,_,_,_,rfl⟩,u⟩,?_⟩
       simp [intOf]
     . by_cases bc:hi<q
       . have u:Hid (R=p):=by show _=_;rw [<- g.o,uf_out a (by rw [<- v.o];exact .inr bc)]
         go_wp2
         go_step3
         refine ⟨⟨rfl,p,_,_,_,⟨_,_,_,_,_,_,_,_,_,_,_,_,_,_,_,_,_,_,_,_,_,_,_,_,_,_,_,_,_,_,_,_,_,_,_,_,_,_,_,_,_,_,_,_,_,_,_,rfl⟩,u⟩,?_⟩
         simp [intOf]
       . have f:Hid (uf l 128 191 (p+1) (bs.drop (p+1))=R):=by
           have:=g.o
           rw [uf_next a (by rw [<- v.o];omega)] at this
           exact this
         cases l with
         |zero =>
          go_wp2
          go_step3
          refine ⟨⟨rfl,p+1,_,_,_,by omega,⟨_,_,_,_,_,_,_,_,_,_,_,_,_,_,_,_,_,_,_,_,_,_,_,_,_,_,_,_,_,_,_,_,_,_,_,_,_,_,_,_,_,_,_,_,_,_,_,rfl⟩,?_⟩,?_⟩
          . exact (uf_any0 _ _ _).trans f.o
          . simp [intOf];omega
         |succ l =>
          go_wp2
          go_step3
          refine ⟨⟨rfl,p+1,l,128,191,by omega,by omega,?_,f⟩,?_⟩
          . exact ⟨_,_,_,_,_,_,_,_,_,_,_,_,_,_,_,_,_,_,_,_,_,_,_,_,_,_,_,_,_,_,_,_,_,_,_,_,_,_,_,_,_,_,_,_,_,_,_,rfl⟩
          . simp [intOf];omega
   . have u:Hid (R=p):=by show _=_;rw [<- g.o,uf_endl (by omega)]
     have r:((p:Int)==(bs.length:Int))=true:=beq_iff_eq.2 (by omega)
     go_wp2
     go_step3
     refine ⟨⟨rfl,p,_,_,_,⟨_,_,_,_,_,_,_,_,_,_,_,_,_,_,_,_,_,_,_,_,_,_,_,_,_,_,_,_,_,_,_,_,_,_,_,_,_,_,_,_,_,_,_,_,_,_,_,rfl⟩,u⟩,?_⟩
     simp [intOf]
 . rintro b d ⟨rfl,p,U,D,y,⟨u2,u8,u9,a4,a3,a2,a1,a0,az,ay,ax,aw,av,au,ar,aq,ap,ao,ak,aj,ai,ah,ag,af,ae,ad,ac,ab,aa,Z,Y,X,V,S,O,M,L,J,I,H,G,F,E,C,B,A,z,rfl⟩,g⟩;have e:=g.o;subst e
   go_wp2
   simp only [jumps]
   go_ret
   exact ⟨rfl,rfl⟩
end Go.Proofs.YtedcmcdbejjgcaaGreat
namespace Go.Proofs.YtedcmcdbejjgcaaGreat.Nx
open Go.RowKit Go.Sort
def Rl (ob:Option Nat)(kv:Value)(w W:World):Prop:=w.grownBy W ob/\(kv.ownBlock=ob\/∃ k,kv.ownBlock=some k/\w.heap.size<=k)
theorem Rl.set {d:Option Nat}{b:Value}{w W:World}(h:Rl d b w W){X:Nat}(a:w.heap.size<=X\/some X=b.ownBlock)(j:Nat)(v:Value):Rl d b w (W.setCell ⟨X,j,none⟩ v):=by
 refine ⟨⟨h.1.os,h.1.tape,h.1.output,by simpa using h.1.size,λk hk hn=>?_⟩,h.2⟩
 rw [Below.heap_setCell _ _ _ _ (show k≠X from λe=>?_)]
 . exact h.1.block k hk hn
 . subst e
   rcases a with a|a
   . omega
   . rcases h.2 with c|⟨f,c,g⟩
     . exact hn (a.trans c)
     . rw [c] at a;injection a with a;omega
theorem Rl.grown {f:Option Nat}{b a:Value}{w W W1:World}{o:Obj}(h:Rl f b w W)(hg:(W.alloc o).grownBy W1 b.ownBlock)(hl:a.ownBlock=b.ownBlock\/a.ownBlock=some (W.alloc o).heap.size):Rl f a w W1:=by
 have j:=h.1.size;have c:=hg.size
 simp only [World.size_alloc] at c
 refine ⟨⟨hg.os.trans h.1.os,hg.tape.trans h.1.tape,hg.output.trans h.1.output,by omega,λk hk hn=>?_⟩,?_⟩
 . rw [hg.block k (by simp;omega) (λe=>?_),QF W o k (by omega)]
   . exact h.1.block k hk hn
   . rcases h.2 with d|⟨g,d,l⟩
     . exact hn (e.trans d)
     . rw [d] at e;injection e with e;omega
 . rcases hl with e|e
   . rw [e];exact h.2
   . exact .inr ⟨_,e,by simp;omega⟩
structure NX (w:World)(B:Nat)(ob:Option Nat)(kv:Value)(dn bd:Bool)(ks:List Int)(W:World):Prop where
 b0:W.cell? ⟨w.heap.size,0,none⟩=some kv
 b1:W.cell? ⟨w.heap.size,1,none⟩=some (.bool dn)
 b2:W.cell? ⟨w.heap.size,2,none⟩=some (.bool bd)
 bf:∀ i,W.frozen? ⟨w.heap.size,i,none⟩=false
 r0:W.cell? ⟨w.heap.size+1,0,none⟩=some (.slice none 0 0)
 r1:W.cell? ⟨w.heap.size+1,1,none⟩=some (.bool false)
 r2:W.cell? ⟨w.heap.size+1,2,none⟩=some (.bool false)
 rf:∀ i,W.frozen? ⟨w.heap.size+1,i,none⟩=false
 own:W.ownsRow B 2 1 kv ks.length (I ks)
 n0:kv.ownBlock≠some w.heap.size
 n1:kv.ownBlock≠some (w.heap.size+1)
 bel:Rl ob kv w W
 lt:w.heap.size+1<W.heap.size
theorem NX.start {w:World}{B:Nat}{g:Option Nat}{a:Value}{dn bd:Bool}{d:List Int}(h:w.ownsRow B 2 1 a d.length (I d))(hB:B<=w.heap.size)(f:g=a.ownBlock) :
    NX w B g a dn bd d ((w.alloc (.cells #[a,.bool dn,.bool bd] 167)).alloc (.cells #[.slice none 0 0,.bool false,.bool false] 167)):=by
 have c:(w.alloc (.cells #[a,.bool dn,.bool bd] 167)).heap.size=w.heap.size+1:=by simp
 have b:=own_lt h
 refine ⟨?_,?_,?_,λi=>?_,Qw c.symm rfl,Qw c.symm rfl,Qw c.symm rfl,λi=>?_,(h.alloc _).alloc _,λe=>?_,λe=>?_,?_,by simp⟩
 . rw [World.cell?_alloc_past _ _ _ (by simp)];exact Qw rfl rfl
 . rw [World.cell?_alloc_past _ _ _ (by simp)];exact Qw rfl rfl
 . rw [World.cell?_alloc_past _ _ _ (by simp)];exact Qw rfl rfl
 . rw [World.frozen?_alloc_old _ _ _ (by simp)];exact World.frozen?_alloc_new _ _ _ _
 . rw [<- c];exact World.frozen?_alloc_new _ _ _ _
 . have:=b _ e;omega
 . have:=b _ e;omega
 . exact ⟨(λ(hb:Below w.heap.size w _)=>⟨hb.os,hb.tape,hb.output,hb.size,λk hk _=>hb.block k hk⟩) ((bF.alloc lR _).alloc (by simp) _),.inl f.symm⟩
theorem NX.pushed {w W w1:World}{B:Nat}{k:Option Nat}{j a:Value}{dn bd:Bool}{g:List Int}{z:Int}{o:Obj}(h:NX w B k j dn bd g W)(hB:B<=w.heap.size)(p:w1.ownsRow B 2 1 a (g.length+1) (I g++[.int .i64 z]))(hg:(W.alloc o).grownBy w1 j.ownBlock)(hl:a.ownBlock=j.ownBlock\/a.ownBlock=some (W.alloc o).heap.size) :
    NX w B k a dn bd (g++[z]) (w1.setCell ⟨w.heap.size,0,none⟩ a)/\(w1.cell? ⟨w.heap.size,0,none⟩=some j/\w1.cell? ⟨w.heap.size,1,none⟩=some (.bool dn)/\w1.cell? ⟨w.heap.size,2,none⟩=some (.bool bd)/\∀ i,w1.frozen? ⟨w.heap.size,i,none⟩=false)/\w1.cell? ⟨w.heap.size+1,0,none⟩=some (.slice none 0 0)/\w1.cell? ⟨w.heap.size+1,1,none⟩=some (.bool false)/\w1.cell? ⟨w.heap.size+1,2,none⟩=some (.bool false)/\∀ i,w1.frozen? ⟨w.heap.size+1,i,none⟩=false:=by
 have lt:=h.lt;have n:=hg.size
 simp only [World.size_alloc] at n
 have c:w1.heap[w.heap.size]?=W.heap[w.heap.size]?:=by
  rw [hg.block _ (by simp;omega) (λe=>h.n0 e.symm)];exact QF W o _ (by omega)
 have b:w1.heap[w.heap.size+1]?=W.heap[w.heap.size+1]?:=by
  rw [hg.block _ (by simp;omega) (λe=>h.n1 e.symm)];exact QF W o _ lt
 have c0:w1.cell? ⟨w.heap.size,0,none⟩=some j:=(World.cell?_of_block c).trans h.b0
 have l:a.ownBlock≠some w.heap.size:=by
  rcases hl with e|e
  . rw [e];exact h.n0
  . rw [e];intro f;injection f with f;simp at f;omega
 have m:a.ownBlock≠some (w.heap.size+1):=by
  rcases hl with e|e
  . rw [e];exact h.n1
  . rw [e];intro f;injection f with f;simp at f;omega
 have d:∀ i,(⟨w.heap.size,0,none⟩:Addr)≠⟨w.heap.size+1,i,none⟩:=λi e=>by have:=congrArg Addr.block e;simp at this
 refine ⟨⟨QE c0,Qd ((World.cell?_of_block c).trans h.b1) (by omega),Qd ((World.cell?_of_block c).trans h.b2) (by omega),λi=>?_,?_,?_,?_,λi=>?_,?_,l,m,?_,by simp;omega⟩,⟨c0,(World.cell?_of_block c).trans h.b1,(World.cell?_of_block c).trans h.b2,λi=>(World.frozen?_of_block c).trans (h.bf i)⟩,(World.cell?_of_block b).trans h.r0,(World.cell?_of_block b).trans h.r1,(World.cell?_of_block b).trans h.r2,λi=>(World.frozen?_of_block b).trans (h.rf i)⟩
 . rw [World.frozen?_setCell];exact (World.frozen?_of_block c).trans (h.bf i)
 . rw [World.cell?_setCell_other _ _ _ _ (d 0)];exact (World.cell?_of_block b).trans h.r0
 . rw [World.cell?_setCell_other _ _ _ _ (d 1)];exact (World.cell?_of_block b).trans h.r1
 . rw [World.cell?_setCell_other _ _ _ _ (d 2)];exact (World.cell?_of_block b).trans h.r2
 . rw [World.frozen?_setCell];exact (World.frozen?_of_block b).trans (h.rf i)
 . have:w1.ownsRow B 2 1 a (g++[z]).length (I (g++[z])):=by simpa using p
   exact Js this l
 . exact (h.bel.grown hg hl).set (.inl lR) _ _
theorem NX.set {w W:World}{B r cap:Nat}{d:Option Nat}{dn bd:Bool}{m:List Int}{z:Int}(h:NX w B d (.slice (some ⟨r,0,none⟩) (m.length+1) cap) dn bd (m++[z]) W)(hr:B<=r)(a:Int) :
    NX w B d (.slice (some ⟨r,0,none⟩) (m.length+1) cap) dn bd (m++[a]) (W.setCell ⟨r,m.length,none⟩ (.int .i64 a)):=by
 have own:=h.own;rw [show (m++[z]).length=m.length+1 by simp] at own;obtain ⟨s1,_⟩:=own.stored m.length (.int .i64 a)
 have e:(I (m++[z])).set m.length (.int .i64 a)=I (m++[a]):=by
  simp only [I,List.map_append,List.map_cons,List.map_nil]
  rw [List.set_append_right _ _ (by simp)];simp
 rw [e] at s1;have h0:r≠w.heap.size:=λe=>h.n0 (by simp [Value.ownBlock,e]);have f:r≠w.heap.size+1:=λe=>h.n1 (by simp [Value.ownBlock,e]);have c:∀ i,(⟨r,m.length,none⟩:Addr)≠⟨w.heap.size,i,none⟩:=λi e=>h0 (congrArg Addr.block e);have b:∀ i,(⟨r,m.length,none⟩:Addr)≠⟨w.heap.size+1,i,none⟩:=λi e=>f (congrArg Addr.block e)
 refine ⟨?_,?_,?_,λi=>by rw [World.frozen?_setCell];exact h.bf i,?_,?_,?_,λi=>by rw [World.frozen?_setCell];exact h.rf i,by rw [show (m++[a]).length=m.length+1 by simp];exact s1,h.n0,h.n1,h.bel.set (.inr rfl) _ _,by simpa using h.lt⟩
 . rw [World.cell?_setCell_other _ _ _ _ (c 0)];exact h.b0
 . rw [World.cell?_setCell_other _ _ _ _ (c 1)];exact h.b1
 . rw [World.cell?_setCell_other _ _ _ _ (c 2)];exact h.b2
 . rw [World.cell?_setCell_other _ _ _ _ (b 0)];exact h.r0
 . rw [World.cell?_setCell_other _ _ _ _ (b 1)];exact h.r1
 . rw [World.cell?_setCell_other _ _ _ _ (b 2)];exact h.r2
theorem NX.drop {w W:World}{B r cap:Nat}{b:Option Nat}{dn bd:Bool}{m:List Int}{z:Int}(h:NX w B b (.slice (some ⟨r,0,none⟩) (m.length+1) cap) dn bd (m++[z]) W)(hB:B<=w.heap.size) :
    NX w B b (.slice (some ⟨r,0,none⟩) m.length cap) dn bd m (W.setCell ⟨w.heap.size,0,none⟩ (.slice (some ⟨r,0,none⟩) m.length cap)):=by
 have own:=h.own;rw [show (m++[z]).length=m.length+1 by simp] at own;have c:=ownE_take own;have e:(I (m++[z])).take m.length=I m:=by simp [I]
 rw [e] at c;have h0:(Value.slice (some ⟨r,0,none⟩) m.length cap).ownBlock≠some w.heap.size:=λe=>h.n0 (by simpa [Value.ownBlock] using e);have d:(Value.slice (some ⟨r,0,none⟩) m.length cap).ownBlock≠some (w.heap.size+1):=λe=>h.n1 (by simpa [Value.ownBlock] using e);have a:∀ i,(⟨w.heap.size,0,none⟩:Addr)≠⟨w.heap.size+1,i,none⟩:=λi e=>by have:=congrArg Addr.block e;simp at this
 refine ⟨QE h.b0,Qd h.b1 (by omega),Qd h.b2 (by omega),λi=>by rw [World.frozen?_setCell];exact h.bf i,?_,?_,?_,λi=>by rw [World.frozen?_setCell];exact h.rf i,Js c h0,h0,d,h.bel.set (.inl lR) _ _,by simpa using h.lt⟩
 . rw [World.cell?_setCell_other _ _ _ _ (a 0)];exact h.r0
 . rw [World.cell?_setCell_other _ _ _ _ (a 1)];exact h.r1
 . rw [World.cell?_setCell_other _ _ _ _ (a 2)];exact h.r2
theorem NX.fin {w W:World}{B:Nat}{c:Option Nat}{a x y z:Value}{dn bd:Bool}{b:List Int}(h:NX w B c a dn bd b W)(hB:B<=w.heap.size) :
    (((W.setCell ⟨w.heap.size+1,0,none⟩ x).setCell ⟨w.heap.size+1,1,none⟩ y).setCell ⟨w.heap.size+1,2,none⟩ z).ownsRow B 2 1 a b.length (I b)/\Rl c a w (((W.setCell ⟨w.heap.size+1,0,none⟩ x).setCell ⟨w.heap.size+1,1,none⟩ y).setCell ⟨w.heap.size+1,2,none⟩ z) :=
 ⟨Js (Js (Js h.own h.n1) h.n1) h.n1,((h.bel.set (.inl (Nat.le_succ _)) _ _).set (.inl (Nat.le_succ _)) _ _).set (.inl (Nat.le_succ _)) _ _⟩
theorem NX.flag {w W:World}{B:Nat}{b:Option Nat}{c:Value}{dn bd:Bool}{d:List Int}(h:NX w B b c dn bd d W)(hB:B<=w.heap.size)(z:Bool):NX w B b c z bd d (W.setCell ⟨w.heap.size,1,none⟩ (.bool z))/\NX w B b c dn z d (W.setCell ⟨w.heap.size,2,none⟩ (.bool z)):=by
 have a:∀ j i,(⟨w.heap.size,j,none⟩:Addr)≠⟨w.heap.size+1,i,none⟩:=λj i e=>by have:=congrArg Addr.block e;simp at this
 constructor
 . refine ⟨Qd h.b0 (by omega),QE h.b1,Qd h.b2 (by omega),λi=>by rw [World.frozen?_setCell];exact h.bf i,?_,?_,?_,λi=>by rw [World.frozen?_setCell];exact h.rf i,Js h.own h.n0,h.n0,h.n1,h.bel.set (.inl lR) _ _,by simpa using h.lt⟩
   . rw [World.cell?_setCell_other _ _ _ _ (a 1 0)];exact h.r0
   . rw [World.cell?_setCell_other _ _ _ _ (a 1 1)];exact h.r1
   . rw [World.cell?_setCell_other _ _ _ _ (a 1 2)];exact h.r2
 . refine ⟨Qd h.b0 (by omega),Qd h.b1 (by omega),QE h.b2,λi=>by rw [World.frozen?_setCell];exact h.bf i,?_,?_,?_,λi=>by rw [World.frozen?_setCell];exact h.rf i,Js h.own h.n0,h.n0,h.n1,h.bel.set (.inl lR) _ _,by simpa using h.lt⟩
   . rw [World.cell?_setCell_other _ _ _ _ (a 2 0)];exact h.r0
   . rw [World.cell?_setCell_other _ _ _ _ (a 2 1)];exact h.r1
   . rw [World.cell?_setCell_other _ _ _ _ (a 2 2)];exact h.r2
theorem next_done (B:Nat)(f:Value)(d:List Int)(n:Int)(w:World)(hB:B<=w.heap.size)(h:w.ownsRow B 2 1 f d.length (I d)):Calls Tryz.prog 126 #[opV f true false,.int .i64 n] w λe w'=>∃ va vn vc,e=.returned (opV (.slice va vn vc) true true)/\Rl f.ownBlock (.slice va vn vc) w w':=by
 obtain ⟨g,b⟩:∃ g,g=f.ownBlock:=⟨_,rfl⟩;rw [<- b];obtain ⟨a,c,rfl⟩:=QZ h;have j:=Hm (NX.start (dn:=true) (bd:=false) h hB b);clear h b
 go_enter Tryz.func126,Tryz.ntmps126
 go_upto_region 1 with fail
 refine Ql (λW=>NX w B g (.slice a d.length c) true false d W) j.o ?_
 rintro W nx;clear j;have b0:=nx.b0;have b1:=nx.b1;have s:=nx.b2;have r:=nx.bf;have m:=nx.r0;have l:=nx.r1;have k:=nx.r2;have q:=nx.rf;have p:=Hm nx;clear nx
 go_wp2
 exact bodyPost_ret (v:=opV (.slice a d.length c) true true) (by simp [results,Tryz.results126,go_sem,m,l,k]) rfl ⟨_,_,_,rfl,((p.o.flag hB true).2.fin hB).2⟩
theorem next_x:(∀ (B:Nat) (j:Value) (f:List Int) (w:World) (hB:B<=w.heap.size) (hl:f.length<=4194304) (h:w.ownsRow B 2 1 j f.length (I f)),Calls Tryz.prog 126 #[opV j false false,.int .i64 2] w λe w'=>∃ kv',e=.returned (opV kv' false false)/\w'.ownsRow B 2 1 kv' (f++[0]).length (I (f++[0]))/\Rl j.ownBlock kv' w w')/\(∀ (B:Nat) (j:Value) (f:List Int) (w:World) (hB:B<=w.heap.size) (hl:f.length<=4194304) (h:w.ownsRow B 2 1 j f.length (I f)),Calls Tryz.prog 126 #[opV j false false,.int .i64 3] w λe w'=>∃ kv',e=.returned (opV kv' false false)/\w'.ownsRow B 2 1 kv' (f++[0]).length (I (f++[0]))/\Rl j.ownBlock kv' w w')/\(∀ (B:Nat) (j:Value) (f:List Int) (w:World) (hB:B<=w.heap.size) (hl:f.length<=4194304) (h:w.ownsRow B 2 1 j f.length (I f)),Calls Tryz.prog 126 #[opV j false false,.int .i64 4] w λe w'=>∃ kv',e=.returned (opV kv' false false)/\w'.ownsRow B 2 1 kv' (f++[1]).length (I (f++[1]))/\Rl j.ownBlock kv' w w'):=by
 refine ⟨?c0,?c1,?c2⟩
 case' c0=>have t0:=0
 case' c1=>have Z:=0
 case' c2=>have u:=0
 all_goals
  intro B j f w hB hl h
  obtain ⟨s,l⟩:∃ s,s=j.ownBlock:=⟨_,rfl⟩;rw [<- l];obtain ⟨F,G,q,p,n⟩:=info_parts Tryz.info2;obtain ⟨a,c,rfl⟩:=QZ h;have L:=Hm (NX.start (dn:=false) (bd:=false) h hB l);clear h l
  go_enter Tryz.func126,Tryz.ntmps126
  go_upto_region 1 with fail
  refine Ql (λW=>NX w B s (.slice a f.length c) false false f W) L.o ?_
  rintro W nx;clear L;have b0:=nx.b0;have b1:=nx.b1;have J:=nx.b2;have H:=nx.bf;have E:=nx.r0;have D:=nx.r1;have C:=nx.r2;have A:=nx.rf;have lt:=nx.lt;have own:=nx.own;have r:=Hm nx;clear nx;have S:w.heap.size≠w.heap.size+1:=by omega
  first|(replace u:=u;go_wp2_with (at_builtin;refine wpList_append_own_at _ rfl _ _ 25 rfl B 2 F (.int .i64 0) 1 8 Tryz.underlying25 G q p n rfl (by decide) _ _ _ rfl (own.alloc _) ⟨W.heap.size,0,none⟩ 1 1 [.int .i64 1] rfl rfl (cell_one_new _ _ _) (oneJ _) (by unfold maxLen;omega) (by omega) (by simp;omega) ?_;intro O M b d m g;have k:=Hm (r.o.pushed hB b d g);obtain ⟨⟨Y,X,V,U⟩,z,s1,y,R⟩:=k.o.2;obtain ⟨va,t,rfl⟩:=QZ b;clear b d m g own b0 b1 J E D C H A r))|(go_wp2_with (at_builtin;refine wpList_append_own_at _ rfl _ _ 25 rfl B 2 F (.int .i64 0) 1 8 Tryz.underlying25 G q p n rfl (by decide) _ _ _ rfl (own.alloc _) ⟨W.heap.size,0,none⟩ 1 1 [.int .i64 0] rfl rfl (cell_one_new _ _ _) (oneJ _) (by unfold maxLen;omega) (by omega) (by simp;omega) ?_;intro O M b d m g;have k:=Hm (r.o.pushed hB b d g);obtain ⟨⟨Y,X,V,U⟩,z,s1,y,R⟩:=k.o.2;obtain ⟨va,t,rfl⟩:=QZ b;clear b d m g own b0 b1 J E D C H A r))
  exact bodyPost_ret (v:=opV (.slice va (f.length+1) t) false false) (by simp [results,Tryz.results126,go_sem,z,s1,y,S]) rfl ⟨_,rfl,k.o.1.fin hB⟩
def next_2:=next_x.1
def next_3:=next_x.2.1
def next_4:=next_x.2.2
theorem next_5n (B:Nat)(d:Value)(w:World)(hB:B<=w.heap.size)(h:w.ownsRow B 2 1 d ([]:List Int).length (I [])):Calls Tryz.prog 126 #[opV d false false,.int .i64 5] w λe w'=>∃ va vn vc,e=.returned (opV (.slice va vn vc) false true)/\Rl d.ownBlock (.slice va vn vc) w w':=by
 obtain ⟨f,b⟩:∃ f,f=d.ownBlock:=⟨_,rfl⟩;rw [<- b];obtain ⟨a,c,rfl⟩:=QZ h;have g:=Hm (NX.start (dn:=false) (bd:=false) h hB b);clear h b
 go_enter Tryz.func126,Tryz.ntmps126
 go_upto_region 1 with fail
 refine Ql (λW=>NX w B f (.slice a ([]:List Int).length c) false false [] W) g.o ?_
 rintro W nx;clear g;have b0:=nx.b0;have b1:=nx.b1;have r:=nx.b2;have q:=nx.bf;have l:=nx.r0;have k:=nx.r1;have j:=nx.r2;have p:=nx.rf;have n:=Hm nx;clear nx;have m:w.heap.size≠w.heap.size+1:=by omega
 go_wp2
 exact bodyPost_ret (v:=opV (.slice a 0 c) false true) (by simp [results,Tryz.results126,go_sem,l,k,j,m]) rfl ⟨_,_,_,rfl,((n.o.flag hB true).2.fin hB).2⟩
theorem next_11n (B:Nat)(d:Value)(w:World)(hB:B<=w.heap.size)(h:w.ownsRow B 2 1 d ([]:List Int).length (I [])):Calls Tryz.prog 126 #[opV d false false,.int .i64 11] w λe w'=>∃ kv',e=.returned (opV kv' true false)/\w'.ownsRow B 2 1 kv' ([]:List Int).length (I [])/\Rl d.ownBlock kv' w w':=by
 obtain ⟨f,b⟩:∃ f,f=d.ownBlock:=⟨_,rfl⟩;rw [<- b];obtain ⟨a,c,rfl⟩:=QZ h;have g:=Hm (NX.start (dn:=false) (bd:=false) h hB b);clear h b
 go_enter Tryz.func126,Tryz.ntmps126
 go_upto_region 1 with fail
 refine Ql (λW=>NX w B f (.slice a ([]:List Int).length c) false false [] W) g.o ?_
 rintro W nx;clear g;have b0:=nx.b0;have b1:=nx.b1;have r:=nx.b2;have q:=nx.bf;have l:=nx.r0;have k:=nx.r1;have j:=nx.r2;have p:=nx.rf;have n:=Hm nx;clear nx;have m:w.heap.size≠w.heap.size+1:=by omega
 go_wp2
 exact bodyPost_ret (v:=opV (.slice a 0 c) true false) (by simp [results,Tryz.results126,go_sem,l,k,j,m]) rfl ⟨_,rfl,((n.o.flag hB true).1.fin hB)⟩
theorem next_y:(∀ (B:Nat) (c:Value) (m:List Int) (z:Int) (w:World) (hB:B<=w.heap.size) (hl:m.length<=4194304) (g:z≠0) (h:w.ownsRow B 2 1 c (m++[z]).length (I (m++[z]))),Calls Tryz.prog 126 #[opV c false false,.int .i64 5] w λe w'=>∃ kv',e=.returned (opV kv' false false)/\w'.ownsRow B 2 1 kv' (m++[0]).length (I (m++[0]))/\Rl c.ownBlock kv' w w')/\(∀ (B:Nat) (c:Value) (m:List Int) (z:Int) (w:World) (hB:B<=w.heap.size) (hl:m.length<=4194304) (g:z=0) (h:w.ownsRow B 2 1 c (m++[z]).length (I (m++[z]))),Calls Tryz.prog 126 #[opV c false false,.int .i64 5] w λe w'=>∃ va vn vc,e=.returned (opV (.slice va vn vc) false true)/\Rl c.ownBlock (.slice va vn vc) w w'):=by
 refine ⟨?c0,?c1⟩
 case' c0=>have b:=0
 case' c1=>have l:=0
 all_goals
  intro B c m z w hB hl g h
  obtain ⟨k,f⟩:∃ k,k=c.ownBlock:=⟨_,rfl⟩;rw [<- f];rw [show (m++[z]).length=m.length+1 by simp] at h;obtain ⟨r,d,rfl,F,E,t⟩:=ownE_split h (by omega);have u:w.ownsRow B 2 1 (.slice (some ⟨r,0,none⟩) (m.length+1) d) (m++[z]).length (I (m++[z])):=by rw [show (m++[z]).length=m.length+1 by simp];exact h
  have y:=Hm (NX.start (dn:=false) (bd:=false) u hB f);clear h u f
  go_enter Tryz.func126,Tryz.ntmps126
  go_upto_region 1 with fail
  refine Ql (λW=>NX w B k (.slice (some ⟨r,0,none⟩) (m.length+1) d) false false (m++[z]) W) y.o ?_
  rintro W nx;clear y;have b0:=nx.b0;have b1:=nx.b1;have O:=nx.b2
  first
  | (replace l:=l
     have M:=nx.bf)
  |skip
  have q:=nx.r0;have p:=nx.r1;have n:=nx.r2;have G:=nx.rf;have own:=nx.own;have j:=Hm nx;clear nx;have a:=own;rw [show (m++[z]).length=m.length+1 by simp] at a
  have L:W.cell? ⟨r,m.length,none⟩=some (.int .i64 z):=by
   rw [a.cellAt m.length (by omega)];simp
  first
  | (replace b:=b
     have fz:=a.frozenAt m.length)
  |skip
  clear a;have J:IntKind.i64.wrap (((m.length+1:Nat):Int)-1)=m.length:=by rw [IntKind.wrap_i64];omega
  have H:(m.length:Int)<((m.length+1:Nat):Int):=by omega
  have s:w.heap.size≠w.heap.size+1:=by omega
  first
  | (replace b:=b
     have C:r≠w.heap.size:=fun e=>j.o.n0 (by simp [Value.ownBlock,e]))
  |skip
  first
  | (replace b:=b
     have A:r≠w.heap.size+1:=fun e=>j.o.n1 (by simp [Value.ownBlock,e]))
  |skip
  clear own
  first|(replace b:=b;have D:(z==0)=false:=by simpa using g)|(subst g)
  go_wp2
  first|(replace b:=b;exact bodyPost_ret (v:=opV (.slice (some ⟨r,0,none⟩) (m.length+1) d) false false) (by simp [results,Tryz.results126,go_sem,q,p,n,s,C,A]) rfl ⟨_,rfl,(j.o.set F 0).fin hB⟩)|(exact bodyPost_ret (v:=opV (.slice (some ⟨r,0,none⟩) (m.length+1) d) false true) (by simp [results,Tryz.results126,go_sem,q,p,n,s]) rfl ⟨_,_,_,rfl,((j.o.flag hB true).2.fin hB).2⟩)
def next_5:=next_y.1
def next_5z:=next_y.2
theorem next_11 (B:Nat)(d:Value)(m:List Int)(z:Int)(w:World)(hB:B<=w.heap.size)(hl:m.length<=4194304)(h:w.ownsRow B 2 1 d (m++[z]).length (I (m++[z]))):Calls Tryz.prog 126 #[opV d false false,.int .i64 11] w λe w'=>∃ kv',e=.returned (opV kv' false false)/\w'.ownsRow B 2 1 kv' m.length (I m)/\Rl d.ownBlock kv' w w':=by
 obtain ⟨f,c⟩:∃ f,f=d.ownBlock:=⟨_,rfl⟩;rw [<- c];rw [show (m++[z]).length=m.length+1 by simp] at h;obtain ⟨r,b,rfl,E,y,j⟩:=ownE_split h (by omega);have k:w.ownsRow B 2 1 (.slice (some ⟨r,0,none⟩) (m.length+1) b) (m++[z]).length (I (m++[z])):=by rw [show (m++[z]).length=m.length+1 by simp];exact h
 have l:=Hm (NX.start (dn:=false) (bd:=false) k hB c);clear h k c
 go_enter Tryz.func126,Tryz.ntmps126
 go_upto_region 1 with fail
 refine Ql (λW=>NX w B f (.slice (some ⟨r,0,none⟩) (m.length+1) b) false false (m++[z]) W) l.o ?_
 rintro W nx;clear l;have b0:=nx.b0;have b1:=nx.b1;have H:=nx.b2;have G:=nx.bf;have q:=nx.r0;have p:=nx.r1;have n:=nx.r2;have A:=nx.rf;have own:=nx.own;have g:=Hm nx;clear nx;have a:=own;rw [show (m++[z]).length=m.length+1 by simp] at a
 have F:W.cell? ⟨r,m.length,none⟩=some (.int .i64 z):=by
  rw [a.cellAt m.length (by omega)];simp
 clear a;have D:IntKind.i64.wrap (((m.length+1:Nat):Int)-1)=m.length:=by rw [IntKind.wrap_i64];omega
 have C:(m.length:Int)<=(b:Int):=by omega
 have u:w.heap.size≠w.heap.size+1:=by omega
 have t:r≠w.heap.size:=λe=>g.o.n0 (by simp [Value.ownBlock,e]);have s:r≠w.heap.size+1:=λe=>g.o.n1 (by simp [Value.ownBlock,e]);clear own
 go_wp2
 exact bodyPost_ret (v:=opV (.slice (some ⟨r,0,none⟩) m.length b) false false) (by simp [results,Tryz.results126,go_sem,q,p,n,u,t,s]) rfl ⟨_,rfl,(g.o.drop hB).fin hB⟩
theorem next_same (B:Nat)(g:Value)(d:List Int)(b:Int)(w:World)(hB:B<=w.heap.size)(u:b≠2)(t:b≠3)(s:b≠4)(r:b≠5)(q:b≠11)(h:w.ownsRow B 2 1 g d.length (I d)):Calls Tryz.prog 126 #[opV g false false,.int .i64 b] w λe w'=>∃ kv',e=.returned (opV kv' false false)/\w'.ownsRow B 2 1 kv' d.length (I d)/\Rl g.ownBlock kv' w w':=by
 obtain ⟨j,f⟩:∃ j,j=g.ownBlock:=⟨_,rfl⟩;rw [<- f];obtain ⟨a,c,rfl⟩:=QZ h;have k:=Hm (NX.start (dn:=false) (bd:=false) h hB f);clear h f
 go_enter Tryz.func126,Tryz.ntmps126
 go_upto_region 1 with fail
 refine Ql (λW=>NX w B j (.slice a d.length c) false false d W) k.o ?_
 rintro W nx;clear k;have b0:=nx.b0;have b1:=nx.b1;have G:=nx.b2;have n:=nx.r0;have m:=nx.r1;have l:=nx.r2;have z:=nx.rf;have y:=Hm nx;clear nx;have p:w.heap.size≠w.heap.size+1:=by omega
 have F:(b==2)=false:=by simpa using u
 have E:(b==3)=false:=by simpa using t
 have D:(b==4)=false:=by simpa using s
 have C:(b==5)=false:=by simpa using r
 have A:(b==11)=false:=by simpa using q
 go_wp2
 exact bodyPost_ret (v:=opV (.slice a d.length c) false false) (by simp [results,Tryz.results126,go_sem,n,m,l,p]) rfl ⟨_,rfl,y.o.fin hB⟩
end Go.Proofs.YtedcmcdbejjgcaaGreat.Nx
