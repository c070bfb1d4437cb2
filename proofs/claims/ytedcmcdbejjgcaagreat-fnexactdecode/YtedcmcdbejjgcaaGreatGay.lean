import Derived.Test.YtedcmcdbejjgcaaGreatGax
import Derived.Laws.EntriesVeiled
import Derived.Test.YtedcmcdbejjgcaaGreatGai
import Derived.Test.YtedcmcdbejjgcaaGreatGar
import Derived.Deep.RegionLaw
import Derived.Deep.RegionWith
import Derived.Test.YtedcmcdbejjgcaaGreatGaa
set_option linter.all false
set_option maxHeartbeats 400000000
set_option maxRecDepth 100000
namespace Go.Proofs.YtedcmcdbejjgcaaGreat
open Go.RowKit Go.Sort
def Rs.nx {α:Type}(p:Nat)(r:Rs α):Prop:=∀ v p',r=.ok v p'->p+1<=p'
theorem Jy {α β:Type}{p:Nat}{r:Rs α}{k:α->Nat->Rs β}(h:r.nx p)(a:∀ v p1,(k v p1).up p1):(r.bind k).nx p:=by
 intro v p' e
 cases r with
 |bad er at_=>cases e
 |ok x p1=>exact Nat.le_trans (h x p1 rfl) (a x p1 v p' e)
theorem Rs.nx.up {α:Type}{p:Nat}{r:Rs α}(h:r.nx p):r.up p:=λv p' e=>by have:=h v p' e;omega
theorem nx_take (bs:List Int)(p:Nat):(Qx bs p).nx p:=λv p' e=>Gj e
theorem JC (bs:List Int)(p:Nat):(QK bs p).nx p:=λv p' e=>Xo (by omega) e
theorem nx_mark (k:Int)(bs:List Int)(p:Nat):(Gs k bs p).nx p:=Jy (nx_take _ _) λv p1=>JJ (Q6 _ _) (Xb _ _ _)
theorem up_repG {α:Type}{rd:Nat->Rs α}(h:∀ p,(rd p).up p):∀ (n:Nat) (a:List α) (p:Nat),(Q7 rd n a p).up p
 |0,a,p=>Q6 _ _
 |n+1,a,p=>Qs (h p) λv p1=>up_repG h n _ p1
theorem JA {α:Type}{rd:Nat->Rs α}(h:∀ p,(rd p).up p)(bs:List Int)(p:Nat):(Jj rd bs p).nx p:=Jy (JC _ _) λv p1=>up_repG h _ _ _
theorem up_listG (bs:List Int):∀ (f:Nat) (n:List Bool) (a:List In) (p:Nat),(Xl bs f n a p).up p
 |0,n,a,p=>Xb _ _ _
 |f+1,n,a,p=>by
  unfold Xl
  refine JJ (Q6 _ _) (Qs (λv p' e=>by have:=opM_next e;omega) λop p1=>?_)
  cases Jf n op with
  |none=>exact Xb _ _ _
  |some n'=>exact Qs (up_dec _ _ _ _) λx p2=>up_listG bs f n' _ p2
theorem up_list (bs:List Int)(p:Nat):(Jx bs p).up p:=up_listG bs _ _ _ p
theorem nx_seg (bs:List Int)(p:Nat):(segM bs p).nx p:=Jy (nx_mark _ _ _) λ_ p1=>up_list _ _
theorem nx_ele (bs:List Int)(p:Nat):(Xk bs p).nx p:=Jy (nx_seg _ _) λl p1=>Qs (JA (λp=>(JC bs p).up) _ _).up λfs p2=>Q6 _ _
theorem Of (bs:List Int)(E:Int)(p:Nat):(Jl bs E p).nx p:=Jy (JC _ _) λn p1=>JJ (Xb _ _ _) (Q6 _ _)
theorem up_bytes (bs:List Int)(n p:Nat):(JF bs n p).up p:=by
 unfold JF
 split
 · exact λv p' e=>by cases e;omega
 . exact Xb _ _ _
theorem nx_dat (bs:List Int)(E:Int)(p:Nat):(Xq bs E p).nx p:=Jy (nx_seg _ _) λl p1=>Qs (Of _ _ _).up λn p2=>Qs (up_bytes _ _ _) λb p3=>Q6 _ _
theorem up_grpG (bs:List Int):∀ (k:Nat) (s:Int) (a:List Grp) (p:Nat),(XY bs k s a p).up p
 |0,s,a,p=>Q6 _ _
 |k+1,s,a,p=>Qs (JC _ _).up λn p1=>JJ (Xb _ _ _) (Qs (up_only _ _ _) λt p2=>up_grpG bs k _ _ p2)
theorem up_bod (bs:List Int)(E:Int)(p:Nat):(bodM bs E p).up p:=Qs (Jy (JC _ _) λn p1=>up_grpG bs _ _ _ p1).up λg p1=>Qs (up_list _ _) λl p2=>Q6 _ _
theorem nx_within {α:Type}{rd:List Int->Int->Nat->Rs α}(h:∀ bs E p,(rd bs E p).up p)(bs:List Int)(E:Int)(p:Nat):(QU rd bs E p).nx p:=by
 refine Jy (Of _ _ _) λn p1=>?_
 intro v p' e
 cases hM:rd (bs.take (p1+n.toNat)) (p1+n) p1 with
 |bad er at_ =>
  rw [hM] at e
  simp only at e
  repeat' split at e
  all_goals cases e
 |ok x p2 =>
  rw [hM] at e
  simp only at e
  have:=h _ _ _ x p2 hM
  repeat' split at e
  all_goals first|(cases e;omega)|cases e
theorem nx_cod (bs:List Int)(E:Int)(p:Nat):(Xw bs E p).nx p:=nx_within up_bod bs E p
theorem info_entEl_c:(Tryz.prog.info? 79).map (λi=>(i.zero,i.size,i.bytes))=some (some (.agg #[.slice none 0 0,.slice none 0 0]),2,48):=by kernel_rfl
theorem info_entDa_c:(Tryz.prog.info? 85).map (λi=>(i.zero,i.size,i.bytes))=some (some (.agg #[.slice none 0 0,.slice none 0 0]),2,48):=by kernel_rfl
theorem info_entCo_c:(Tryz.prog.info? 83).map (λi=>(i.zero,i.size,i.bytes))=some (some (.agg #[.slice none 0 0,.slice none 0 0]),2,48):=by kernel_rfl
theorem ent_x:(∀ (q:Nat) (ba:Option Addr) (bc:Bf) (bs:List Int) (p:Nat) (n:Int) (w:World) (h:Rd w q ba bc bs p) (hA:Qm bs) (hl:bs.length<=1099511627776) (y:0<=n) (F:n<=4294967295),Calls Tryz.prog 292 #[.int .i64 n,.func (.func 245) #[.pointer (some ⟨q,0,none⟩)] #[]] w (RlP (Q7 (λp_=>Xk bs p_) n.toNat [] p) REle 79 2 w q ba bc bs))/\(∀ (q:Nat) (ba:Option Addr) (bc:Bf) (bs:List Int) (p:Nat) (n:Int) (w:World) (h:Rd w q ba bc bs p) (hA:Qm bs) (hl:bs.length<=1099511627776) (y:0<=n) (F:n<=4294967295) (hE:bc.E<=9223372036854775807),Calls Tryz.prog 297 #[.int .i64 n,.func (.func 249) #[.pointer (some ⟨q,0,none⟩)] #[]] w (RlP (Q7 (λp_=>Xq bs bc.E p_) n.toNat [] p) RDat 85 2 w q ba bc bs))/\(∀ (q:Nat) (ba:Option Addr) (bc:Bf) (bs:List Int) (p:Nat) (n:Int) (w:World) (h:Rd w q ba bc bs p) (hA:Qm bs) (hl:bs.length<=1099511627776) (y:0<=n) (F:n<=4294967295) (hE:bc.E<=9223372036854775807),Calls Tryz.prog 246 #[.int .i64 n,.func (.func 247) #[.pointer (some ⟨q,0,none⟩)] #[]] w (RlP (Q7 (λp_=>Xw bs bc.E p_) n.toNat [] p) Oq 83 2 w q ba bc bs)):=by
 refine ⟨?c0,?c1,?c2⟩
 case' c0=>intro q ba bc bs p n w h hA hl y F;have g:=0
 case' c1=>intro q ba bc bs p n w h hA hl y F hE;have f:=0
 case' c2=>intro q ba bc bs p n w h hA hl y F hE;have t2:=0
 all_goals
  first|(replace g:=g;obtain ⟨i0,hi,C,B,A⟩:=info_parts info_entEl_c)|(replace f:=f;obtain ⟨i0,hi,C,B,A⟩:=info_parts info_entDa_c)|(obtain ⟨i0,hi,C,B,A⟩:=info_parts info_entCo_c)
  obtain ⟨N,rfl⟩:=Int.eq_ofNat_of_zero_le y;rw [Int.toNat_natCast];have HR:=Hm h;have HA:=Hm hA;have HL:=Hm h.byl;have hq:=h.lt;clear h hA y
  first|(replace g:=g;go_enter Tryz.func292,Tryz.ntmps292)|(replace f:=f;go_enter Tryz.func297,Tryz.ntmps297)|(go_enter Tryz.func246,Tryz.ntmps246)
  go_wp2_with fail
  first|(replace g:=g;go_loopw [5,7] (λv i wr=>∃ (k:Nat) (b:List _) (c:List Value) (O:List Qc) (d:Nat),k<=N/\i=.int .i64 (k:Int)/\Q7 (λp_=>Xk bs p_) N [] p=Q7 (λp_=>Xk bs p_) (N-k) b d/\b.length<=d/\LR REle b c O/\Own w.heap.size wr (⟨79,2,b.length,v,c⟩::O)/\Rd wr q ba bc bs d/\w.grownBy wr (some q)) (λ_ i _=>N-(intOf i).toNat))|(replace f:=f;go_loopw [5,7] (λv i wr=>∃ (k:Nat) (b:List _) (c:List Value) (O:List Qc) (d:Nat),k<=N/\i=.int .i64 (k:Int)/\Q7 (λp_=>Xq bs bc.E p_) N [] p=Q7 (λp_=>Xq bs bc.E p_) (N-k) b d/\b.length<=d/\LR RDat b c O/\Own w.heap.size wr (⟨85,2,b.length,v,c⟩::O)/\Rd wr q ba bc bs d/\w.grownBy wr (some q)) (λ_ i _=>N-(intOf i).toNat))|(go_loopw [5,7] (λv i wr=>∃ (k:Nat) (b:List _) (c:List Value) (O:List Qc) (d:Nat),k<=N/\i=.int .i64 (k:Int)/\Q7 (λp_=>Xw bs bc.E p_) N [] p=Q7 (λp_=>Xw bs bc.E p_) (N-k) b d/\b.length<=d/\LR Oq b c O/\Own w.heap.size wr (⟨83,2,b.length,v,c⟩::O)/\Rd wr q ba bc bs d/\w.grownBy wr (some q)) (λ_ i _=>N-(intOf i).toNat))
  case atStart=>exact ⟨0,[],[],[],p,Nat.zero_le _,rfl,rfl,by simp,LR.nil _,Own.one (World.ownsRow_nil _ _ _ _),HR.o,World.grownBy.refl _ _⟩
  case round =>
   obtain ⟨k,b,c,O,d,hk,rfl,Y,a3,aq,X,V,hg⟩:=hrel;have HG:=Hm hg;have M:=Hm X;have aw:=Hm aq
   first
   | (replace f:=f
      have az:=V.le)
   | (replace t2:=t2
      have az:=V.le)
   |skip
   clear hg X aq HR
   by_cases bk:k<N
   . have bn:(k:Int)<(N:Int):=by omega
     first|(replace g:=g;have K:=Hm (ele_c q ba bc bs d wr V HA.o hl))|(replace f:=f;have K:=Hm (dat_c q ba bc bs d wr V HA.o hl hE))|(have K:=Hm (cod_c q ba bc bs d wr V HA.o hl hE))
     first|(replace g:=g;have R:∀ v s,Xk bs d=.ok v s->d+1<=s:=λv s h=>nx_ele _ _ v s h)|(replace f:=f;have R:∀ v s,Xq bs bc.E d=.ok v s->d+1<=s:=λv s h=>nx_dat _ _ _ v s h)|(have R:∀ v s,Xw bs bc.E d=.ok v s->d+1<=s:=λv s h=>nx_cod _ _ _ v s h)
     have ap:N-k=(N-(k+1))+1:=by omega
     rw [ap] at Y
     simp only [Q7] at Y
     have S:=Hm Y;clear Y ap V
     go_wp2_with fail
     refine (K.o).mono ?_
     rintro e w1 ⟨z,L⟩
     first|(replace g:=g;rcases hX:Xk bs d with ⟨er,at_⟩|⟨x,s⟩)|(replace f:=f;rcases hX:Xq bs bc.E d with ⟨er,at_⟩|⟨x,s⟩)|(rcases hX:Xw bs bc.E d with ⟨er,at_⟩|⟨x,s⟩)
     . rw [hX] at L;subst L
       refine ⟨rfl,Qa HG.o z,?_⟩
       rw [S.o,hX]
       exact rfl
     have bj:=R x s hX
     first|(replace g:=g;have ah:Hid (Q7 (λp_=>Xk bs p_) N [] p=Q7 (λp_=>Xk bs p_) (N-(k+1)) (b++[x]) s):=by show _=_;rw [S.o,hX];rfl)|(replace f:=f;have ah:Hid (Q7 (λp_=>Xq bs bc.E p_) N [] p=Q7 (λp_=>Xq bs bc.E p_) (N-(k+1)) (b++[x]) s):=by show _=_;rw [S.o,hX];rfl)|(have ah:Hid (Q7 (λp_=>Xw bs bc.E p_) N [] p=Q7 (λp_=>Xw bs bc.E p_) (N-(k+1)) (b++[x]) s):=by show _=_;rw [S.o,hX];rfl)
     rw [hX] at L;obtain ⟨cs,rs,he,G,m,ad⟩:=L;have av:=Hm G;have I:=Hm m
     first|(replace t2:=t2;obtain ⟨va,cg,vb,r1,rfl,bm,⟨cl,kl,a0,rfl⟩,rfl⟩:=G)|(obtain ⟨va,vb,r1,rfl,⟨cl,kl,a0,rfl⟩,rfl⟩:=G)
     first|(replace t2:=t2;obtain ⟨a1,n1,rfl⟩:∃ a c,va=.slice a x.locs.length c:=Qc.Ok.slice (m.head))|(obtain ⟨a1,n1,rfl⟩:∃ a c,va=.slice a x.off.length c:=Qc.Ok.slice (m.head))
     first|(replace g:=g;obtain ⟨Z,U,rfl⟩:∃ a c,vb=.slice a x.fs.length c:=Qc.Ok.slice (r:=nR vb x.fs) (m.all _ (by simp)))|(replace f:=f;obtain ⟨Z,U,rfl⟩:∃ a c,vb=.slice a x.bs.length c:=Qc.Ok.slice (r:=bR vb x.bs) (m.all _ (by simp)))|(obtain ⟨Z,U,rfl⟩:∃ a c,vb=.slice a x.body.length c:=Qc.Ok.slice (r:=⟨170,5,x.body.length,vb,cl⟩) (m.all _ (by simp)))
     first|(replace g:=g;replace he:e=.returned (.agg #[.slice a1 x.off.length n1,.slice Z x.fs.length U]):=he)|(replace f:=f;replace he:e=.returned (.agg #[.slice a1 x.off.length n1,.slice Z x.bs.length U]):=he)|(replace he:e=.returned (.agg #[.slice a1 x.locs.length n1,.slice Z x.body.length U]):=he)
     subst he
     first
     | (replace g:=g
        have a8:=ad.le)
     |skip
     have H:=Hm ad;have ai:=Hm z
     first|(replace g:=g;have J:Hid (∀ o,(w1.alloc o).ownsRow w.heap.size 79 2 _ b.length c):=λo=>World.ownsRow.alloc (M.o.grown z (λj hj L=>by cases hj;have:=(M.o.lt L).1;omega)).head o)|(replace f:=f;have J:Hid (∀ o,(w1.alloc o).ownsRow w.heap.size 85 2 _ b.length c):=λo=>World.ownsRow.alloc (M.o.grown z (λj hj L=>by cases hj;have:=(M.o.lt L).1;omega)).head o)|(have J:Hid (∀ o,(w1.alloc o).ownsRow w.heap.size 83 2 _ b.length c):=λo=>World.ownsRow.alloc (M.o.grown z (λj hj L=>by cases hj;have:=(M.o.lt L).1;omega)).head o)
     have bh:w.heap.size<=w1.heap.size:=Nat.le_trans HG.o.size z.size;clear ad z K m hX R S
     first|(replace g:=g;go_wp2_with (at_builtin;refine wpList_append_own_at _ rfl _ _ 29 rfl w.heap.size 79 i0 (.agg #[.slice none 0 0,.slice none 0 0]) 2 48 Tryz.underlying29 hi C B A rfl (by decide) _ _ _ rfl (J.o _) ⟨w1.heap.size,0,none⟩ 1 1 [.slice a1 x.off.length n1,.slice Z x.fs.length U] rfl rfl (Jd _ _ _) (by simp [Value.oneCell']) (by unfold maxLen;omega) (by omega) (by simp;omega) ?_;intro v3 w3 l u D t;have HE:=Hm (ent_step M.o HG.o hq HL.o ai.o H.o I.o u l t);clear l u D t))|(replace f:=f;go_wp2_with (at_builtin;refine wpList_append_own_at _ rfl _ _ 31 rfl w.heap.size 85 i0 (.agg #[.slice none 0 0,.slice none 0 0]) 2 48 Tryz.underlying31 hi C B A rfl (by decide) _ _ _ rfl (J.o _) ⟨w1.heap.size,0,none⟩ 1 1 [.slice a1 x.off.length n1,.slice Z x.bs.length U] rfl rfl (Jd _ _ _) (by simp [Value.oneCell']) (by unfold maxLen;omega) (by omega) (by simp;omega) ?_;intro v3 w3 l u D t;have HE:=Hm (ent_step M.o HG.o hq HL.o ai.o H.o I.o u l t);clear l u D t))|(go_wp2_with (at_builtin;refine wpList_append_own_at _ rfl _ _ 30 rfl w.heap.size 83 i0 (.agg #[.slice none 0 0,.slice none 0 0]) 2 48 Tryz.underlying30 hi C B A rfl (by decide) _ _ _ rfl (J.o _) ⟨w1.heap.size,0,none⟩ 1 1 [.slice a1 x.locs.length n1,.slice Z x.body.length U] rfl rfl (Jd _ _ _) (by simp [Value.oneCell']) (by unfold maxLen;omega) (by omega) (by simp;omega) ?_;intro v3 w3 l u D t;have HE:=Hm (ent_step M.o HG.o hq HL.o ai.o H.o I.o u l t);clear l u D t))
     go_roundw
     case rel=>exact ⟨k+1,b++[x],_,_,s,by omega,by go_num,ah.o,by simp;omega,aw.o.snoc av.o,by simpa using HE.o.1,HE.o.2.1,HE.o.2.2⟩
     case measure=>simp [intOf];omega
   . have e:k=N:=by omega
     subst e;have H:=Hm V
     first|(replace g:=g;have S:Hid (Q7 (λp_=>Xk bs p_) k [] p=.ok b d):=by show _=_;rw [Y,Nat.sub_self];rfl)|(replace f:=f;have S:Hid (Q7 (λp_=>Xq bs bc.E p_) k [] p=.ok b d):=by show _=_;rw [Y,Nat.sub_self];rfl)|(have S:Hid (Q7 (λp_=>Xw bs bc.E p_) k [] p=.ok b d):=by show _=_;rw [Y,Nat.sub_self];rfl)
     clear V Y
     go_wp2_with fail
     go_ret
     refine ⟨HG.o,?_⟩
     rw [S.o]
     exact ⟨_,_,_,rfl,aw.o,M.o,H.o,a3⟩
def entEl_c:=ent_x.1
def entDa_c:=ent_x.2.1
def entCo_c:=ent_x.2.2
theorem vec_y:(∀ (q:Nat) (ba:Option Addr) (bc:Bf) (bs:List Int) (p:Nat) (w:World) (h:Rd w q ba bc bs p) (d:Qm bs) (hl:bs.length<=1099511627776),Calls Tryz.prog 244 #[.pointer (some ⟨q,0,none⟩),.func (.func 245) #[.pointer (some ⟨q,0,none⟩)] #[]] w (RlP (Jj (λp_=>Xk bs p_) bs p) REle 79 2 w q ba bc bs))/\(∀ (q:Nat) (ba:Option Addr) (bc:Bf) (bs:List Int) (p:Nat) (w:World) (h:Rd w q ba bc bs p) (d:Qm bs) (hl:bs.length<=1099511627776) (z:bc.E<=9223372036854775807),Calls Tryz.prog 248 #[.pointer (some ⟨q,0,none⟩),.func (.func 249) #[.pointer (some ⟨q,0,none⟩)] #[]] w (RlP (Jj (λp_=>Xq bs bc.E p_) bs p) RDat 85 2 w q ba bc bs)):=by
 refine ⟨?c0,?c1⟩
 case' c0=>intro q ba bc bs p w h d hl;have f:=0
 case' c1=>intro q ba bc bs p w h d hl z;have O:=0
 all_goals
  have K:=Hm (JR q ba bc bs p w h d hl);have g:=λv p1=>Jq (p:=p) (p1:=p1) (v:=v) d;unfold Jj;have F:=Hm d;clear h d
  first|(replace f:=f;go_enter Tryz.func244,Tryz.ntmps244)|(go_enter Tryz.func248,Tryz.ntmps248)
  go_wp2_with fail
  refine (K.o).mono ?_
  rintro e y ⟨r,k⟩
  rcases hM:Qy false 32 bs p with ⟨er,at_⟩|⟨v,p1⟩
  . rw [hM] at k;subst k
    refine ⟨rfl,r,?_⟩
    simp only [hM,Rs.bind]
  have D:=Hm hM;rw [hM] at k;obtain ⟨rfl,n⟩:=k;obtain ⟨v0,v1⟩:=g v p1 hM
  first|(replace f:=f;have t:=Hm (entEl_c q ba bc bs p1 v y n F.o hl v0 v1))|(have t:=Hm (entDa_c q ba bc bs p1 v y n F.o hl v0 v1 z))
  have l:=Hm r;clear n hM K r g
  go_wp2_with fail
  refine (t.o).mono ?_
  rintro e M ⟨b,a⟩
  first|(replace f:=f;rcases hX:Q7 (λp_=>Xk bs p_) v.toNat [] p1 with ⟨er,at_⟩|⟨u,I⟩)|(rcases hX:Q7 (λp_=>Xq bs bc.E p_) v.toNat [] p1 with ⟨er,at_⟩|⟨u,I⟩)
  . rw [hX] at a;subst a
    refine ⟨rfl,Qa l.o b,?_⟩
    simp only [D.o,Rs.bind,hX]
  rw [hX] at a;obtain ⟨G,c,J,rfl,C,s,B,A⟩:=a;have L:=Hm hX;have j:=Hm (And.intro (Qa l.o b) (And.intro C (And.intro (s.mono l.o.size) (And.intro B A))));obtain ⟨va,H,m⟩:=Qc.Ok.slice s.head;replace m:G=.slice va u.length H:=m;subst m;clear hX C s B A b t l
  go_wp2_with fail
  go_ret
  refine ⟨j.o.1,?_⟩
  simp only [D.o,Rs.bind,L.o]
  exact ⟨_,c,J,by first|rfl|trivial,j.o.2.1,j.o.2.2.1,j.o.2.2.2.1,j.o.2.2.2.2⟩
def vecEl_c:=vec_y.1
def vecDa_c:=vec_y.2
theorem secno_c (q ba bc bs p)(last:Int)(w)(h:Rd w q ba bc bs p)(A:Qm bs)(hl:bs.length<=1099511627776)(b:bc.rest[13]?=some (.int .i64 last)) :
    Calls Tryz.prog 81 #[.pointer (some ⟨q,0,none⟩)] w (RdP (noM last bs p) (λv=>.int .i64 v) w q ba bc bs):=by
 have K:=Hm (take_c q ba bc bs p w h hl);have d:=λv p1=>Xn (p:=p) (p1:=p1) (v:=v) A;clear h;unfold noM
 go_enter Tryz.func81,Tryz.ntmps81
 go_wp2_with fail
 refine (K.o).mono ?_
 rintro e m ⟨s,g⟩
 rcases hM:Qx bs p with ⟨er,at_⟩|⟨x,p1⟩
 . rw [hM] at g;subst g
   refine ⟨rfl,s,?_⟩
   simp only [hM,Rs.bind]
 obtain ⟨C,B⟩:=d x p1 hM;rw [hM] at g;obtain ⟨rfl,r⟩:=g;have k:=Hm hM;have l:=Hm s;have j:=Hm r;have D:m.cell? ⟨q,16,none⟩=some (.int .i64 last):=r.rst 13 _ b;clear s r hM K d
 by_cases f:11<x
 . have t:=Hm (JE q 4 p1 m j.o.c1)
   go_wp2_with fail
   refine (t.o).mono ?_
   rintro e y ⟨rfl,rfl⟩
   refine ⟨rfl,l.o,?_⟩
   simp only [k.o,Rs.bind,if_pos f]
   exact rfl
 have a:x<=11:=by omega
 clear f
 by_cases n:x=0
 . subst n
   go_wp2_with fail
   go_ret
   refine ⟨l.o,?_⟩
   simp only [k.o,Rs.bind,if_neg (show ¬ (11:Int)<0 by decide)]
   exact ⟨rfl,j.o⟩
 have z:(x==0)=false:=by simpa using n
 by_cases c:x<=last
 . have t:=Hm (JE q 5 p1 m j.o.c1)
   go_wp2_with fail
   refine (t.o).mono ?_
   rintro e y ⟨rfl,rfl⟩
   refine ⟨rfl,l.o,?_⟩
   simp only [k.o,Rs.bind,if_neg (Int.not_lt.2 a)]
   rw [if_pos ⟨n,c⟩]
   exact rfl
 . have u:last<x:=by omega
   clear c
   go_wp2_with fail
   go_ret
   refine ⟨l.o,?_⟩
   simp only [k.o,Rs.bind,if_neg (Int.not_lt.2 a)]
   rw [if_neg (λh=>by omega)]
   exact ⟨rfl,j.o⟩
def secT (q:Nat):List Value:=[.func (.func 150) #[.pointer (some ⟨q,0,none⟩)] #[],.func (.func 151) #[.pointer (some ⟨q,0,none⟩)] #[],.func (.func 152) #[.pointer (some ⟨q,0,none⟩)] #[],.func (.func 153) #[.pointer (some ⟨q,0,none⟩)] #[],.func (.func 154) #[.pointer (some ⟨q,0,none⟩)] #[],.func (.func 155) #[.pointer (some ⟨q,0,none⟩)] #[],.func (.func 156) #[.pointer (some ⟨q,0,none⟩)] #[],.func (.func 157) #[.pointer (some ⟨q,0,none⟩)] #[],.func (.func 158) #[.pointer (some ⟨q,0,none⟩)] #[],.func (.func 159) #[.pointer (some ⟨q,0,none⟩)] #[],.func (.func 160) #[.pointer (some ⟨q,0,none⟩)] #[],.func (.func 161) #[.pointer (some ⟨q,0,none⟩)] #[]]
theorem sections_c (q:Nat)(w:World) :
    Calls Tryz.prog 79 #[.pointer (some ⟨q,0,none⟩)] w λe w'=>e=.returned (.agg (secT q).toArray)/\Below w.heap.size w w':=by
 obtain ⟨W,a⟩:∃ W,W=w.alloc (.cells #[.nilFunc,.nilFunc,.nilFunc,.nilFunc,.nilFunc,.nilFunc,.nilFunc,.nilFunc,.nilFunc,.nilFunc,.nilFunc,.nilFunc] 137):=⟨_,rfl⟩;have hB:Bk W w.heap.size [.nilFunc,.nilFunc,.nilFunc,.nilFunc,.nilFunc,.nilFunc,.nilFunc,.nilFunc,.nilFunc,.nilFunc,.nilFunc,.nilFunc]:=by rw [a];exact Bk.new
 have g:Below w.heap.size w W:=by rw [a];exact bF.alloc lR _
 have H:=Hm a;have I:=Hm g;have G:=hB.2.1 0 _ rfl;have u:=hB.2.2 0;have F:=hB.2.1 1 _ rfl;have t:=hB.2.2 1;have E:=hB.2.1 2 _ rfl;have s:=hB.2.2 2;have z3:=hB.2.1 3 _ rfl;have r:=hB.2.2 3;have D:=hB.2.1 4 _ rfl;have p:=hB.2.2 4;have C:=hB.2.1 5 _ rfl;have n:=hB.2.2 5;have B:=hB.2.1 6 _ rfl;have m:=hB.2.2 6;have A:=hB.2.1 7 _ rfl;have l:=hB.2.2 7;have z:=hB.2.1 8 _ rfl;have k:=hB.2.2 8;have y:=hB.2.1 9 _ rfl;have j:=hB.2.2 9;have c:=hB.2.1 10 _ rfl;have f:=hB.2.2 10;have b:=hB.2.1 11 _ rfl;have d:=hB.2.2 11;clear a hB g
 go_enter Tryz.func79,Tryz.ntmps79
 go_upto_region 1 with fail
 rw [<- H.o]
 go_wp2_with fail
 exact bodyPost_ret (v:=.agg (secT q).toArray) (by simp [results,Tryz.results79,go_sem,secT,G,F,E,z3,D,C,B,A,z,y,c,b]) rfl (by
  exact ⟨rfl,(Below.setCell (Below.setCell (Below.setCell (Below.setCell (Below.setCell (Below.setCell (Below.setCell (Below.setCell (Below.setCell (Below.setCell (Below.setCell (Below.setCell I.o lR _) lR _) lR _) lR _) lR _) lR _) lR _) lR _) lR _) lR _) lR _) lR _)⟩)
end Go.Proofs.YtedcmcdbejjgcaaGreat
namespace Go.Proofs.YtedcmcdbejjgcaaGreat.Ms
open Go.RowKit Go.Sort
theorem slow32 (x:Int)(w:World)(h0:0<=x)(h1:x<=18446744073709551615):Calls Tryz.prog 254 #[.int .u64 x,.int .i64 32] w λe a=>e=.returned (.int .u64 (x%4294967296))/\w=a:=by
 have b:By.P2 32=4294967296:=by decide
 go_enter Tryz.func254,Tryz.ntmps254
 go_wp2_with (go_at_call 276;refine (By.Jt _ _ (by omega) (by omega)).mono ?_;rintro e a ⟨rfl,rfl⟩)
 go_ret
 exact ⟨rfl,rfl⟩
def SiP (M:Rs In)(w:World)(s:Nat)(ba:Option Addr)(bc:Bd)(bs:List Int)(e:Ending)(w':World):Prop :=
 w.grownBy w' (some s)/\∃ x la lc,e=.returned (inV x la lc)/\(match M with
  |.bad er a=>er≠0/\∃ p',Sr w' s ba bc bs p' er a
  | .ok x' p'=>x=x'/\w'.ownsRow w.heap.size 2 1 (.slice la x.l.length lc) x.l.length (I x.l)/\Sr w' s ba bc bs p' 0 0)
theorem Sr.far {W}{s X:Nat}{ba bc bs p er at_}(h:Sr W s ba bc bs p er at_)(c:s<X)(a:∀ b o,bc.ea=some ⟨b,o,none⟩->b≠X)(o:Nat)(v:Value):Sr (W.setCell ⟨X,o,none⟩ v) s ba bc bs p er at_ :=
 h.grown (Qp W X o v) (by simp;omega) (λk hk=>by simp at hk;omega) (λk hk b o e=>by simp at hk;subst hk;exact a b o e)
theorem J3 {w W:World}{s X:Nat}(h:w.grownBy W (some s))(a:w.heap.size<=X)(o:Nat)(v:Value):w.grownBy (W.setCell ⟨X,o,none⟩ v) (some s) :=
 Gu h (Qp W X o v) (λk hk=>by simp at hk;omega)
theorem JZ {w W:World}{s ba bc bs p er at_}{v0 v1 v2 f d:Value}(g:Sr W s ba bc bs p er at_)(j:w.grownBy W (some s))(c:s<w.heap.size)(a:∀ b o,bc.ea=some ⟨b,o,none⟩->b≠w.heap.size) :
    w.grownBy (((((W.setCell ⟨w.heap.size,0,none⟩ v0).setCell ⟨w.heap.size,1,none⟩ v1).setCell ⟨w.heap.size,2,none⟩ v2).setCell ⟨w.heap.size,3,none⟩ f).setCell ⟨w.heap.size,4,none⟩ d) (some s)/\Sr (((((W.setCell ⟨w.heap.size,0,none⟩ v0).setCell ⟨w.heap.size,1,none⟩ v1).setCell ⟨w.heap.size,2,none⟩ v2).setCell ⟨w.heap.size,3,none⟩ f).setCell ⟨w.heap.size,4,none⟩ d) s ba bc bs p er at_ :=
 ⟨J3 (J3 (J3 (J3 (J3 j lR _ _) lR _ _) lR _ _) lR _ _) lR _ _,((((g.far c a _ _).far c a _ _).far c a _ _).far c a _ _).far c a _ _⟩
end Go.Proofs.YtedcmcdbejjgcaaGreat.Ms
namespace Go.Proofs.YtedcmcdbejjgcaaGreat
open Go.RowKit Go.Sort
structure JI (B q:Nat)(w w':World):Prop where
 os:w'.os=w.os
 tape:w'.tape=w.tape
 output:w'.output=w.output
 size:w.heap.size<=w'.heap.size
 block:∀ k,k<B->k≠q->w'.heap[k]?=w.heap[k]?
theorem JI.refl (B q:Nat)(w:World):JI B q w w:=⟨rfl,rfl,rfl,lR,λ_ _ _=>rfl⟩
theorem JI.by {B q}{w w1 w2:World}(h:JI B q w w1)(hB:B<=w1.heap.size)(hg:w1.grownBy w2 (some q)):JI B q w w2 :=
 ⟨hg.os.trans h.os,hg.tape.trans h.tape,hg.output.trans h.output,Nat.le_trans h.size hg.size,λk hk hn=>(hg.block k (by omega) (by simpa using hn)).trans (h.block k hk hn)⟩
theorem JI.keep {B q w w1 w2}(h:JI B q w w1)(hB:B<=w1.heap.size)(hg:Below w1.heap.size w1 w2):JI B q w w2 :=
 ⟨hg.os.trans h.os,hg.tape.trans h.tape,hg.output.trans h.output,Nat.le_trans h.size hg.size,λk hk hn=>(hg.block k (by omega)).trans (h.block k hk hn)⟩
theorem JI.past {B q}{w w1 w2:World}{r:Option Nat}(h:JI B q w w1)(hB:B<=w1.heap.size)(hg:w1.grownBy w2 r)(hr:∀ k,r=some k->B<=k):JI B q w w2 :=
 ⟨hg.os.trans h.os,hg.tape.trans h.tape,hg.output.trans h.output,Nat.le_trans h.size hg.size,λk hk hn=>(hg.block k (by omega) (λe=>by have:=hr k e.symm;omega)).trans (h.block k hk hn)⟩
structure Sm (B:Nat)(w0:World)(q:Nat)(ba:Option Addr)(bc:Bf)(bs:List Int)(p:Nat)(rs:List Qc)(V:World):Prop where
 r:Rd V q ba bc bs p
 b:JI B q w0 V
 o:Own B V rs
 by_:ByL ba bc B
 qB:q<B
 sz:B<=V.heap.size
theorem Sm.qn {B w0 q ba bc bs p rs V}(h:Sm B w0 q ba bc bs p rs V):q ∉ blk rs:=λhk=>by have:=(h.o.lt hk).1;have:=h.qB;omega
theorem Sm.step {B w0 q ba bc bs p p' rs}{V V':World}(h:Sm B w0 q ba bc bs p rs V)(hg:V.grownBy V' (some q))(hr:Rd V' q ba bc bs p')(a:B<=V.heap.size):Sm B w0 q ba bc bs p' rs V' :=
 ⟨hr,h.b.by h.sz hg,h.o.grown hg (λk e hk=>by cases e;exact h.qn hk),h.by_,h.qB,Nat.le_trans h.sz hg.size⟩
theorem Sm.keep {B w0 q ba bc bs p rs V V'}(h:Sm B w0 q ba bc bs p rs V)(a:Below V.heap.size V V')(c:B<=V.heap.size):Sm B w0 q ba bc bs p rs V' :=
 ⟨h.r.keep a,h.b.keep h.sz a,h.o.keep a,h.by_,h.qB,Nat.le_trans h.sz a.size⟩
theorem Sm.bl {B w0 q ba bc bs p rs}{V V':World}(h:Sm B w0 q ba bc bs p rs V)(hg:V.grownBy V' (some q)):JI B q w0 V':=h.b.by h.sz hg
theorem Sm.lt {B w0 q ba bc bs p rs V}(h:Sm B w0 q ba bc bs p rs V):B<=V.heap.size:=h.sz
theorem Sm.put {B w0 q ba bc bs}{p C i:Nat}{r r':Qc}{rs new:List Qc}{V w2 d:World}{o:Obj}(h:Sm B w0 q ba bc bs p (r::rs) V)(t:B<=V.heap.size)(I:i<15)(hg:V.grownBy w2 (some q))(hr:Rd w2 q ba bc bs C)(H:Own V.heap.size w2 new)(z:(w2.alloc o).grownBy d r.v.ownBlock)(own:r'.Ok B d)(s:r'.v.ownBlock=r.v.ownBlock\/r'.v.ownBlock=some (w2.alloc o).heap.size) :
    Sm B w0 q ba { bc with rest:=bc.rest.set i r'.v } bs C (r'::(rs++new)) (d.setCell ⟨q,3+i,none⟩ r'.v):=by
 have u:=h.step hg hr t;have g:Below w2.heap.size w2 (w2.alloc o):=bF.alloc lR _;have L:=h.r.lt;have J:=hg.size;have n:∀ k,r.v.ownBlock=some k->B<=k:=λk hk=>(World.ownsRow.lt u.o.head k hk).1;have m:some q≠r.v.ownBlock:=λe=>h.qn (Qn.2 ⟨r,by simp,e.symm⟩);have R:Own B w2 ((r::rs)++new):=h.o.new u.o H t;have O:Own B d (r'::(rs++new)):=(R.keep g).push z own s;have c:Rd d q ba bc bs C:=(hr.keep g).grown z m (λa ea hx e=>by have S:=h.by_ a ea hx;have:=n _ e.symm;omega)
 have A:q ∉ blk (r'::(rs++new)):=λhm=>by
  obtain ⟨y,l,e⟩:=Qn.1 hm
  simp at l
  rcases l with rfl|l|l
  . rcases s with E|E
    . exact m (by rw [<- E];exact e.symm)
    . rw [E] at e;injection e with e;simp at e;omega
  . exact h.qn (Qn.2 ⟨y,by simp [l],e⟩)
  . have:=(H.lt (Qn.2 ⟨y,l,e⟩)).1;omega
 have f:=Qp d q (3+i) r'.v;have F:JI B q w0 d:=(u.b.keep u.sz g).past (by simp;omega) z n;have M:By.Has (d.setCell ⟨q,3+i,none⟩ r'.v) ba bc.fs:=c.hasF.grown f c.ne;have G:w2.heap.size<=d.heap.size:=by have:=z.size;simp at this;omega
 refine ⟨⟨Qd c.c0 (by omega),Qd c.c1 (by omega),Qd c.c2 (by omega),λj=>by rw [World.frozen?_setCell];exact c.fz j,c.has.grown f c.ne,c.ne,c.le,c.cap,Qd c.cn (by omega),Qd c.cw (by omega),M,c.win,c.e0,c.capF,λj v hv=>?_,by have:=c.rl;simpa using this,c.fl⟩,F.by (by omega) f,O.grown f (λk e hk=>by cases e;exact A hk),h.by_,h.qB,by simp;omega⟩
 . by_cases e:j=i
   . subst e;rw [List.getElem?_set_self (by rw [c.rl];exact I)] at hv
     cases hv
     obtain ⟨v0,D⟩:∃ v0,bc.rest[j]?=some v0:=⟨_,List.getElem?_eq_getElem (by rw [c.rl];exact I)⟩
     exact QE (c.rst j v0 D)
   . rw [List.getElem?_set_ne (λh=>e h.symm)] at hv
     exact Qd (c.rst j v hv) (by omega)
theorem set_self {α:Type}{l:List α}{i:Nat}{v:α}(h:l[i]?=some v):l.set i v=l:=by
 obtain ⟨a,rfl⟩:=List.getElem?_eq_some_iff.1 h
 exact List.set_getElem_self a
theorem nx_ft (bs:List Int)(p:Nat):(ftM bs p).nx p:=Jy (nx_mark _ _ _) λ_ p1=>Qs (JA (λp=>up_only _ _ _) _ _).up λps p2=>Qs (JC _ _).up λn p3=>JJ (Xb _ _ _) (Qs (up_repG (λp=>up_only _ _ _) _ _ _) λrs p4=>Q6 _ _)
def BsP {α:Type}(M:Rs (List α))(Rep:α->List Value->List Qc->Prop)(l0:List α)(i e sz B:Nat)(w0:World)(q:Nat)(ba:Option Addr)(bc:Bf)(bs:List Int)(os:List Qc)(en:Ending)(w':World):Prop :=
 match M with
 |.bad er at_=>en=.panicked [bc.flt er at_]/\JI B q w0 w'
 |.ok l p'=>∃ v c k,en=.returned (.tuple #[])/\LR Rep (l0++l) c k/\Sm B w0 q ba { bc with rest:=bc.rest.set i v } bs p' (⟨e,sz,(l0++l).length,v,c⟩::(os++k)) w'/\(l0++l).length<=p'
theorem rd_re {α:Type}{M:Rs α}{j:α->Value}{c:α->List Value->List Qc->Prop}{b:List Value->Value}{f:α->List Value}{w:World}{q:Nat}{ba:Option Addr}{bc:Bf}{bs:List Int}{e:Ending}{g:World}(h1:∀ x,c x (f x) [])(k:∀ x,b (f x)=j x)(h:RdP M j w q ba bc bs e g):ReP M c b w q ba bc bs e g:=by
 refine ⟨h.1,?_⟩
 have d:=h.2
 cases M with
 |bad er a=>exact d
 |ok x p'=>exact ⟨f x,[],by rw [k];exact d.1,h1 x,Own.nil _ _,d.2⟩
theorem nx_flag (bs:List Int)(p:Nat):(flagM bs p).nx p:=Jy (Jy (nx_take _ _) λv p1=>JJ (Q6 _ _) (Xb _ _ _)) λv p1=>Q6 _ _
theorem nx_lim (bs:List Int)(p:Nat):(XR bs p).nx p:=Jy (nx_flag _ _) λh p1=>Qs (JC _ _).up λmn p2=>JJ (Qs (JC _ _).up λmx p3=>Q6 _ _) (Q6 _ _)
theorem nx_tab (bs:List Int)(p:Nat):(GC bs p).nx p:=Jy (nx_mark _ _ _) λ_ p1=>(nx_lim _ _).up
theorem X8 (f:Int->Bool)(bs:List Int)(p:Nat):(Qz f bs p).nx p:=Jy (nx_take _ _) λv p1=>JJ (Q6 _ _) (Xb _ _ _)
theorem nx_gty (bs:List Int)(p:Nat):(gtyM bs p).nx p:=Jy (X8 _ _ _) λt p1=>Qs (nx_flag _ _).up λm p2=>Q6 _ _
theorem nx_glob (bs:List Int)(p:Nat):(XH bs p).nx p:=Jy (nx_gty _ _) λt p1=>Qs (up_list _ _) λl p2=>Q6 _ _
theorem up_nameG (bs:List Int):∀ (n w p:Nat),(Jn bs n w p).up p
 |0,w,p=>JJ (Xb _ _ _) (Q6 _ _)
 |n+1,w,p=>Qs (nx_take _ _).up λv p1=>JJ (up_nameG bs n _ _) (JJ (up_nameG bs n _ _) (Xb _ _ _))
theorem X9 (bs:List Int)(E:Int)(p:Nat):(Xa bs E p).nx p:=Jy (Of _ _ _) λn p1=>Qs (up_nameG bs _ _ _) λ_ p2=>Q6 _ _
theorem nx_exp (bs:List Int)(E:Int)(p:Nat):(expM bs E p).nx p:=Jy (X9 _ _ _) λa p1=>Qs (X8 _ _ _).up λk p2=>Qs (JC _ _).up λi p3=>Q6 _ _
theorem Og (bs:List Int)(E:Int)(p:Nat):(XK bs E p).nx p:=Jy (X9 _ _ _) λa p1=>Qs (X9 _ _ _).up λb p2=>Qs (X8 _ _ _).up λk p3=>JJ (Qs (JC _ _).up λt p4=>Q6 _ _) (JJ (Qs (nx_tab _ _).up λl p4=>Q6 _ _) (JJ (Qs (nx_lim _ _).up λl p4=>Q6 _ _) (Qs (nx_gty _ _).up λg p4=>Q6 _ _)))
section
variable {B:Nat} {w0:World} {q:Nat} {ba:Option Addr} {bc:Bf} {bs:List Int} {p p':Nat} {rs rs' new:List Qc} {V V':World}
theorem Sm.perm (h:Sm B w0 q ba bc bs p rs V)(hp:rs.Perm rs'):Sm B w0 q ba bc bs p rs' V :=
 ⟨h.r,h.b,h.o.perm hp,h.by_,h.qB,h.sz⟩
theorem Sm.drop {a:List Qc}(h:Sm B w0 q ba bc bs p (a++rs) V):Sm B w0 q ba bc bs p rs V :=
 ⟨h.r,h.b,h.o.right,h.by_,h.qB,h.sz⟩
theorem Sm.rows (h:Sm B w0 q ba bc bs p rs V)(a:B<=V.heap.size)(hg:V.grownBy V' (some q))(hr:Rd V' q ba bc bs p')(c:Own V.heap.size V' new):Sm B w0 q ba bc bs p' (rs++new) V' :=
 ⟨hr,(h.step hg hr a).b,h.o.new (h.step hg hr a).o c a,h.by_,h.qB,Nat.le_trans h.sz hg.size⟩
theorem Rd.setc {w}(h:Rd w q ba bc bs p)(i:Nat)(c:i<15)(v:Value):Rd (w.setCell ⟨q,3+i,none⟩ v) q ba { bc with rest:=bc.rest.set i v } bs p:=by
 have a:=Qp w q (3+i) v;have d:By.Has (w.setCell ⟨q,3+i,none⟩ v) ba bc.fs:=h.hasF.grown a h.ne
 refine ⟨Qd h.c0 (by omega),Qd h.c1 (by omega),Qd h.c2 (by omega),λj=>by rw [World.frozen?_setCell];exact h.fz j,h.has.grown a h.ne,h.ne,h.le,h.cap,Qd h.cn (by omega),Qd h.cw (by omega),d,h.win,h.e0,h.capF,λj u hu=>?_,by have:=h.rl;simpa using this,h.fl⟩
 by_cases e:j=i
 . subst e;rw [List.getElem?_set_self (by rw [h.rl];exact c)] at hu
   cases hu
   obtain ⟨v0,b⟩:∃ v0,bc.rest[j]?=some v0:=⟨_,List.getElem?_eq_getElem (by rw [h.rl];exact c)⟩
   exact QE (h.rst j v0 b)
 . rw [List.getElem?_set_ne (λh=>e h.symm)] at hu
   exact Qd (h.rst j u hu) (by omega)
theorem Sm.setc (h:Sm B w0 q ba bc bs p rs V)(i:Nat)(a:i<15)(v:Value):Sm B w0 q ba { bc with rest:=bc.rest.set i v } bs p rs (V.setCell ⟨q,3+i,none⟩ v) :=
 ⟨h.r.setc i a v,h.b.by h.sz (Qp V q (3+i) v),h.o.grown (Qp V q (3+i) v) (λk e hk=>by cases e;exact h.qn hk),h.by_,h.qB,by have:=h.sz;simpa using this⟩
end
structure MB (m:Mod)(p:Nat):Prop where
 types:m.types.length<=p
 imps:m.imps.length<=p
 funcs:m.funcs.length<=p
 tabs:m.tabs.length<=p
 mems:m.mems.length<=p
 globs:m.globs.length<=p
 exps:m.exps.length<=p
 elems:m.elems.length<=p
 codes:m.codes.length<=p
 datas:m.datas.length<=p
 customs:m.customs.length<=p
theorem MB.up {m:Mod}{p p':Nat}(h:MB m p)(hp:p<=p'):MB m p':=⟨Nat.le_trans h.1 hp,Nat.le_trans h.2 hp,Nat.le_trans h.3 hp,Nat.le_trans h.4 hp,Nat.le_trans h.5 hp,Nat.le_trans h.6 hp,Nat.le_trans h.7 hp,Nat.le_trans h.8 hp,Nat.le_trans h.9 hp,Nat.le_trans h.10 hp,Nat.le_trans h.11 hp⟩
theorem MB.ln {m:Mod}{p:Nat}(h:MB m p)(hp:p<=1048576):m.Ln:=⟨Nat.le_trans h.1 hp,Nat.le_trans h.2 hp,Nat.le_trans h.3 hp,Nat.le_trans h.4 hp,Nat.le_trans h.5 hp,Nat.le_trans h.6 hp,Nat.le_trans h.7 hp,Nat.le_trans h.8 hp,Nat.le_trans h.9 hp,Nat.le_trans h.10 hp,Nat.le_trans h.11 hp⟩
def SeP (M:Rs Mod)(B:Nat)(w0:World)(q:Nat)(ba:Option Addr)(bc:Bf)(bs:List Int)(en:Ending)(w':World):Prop :=
 match M with
 |.bad er at_=>en=.panicked [bc.flt er at_]/\JI B q w0 w'
 |.ok m p'=>∃ rest L,en=.returned (.tuple #[])/\MR m rest L/\rest[13]?=bc.rest[13]?/\rest[14]?=bc.rest[14]?/\MB m p'/\Sm B w0 q ba { bc with rest:=rest } bs p' L.flatten w'
end Go.Proofs.YtedcmcdbejjgcaaGreat
