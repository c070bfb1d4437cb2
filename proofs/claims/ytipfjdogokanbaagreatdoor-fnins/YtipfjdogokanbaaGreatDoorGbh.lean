import Derived.Test.YtipfjdogokanbaaGreatDoorGaa
import Derived.Test.YtipfjdogokanbaaGreatDoorGba
import Derived.Test.YtipfjdogokanbaaGreatDoorGbe
import Derived.Test.YtipfjdogokanbaaGreatDoorGau
import Derived.Test.YtipfjdogokanbaaGreatDoorGbg
set_option linter.all false
set_option maxHeartbeats 400000000
set_option maxRecDepth 100000
set_option linter.all false
namespace Go.Proofs.YtipfjdogokanbaaGreatDoor.Ed.By
open Go.RowKit
theorem rokU_iff_nat:∀ c:Nat,c<128->∀ u:Nat,u<8->1<=u->rok false c u=decide ((c:Int)<P2 u):=by decide +kernel
theorem rokU_iff (c u:Int)(h0:0<=c)(h1:c<128)(h2:1<=u)(h3:u<=7):rok false c u=decide (c<P2 u):=by
 obtain ⟨C,rfl⟩:=Int.eq_ofNat_of_zero_le h0;obtain ⟨V,rfl⟩:=Int.eq_ofNat_of_zero_le (show 0<=u by omega)
 exact rokU_iff_nat C (by omega) V (by omega) (by omega)
theorem rokS_iff_nat:∀ c:Nat,c<128->∀ u:Nat,u<8->1<=u->rok true (((c:Int)-64)%128) u=decide (-P2 ((u:Int)-1)<=(c:Int)-64/\(c:Int)-64<P2 ((u:Int)-1)):=by decide +kernel
theorem rokS_iff (y u:Int)(h0:-64<=y)(h1:y<=63)(h2:1<=u)(h3:u<=7):rok true (y%128) u=decide (-P2 (u-1)<=y/\y<P2 (u-1)):=by
 obtain ⟨C,hC⟩:=Int.eq_ofNat_of_zero_le (show 0<=y+64 by omega);obtain ⟨V,rfl⟩:=Int.eq_ofNat_of_zero_le (show 0<=u by omega)
 have:=rokS_iff_nat C (by omega) V (by omega) (by omega)
 rw [show (C:Int)-64=y by omega] at this
 exact this
theorem P2_add (m n:Int)(hm:0<=m)(hn:0<=n):P2 (m+n)=P2 n*P2 m:=by
 unfold P2;rw [show (m+n).toNat=n.toNat+m.toNat by omega,Int.pow_add]
theorem P2_small {u:Int}(h:u<=7):P2 u<=128:=by
 have:=J4 h;rw [show P2 7=128 by decide] at this;exact this
theorem P2_small6 {u:Int}(h:u<=6):P2 u<=64:=by
 have:=J4 h;rw [show P2 6=64 by decide] at this;exact this
theorem Gz {bs:List Int}{n:Nat}{c:Int}{t:List Int}(h:bs.drop n=c::t):n<bs.length/\bs.getD n 0=c/\bs.drop (n+1)=t:=by
 have hl:n<bs.length:=by
  have:=congrArg List.length h
  simp at this;omega
 rw [List.drop_eq_getElem_cons hl] at h
 injection h with h1 h2
 exact ⟨hl,by simp [List.getD,hl,h1],h2⟩
theorem J8 {y q P acc:Int}(hP:1<=P)(h0:0<=acc)(h1:acc<P):(y<q->acc+y*P<q*P)/\(q<=y->q*P<=acc+y*P):=by
 constructor
 . intro h
   have:(y+1)*P<=q*P:=Int.mul_le_mul_of_nonneg_right (by omega) (by omega)
   rw [Int.add_mul] at this
   omega
 . intro h
   have:q*P<=y*P:=Int.mul_le_mul_of_nonneg_right h (by omega)
   omega
theorem split_mul (y P acc:Int):acc+(y%128)*P+(y / 128)*(128*P)=acc+y*P:=by
 have h:y*P=(128*(y / 128)+y%128)*P:=by rw [Int.mul_ediv_add_emod]
 rw [h,Int.add_mul]
 have:(y / 128)*(128*P)=128*(y / 128)*P:=by
  rw [<- Int.mul_assoc,Int.mul_comm (y / 128) 128]
 omega
theorem getU_last (bs:List Int)(p:Nat)(B:Int)(f k:Nat)(y acc:Int)(h1:p+k<bs.length)(h2:bs.getD (p+k) 0=y)(hy:0<=y)(hy1:y<128)(hkB:7*(k:Int)<B)(ha0:0<=acc)(ha1:acc<P2 (7*(k:Int))) :
    (acc+y*P2 (7*(k:Int))<P2 B->QR false bs p B (f+1) k acc=(0,(acc+y*P2 (7*(k:Int)))%18446744073709551616,(p:Int)+k+(([y]:List Int).length:Int))) /\
    (P2 B<=acc+y*P2 (7*(k:Int))->(QR false bs p B (f+1) k acc).1=2\/(QR false bs p B (f+1) k acc).1=3):=by
 have hP:=Q7 (7*(k:Int));have hB:P2 B=P2 (B-7*(k:Int))*P2 (7*(k:Int)):=by rw [<- P2_add _ _ (by omega) (by omega)];congr 1;omega
 have hml:=J8 (y:=y) (q:=P2 (B-7*(k:Int))) hP ha0 ha1;rw [<- hB] at hml
 have hok:(B-7*(k:Int)<=7->rok false y (B-7*(k:Int))=true)->QR false bs p B (f+1) k acc=(0,(acc+y*P2 (7*(k:Int)))%18446744073709551616,(p:Int)+k+(([y]:List Int).length:Int)):=by
  intro h
  rw [Xj (s:=false) (f:=f) (acc:=acc) h1 (by rw [h2];exact hy1) (by rw [h2];exact h),h2,show y%128=y by omega];unfold fin;rw [if_neg (by simp)]
  rfl
 by_cases hroom:B-7*(k:Int)<=7
 . have hr:=rokU_iff y (B-7*(k:Int)) hy hy1 (by omega) hroom
   by_cases hq:y<P2 (B-7*(k:Int))
   . exact ⟨λ_=>hok (λ_=>by rw [hr];exact decide_eq_true hq),λh=>by have:=hml.1 hq;omega⟩
   . have hb:=JW (s:=false) (f:=f) (acc:=acc) h1 hroom (by rw [h2];exact hy1) (by rw [h2,hr];exact decide_eq_false hq);rw [hb]
     exact ⟨λh=>by have:=hml.2 (by omega);omega,λ_=>.inr rfl⟩
 . refine ⟨λ_=>hok (λh=>absurd h hroom),λh=>?_⟩
   have h7:P2 7<=P2 (B-7*(k:Int)):=J4 (by omega);rw [show P2 7=128 by decide] at h7
   have:=hml.1 (by omega)
   omega
theorem getU_gen (bs:List Int)(p:Nat)(B:Int)(rest:List Int):∀ (f' f k:Nat) (y acc:Int),bs.drop (p+k)=QH f' y++rest->fitU f' y->0<=y->k+f'<=9->f'<=f->7*(k:Int)<B->0<=acc->acc<P2 (7*(k:Int)) ->
    (acc+y*P2 (7*(k:Int))<P2 B->QR false bs p B (f+1) k acc=(0,(acc+y*P2 (7*(k:Int)))%18446744073709551616,(p:Int)+k+(QH f' y).length)) /\
    (P2 B<=acc+y*P2 (7*(k:Int))->(QR false bs p B (f+1) k acc).1=2\/(QR false bs p B (f+1) k acc).1=3):=by
 intro f'
 induction f' with
 |zero =>
  intro f k y acc hd hf hy hk hff hkB ha0 ha1
  have hy1:=Ge hf;rw [J9 0 y hy1] at hd⊢;obtain ⟨h1,h2,h3⟩:=Gz hd
  exact getU_last bs p B f k y acc h1 h2 hy hy1 hkB ha0 ha1
 |succ f' ih =>
  intro f k y acc hd hf hy hk hff hkB ha0 ha1
  by_cases hy1:y<128
  . rw [J9 _ y hy1] at hd⊢;obtain ⟨h1,h2,h3⟩:=Gz hd
    exact getU_last bs p B f k y acc h1 h2 hy hy1 hkB ha0 ha1
  . rw [lebU_step f' y (by omega)] at hd⊢;obtain ⟨h1,h2,h3⟩:=Gz hd;have hP:=Q7 (7*(k:Int))
    by_cases hroom:7<B-7*(k:Int)
    . obtain ⟨f,rfl⟩:∃ g,f=g+1:=⟨f-1,by omega⟩;have hm:=JU (s:=false) (B:=B) (f:=f+1) (acc:=acc) h1 hroom (by rw [h2];omega);rw [h2,show (y%128+128)%128=y%128 by omega] at hm;have hs:=Jy acc y k ha0 ha1;have e7:P2 (7*((k+1:Nat):Int))=128*P2 (7*(k:Int)):=by rw [<- P2_7 _ (by omega),show 7*((k+1:Nat):Int)=7*(k:Int)+7 by omega]
      have:=ih f (k+1) (y / 128) (acc+y%128*P2 (7*(k:Int))) (by exact h3) (Gf hf) (by omega) (by omega) (by omega) (by omega) hs.1 hs.2
      rw [e7,split_mul] at this;rw [hm]
      refine ⟨λh=>?_,this.2⟩
      rw [this.1 h]
      simp only [List.length_cons,Prod.mk.injEq,true_and]
      omega
    . have hl:=JV (s:=false) (B:=B) (f:=f) (acc:=acc) h1 (by omega) (by rw [h2];omega);rw [hl];have hq:=P2_small (u:=B-7*(k:Int)) (by omega);have hB:P2 B=P2 (B-7*(k:Int))*P2 (7*(k:Int)):=by rw [<- P2_add _ _ (by omega) (by omega)];congr 1;omega
      have:=(J8 (y:=y) (q:=P2 (B-7*(k:Int))) hP ha0 ha1).2 (by omega)
      rw [<- hB] at this
      exact ⟨λh=>by omega,λ_=>.inl rfl⟩
theorem getS_last (bs:List Int)(p:Nat)(B:Int)(f k:Nat)(y acc:Int)(h1:p+k<bs.length)(h2:bs.getD (p+k) 0=y%128)(hy:-64<=y)(hy1:y<=63)(hkB:7*(k:Int)<B)(ha0:0<=acc)(ha1:acc<P2 (7*(k:Int))) :
    ((-P2 (B-1)<=acc+y*P2 (7*(k:Int))/\acc+y*P2 (7*(k:Int))<P2 (B-1))->QR true bs p B (f+1) k acc=(0,(acc+y*P2 (7*(k:Int)))%18446744073709551616,(p:Int)+k+(([y%128]:List Int).length:Int))) /\
    (¬ (-P2 (B-1)<=acc+y*P2 (7*(k:Int))/\acc+y*P2 (7*(k:Int))<P2 (B-1))->(QR true bs p B (f+1) k acc).1=2\/(QR true bs p B (f+1) k acc).1=3):=by
 have hP:=Q7 (7*(k:Int));have hB:P2 (B-1)=P2 (B-1-7*(k:Int))*P2 (7*(k:Int)):=by rw [<- P2_add _ _ (by omega) (by omega)];congr 1;omega
 have hml:=J8 (y:=y) (q:=P2 (B-1-7*(k:Int))) hP ha0 ha1;have hmn:=J8 (y:=y) (q:=-P2 (B-1-7*(k:Int))) hP ha0 ha1;rw [Int.neg_mul,<- hB] at hmn;rw [<- hB] at hml
 have hok:(B-7*(k:Int)<=7->rok true (y%128) (B-7*(k:Int))=true)->QR true bs p B (f+1) k acc=(0,(acc+y*P2 (7*(k:Int)))%18446744073709551616,(p:Int)+k+(([y%128]:List Int).length:Int)):=by
  intro h
  rw [Xj (s:=true) (f:=f) (acc:=acc) h1 (by rw [h2];omega) (by rw [h2];exact h),h2,show y%128%128=y%128 by omega]
  have e:fin true (acc+y%128*P2 (7*(k:Int))) (y%128) k=(acc+y*P2 (7*(k:Int)))%18446744073709551616:=by
   unfold fin
   by_cases hn:y<0
   . rw [if_pos ⟨rfl,by omega⟩,show y%128=y+128 by omega,Int.add_mul,P2_7 _ (by omega)]
     congr 1;omega
   . rw [if_neg (by omega),show y%128=y by omega]
  rw [e]
  rfl
 by_cases hroom:B-7*(k:Int)<=7
 . have hr:=rokS_iff y (B-7*(k:Int)) hy hy1 (by omega) hroom;rw [show B-7*(k:Int)-1=B-1-7*(k:Int) by omega] at hr
   by_cases hq:-P2 (B-1-7*(k:Int))<=y/\y<P2 (B-1-7*(k:Int))
   . exact ⟨λ_=>hok (λ_=>by rw [hr];exact decide_eq_true hq),λh=>absurd ⟨hmn.2 hq.1,hml.1 hq.2⟩ h⟩
   . have hb:=JW (s:=true) (f:=f) (acc:=acc) h1 hroom (by rw [h2];omega) (by rw [h2,hr];exact decide_eq_false hq);rw [hb]
     refine ⟨λh=>absurd (show -P2 (B-1-7*(k:Int))<=y/\y<P2 (B-1-7*(k:Int)) from ?_) hq,λ_=>.inr rfl⟩
     constructor
     . by_cases g:-P2 (B-1-7*(k:Int))<=y
       . exact g
       . have:=hmn.1 (by omega);omega
     . by_cases g:y<P2 (B-1-7*(k:Int))
       . exact g
       . have:=hml.2 (by omega);omega
 . refine ⟨λ_=>hok (λh=>absurd h hroom),λh=>?_⟩
   have h7:P2 6<=P2 (B-1-7*(k:Int)):=J4 (by omega);rw [show P2 6=64 by decide] at h7
   exact absurd ⟨hmn.2 (by omega),hml.1 (by omega)⟩ h
theorem getS_gen (bs:List Int)(p:Nat)(B:Int)(rest:List Int):∀ (f' f k:Nat) (y acc:Int),bs.drop (p+k)=Jn f' y++rest->fitS f' y->k+f'<=9->f'<=f->7*(k:Int)<B->0<=acc->acc<P2 (7*(k:Int)) ->
    ((-P2 (B-1)<=acc+y*P2 (7*(k:Int))/\acc+y*P2 (7*(k:Int))<P2 (B-1))->QR true bs p B (f+1) k acc=(0,(acc+y*P2 (7*(k:Int)))%18446744073709551616,(p:Int)+k+(Jn f' y).length)) /\
    (¬ (-P2 (B-1)<=acc+y*P2 (7*(k:Int))/\acc+y*P2 (7*(k:Int))<P2 (B-1))->(QR true bs p B (f+1) k acc).1=2\/(QR true bs p B (f+1) k acc).1=3):=by
 intro f'
 induction f' with
 |zero =>
  intro f k y acc hd hf hk hff hkB ha0 ha1
  have hy1:=XA hf;rw [Xa 0 y hy1.1 hy1.2] at hd⊢;obtain ⟨h1,h2,h3⟩:=Gz hd
  exact getS_last bs p B f k y acc h1 h2 hy1.1 hy1.2 hkB ha0 ha1
 |succ f' ih =>
  intro f k y acc hd hf hk hff hkB ha0 ha1
  by_cases hy1:-64<=y/\y<=63
  . rw [Xa _ y hy1.1 hy1.2] at hd⊢;obtain ⟨h1,h2,h3⟩:=Gz hd
    exact getS_last bs p B f k y acc h1 h2 hy1.1 hy1.2 hkB ha0 ha1
  . rw [X8 f' y (by omega)] at hd⊢;obtain ⟨h1,h2,h3⟩:=Gz hd;have hP:=Q7 (7*(k:Int))
    by_cases hroom:7<B-7*(k:Int)
    . obtain ⟨f,rfl⟩:∃ g,f=g+1:=⟨f-1,by omega⟩;have hm:=JU (s:=true) (B:=B) (f:=f+1) (acc:=acc) h1 hroom (by rw [h2];omega);rw [h2,show (y%128+128)%128=y%128 by omega] at hm;have hs:=Jy acc y k ha0 ha1;have e7:P2 (7*((k+1:Nat):Int))=128*P2 (7*(k:Int)):=by rw [<- P2_7 _ (by omega),show 7*((k+1:Nat):Int)=7*(k:Int)+7 by omega]
      have:=ih f (k+1) (y / 128) (acc+y%128*P2 (7*(k:Int))) (by exact h3) (Gg hf) (by omega) (by omega) (by omega) hs.1 hs.2
      rw [e7,split_mul] at this;rw [hm]
      refine ⟨λh=>?_,this.2⟩
      rw [this.1 h]
      simp only [List.length_cons,Prod.mk.injEq,true_and]
      omega
    . have hl:=JV (s:=true) (B:=B) (f:=f) (acc:=acc) h1 (by omega) (by rw [h2];omega);rw [hl];have hq:=P2_small6 (u:=B-1-7*(k:Int)) (by omega);have hB:P2 (B-1)=P2 (B-1-7*(k:Int))*P2 (7*(k:Int)):=by rw [<- P2_add _ _ (by omega) (by omega)];congr 1;omega
      have hml:=J8 (y:=y) (q:=P2 (B-1-7*(k:Int))) hP ha0 ha1;have hmn:=J8 (y:=y) (q:=-P2 (B-1-7*(k:Int))) hP ha0 ha1;rw [Int.neg_mul,<- hB] at hmn;rw [<- hB] at hml
      refine ⟨λh=>?_,λ_=>.inl rfl⟩
      rcases (show y < -64\/63<y by omega) with g|g
      . have:=hmn.1 (by omega);omega
      . have:=hml.2 (by omega);omega
end Go.Proofs.YtipfjdogokanbaaGreatDoor.Ed.By
set_option linter.all false
namespace Go.Proofs.YtipfjdogokanbaaGreatDoor.Ed
open Go.RowKit Go.Sort
theorem J7 {bs rest:List Int}{p:Nat}{v:Int}(h:bs.drop p=QH 9 v++rest)(h0:0<=v)(h1:v<=4294967295):Qp false 32 bs p=.ok v (p+(QH 9 v).length):=by
 have hf:fitU 9 v:=by unfold fitU;omega
 have hg:=(By.getU_gen bs p 32 rest 9 9 0 v 0 (by simpa using h) hf h0 (by omega) (by omega) (by omega) (by omega) (by decide)).1;rw [show By.P2 (7*((0:Nat):Int))=1 by decide,show By.P2 32=4294967296 by decide] at hg;have e:=hg (by omega)
 refine numM_ok ?_
 rw [e]
 simp only [Prod.mk.injEq,true_and]
 constructor
 . omega
 . omega
theorem numS_back {bs rest:List Int}{p:Nat}{y:Int}(B:Int)(hB:B=32\/B=64)(h:bs.drop p=Jn 9 y++rest)(h0:-By.P2 (B-1)<=y)(h1:y<By.P2 (B-1)):Qp true B bs p=.ok (y%18446744073709551616) (p+(Jn 9 y).length):=by
 have hP:By.P2 (B-1)<=9223372036854775808:=by
  rcases hB with rfl|rfl
  . decide
  . decide
 have hf:fitS 9 y:=by unfold fitS;omega
 have hg:=(By.getS_gen bs p B rest 9 9 0 y 0 (by simpa using h) hf (by omega) (by omega) (by rcases hB with rfl|rfl<;>omega) (by omega) (by decide)).1;rw [show By.P2 (7*((0:Nat):Int))=1 by decide] at hg;have e:=hg ⟨by omega,by omega⟩
 refine numM_ok ?_
 rw [e]
 simp only [Prod.mk.injEq,true_and]
 constructor
 . congr 1;omega
 . omega
theorem take_back {bs rest:List Int}{p:Nat}{v:Int}(h:bs.drop p=v::rest):Qy bs p=.ok v (p+1)/\bs.drop (p+1)=rest:=by
 obtain ⟨h1,h2,h3⟩:=By.Gz h;unfold Qy;rw [if_neg (by omega),h2]
 exact ⟨rfl,h3⟩
theorem drop_app {bs l rest:List Int}{p:Nat}(h:bs.drop p=l++rest):bs.drop (p+l.length)=rest:=by
 rw [<- List.drop_drop,h,List.drop_left]
theorem rep_back:∀ (l:List Int) (bs rest acc:List Int) (p:Nat),bs.drop p=Jm l++rest->(∀ v ∈ l,0<=v/\v<=4294967295)->JK bs l.length acc p=.ok (acc++l) (p+(Jm l).length)
 |[],bs,rest,acc,p,h,hv=>by simp [JK,Jm]
 |v::l,bs,rest,acc,p,h,hv=>by
  have hn:Jm (v::l)=QH 9 v++Jm l:=by simp [Jm]
  rw [hn,List.append_assoc] at h;have e:=J7 h (hv v (by simp)).1 (hv v (by simp)).2
  simp only [List.length_cons,JK]
  rw [e]
  show JK bs l.length (acc++[v]) (p+(QH 9 v).length)=_
  rw [rep_back l bs rest (acc++[v]) _ (drop_app h) (λu hu=>hv u (by simp [hu])),hn]
  simp [List.append_assoc]
  omega
theorem fx_at (k i:Nat)(v:Int)(h:i<k):(fx k v).getD i 0=v / 2 ^ (8*i)%256:=by
 simp [fx,List.getD,h]
theorem mod_mul256 (v P:Int)(hv:0<=v)(hp:0<P):v%(P*256)=v%P+P*(v / P%256):=by
 obtain ⟨n,rfl⟩:=Int.eq_ofNat_of_zero_le hv;obtain ⟨m,rfl⟩:=Int.eq_ofNat_of_zero_le (Int.le_of_lt hp)
 exact_mod_cast Nat.mod_mul (x:=n) (a:=m) (b:=256)
theorem sum_back (bs rest:List Int)(p n:Nat)(v:Int)(h:bs.drop p=fx n v++rest)(h0:0<=v):∀ k,k<=n->Gr bs p k=v%2 ^ (8*k)
 |0,_=>by simp [Gr]
 |k+1,hk=>by
  have hb:bs.getD (p+k) 0=v / 2 ^ (8*k)%256:=by
   have e:bs.getD (p+k) 0=(bs.drop p).getD k 0:=by simp [List.getD,List.getElem?_drop]
   rw [e,h]
   have:(fx n v++rest).getD k 0=(fx n v).getD k 0:=by
    simp only [List.getD,List.getElem?_append_left (show k<(fx n v).length by rw [Xd];omega)]
   rw [this,fx_at n k v (by omega)]
  simp only [Gr]
  rw [sum_back bs rest p n v h h0 k (by omega),hb,show 8*(k+1)=8*k+8 by omega,Int.pow_add];have hp:(0:Int)<2 ^ (8*k):=Int.pow_pos (by decide);generalize (2:Int) ^ (8*k)=P at *;rw [show (2:Int) ^ 8=256 by decide,mod_mul256 v P h0 hp,Int.mul_comm]
theorem op_range {op:Int}(h:0<=Qd (Qb op)):0<=op/\op<192:=by
 by_cases hc:0<=op/\op<192
 . exact hc
 . have er:Qb op=Z0:=by simp only [Qb,hc,if_false]
   rw [er] at h
   exact absurd h (by decide)
theorem u32I {x:Int}(h:Ji x=true):0<=x/\x<=4294967295:=by simpa [Ji] using h
theorem dec_back (f:Int)(x:In)(hg:Qg f x=true)(hv0:0<=x.v)(hv1:x.v<=18446744073709551615)(hn:x.l.length<=4294967295)(bs rest:List Int)(p:Nat)(h:bs.drop p=QM f x++rest):Q4 f x.op bs p=.ok x (p+(QM f x).length):=by
 obtain ⟨op,a,b,v,l⟩:=x
 simp only at hv0 hv1 hn
 have hf:f=0\/f=1\/f=2\/f=3\/f=4\/f=5\/f=6\/f=7\/f=8\/f=9\/f=10:=by
  unfold Qg at hg
  split at hg
  . omega
  . split at hg
    . omega
    . split at hg
      . omega
      . split at hg
        . omega
        . split at hg
          . omega
          . split at hg
            . omega
            . split at hg
              . omega
              . cases hg
 rcases hf with rfl|rfl|rfl|rfl|rfl|rfl|rfl|rfl|rfl|rfl|rfl
 . simp [Qg] at hg
   obtain ⟨⟨⟨rfl,rfl⟩,rfl⟩,rfl⟩:=hg
   simp [Q4,QM]
 . simp [Qg] at hg
   obtain ⟨⟨⟨h1,rfl⟩,rfl⟩,rfl⟩:=hg
   have ha:a%256=a:=by
    rcases h1 with rfl|h1
    . decide
    . have:124<=a/\a<=127:=by simpa [tyB] using h1
      omega
   simp only [QM] at h⊢
   simp [ha] at h⊢
   obtain ⟨e1,-⟩:=take_back h
   simp only [Q4,onlyM]
   simp [e1,Rs.bind]
   rcases h1 with rfl|h1
   . simp
   . simp [h1]
 . simp [Qg] at hg
   obtain ⟨⟨⟨h1,rfl⟩,rfl⟩,rfl⟩:=hg
   simp [QM] at h⊢
   have e:=J7 h (u32I h1).1 (u32I h1).2
   simp [Q4,e,Rs.bind]
 . simp only [Qg] at hg
   simp at hg
   obtain ⟨⟨⟨h1,h2⟩,rfl⟩,rfl⟩:=hg
   simp only [QM] at h⊢
   simp [List.append_assoc] at h⊢
   have e1:=J7 h (by omega) (by omega);have h':=drop_app h;have e2:=rep_back l bs _ [] _ h' (λu hu=>u32I (h1 u hu));have h'':=drop_app h';have e3:=J7 h'' (u32I h2).1 (u32I h2).2
   simp [Q4,vecM,e1,Rs.bind,e2,e3]
   omega
 . simp [Qg] at hg
   obtain ⟨⟨⟨h1,rfl⟩,rfl⟩,rfl⟩:=hg
   simp only [QM] at h⊢
   simp [List.append_assoc] at h⊢
   have e1:=J7 h (u32I h1).1 (u32I h1).2;have h':=drop_app h;obtain ⟨e2,-⟩:=take_back h'
   simp [Q4,e1,Rs.bind,JA,e2]
   omega
 . simp [Qg] at hg
   obtain ⟨⟨⟨h1,h2⟩,rfl⟩,rfl⟩:=hg
   simp only [QM] at h⊢
   simp [List.append_assoc] at h⊢
   have e1:=J7 h (u32I h1).1 (u32I h1).2;have h':=drop_app h;have e2:=J7 h' (u32I h2).1 (u32I h2).2
   simp [Q4,e1,Rs.bind,e2]
   omega
 . simp [Qg] at hg
   obtain ⟨⟨⟨rfl,rfl⟩,rfl⟩,rfl⟩:=hg
   simp only [QM] at h⊢
   simp at h⊢
   obtain ⟨e1,-⟩:=take_back h
   simp [Q4,Rs.bind,JA,e1]
 . simp [Qg] at hg
   obtain ⟨⟨⟨rfl,rfl⟩,h1⟩,rfl⟩:=hg
   simp only [QM] at h⊢
   simp at h⊢
   have hs:-2147483648<=s32 v/\s32 v<2147483648/\s32 v%18446744073709551616%4294967296=v:=by unfold s32;split<;>omega
   have e1:=numS_back 32 (.inl rfl) h (by rw [show By.P2 (32-1)=2147483648 by decide];omega) (by rw [show By.P2 (32-1)=2147483648 by decide];omega)
   simp [Q4,Rs.bind,e1]
   omega
 . simp [Qg] at hg
   obtain ⟨⟨rfl,rfl⟩,rfl⟩:=hg
   simp only [QM] at h⊢
   simp at h⊢
   have hw:wrap64 v=(v+9223372036854775808)%18446744073709551616-9223372036854775808:=by unfold wrap64;rfl
   have e1:=numS_back 64 (.inr rfl) h (by rw [show By.P2 (64-1)=9223372036854775808 by decide,hw];omega) (by rw [show By.P2 (64-1)=9223372036854775808 by decide,hw];omega)
   simp [Q4,Rs.bind,e1]
   rw [hw]
   omega
 . simp [Qg] at hg
   obtain ⟨⟨⟨rfl,rfl⟩,h1⟩,rfl⟩:=hg
   simp only [QM] at h⊢
   simp at h⊢
   have hl:p+4<=bs.length:=by
    have:=congrArg List.length h
    simp [Xd] at this
    omega
   have e:=sum_back bs rest p 4 v h hv0 4 (Nat.le_refl _);rw [show (2:Int) ^ (8*4)=4294967296 by decide] at e
   simp [Q4,JN,hl,Rs.bind,e,Xd]
   omega
 . simp [Qg] at hg
   obtain ⟨⟨rfl,rfl⟩,rfl⟩:=hg
   simp only [QM] at h⊢
   simp at h⊢
   have hl:p+8<=bs.length:=by
    have:=congrArg List.length h
    simp [Xd] at this
    omega
   have e:=sum_back bs rest p 8 v h hv0 8 (Nat.le_refl _);rw [show (2:Int) ^ (8*8)=18446744073709551616 by decide] at e
   simp [Q4,JN,hl,Rs.bind,e,Xd]
   omega
end Go.Proofs.YtipfjdogokanbaaGreatDoor.Ed
set_option linter.all false
namespace Go.Proofs.YtipfjdogokanbaaGreatDoor.Ed
open Go.RowKit Go.Sort
theorem len_lebU:∀ (k f:Nat) (v:Int),0<=v->fitU k v->(QH f v).length<=k+1
 |0,f,v,h0,h=>by rw [J9 f v (Ge h)];simp
 |k+1,f,v,h0,h=>by
  by_cases hv:v<128
  . rw [J9 f v hv];simp
  . cases f with
    |zero=>simp [QH]
    |succ f =>
     rw [lebU_step f v (by omega)]
     have:=len_lebU k f (v / 128) (by omega) (Gf h)
     simp;omega
theorem len_lebS:∀ (k f:Nat) (v:Int),fitS k v->(Jn f v).length<=k+1
 |0,f,v,h=>by rw [Xa f v (XA h).1 (XA h).2];simp
 |k+1,f,v,h=>by
  by_cases hv:-64<=v/\v<=63
  . rw [Xa f v hv.1 hv.2];simp
  . cases f with
    |zero=>simp [Jn]
    |succ f =>
     rw [X8 f v (by omega)]
     have:=len_lebS k f (v / 128) (Gg h)
     simp;omega
theorem P2_128:∀ k:Nat,By.P2 (7*(k:Int))=128 ^ k
 |0=>by decide
 |k+1=>by
  rw [show 7*((k+1:Nat):Int)=7*(k:Int)+7 by omega,By.P2_7 _ (by omega),P2_128 k,Int.pow_succ]
  omega
theorem getU_len (bs:List Int)(p:Nat)(B:Int)(hA:Qt bs):∀ (f k:Nat) (acc v n:Int),0<=acc->acc<By.P2 (7*(k:Int))->By.QR false bs p B (f+1) k acc=(0,v,n)->B<=7*((k:Int)+(f+1))->∃ m:Nat,k<=m/\n=(p:Int)+m+1/\0<=v/\fitU m v
 |f,k,acc,v,n,h0,h1,h,hB=>by
  have hb:=hA (p+k);have hs:=By.Jy acc (bs.getD (p+k) 0) k h0 h1
  simp only [By.QR] at h
  split at h
  . simp at h
  . split at h
    . simp at h
    . split at h
      . simp at h
      . split at h
        . rename_i hc
          simp only [Prod.mk.injEq,true_and] at h
          obtain ⟨e1,e2⟩:=h
          refine ⟨k,Nat.le_refl _,by omega,?_,?_⟩
          . rw [<- e1];unfold By.fin;rw [if_neg (by simp)];omega
          . rw [<- e1];unfold By.fin;rw [if_neg (by simp)];unfold fitU;rw [<- P2_128 (k+1)]
            omega
        . rename_i hl hc1 hc2 hc3
          cases f with
          |zero=>omega
          |succ f =>
           obtain ⟨m,j1,j2,j3,j4⟩:=getU_len bs p B hA f (k+1) _ v n hs.1 hs.2 h (by omega)
           exact ⟨m,by omega,j2,j3,j4⟩
theorem getS_len (bs:List Int)(p:Nat)(B:Int)(hA:Qt bs):∀ (f k:Nat) (acc v n:Int),0<=acc->acc<By.P2 (7*(k:Int))->7*(k:Int)<B->By.QR true bs p B (f+1) k acc=(0,v,n)->B<=7*((k:Int)+(f+1))->∃ (m:Nat) (y:Int),k<=m/\n=(p:Int)+m+1/\v=y%18446744073709551616/\fitS m y/\-By.P2 (B-1)<=y/\y<By.P2 (B-1)
 |f,k,acc,v,n,h0,h1,hkB,h,hB=>by
  have hb:=hA (p+k);have hs:=By.Jy acc (bs.getD (p+k) 0) k h0 h1
  simp only [By.QR] at h
  split at h
  . simp at h
  . split at h
    . simp at h
    . rename_i hl hc1
      split at h
      . simp at h
      . rename_i hc2
        split at h
        . rename_i hc
          simp only [Prod.mk.injEq,true_and] at h
          obtain ⟨e1,e2⟩:=h;generalize bs.getD (p+k) 0=c at *;obtain ⟨y,hy⟩:∃ y,y=if 64<=c then c-128 else c:=⟨_,rfl⟩;have hyb:-64<=y/\y<=63/\y%128=c:=by rw [hy];split<;>omega
          have hP:=By.Q7 (7*(k:Int));have hml:=λq=>By.J8 (y:=y) (q:=q) hP h0 h1
          have hv:v=(acc+y*By.P2 (7*(k:Int)))%18446744073709551616:=by
           rw [<- e1,show c%128=c by omega];unfold By.fin
           by_cases hn:64<=c
           . rw [if_pos ⟨rfl,hn⟩,hy,if_pos hn,By.P2_7 _ (by omega),Int.sub_mul]
             congr 1;omega
           . rw [if_neg (by omega),hy,if_neg hn]
          refine ⟨k,acc+y*By.P2 (7*(k:Int)),Nat.le_refl _,by omega,hv,?_,?_⟩
          . unfold fitS;rw [<- P2_128 k];have a1:=(hml (-64)).2 (by omega);have a2:=(hml 64).1 (by omega)
            constructor<;>omega
          . have hBm:By.P2 (B-1)=By.P2 (B-1-7*(k:Int))*By.P2 (7*(k:Int)):=by rw [<- By.P2_add _ _ (by omega) (by omega)];congr 1;omega
            have hq:-By.P2 (B-1-7*(k:Int))<=y/\y<By.P2 (B-1-7*(k:Int)):=by
             by_cases hroom:B-7*(k:Int)<=7
             . have hr:By.rok true c (B-7*(k:Int))=true:=by
                 cases e:By.rok true c (B-7*(k:Int)) with
                 |true=>rfl
                 |false=>exact absurd ⟨hroom,e⟩ hc2
               have:=By.rokS_iff y (B-7*(k:Int)) hyb.1 hyb.2.1 (by omega) hroom
               rw [hyb.2.2,hr] at this
               have:=of_decide_eq_true this.symm
               rw [show B-7*(k:Int)-1=B-1-7*(k:Int) by omega] at this
               exact this
             . have h7:By.P2 6<=By.P2 (B-1-7*(k:Int)):=By.J4 (by omega);rw [show By.P2 6=64 by decide] at h7
               omega
            rw [hBm];have a1:=(hml (-By.P2 (B-1-7*(k:Int)))).2 hq.1;have a2:=(hml (By.P2 (B-1-7*(k:Int)))).1 hq.2;rw [Int.neg_mul] at a1
            exact ⟨a1,a2⟩
        . rename_i hc3
          have hroom:7<B-7*(k:Int):=by
           by_cases g:B-7*(k:Int)<=7
           . exact absurd ⟨g,by omega⟩ hc1
           . omega
          cases f with
          |zero=>omega
          |succ f =>
           obtain ⟨m,y,j1,j2,j3,j4⟩:=getS_len bs p B hA f (k+1) _ v n hs.1 hs.2 (by omega) h (by omega)
           exact ⟨m,y,by omega,j2,j3,j4⟩
theorem num_get {s:Bool}{B:Int}{bs:List Int}{p p1:Nat}{v:Int}(h:Qp s B bs p=.ok v p1):∃ n:Int,By.QR s bs p B 10 0 0=(0,v,n)/\p1=n.toNat:=by
 unfold Qp at h
 split at h
 . cases h
 . split at h
   . rename_i h0
     cases h
     exact ⟨(By.QR s bs p B 10 0 0).2.2,Prod.ext h0 rfl,rfl⟩
   . cases h
theorem XK {bs:List Int}(hA:Qt bs){p p1:Nat}{v:Int}(h:Qp false 32 bs p=.ok v p1):p+(QH 9 v).length<=p1:=by
 obtain ⟨n,e,rfl⟩:=num_get h;obtain ⟨m,j1,j2,j3,j4⟩:=getU_len bs p 32 hA 9 0 0 v n (by omega) (by decide) e (by decide)
 have:=len_lebU m 9 v j3 j4
 omega
theorem numS_len {bs:List Int}(hA:Qt bs){p p1:Nat}{v B:Int}(hB:B=32\/B=64)(h:Qp true B bs p=.ok v p1):∃ y,v=y%18446744073709551616/\-By.P2 (B-1)<=y/\y<By.P2 (B-1)/\p+(Jn 9 y).length<=p1:=by
 obtain ⟨n,e,rfl⟩:=num_get h;obtain ⟨m,y,j1,j2,j3,j4,j5,j6⟩:=getS_len bs p B hA 9 0 0 v n (by omega) (by decide) (by rcases hB with rfl|rfl<;>decide) e (by rcases hB with rfl|rfl<;>decide)
 have:=len_lebS m 9 y j4
 exact ⟨y,j3,j5,j6,by omega⟩
theorem rep_long (bs:List Int)(hA:Qt bs):∀ (n:Nat) (acc:List Int) (p:Nat) (l:List Int) (p':Nat),JK bs n acc p=.ok l p'->p+(Jm l).length<=p'+(Jm acc).length
 |0,acc,p,l,p',h=>by simp only [JK] at h;cases h;omega
 |n+1,acc,p,l,p',h=>by
  simp only [JK] at h
  cases hM:Qp false 32 bs p with
  |bad er a=>rw [hM] at h;cases h
  |ok v p1 =>
   rw [hM] at h;have h1:=rep_long bs hA n (acc++[v]) p1 l p' h;have h2:=XK hA hM;have h3:(Jm (acc++[v])).length=(Jm acc).length+(QH 9 v).length:=by simp [Jm]
   omega
theorem rep_count (bs:List Int):∀ (n:Nat) (acc:List Int) (p:Nat) (l:List Int) (p':Nat),JK bs n acc p=.ok l p'->l.length=acc.length+n
 |0,acc,p,l,p',h=>by simp only [JK] at h;cases h;simp
 |n+1,acc,p,l,p',h=>by
  simp only [JK] at h
  cases hM:Qp false 32 bs p with
  |bad er a=>rw [hM] at h;cases h
  |ok v p1 =>
   rw [hM] at h
   have:=rep_count bs n (acc++[v]) p1 l p' h
   simp at this
   omega
theorem take_q {bs:List Int}{p p1:Nat}{v:Int}(h:Qy bs p=.ok v p1):p1=p+1:=by
 unfold Qy at h
 split at h
 . cases h
 . cases h;rfl
theorem Qk {α β:Type}{r:Rs α}{k:α->Nat->Rs β}{y:β}{p:Nat}(h:r.bind k=.ok y p):∃ v p1,r=.ok v p1/\k v p1=.ok y p:=by
 cases r with
 |bad er a=>cases h
 |ok v p1=>exact ⟨v,p1,rfl,h⟩
theorem dec_long (f op:Int)(bs:List Int)(hA:Qt bs)(p p1:Nat)(x:In)(h:Q4 f op bs p=.ok x p1):x.op=op/\p+(QM f x).length<=p1:=by
 unfold Q4 at h;unfold QM
 by_cases f1:f=1
 . rw [if_pos f1] at h;obtain ⟨a,q,h1,h2⟩:=Qk h
   cases h2
   unfold onlyM at h1;obtain ⟨b,q2,h3,h4⟩:=Qk h1
   have:=take_q h3
   split at h4
   . cases h4;rw [if_pos f1];simp;omega
   . cases h4
 rw [if_neg f1] at h;rw [if_neg f1]
 by_cases f2:f=2
 . rw [if_pos f2] at h;obtain ⟨a,q,h1,h2⟩:=Qk h
   cases h2
   rw [if_pos f2]
   exact ⟨rfl,XK hA h1⟩
 rw [if_neg f2] at h;rw [if_neg f2]
 by_cases f3:f=3
 . rw [if_pos f3] at h;obtain ⟨l,q,h1,h2⟩:=Qk h;obtain ⟨a,q2,h3,h4⟩:=Qk h2
   cases h4
   unfold vecM at h1;obtain ⟨n,q3,h5,h6⟩:=Qk h1;have k1:=XK hA h5;have k0:=numU_bd hA h5;have k2:=rep_long bs hA _ _ _ _ _ h6;have k3:=rep_count bs _ _ _ _ _ h6;have k4:=XK hA h3;rw [if_pos f3];have e:(l.length:Int)=n:=by simp at k3;omega
   rw [e]
   simp [Jm] at k2⊢
   omega
 rw [if_neg f3] at h;rw [if_neg f3]
 by_cases f4:f=4
 . rw [if_pos f4] at h;obtain ⟨a,q,h1,h2⟩:=Qk h;obtain ⟨b,q2,h3,h4⟩:=Qk h2
   cases h4
   unfold JA at h3;obtain ⟨c,q3,h5,h6⟩:=Qk h3;have k1:=XK hA h1;have k2:=take_q h5
   split at h6
   . cases h6;rw [if_pos f4];simp;omega
   . cases h6
 rw [if_neg f4] at h;rw [if_neg f4]
 by_cases f5:f=5
 . rw [if_pos f5] at h;obtain ⟨a,q,h1,h2⟩:=Qk h;obtain ⟨b,q2,h3,h4⟩:=Qk h2
   cases h4
   have k1:=XK hA h1;have k2:=XK hA h3;rw [if_pos f5];simp;omega
 rw [if_neg f5] at h;rw [if_neg f5]
 by_cases f6:f=6
 . rw [if_pos f6] at h;obtain ⟨a,q,h1,h2⟩:=Qk h
   cases h2
   unfold JA at h1;obtain ⟨c,q3,h5,h6⟩:=Qk h1;have k2:=take_q h5
   split at h6
   . cases h6;rw [if_pos f6];simp;omega
   . cases h6
 rw [if_neg f6] at h;rw [if_neg f6]
 by_cases f7:f=7
 . rw [if_pos f7] at h;obtain ⟨a,q,h1,h2⟩:=Qk h
   cases h2
   obtain ⟨y,j1,j2,j3,j4⟩:=numS_len hA (.inl rfl) h1;rw [show By.P2 (32-1)=2147483648 by decide] at j2 j3;have e:s32 (a%4294967296)=y:=by unfold s32;rw [j1];split<;>omega
   rw [if_pos f7]
   refine ⟨rfl,?_⟩
   simp only [e]
   exact j4
 rw [if_neg f7] at h;rw [if_neg f7]
 by_cases f8:f=8
 . rw [if_pos f8] at h;obtain ⟨a,q,h1,h2⟩:=Qk h
   cases h2
   obtain ⟨y,j1,j2,j3,j4⟩:=numS_len hA (.inr rfl) h1;rw [show By.P2 (64-1)=9223372036854775808 by decide] at j2 j3;have hw:wrap64 a=(a+9223372036854775808)%18446744073709551616-9223372036854775808:=by unfold wrap64;rfl
   have e:wrap64 a=y:=by rw [hw,j1];omega
   rw [if_pos f8]
   refine ⟨rfl,?_⟩
   simp only [e]
   exact j4
 rw [if_neg f8] at h;rw [if_neg f8]
 by_cases f9:f=9
 . rw [if_pos f9] at h;obtain ⟨a,q,h1,h2⟩:=Qk h
   cases h2
   unfold JN at h1
   split at h1
   . cases h1;rw [if_pos f9];simp [Xd]
   . cases h1
 rw [if_neg f9] at h;rw [if_neg f9]
 by_cases f10:f=10
 . rw [if_pos f10] at h;obtain ⟨a,q,h1,h2⟩:=Qk h
   cases h2
   unfold JN at h1
   split at h1
   . cases h1;rw [if_pos f10];simp [Xd]
   . cases h1
 rw [if_neg f10] at h;rw [if_neg f10]
 cases h
 simp
end Go.Proofs.YtipfjdogokanbaaGreatDoor.Ed
set_option linter.all false
namespace Go.Proofs.YtipfjdogokanbaaGreatDoor.Ed
open Go.RowKit Go.Sort
theorem ins_back (x:In)(hg:Qg (Qd (Qb x.op)) x=true)(hv0:0<=x.v)(hv1:x.v<=18446744073709551615)(hn:x.l.length<=4294967295)(bs rest:List Int)(p:Nat)(h:bs.drop p=Gw x++rest):Jl bs p=.ok x (p+(Gw x).length):=by
 have hf:0<=Qd (Qb x.op):=by
  by_cases h0:0<=Qd (Qb x.op)
  . exact h0
  . unfold Qg at hg;rw [if_neg (by omega),if_neg (by omega),if_neg (by omega),if_neg (by omega),if_neg (by omega),if_neg (by omega),if_neg (by omega)] at hg
    cases hg
 have ho:=op_range hf;have e0:x.op%256=x.op:=by omega
 unfold Gw at h⊢;rw [e0,List.cons_append] at h;obtain ⟨e1,e2⟩:=take_back h;unfold Jl opM;rw [e1]
 simp only [Rs.bind]
 rw [if_neg (by omega)]
 simp only
 rw [dec_back _ x hg hv0 hv1 hn bs rest (p+1) e2]
 simp only [List.length_cons]
 congr 1;omega
theorem ins_long (bs:List Int)(hA:Qt bs)(p p1:Nat)(x:In)(h:Jl bs p=.ok x p1):p+(Gw x).length<=p1:=by
 unfold Jl at h;obtain ⟨op,q,h1,h2⟩:=Qk h;obtain ⟨e,h3⟩:=dec_long _ op bs hA q p1 x h2;unfold opM at h1;obtain ⟨c,q2,h4,h5⟩:=Qk h1
 have:=take_q h4
 split at h5
 . cases h5
 . cases h5
   unfold Gw;rw [e]
   simp only [List.length_cons]
   omega
end Go.Proofs.YtipfjdogokanbaaGreatDoor.Ed
