import Derived.Test.YtejkdbnngphgaaaGreatDoorGan
set_option linter.all false
set_option maxHeartbeats 400000000
set_option maxRecDepth 100000
namespace Go.Proofs
open Value renaming int->U,bool->G,string->Xs
open IntKind renaming i64->O
open Ending renaming returned->Z
open Obj renaming cells->Fc
open Go renaming World->J,Calls->Ec,Value->Vu
open Go.RowKit renaming Below->Bw
open Tryz renaming prog->Q
open Tryz
open List renaming length->N
namespace YtejkdbnngphgaaaGreatDoor
open Go.RowKit Go.Sort
theorem boxes {w f:J}{c0 c1 c2 c3 c4:Vu}(h:Bw (((w.alloc (Fc #[c0,c1,c2,c3,c4] 70)).alloc (Fc #[c0,c1,c2,c3,c4] 70)).drew).heap.size (((w.alloc (Fc #[c0,c1,c2,c3,c4] 70)).alloc (Fc #[c0,c1,c2,c3,c4] 70)).drew) f):C5 f w.heap.size 0 c0 c1 c2 c3 c4/\C5 f (w.heap.size+1) 0 c0 c1 c2 c3 c4/\Bw w.heap.size w f:=by
 have g:Bw ((w.alloc (Fc #[c0,c1,c2,c3,c4] 70)).alloc (Fc #[c0,c1,c2,c3,c4] 70)).heap.size ((w.alloc (Fc #[c0,c1,c2,c3,c4] 70)).alloc (Fc #[c0,c1,c2,c3,c4] 70)) f:=⟨h.os,h.tape,h.output,h.size,h.block⟩;refine⟨(C5.new.past).keep g,?_,up2 g⟩;have:=(C5.new (w:=w.alloc (Fc #[c0,c1,c2,c3,c4] 70)) (a:=c0) (b:=c1) (c:=c2) (d:=c3) (e:=c4) (t:=70)).keep g;simpa using this
end YtejkdbnngphgaaaGreatDoor
namespace YtejkdbnngphgaaaGreatDoor.Yz
open Go.RowKit Go.Sort
variable {s:Wd}
attribute [-go_sem] run_index_string
theorem in_c (x lo hi:Int)(w:J):Ec Q 146 #[U O x,U O lo,U O hi] w λe w'=>e=Z (G (decide (lo<=x)&&decide (x<=hi)))/\w=w':=by
 by_cases b:lo<=x
 . by_cases a:x<=hi
   . go_enter func146,ntmps146;go_wp2;go_ret;exact⟨by simp[b,a],rfl⟩
   go_enter func146,ntmps146;go_wp2;go_ret;exact⟨by simp[b,a],rfl⟩
 go_enter func146,ntmps146;go_wp2;go_ret;exact⟨by rw[decide_eq_false (show ¬lo<=x by omega)];rfl,rfl⟩
theorem isU_c (x:Int)(w:J):Ec Q 185 #[U O x] w λe w'=>e=Z (G (decide (0<=x)&&decide (x<=4294967295)))/\w=w':=by
 have K:=Hm (in_c x 0 4294967295 w);go_enter func185,ntmps185;go_wp2_with fail
 refine K.o.mono ?_;rintro e a ⟨rfl,rfl⟩;go_wp2;go_ret;exact⟨rfl,rfl⟩
theorem okN_num {lo hi:Int}{most:Nat}{sg:Bool}(n:-9223372036854775808<=lo)(h1:hi<=9223372036854775807)(f:∀v,lo<=v->v<=hi->v.natAbs<10 ^ most)(b:1<=most)(d:sg=false->0<=lo) :
    okN lo hi s=(match XU most sg s with|some v=>decide (lo<=v)&&decide (v<=hi)|none=>false)/\∀v,XU most sg s=some v->okP s=some v:=by
 cases hn:XU most sg s with
 |none =>
  refine⟨?_,λv e=>by cases e⟩
  cases ho:okN lo hi s with
  |false=>rfl
  |true =>
   exfalso
   unfold okN at ho
   cases a:okP s with
   |none=>rw[a]at ho;cases ho
   |some v =>
    rw[a]at ho
    simp at ho
    obtain⟨m,l,k⟩:=ho
    have:=numM_itoa (most:=most) (sg:=sg) (v:=v) (by omega) (by omega) (λe=>by have:=d e;omega) (f v m l) b
    rw[k,hn]at this
    cases this
 |some v =>
  obtain⟨c,j,g,o⟩:=numM_some hn;have a:okP s=some v:=by rw[<- c];exact okP_itoa v j g
  refine⟨?_,λu e=>by cases e;exact a⟩
  unfold okN;rw[a]
  simp[c]
theorem JM (s:Wd)(w:J)(hl:N s<=1099511627776):Ec Q 138 #[Xs (Sz0 s)] w λe w'=>w=w'/\∃x:Int,e=Z (.tuple #[U O x,G (okN 0 4294967295 s)])/\(okN 0 4294967295 s=true->okP s=some x):=by
 have K:=Hm (snum_c 10 false s w (by omega) hl);obtain⟨d,c⟩:=okN_num (lo:=0) (hi:=4294967295) (most:=10) (sg:=false) (s:=s) (by omega) (by omega) (λv a b=>by omega) (by omega) (λ_=>by omega);rw[d];generalize XU 10 false s=o at *;cases o with
 |none =>
  clear d c hl
  go_enter func138,ntmps138
  go_wp2_with fail
  refine K.o.mono ?_
  rintro e f ⟨rfl,x,rfl,-⟩
  go_wp2
  go_ret2
  exact⟨rfl,x,rfl,λh=>by cases h⟩
 |some v =>
  have g:=Hm (c v rfl);have k:=Hm (isU_c v w);clear d c hl
  go_enter func138,ntmps138
  go_wp2_with fail
  refine K.o.mono ?_
  rintro e f ⟨rfl,x,rfl,hx⟩;have j:=hx v rfl;subst j;clear hx
  go_wp2_with fail
  refine k.o.mono ?_
  rintro e f ⟨rfl,rfl⟩
  go_wp2
  go_ret2
  exact⟨rfl,x,rfl,λ_=>g.o⟩
def tyOf (s:ByteArray):Int:=if s.size<3 then 0 else
 if(s.extract 0 3).data.toList=[105,51,50]then 127 else if(s.extract 0 3).data.toList=[105,54,52]then 126 else if(s.extract 0 3).data.toList=[102,51,50]then 125 else if(s.extract 0 3).data.toList=[102,54,52]then 124 else 0
theorem typeOf_c (s:ByteArray)(w:J):Ec Q 143 #[Xs s] w λe w'=>e=Z (U O (tyOf s))/\w=w':=by
 by_cases h:s.size<3
 . (have a:(s.size:Int)<3:=by omega);go_enter func143,ntmps143;go_wp2;go_ret;exact⟨by simp[tyOf,h],rfl⟩
 have a:¬(s.size:Int)<3:=by omega
 go_enter func143,ntmps143;go_wp2
 all_goals
  go_ret
  refine⟨?_,rfl⟩
  simp only[ByteArray.toList_eq,beq_iff_eq,beq_eq_false_iff_ne,ne_eq]at *
  simp_all[tyOf]
theorem tyOf_len (h:N s=3):tyOf (Sz0 s)=tyN s:=by
 unfold tyOf tyN;rw[if_neg (by rw[QJ];omega),XX,QB,List.drop_zero,List.take_of_length_le (by omega)];rfl
theorem tyN_len (h:N s≠3):tyN s=0:=by
 unfold tyN;have k:∀i,(tyW i).length=3:=λi=>by
  unfold tyW;split
  · rfl
  split
  · rfl
  split<;>rfl
 rw[if_neg (λe=>h (by rw[e];exact k 0)),if_neg (λe=>h (by rw[e];exact k 1)),if_neg (λe=>h (by rw[e];exact k 2)),if_neg (λe=>h (by rw[e];exact k 3))]
theorem sty_c (s:Wd)(w:J):Ec Q 78 #[Xs (Sz0 s)] w λe w'=>e=Z (.tuple #[U O (tyN s),G (!(tyN s==0))])/\w=w':=by
 have c:(Sz0 s).size=N s:=QJ s;by_cases h:N s=3
 . have K:=Hm (typeOf_c (Sz0 s) w);rw[tyOf_len h]at K;(have a:((N s:Int)==3)=true:=by simp;omega);clear h;generalize tyN s=t at *;go_enter func78,ntmps78;(go_wp2_with fail);refine K.o.mono ?_;rintro e b ⟨rfl,rfl⟩;go_wp2;(go_ret2);exact⟨rfl,rfl⟩
 have e0:=tyN_len h;have a:((N s:Int)==3)=false:=by simp;omega
 rw[e0];clear h e0;go_enter func78,ntmps78;go_wp2;go_ret2
 exact⟨rfl,rfl⟩
