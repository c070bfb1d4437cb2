import Derived.Test.YtedcmcdbejjgcaaGreatGaa
import Derived.Test.YtedcmcdbejjgcaaGreatGbo
import Derived.Test.YtedcmcdbejjgcaaGreatGbk
import Derived.Maps.AppendAt
import Derived.Test.YtedcmcdbejjgcaaGreatGbl
import Derived.Test.YtedcmcdbejjgcaaGreatGbm
import Derived.Test.YtedcmcdbejjgcaaGreatGai
set_option linter.all false
set_option maxHeartbeats 400000000
set_option maxRecDepth 100000
namespace Go.Proofs.YtedcmcdbejjgcaaGreat.Ms
open Go.RowKit Go.Sort
theorem Od {c0 t:List Value}{m j:Nat}{v:Value}(h:c0.length=m):(c0++t).set (m+j) v=c0++t.set j v:=by
 subst h;rw [List.set_append_right _ _ (by omega),Nat.add_sub_cancel_left]
theorem Oh {c0 t:List Value}{m j:Nat}(h:c0.length=m):(c0++t)[m+j]?=t[j]?:=by
 subst h;rw [List.getElem?_append_right (by omega),Nat.add_sub_cancel_left]
theorem get_app0 {c0:List Value}{a b:Value}{m:Nat}(h:c0.length=m):(c0++[a,b])[m]?=some a:=Oh (j:=0) h
theorem set_app0 {c0:List Value}{a b v:Value}{m:Nat}(h:c0.length=m):(c0++[a,b]).set m v=c0++[v,b]:=Od (j:=0) h
theorem perm_ele {α:Type}(f l i:α)(a b c:List α):(f::l::(i::(a++(b++c)))).Perm (l::(b++(c++((i::a)++[f])))):=by
 have j:(f::l::(i::(a++(b++c)))).Perm (l::f::(i::(a++(b++c)))):=List.Perm.swap _ _ _
 refine j.trans (List.Perm.cons _ ?_)
 have g:(f::(i::(a++(b++c)))).Perm ((b++c)++(f::(i::a))):=List.perm_append_comm (l₁:=f::i::a) (l₂:=b++c);have d:(f::(i::a)).Perm ((i::a)++[f]):=(List.perm_append_comm (l₁:=[f]) (l₂:=i::a))
 refine g.trans ?_
 rw [<- List.append_assoc]
 exact d.append_left _
theorem GH {bs}(b:Qm bs){E:Int}{p q:Nat}{n:Int}(h:Jl bs E p=.ok n q):0<=n/\n<=4294967295:=by
 unfold Jl QK at h
 cases hM:Qy false 32 bs p with
 |bad e a=>rw [hM] at h;cases h
 |ok n' p1 =>
  rw [hM] at h;have c:=Jq b hM
  simp only [Rs.bind] at h
  split at h
  · cases h
  . cases h;omega
def RlP (p:Nat)(M:Rs (List In))(B:Nat)(w0:World)(s:Nat)(ba:Option Addr)(bc:Bd)(bs:List Int)(K:Nat)(bx:List (Nat × List Value))(T sz n g gc jj:Nat)(cs:List Value)(rs:List Qc)(e:Ending)(w':World):Prop :=
 e=.returned (.tuple #[])/\∃ (acc:List In) (la:Option Addr) (lc:Nat) (ci:List Value) (kids:List Qc) (q:Nat) (er a:Int),Lk M q er a/\(∀ l q',M=.ok l q'->acc=l/\LR RIn l ci kids/\l.length+p<=q')/\Sd B w0 s ba bc bs q er a (K+2*acc.length) bx (⟨170,5,acc.length,.slice la acc.length lc,ci⟩::⟨T,sz,n,.slice (some ⟨g,0,none⟩) n gc,cs.set jj (.slice la acc.length lc)⟩::(kids++rs)) w'
theorem rlC {p K:Nat}{M:Rs (List In)}{B:Nat}{f:World}{s:Nat}{r:Option Addr}{bc:Bd}{bs:List Int}{q:List (Nat × List Value)}{T sz n g o jj:Nat}{cs:List Value}{rs:List Qc}{e:Ending}{j:World}(h:LiA T sz M B f s r bc bs p K q n g o jj cs rs e j):RlP p M B f s r bc bs K q T sz n g o jj cs rs e j:=by
 obtain ⟨y,d,u,t,E,b,m⟩:=h
 refine ⟨y,d,u,t,E,b,?_⟩
 cases M with
 |bad er a=>obtain ⟨k,c,v⟩:=m;exact ⟨c,er,a,⟨k,rfl,rfl⟩,λl q' e=>(by cases e),v.err k _⟩
 |ok l c =>
  obtain ⟨D,C,A,z⟩:=m;subst D
  exact ⟨c,0,0,⟨rfl,rfl,rfl⟩,λl q' e=>(by cases e;exact ⟨rfl,C,A⟩),z⟩
theorem info_Co:(Tryz.prog.info? 83).map (λi=>(i.zero,i.size,i.bytes))=some (some (.agg #[.slice none 0 0,.slice none 0 0]),2,48):=by kernel_rfl
theorem info_J6:(Tryz.prog.info? 2).map (λi=>(i.zero,i.size,i.bytes))=some (some (.int .i64 0),1,8):=by kernel_rfl
theorem info_Gp:(Tryz.prog.info? 173).map (λi=>(i.zero,i.size,i.bytes))=some (some (.agg #[.int .i64 0,.int .i64 0]),2,16):=by kernel_rfl
theorem list13 {l:List Value}(h:l.length=13):∃ q p o n m k j g f d c b a,l=[q,p,o,n,m,k,j,g,f,d,c,b,a]:=by
 obtain ⟨q,p,o,n,m,k,j,g,f,d,c,b,a,rfl⟩:∃ q p o n m k j g f d c b a,l=[q,p,o,n,m,k,j,g,f,d,c,b,a]:=by
  match l,h with
  |[a0,a1,a2,a3,a4,a5,a6,a7,a8,a9,a10,a11,a12],_=>exact ⟨_,_,_,_,_,_,_,_,_,_,_,_,_,rfl⟩
 exact ⟨_,_,_,_,_,_,_,_,_,_,_,_,_,rfl⟩
theorem perm_cod {α:Type}(i l g:α)(b c d:List α):(i::l::(b++(g::(c++d)))).Perm (l::(c++(d++(g::(i::b))))):=by
 refine (List.Perm.swap _ _ _).trans (List.Perm.cons _ ?_)
 have j:(i::(b++(g::(c++d)))).Perm ((g::(c++d))++(i::b)):=List.perm_append_comm (l₁:=i::b) (l₂:=g::(c++d))
 have f:((g::(c++d))++(i::b)).Perm ((c++d)++(g::(i::b))):=by
  simpa using (List.perm_middle (a:=g) (l₁:=c++d) (l₂:=i::b)).symm
 refine (j.trans f).trans ?_
 rw [List.append_assoc]
theorem win_take {a:List Int}{E:Int}{q:Nat}(h:(q:Int)<=E):(a.take E.toNat).take q=a.take q:=by
 rw [List.take_take,Nat.min_eq_left (by omega)]
theorem Qm.take {l}(h:Qm l)(n:Nat):Qm (l.take n):=λi=>by
 by_cases a:i<n
 . have:(l.take n).getD i 0=l.getD i 0:=by simp [List.getD,List.getElem?_take,a]
   rw [this];exact h i
 . have:(l.take n).getD i 0=0:=by simp [List.getD,List.getElem?_take,a]
   rw [this];omega
theorem size_in {bs:List Int}{E:Int}{p q:Nat}{n:Int}(h:Jl bs E p=.ok n q):(q:Int)+n<=E:=by
 unfold Jl at h
 cases hM:QK bs p with
 |bad e a=>rw [hM] at h;cases h
 |ok n' p1 =>
  rw [hM] at h
  simp only [Rs.bind] at h
  split at h
  · cases h
  . cases h;omega
theorem rlN {B w0 s ba bc bs p er at_ K bx rs w}(n:Int)(h:Sd B w0 s ba bc bs p er at_ K bx rs w)(f:er≠0):Calls Tryz.prog 224 #[.pointer (some ⟨s,0,none⟩),.int .i64 n] w λe w'=>e=.returned (.tuple #[])/\Sd B w0 s ba bc bs p er at_ K bx rs w':=by
 have h0:=h.box (t:=167) (xs:=[.slice none 0 0,.bool false,.bool false]);have c:=Hm h0;clear h h0
 go_enter Tryz.func224,Tryz.ntmps224
 go_wp2_with fail
 go_loopw [5] (λps wr=>ps=.int .i64 0/\Sd B w0 s ba bc bs p er at_ K ((w.heap.size,[.slice none 0 0,.bool false,.bool false])::bx) rs wr) (λ_ _=>0)
 case atStart=>exact ⟨rfl,c.o⟩
 case round =>
  obtain ⟨rfl,a⟩:=hrel;obtain ⟨j,d,b,c3⟩:=a.c3n f;have g:=Hm a.unbox;clear a c
  go_wp2_with fail
  go_end0
  exact ⟨rfl,g.o⟩
theorem info_Cu:(Tryz.prog.info? 72).map (λi=>(i.zero,i.size,i.bytes))=some (some (.agg #[.int .i64 0,.string ByteArray.empty,.slice none 0 0]),3,48):=by kernel_rfl
theorem info_U9:(Tryz.prog.info? 5).map (λi=>(i.zero,i.size,i.bytes))=some (some (.int .u8 0),1,1):=by kernel_rfl
def mea (s n:Nat)(w:World):Nat:=match w.cell? ⟨s,3,none⟩ with
 | some (.int _ z)=>if z=0 then n+1-(match w.cell? ⟨s,1,none⟩ with
  |some (.int _ q)=>q.toNat
  | _=>0) else 0
 |_=>0
theorem mea_ok {B w0 s ba bc bs p K bx rs w}{n:Nat}(h:Sd B w0 s ba bc bs p 0 0 K bx rs w):mea s n w=n+1-p:=by unfold mea;rw [h.c3,h.c1];simp
theorem mea_no {B w0 s ba bc bs p er at_ K bx rs w}{n:Nat}(h:Sd B w0 s ba bc bs p er at_ K bx rs w)(b:er≠0):mea s n w=0:=by
 obtain ⟨z,a,_,c⟩:=h.c3n b;unfold mea;rw [c]
 simp only
 rw [if_neg (by simpa using a)]
theorem cus_sc {B w0 s ba bc bs p bx w}(l:List Cus)(v0:Value)(c0:List Value)(k0 os:List Qc)(h:Sd B w0 s ba bc bs p 0 0 (4*p) bx (⟨72,3,l.length,v0,c0⟩::(os++k0)) w)(bk:LR RCus l c0 k0)(hm:bc.rest[12]?=some v0)(hen:bc.en≠0)(dk:bc.E<=4611686018427387904)(dd:l.length<=p)(hA:Qm bs)(hl:bs.length<=4194300) :
    Calls Tryz.prog 146 #[.pointer (some ⟨s,0,none⟩)] w (EnD 0 (Gy bc.full bs bc.E p) RCus l 12 72 3 B w0 s ba bc bs bx os):=by
 obtain ⟨va,I,rfl⟩:∃ a c,v0=.slice a l.length c:=Qc.Ok.slice (h.row mS);have db:=h.le;have c21:=h.c21;have cp:=Hm bk
 have dj:(bs.length:Int)<=bc.E:=by
  obtain ⟨_,_,_,hr,_⟩:=h.ex;have h1:bs=bc.fs.take bc.E.toNat:=hr.win;have h2:(0:Int)<=bc.E:=hr.e0;have h3:bs.length=min bc.E.toNat bc.fs.length:=by rw [h1,List.length_take]
  omega
 clear bk;obtain ⟨i0,hi,bd,bb,a9⟩:=info_parts info_Cu;obtain ⟨j0,hj,cd,cc,cb⟩:=info_parts info_U9;have h1:=h.box (t:=72) (xs:=[.int .i64 bc.full,.string ByteArray.empty,.slice none 0 0]);have K1:=Hm (nameC h1 (Lk.ok () p) hen (by omega) hA (by omega));clear h h1
 go_enter Tryz.func146,Tryz.ntmps146
 go_wp2_with fail
 refine (K1.o).mono ?_
 rintro e w1 ⟨u1,J,R,ak,rfl,⟨D,rfl⟩,bn,bg,ah⟩;have ae:Lk (Xa bs bc.E p) J R ak:=bn;have aq:∀ x q,Xa bs bc.E p=.ok x q->(.string D:Value)=.string x:=bg;have y1:=ah.b0.2.1 1 _ rfl;have b7:=ah.b0.2.2 1;have H1:=Hm ((ah.set0 1 (.string D)).nilRow (T:=5) (sz:=1));have bw:Hid (R≠0->Gy bc.full bs bc.E p=.bad R ak):=λhn=>by unfold Gy;rw [ae.ne hn];rfl
 have bv:Hid (R=0->ak=0/\p+1<=J/\Gy bc.full bs bc.E p=(JF bs (bc.E-J).toNat J).bind λb p2=>.ok ⟨bc.full,D,b⟩ p2):=λX=>by
  subst X;obtain ⟨x,hx,F⟩:=ae.zero
  have:=aq x J hx
  injection this with this
  subst this
  refine ⟨F,X9 _ _ _ _ _ hx,?_⟩
  unfold Gy;rw [hx];rfl
 clear bn ae bg aq ah K1 c21
 go_wp2_with fail
 go_loopw [3] (λxv wr=>∃ (k:Nat) (d:List Int) (fa:Option Addr) (j q:Nat) (er a:Int),d.length=k/\k<=bs.length+1/\((er=0/\a=0/\p+1<=J/\q=J+k/\d=(bs.drop J).take k/\Gy bc.full bs bc.E p=(JF bs (bc.E-J).toNat J).bind λb p2=>.ok ⟨bc.full,D,b⟩ p2)\/(er≠0/\Gy bc.full bs bc.E p=.bad er a))/\Sd B w0 s ba bc bs q er a (4*p+1) ((w.heap.size,[.int .i64 bc.full,.string D,.slice fa d.length j])::bx) (⟨5,1,d.length,.slice fa d.length j,U d⟩::⟨72,3,l.length,.slice va l.length I,c0⟩::(os++k0)) wr) (λ_ wr=>mea s bs.length wr)
 case atStart =>
  refine ⟨0,[],none,0,J,R,ak,rfl,by omega,?_,by simpa [U] using H1.o⟩
  by_cases X:R=0
  . obtain ⟨h1,h2,h3⟩:=bv.o X
    exact .inl ⟨X,h1,h2,rfl,by simp,h3⟩
  . exact .inr ⟨X,bw.o X⟩
 case round =>
  obtain ⟨k,d,fa,j,q,er,a,bp,df,hst,hs⟩:=hrel;clear bw bv H1 y1 b7
  rcases hst with ⟨rfl,rfl,cf,bh,bo,hM⟩|⟨bj,hM⟩
  . have da:=hs.le;have ci:=hs.c3;have b4:=Hm bp;have b3:=Hm bo;have a2:=Hm hM;have KL:=Hm (leftD hs);rw [show bc.left q=bc.E-q by unfold Bd.left;rw [if_neg hen]] at KL;have co:Hid (mea s bs.length wr=bs.length+1-q):=mea_ok hs;clear bp bo hM
    by_cases dc:(q:Int)<bc.E
    . have hg:bc.E-(q:Int) > 0:=by omega
      have KD:=Hm (λn=>byteC (hs.drewN n) (Lk.ok () q) (by omega));have de:k<=bs.length:=by omega
      clear hs
      go_wp2_with fail
      refine (KL.o).mono ?_
      rintro e w2 ⟨rfl,n2,rfl⟩
      go_wp2_with fail
      refine (KD.o _).mono ?_
      rintro e w3 ⟨u2,q2,aj,bt,rfl,⟨y,rfl⟩,bm,bf,ac⟩;have b2:=ac.b0.2.1 2 _ rfl;have cj:=ac.b0.2.2 2;have dl:=ac.hB;have HS:=Hm ac;have ar:Lk (Qx bs q) q2 aj bt:=bm;have ap:∀ x q',Qx bs q=.ok x q'->(.int .u8 y:Value)=.int .u8 x:=bf;have a4:=Hm ar;have ck:=Hm ap;have di:d.length<=4194400:=by have:=b4.o;omega
      clear ac bm bf ar ap KD KL
      go_wp2_with (at_builtin;refine wpList_append_own_at _ rfl _ _ 22 rfl B 5 j0 (.int .u8 0) 1 1 Tryz.underlying22 hj cd cc cb rfl (by decide) (.slice fa d.length j) d.length (U d) rfl (World.ownsRow.alloc (show World.ownsRow w3 B 5 1 (.slice fa d.length j) d.length (U d) from HS.o.row mS) _) ⟨w3.heap.size,0,none⟩ 1 1 [.int .u8 y] rfl rfl (Jd _ _ _) (by simp [Value.oneCell']) (by unfold maxLen;omega) (by omega) (by simp;omega) ?_;intro Z w6 C O cg F;have ai:=HS.o.push (r':=⟨5,1,d.length+1,Z,U d++([.int .u8 y]:List Value)⟩) (bF.alloc lR _) O C F;obtain ⟨Y,br,rfl⟩:∃ a c,Z=.slice a (d.length+1) c:=JG C;have b6:=ai.b0.2.1 2 _ rfl;have dn:=ai.b0.2.2 2;have H6:=Hm (ai.set0 2 (.slice Y (d.length+1) br));clear C O F ai cg b2 cj)
      go_roundw
      case rel =>
       refine ⟨k+1,d++[y],Y,br,q2,aj,bt,by have:=b4.o;simp;omega,by omega,?_,by have:=H6.o;simpa [U] using this⟩
       by_cases X:aj=0
       . subst X;obtain ⟨y',G,F⟩:=a4.o.zero;have av:=ck.o y' q2 G
         injection av with _ av
         subst av;have ce:=XJ G;have cx:=takeM_le G
         have ca:y=bs.getD q 0:=by
          unfold Qx at G
          split at G
          · cases G
          . cases G;rfl
         refine .inl ⟨rfl,F,cf,by omega,?_,a2.o⟩
         rw [b3.o,ca,bh]
         exact take_snoc bs J k (by omega)
       . refine .inr ⟨X,?_⟩
         have hx:=a4.o.ne X;unfold Qx at hx
         split at hx
         · cases hx
           rw [a2.o];unfold JF;rw [if_neg (by omega)];rfl
         . cases hx
      case measure =>
       rw [co.o]
       by_cases X:aj=0
       . subst X;obtain ⟨y',G,F⟩:=a4.o.zero;have ce:=XJ G;subst F;rw [mea_ok H6.o];omega
       . rw [mea_no H6.o X];omega
    . have hg:¬ bc.E-(q:Int) > 0:=by omega
      have cl:Hid (Gy bc.full bs bc.E p=.ok ⟨bc.full,D,d⟩ q):=by
       show _=_
       rw [a2.o,show (bc.E-(J:Int)).toNat=k by omega];unfold JF;rw [if_pos (by omega),b3.o,bh];rfl
      have bz:=Hm hs;clear hs
      go_wp2_with fail
      refine (KL.o).mono ?_
      rintro e w2 ⟨rfl,n2,rfl⟩;have HS:=Hm ((bz.o.drewN n2).perm (List.Perm.swap _ _ _));clear bz KL
      go_wp2_with fail
      refine Ql (λV=>Sd B w0 s ba bc bs q 0 0 (4*p+1) ((w.heap.size,[.int .i64 bc.full,.string D,.slice fa d.length j])::bx) (⟨72,3,l.length,.slice va l.length I,c0⟩::(⟨5,1,d.length,.slice fa d.length j,U d⟩::(os++k0))) V) HS.o ?_
      intro g m
      have m5:g.cell? ⟨s,17,none⟩=some (.slice va l.length I):=m.cm hm;have z:=m.b0.2.1 0 _ rfl;have u:=m.b0.2.1 1 _ rfl;have r:=m.b0.2.1 2 _ rfl;have H5:=Hm m;have ch:=m.hB;clear m HS
      refine Rp.Ji (N:=42) (vs:=[.pointer (some ⟨s,0,none⟩),.pointer (some ⟨s,0,none⟩),.pointer (some ⟨s,0,none⟩),.pointer (some ⟨s,5,none⟩),.pointer (some ⟨s,17,none⟩),.slice va l.length I,.agg #[.int .i64 bc.full,.string D,.slice fa d.length j],.slice (some ⟨g.heap.size,0,none⟩) 1 1,undef,.pointer (some ⟨s,0,none⟩),.pointer (some ⟨s,5,none⟩),.pointer (some ⟨s,17,none⟩)]) (i1:=7) (i2:=8) (L:=12) (S:=λW=>W.cell? ⟨s,17,none⟩=some (.slice va l.length I)/\W.cell? ⟨w.heap.size,0,none⟩=some (.int .i64 bc.full)/\W.cell? ⟨w.heap.size,1,none⟩=some (.string D)/\W.cell? ⟨w.heap.size,2,none⟩=some (.slice fa d.length j)) (A:=λW v=>(∃ Y c3,v=.slice Y (l.length+1) c3)/\(W.cell? ⟨s,17,none⟩=some (.slice va l.length I)/\W.cell? ⟨w.heap.size,0,none⟩=some (.int .i64 bc.full)/\W.cell? ⟨w.heap.size,1,none⟩=some (.string D)/\W.cell? ⟨w.heap.size,2,none⟩=some (.slice fa d.length j))/\W.frozen? ⟨s,17,none⟩=false/\Sd B w0 s ba { bc with rest:=bc.rest.set 12 v } bs q 0 0 (4*p+1) ((w.heap.size,[.int .i64 bc.full,.string D,.slice fa d.length j])::bx) (⟨72,3,l.length+1,v,c0++([.int .i64 bc.full,.string D,.slice fa d.length j]:List Value)⟩::(⟨5,1,d.length,.slice fa d.length j,U d⟩::(os++k0))) (W.setCell ⟨s,17,none⟩ v)) (w2:=({ g with drawn:=g.drawn+1 }:World).alloc (.cells #[.int .i64 bc.full,.string D,.slice fa d.length j] 72)) (by kernel_rfl) (by kernel_rfl) (by kernel_rfl) rfl ?_ ?_ ?_ ?_
      . exact ⟨m5,z,u,r⟩
      .   exact ⟨Qg (w:={ g with drawn:=g.drawn+1 }) m5,Qg (w:={ g with drawn:=g.drawn+1 }) z,Qg (w:={ g with drawn:=g.drawn+1 }) u,Qg (w:={ g with drawn:=g.drawn+1 }) r⟩
      . intro W v h
        exact h.2.1
      . refine Rp.v0 0 (.pointer (some ⟨s,0,none⟩)) (by kernel_rfl) rfl rfl rfl (λa W _ e=>by go_simp;try rfl) ?_
        refine Rp.v0 0 (.pointer (some ⟨s,0,none⟩)) (by kernel_rfl) rfl rfl rfl (λa W _ e=>by go_simp;try rfl) ?_
        refine Rp.v1 1 rfl (by kernel_rfl) rfl rfl rfl rfl (λa W _ e=>by go_simp;try rfl) ?_
        refine Rp.v1 2 rfl (by kernel_rfl) rfl rfl rfl rfl (λa W _ e=>by go_simp;try rfl) ?_
        refine Rp.v1 3 rfl (by kernel_rfl) rfl rfl rfl rfl (λa W _ e=>by go_simp;try rfl) ?_
        refine Rp.v1 4 rfl (by kernel_rfl) rfl rfl rfl rfl (λa W hS e=>by obtain ⟨m5,z,u,r⟩:=hS;go_simp;try rfl) ?_
        refine Rp.v0 2 (.pointer (some ⟨w.heap.size,0,none⟩)) (by kernel_rfl) rfl rfl rfl (λa W hS e=>by obtain ⟨m5,z,u,r⟩:=hS;go_simp;try rfl) ?_
        refine Rp.l1 6 rfl (by kernel_rfl) rfl rfl rfl rfl (λa e=>by go_simp;try rfl) ?_
        refine Rp.QX.a (by rfl) (λa Kc f hK=>?_) ?_
        . have a1:=Rp.Jb f 3 5 35 _ (by kernel_rfl) rfl rfl;have a0:=Rp.Jb f 3 7 37 _ (by kernel_rfl) rfl rfl
          refine Qv rfl (.tmp 35) (.tmp 37) 32 rfl B 72 i0 (.agg #[.int .i64 0,.string ByteArray.empty,.slice none 0 0]) 3 48 Tryz.underlying32 hi bd bb a9 rfl (by decide) (.slice va l.length I) l.length c0 (by simp [Act.eval,a1]) ?own ⟨g.heap.size,0,none⟩ 1 1 [.int .i64 bc.full,.string D,.slice fa d.length j] (by simp [Act.eval,a0]) rfl ?lit (by simp [Value.oneCell']) (by unfold maxLen;omega) (by omega) ?hbase ?_
          case own=>exact World.ownsRow.alloc (show World.ownsRow { g with drawn:=g.drawn+1 } B 72 3 (.slice va l.length I) l.length c0 from H5.o.row mS) _
          case lit=>exact Jd _ _ _
          case hbase=>simp;omega
          intro Z w6 C O F
          have M:=Xr (ix:=12) (V1:=({ g with drawn:=g.drawn+1 }:World).alloc (.cells #[.int .i64 bc.full,.string D,.slice fa d.length j] 72)) H5.o hm (by decide) ⟨rfl,rfl,rfl,by show g.heap.size<=(g.alloc (.cells #[.int .i64 bc.full,.string D,.slice fa d.length j] 72)).heap.size;simp,λk hk=>QF g _ k hk⟩ O C F
          exact hK Z w6 ⟨JG C,⟨M.1.cm hm,M.1.b0.2.1 0 _ rfl,M.1.b0.2.1 1 _ rfl,M.1.b0.2.1 2 _ rfl⟩,M.1.fz _,M.2⟩
        refine Rp.v1 0 rfl (by kernel_rfl) rfl rfl rfl rfl (λa W _ e=>by go_simp;try rfl) ?_
        refine Rp.v1 9 rfl (by kernel_rfl) rfl rfl rfl rfl (λa W _ e=>by go_simp;try rfl) ?_
        refine Rp.v1 10 rfl (by kernel_rfl) rfl rfl rfl rfl (λa W _ e=>by go_simp;try rfl) ?_
        refine Rp.QX.e (by rfl) (λa W Kc f hK=>?_) Rp.QX.nil
        . have hA:=Rp.XF f 38 (by kernel_rfl);obtain ⟨Z,H⟩:∃ Z,a.eval (.tmp 38)=Z:=⟨_,rfl⟩;rw [H] at hA;obtain ⟨⟨Y,c3,rfl⟩,⟨s5,-⟩,aw,ab⟩:=hA;have ay:=(Rp.QW a 41).symm.trans (Rp.XI f 11 41 _ (by kernel_rfl) rfl);have az:a.tmps[38]?.getD undef=(.slice Y (l.length+1) c3):=(Rp.QW a 38).symm.trans H;have ea:=Rp.Xs f rfl H (by kernel_rfl) rfl
          simp only [Rp.Oe,List.set,Nat.reduceAdd] at ea
          refine Rp.JL (Rp.Qe rfl) (W':=W.setCell ⟨s,17,none⟩ (.slice Y (l.length+1) c3)) ?hst (hK undef _ ?hen)
          case hst =>
           clear f hK ea
           go_simp
           try rfl
          case hen =>
           clear f hK ay az;clear H;subst ea;have H6:=Hm ab;clear ab s5 aw H5 m5
           go_wp2_with fail
           go_end0
           rw [cl.o]
           refine EnD.fin (k:=k0++[⟨5,1,d.length,.slice fa d.length j,U d⟩]) (p:=q) (er:=0) (at_:=0) (Lk.ok _ q) (by
            have h9:=H6.o.unbox.perm (rs':=⟨72,3,l.length+1,.slice Y (l.length+1) c3,c0++([.int .i64 bc.full,.string D,.slice fa d.length j]:List Value)⟩::(os++(k0++[⟨5,1,d.length,.slice fa d.length j,U d⟩]))) (by
             refine List.Perm.cons _ ?_
             rw [<- List.append_assoc]
             exact List.perm_append_comm (l₁:=([⟨5,1,d.length,.slice fa d.length j,U d⟩]:List Qc)))
            exact h9) ?_ (fun _=>by omega)
           intro x q' hx
           cases hx
           exact cp.o.snoc (show RCus ⟨bc.full,D,d⟩ [.int .i64 bc.full,.string D,.slice fa d.length j] [⟨5,1,d.length,.slice fa d.length j,U d⟩] from ⟨_,rfl,rfl⟩)
  . obtain ⟨zz,c9,cv,ci⟩:=hs.c3n bj;have cn:=Hm hM;have HS:=Hm (hs.perm (List.Perm.swap _ _ _));clear hM hs
    go_wp2_with fail
    refine Ql (λV=>Sd B w0 s ba bc bs q er a (4*p+1) ((w.heap.size,[.int .i64 bc.full,.string D,.slice fa d.length j])::bx) (⟨72,3,l.length,.slice va l.length I,c0⟩::(⟨5,1,d.length,.slice fa d.length j,U d⟩::(os++k0))) V) HS.o ?_
    intro g m
    have m5:g.cell? ⟨s,17,none⟩=some (.slice va l.length I):=m.cm hm;have z:=m.b0.2.1 0 _ rfl;have u:=m.b0.2.1 1 _ rfl;have r:=m.b0.2.1 2 _ rfl;have H5:=Hm m;have ch:=m.hB;clear m HS
    refine Rp.Ji (N:=42) (vs:=[.pointer (some ⟨s,0,none⟩),.pointer (some ⟨s,0,none⟩),.pointer (some ⟨s,0,none⟩),.pointer (some ⟨s,5,none⟩),.pointer (some ⟨s,17,none⟩),.slice va l.length I,.agg #[.int .i64 bc.full,.string D,.slice fa d.length j],.slice (some ⟨g.heap.size,0,none⟩) 1 1,undef,.pointer (some ⟨s,0,none⟩),.pointer (some ⟨s,5,none⟩),.pointer (some ⟨s,17,none⟩)]) (i1:=7) (i2:=8) (L:=12) (S:=λW=>W.cell? ⟨s,17,none⟩=some (.slice va l.length I)/\W.cell? ⟨w.heap.size,0,none⟩=some (.int .i64 bc.full)/\W.cell? ⟨w.heap.size,1,none⟩=some (.string D)/\W.cell? ⟨w.heap.size,2,none⟩=some (.slice fa d.length j)) (A:=λW v=>(∃ Y c3,v=.slice Y (l.length+1) c3)/\(W.cell? ⟨s,17,none⟩=some (.slice va l.length I)/\W.cell? ⟨w.heap.size,0,none⟩=some (.int .i64 bc.full)/\W.cell? ⟨w.heap.size,1,none⟩=some (.string D)/\W.cell? ⟨w.heap.size,2,none⟩=some (.slice fa d.length j))/\W.frozen? ⟨s,17,none⟩=false/\Sd B w0 s ba { bc with rest:=bc.rest.set 12 v } bs q er a (4*p+1) ((w.heap.size,[.int .i64 bc.full,.string D,.slice fa d.length j])::bx) (⟨72,3,l.length+1,v,c0++([.int .i64 bc.full,.string D,.slice fa d.length j]:List Value)⟩::(⟨5,1,d.length,.slice fa d.length j,U d⟩::(os++k0))) (W.setCell ⟨s,17,none⟩ v)) (w2:=({ g with drawn:=g.drawn+1 }:World).alloc (.cells #[.int .i64 bc.full,.string D,.slice fa d.length j] 72)) (by kernel_rfl) (by kernel_rfl) (by kernel_rfl) rfl ?_ ?_ ?_ ?_
    . exact ⟨m5,z,u,r⟩
    .   exact ⟨Qg (w:={ g with drawn:=g.drawn+1 }) m5,Qg (w:={ g with drawn:=g.drawn+1 }) z,Qg (w:={ g with drawn:=g.drawn+1 }) u,Qg (w:={ g with drawn:=g.drawn+1 }) r⟩
    . intro W v h
      exact h.2.1
    . refine Rp.v0 0 (.pointer (some ⟨s,0,none⟩)) (by kernel_rfl) rfl rfl rfl (λa W _ e=>by go_simp;try rfl) ?_
      refine Rp.v0 0 (.pointer (some ⟨s,0,none⟩)) (by kernel_rfl) rfl rfl rfl (λa W _ e=>by go_simp;try rfl) ?_
      refine Rp.v1 1 rfl (by kernel_rfl) rfl rfl rfl rfl (λa W _ e=>by go_simp;try rfl) ?_
      refine Rp.v1 2 rfl (by kernel_rfl) rfl rfl rfl rfl (λa W _ e=>by go_simp;try rfl) ?_
      refine Rp.v1 3 rfl (by kernel_rfl) rfl rfl rfl rfl (λa W _ e=>by go_simp;try rfl) ?_
      refine Rp.v1 4 rfl (by kernel_rfl) rfl rfl rfl rfl (λa W hS e=>by obtain ⟨m5,z,u,r⟩:=hS;go_simp;try rfl) ?_
      refine Rp.v0 2 (.pointer (some ⟨w.heap.size,0,none⟩)) (by kernel_rfl) rfl rfl rfl (λa W hS e=>by obtain ⟨m5,z,u,r⟩:=hS;go_simp;try rfl) ?_
      refine Rp.l1 6 rfl (by kernel_rfl) rfl rfl rfl rfl (λa e=>by go_simp;try rfl) ?_
      refine Rp.QX.a (by rfl) (λa Kc f hK=>?_) ?_
      . have a1:=Rp.Jb f 3 5 35 _ (by kernel_rfl) rfl rfl;have a0:=Rp.Jb f 3 7 37 _ (by kernel_rfl) rfl rfl
        refine Qv rfl (.tmp 35) (.tmp 37) 32 rfl B 72 i0 (.agg #[.int .i64 0,.string ByteArray.empty,.slice none 0 0]) 3 48 Tryz.underlying32 hi bd bb a9 rfl (by decide) (.slice va l.length I) l.length c0 (by simp [Act.eval,a1]) ?own ⟨g.heap.size,0,none⟩ 1 1 [.int .i64 bc.full,.string D,.slice fa d.length j] (by simp [Act.eval,a0]) rfl ?lit (by simp [Value.oneCell']) (by unfold maxLen;omega) (by omega) ?hbase ?_
        case own=>exact World.ownsRow.alloc (show World.ownsRow { g with drawn:=g.drawn+1 } B 72 3 (.slice va l.length I) l.length c0 from H5.o.row mS) _
        case lit=>exact Jd _ _ _
        case hbase=>simp;omega
        intro Z w6 C O F
        have M:=Xr (ix:=12) (V1:=({ g with drawn:=g.drawn+1 }:World).alloc (.cells #[.int .i64 bc.full,.string D,.slice fa d.length j] 72)) H5.o hm (by decide) ⟨rfl,rfl,rfl,by show g.heap.size<=(g.alloc (.cells #[.int .i64 bc.full,.string D,.slice fa d.length j] 72)).heap.size;simp,λk hk=>QF g _ k hk⟩ O C F
        exact hK Z w6 ⟨JG C,⟨M.1.cm hm,M.1.b0.2.1 0 _ rfl,M.1.b0.2.1 1 _ rfl,M.1.b0.2.1 2 _ rfl⟩,M.1.fz _,M.2⟩
      refine Rp.v1 0 rfl (by kernel_rfl) rfl rfl rfl rfl (λa W _ e=>by go_simp;try rfl) ?_
      refine Rp.v1 9 rfl (by kernel_rfl) rfl rfl rfl rfl (λa W _ e=>by go_simp;try rfl) ?_
      refine Rp.v1 10 rfl (by kernel_rfl) rfl rfl rfl rfl (λa W _ e=>by go_simp;try rfl) ?_
      refine Rp.QX.e (by rfl) (λa W Kc f hK=>?_) Rp.QX.nil
      . have hA:=Rp.XF f 38 (by kernel_rfl);obtain ⟨Z,H⟩:∃ Z,a.eval (.tmp 38)=Z:=⟨_,rfl⟩;rw [H] at hA;obtain ⟨⟨Y,c3,rfl⟩,⟨s5,-⟩,aw,ab⟩:=hA;have ay:=(Rp.QW a 41).symm.trans (Rp.XI f 11 41 _ (by kernel_rfl) rfl);have az:a.tmps[38]?.getD undef=(.slice Y (l.length+1) c3):=(Rp.QW a 38).symm.trans H;have ea:=Rp.Xs f rfl H (by kernel_rfl) rfl
        simp only [Rp.Oe,List.set,Nat.reduceAdd] at ea
        refine Rp.JL (Rp.Qe rfl) (W':=W.setCell ⟨s,17,none⟩ (.slice Y (l.length+1) c3)) ?hst (hK undef _ ?hen)
        case hst =>
         clear f hK ea
         go_simp
         try rfl
        case hen =>
         clear f hK ay az;clear H;subst ea;have H6:=Hm ab;clear ab s5 aw H5 m5
         go_wp2_with fail
         go_end0
         rw [cn.o]
         exact ⟨rfl,(FaD.of H6.o.unbox bj).rest⟩
end Go.Proofs.YtedcmcdbejjgcaaGreat.Ms
