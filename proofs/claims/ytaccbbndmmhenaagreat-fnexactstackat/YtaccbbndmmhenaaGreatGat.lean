import Derived.Test.YtaccbbndmmhenaaGreatGah
set_option linter.all false
set_option maxHeartbeats 400000000
set_option maxRecDepth 100000
namespace Go.Proofs
open Value renaming int->U,slice->S,bool->G,string->Xs,agg->Ag
open IntKind renaming i64->O,u64->Ou
open Ending renaming returned->Z
open Obj renaming cells->Fc
open Go renaming World->J,Calls->Ec,Value->Vu,Addr->Ad
open Go.RowKit renaming Below->Bw
open Tryz renaming prog->Q
open Tryz
open List renaming map_append->Tf,sum_append->Ix,take_length->Kh,length->N
open IntKind renaming wrap_i64->Kz
open Nat renaming lt_of_lt_of_le->Km,zero_le->Kw,le_trans->Kq
open World renaming block_lt_of_cell?->Kk
open Int renaming le_refl->Lh
open Calls renaming regrown_of->Tz
open Exit renaming normal->Tn
namespace YtaccbbndmmhenaaGreat
open Go.RowKit Go.Sort
variable {w w' W0 V V1:J}{B C b:Nat}
theorem QQ {α:Type}{f:α->Nat}(z:α)(xs:List α)(k:Nat)(h:k<N xs):((xs.take (k+1)).map f).sum=((xs.take k).map f).sum+f (xs.getD k z):=by
 rw[List.take_add_one,List.getElem?_eq_getElem h];rw[show xs.getD k z=xs[k] by simp[List.getD,h]];simp only[Option.toList,Tf,List.map_cons,List.map_nil,Ix,List.sum_cons,List.sum_nil,Nat.add_zero]
def Qc.sz (x:Qc):Nat:=N x.ps+N x.rs
def In.sz (x:In):Nat:=N x.l
def Imp.sz (x:Imp):Nat:=x.mod.size+x.nm.size
def Qm.sz (x:Qm):Nat:=(N x.ini+(x.ini.map In.sz).sum)
def Exp.sz (x:Exp):Nat:=x.nm.size
def Ele.sz (x:Ele):Nat:=(N x.off+(x.off.map In.sz).sum)+N x.fs
def Cod.sz (x:Cod):Nat:=N x.gq+(N x.body+(x.body.map In.sz).sum)
def Dat.sz (x:Dat):Nat:=(N x.off+(x.off.map In.sz).sum)+N x.bs
def Cus.sz (x:Cus):Nat:=x.nm.size+N x.bs
def Mod.sz (x:Mod):Nat:=(N x.types+(x.types.map Qc.sz).sum)+(N x.cj+(x.cj.map Imp.sz).sum)+N x.jk+N x.cw+N x.jz+(N x.ck+(x.ck.map Qm.sz).sum)+(N x.cv+(x.cv.map Exp.sz).sum)+(N x.fq+(x.fq.map Ele.sz).sum)+(N x.fj+(x.fj.map Cod.sz).sum)+(N x.fx+(x.fx.map Dat.sz).sum)+(N x.fw+(x.fw.map Cus.sz).sum)
theorem qzInts_c (a:Option Ad)(n c:Nat)(left:Int)(w:J)(f:0<=left)(d:left<=1048576)(hn:n<=9223372036854775807):Ec Q 15 #[S a n c,U O left] w λe w'=>∃r:Int,e=Z (U O r)/\Bw w.heap.size w w'/\(r=-1\/(0<=r/\r+(n:Int)<=left/\n<=1048576)):=by
 have b:IntKind.i64.wrap (left-n)=left-n:=by rw[Kz];omega
 by_cases h:left-n<0
 . go_enter func15,ntmps15;go_wp2;go_ret;exact⟨-1,rfl,bFz,.inl rfl⟩
 go_enter func15,ntmps15;go_wp2;go_ret;exact⟨left-n,rfl,bFz,.inr ⟨by omega,by omega,by omega⟩⟩
theorem qzBytes_c (a:Option Ad)(n c:Nat)(left:Int)(w:J)(f:0<=left)(d:left<=1048576)(hn:n<=9223372036854775807):Ec Q 123 #[S a n c,U O left] w λe w'=>∃r:Int,e=Z (U O r)/\Bw w.heap.size w w'/\(r=-1\/(0<=r/\r+(n:Int)<=left/\n<=1048576)):=by
 have b:IntKind.i64.wrap (left-n)=left-n:=by rw[Kz];omega
 by_cases h:left-n<0
 . go_enter func123,ntmps123;go_wp2;go_ret;exact⟨-1,rfl,bFz,.inl rfl⟩
 go_enter func123,ntmps123;go_wp2;go_ret;exact⟨left-n,rfl,bFz,.inr ⟨by omega,by omega,by omega⟩⟩
theorem qzLimitss_c (a:Option Ad)(n c:Nat)(left:Int)(w:J)(f:0<=left)(d:left<=1048576)(hn:n<=9223372036854775807):Ec Q 16 #[S a n c,U O left] w λe w'=>∃r:Int,e=Z (U O r)/\Bw w.heap.size w w'/\(r=-1\/(0<=r/\r+(n:Int)<=left/\n<=1048576)):=by
 have b:IntKind.i64.wrap (left-n)=left-n:=by rw[Kz];omega
 by_cases h:left-n<0
 . go_enter func16,ntmps16;go_wp2;go_ret;exact⟨-1,rfl,bFz,.inl rfl⟩
 go_enter func16,ntmps16;go_wp2;go_ret;exact⟨left-n,rfl,bFz,.inr ⟨by omega,by omega,by omega⟩⟩
theorem qzGrps_c (a:Option Ad)(n c:Nat)(left:Int)(w:J)(f:0<=left)(d:left<=1048576)(hn:n<=9223372036854775807):Ec Q 122 #[S a n c,U O left] w λe w'=>∃r:Int,e=Z (U O r)/\Bw w.heap.size w w'/\(r=-1\/(0<=r/\r+(n:Int)<=left/\n<=1048576)):=by
 have b:IntKind.i64.wrap (left-n)=left-n:=by rw[Kz];omega
 by_cases h:left-n<0
 . go_enter func122,ntmps122;go_wp2;go_ret;exact⟨-1,rfl,bFz,.inl rfl⟩
 go_enter func122,ntmps122;go_wp2;go_ret;exact⟨left-n,rfl,bFz,.inr ⟨by omega,by omega,by omega⟩⟩
theorem qzFType_c (x:Qc)(q:Option Ad)(c1:Nat)(n:Option Ad)(c2:Nat)(left:Int)(w:J)(h0:0<=left)(h1:left<=1048576)(X:Qc.Is 0 w x q n)(L:Qc.LB 9223372036854775807 x):Ec Q 68 #[Ag #[S q (N x.ps) c1,S n (N x.rs) c2],U O left] w λe w'=>∃r:Int,e=Z (U O r)/\Bw w.heap.size w w'/\(r=-1\/(0<=r/\r+(Qc.sz x:Int)<=left/\Qc.LB 1048576 x)):=by
 obtain⟨F,E⟩:=L;obtain⟨A,z⟩:=X;clear A z;go_enter func68,ntmps68;go_upto_region 1 with fail
 refine Qj (λW=>(W.cell? ⟨w.heap.size,0,none⟩=some (S q (N x.ps) c1)/\W.cell? ⟨w.heap.size,1,none⟩=some (S n (N x.rs) c2))/\Bw w.heap.size w W/\w.heap.size<W.heap.size) ⟨⟨Qe rfl rfl,Qe rfl rfl⟩,bFz.alloc lRz _,by simp⟩ ?_;rintro W ⟨⟨B,s⟩,y,g⟩;have m:=Hm (qzInts_c q (N x.ps) c1 left W (by omega) (by omega) F);go_wp2_with fail
 refine m.o.mono ?_;rintro e W0 ⟨D,rfl,a,u⟩;have b:Bw w.heap.size w W0:=y.trans (a.mono y.size);have V:w.heap.size<W0.heap.size:=Km g a.size;have s:=(a.cell (p:=⟨w.heap.size,1,none⟩) g).trans s;clear a m B;rcases u with rfl|⟨v,d,I⟩
 . go_wp2;go_ret;exact⟨-1,rfl,b,.inl rfl⟩
 generalize R:N x.ps=g0 at d;go_upto_region 4 with fail
 have l:=Hm (qzInts_c n (N x.rs) c2 D W0 (by omega) (by omega) E);go_wp2_with fail
 refine l.o.mono ?_;rintro e Y ⟨C,rfl,j,t⟩;have k:Bw w.heap.size w Y:=b.trans (j.mono b.size);clear j l s;rcases t with rfl|⟨f,c,H⟩
 . go_wp2;go_ret;exact⟨-1,rfl,k,.inl rfl⟩
 generalize M:N x.rs=g1 at c;go_wp2;go_ret;exact⟨C,rfl,k,.inr ⟨f,by simp only[Qc.sz];omega,⟨I,H⟩⟩⟩
theorem qzFTypes_c (a:Option Ad)(c:Nat)(xs:List Qc)(left:Int)(w:J)(h0:0<=left)(h1:left<=1048576)(D:Qc.Ls 0 w a xs)(v:N xs<=9223372036854775807/\∀i,i<N xs->Qc.LB 9223372036854775807 (xs.getD i Qc.z)):Ec Q 13 #[S a (N xs) c,U O left] w λe w'=>∃r:Int,e=Z (U O r)/\Bw w.heap.size w w'/\(r=-1\/(0<=r/\r+((N xs+(xs.map Qc.sz).sum:Nat):Int)<=left/\N xs<=1048576/\∀i,i<N xs->Qc.LB 1048576 (xs.getD i Qc.z))):=by
 obtain⟨hn,v⟩:=v;have hw:IntKind.i64.wrap (left-N xs)=left-N xs:=by rw[Kz];omega
 by_cases h:left-N xs<0
 . clear D;go_enter func13,ntmps13;go_wp2;go_ret;exact⟨-1,rfl,bFz,.inl rfl⟩
 have M:=Hm D;have H:=Hm v;clear D v;go_enter func13,ntmps13;go_wp2;go_loopw [1,5] (λq i wr=>∃(k:Nat) (r:Int),k<=N xs/\i=U O k/\q=U O r/\0<=r/\r+(((xs.take k).map Qc.sz).sum:Int)<=left-N xs/\(∀i,i<k->Qc.LB 1048576 (xs.getD i Qc.z))/\Bw w.heap.size w wr) (λ_ i _=>N xs-(intOf i).toNat)
 case atStart=>exact⟨0,_,Kw _,rfl,rfl,by omega,by simp,λi y=>by omega,bFz⟩
 obtain⟨k,r,hk,rfl,rfl,s,C,d,A⟩:=hrel;by_cases g:k<N xs
 . rcases M.o.up (up_below A)with m|⟨b,o,ea,_,F⟩
   . subst m;simp at g
   subst ea;have l:=F k g;have j:=H.o k g;(have aa:(k:Int)<(N xs:Int):=by omega);obtain⟨x,m⟩:∃x,x=xs.getD k Qc.z:=⟨_,rfl⟩;rw[<- m]at l j;obtain⟨a1,c1,a2,c2,⟨X,V⟩,y⟩:=l;have I:=Hm m;have HT:=Hm (QQ (f:=Qc.sz) Qc.z xs k g);have HA:=Hm d;have L:=Hm (qzFType_c x a1 c1 a2 c2 r wr s (by omega) y j);clear m F d M y j H;(go_wp2_with fail);refine L.o.mono ?_;rintro e R ⟨E,rfl,u,p⟩;have t:Bw w.heap.size w R:=A.trans (u.mono A.size);clear u X V L;rcases p with rfl|⟨B,Y,n⟩
   . go_wp2;go_ret;exact⟨-1,rfl,t,.inl rfl⟩
   (have f:¬E<0:=by omega);have HR:=Hm n;clear n;go_wp2;go_roundw
   case rel=>exact⟨k+1,E,by omega,by go_num,rfl,B,by rw[HT.o,<- I.o];push_cast;omega,fun i y=>by
    rcases(by omega:i<k\/i=k)with h|h
    . exact HA.o i h
    . subst h;rw[<- I.o];exact HR.o,t⟩
   case measure=>simp[intOf];omega
 have e:k=N xs:=by omega
 subst e;go_wp2;go_ret;exact⟨r,rfl,A,.inr ⟨s,by rw[Kh]at C;push_cast;omega,by omega,d⟩⟩
theorem qzIn_c (x:In)(k:Option Ad)(c1:Nat)(left:Int)(w:J)(E:0<=left)(D:left<=1048576)(p:In.Is 0 w x k)(A:In.LB 9223372036854775807 x):Ec Q 182 #[Ag #[U O x.op,U O x.a,U O x.b,U Ou x.v,S k (N x.l) c1],U O left] w λe w'=>∃r:Int,e=Z (U O r)/\Bw w.heap.size w w'/\(r=-1\/(0<=r/\r+(In.sz x:Int)<=left/\In.LB 1048576 x)):=by
 have u:N x.l<=9223372036854775807:=A;have q:=p;clear p;clear q;go_enter func182,ntmps182;go_upto_region 1 with fail
 refine Qj (λW=>(W.cell? ⟨w.heap.size,4,none⟩=some (S k (N x.l) c1))/\Bw w.heap.size w W/\w.heap.size<W.heap.size) ⟨Qe rfl rfl,bFz.alloc lRz _,by simp⟩ ?_;rintro W ⟨s,n,z⟩;have j:=Hm (qzInts_c k (N x.l) c1 left W (by omega) (by omega) u);go_wp2_with fail
 refine j.o.mono ?_;rintro e C ⟨t,rfl,f,m⟩;have g:Bw w.heap.size w C:=n.trans (f.mono n.size);clear f j s;rcases m with rfl|⟨d,c,y⟩
 . go_wp2;go_ret;exact⟨-1,rfl,g,.inl rfl⟩
 generalize B:N x.l=g4 at c;go_wp2;go_ret;exact⟨t,rfl,g,.inr ⟨d,by simp only[In.sz];omega,y⟩⟩
theorem qzIns_c (a:Option Ad)(c:Nat)(xs:List In)(left:Int)(w:J)(h0:0<=left)(h1:left<=1048576)(C:In.Ls 0 w a xs)(v:N xs<=9223372036854775807/\∀i,i<N xs->In.LB 9223372036854775807 (xs.getD i I0)):Ec Q 121 #[S a (N xs) c,U O left] w λe w'=>∃r:Int,e=Z (U O r)/\Bw w.heap.size w w'/\(r=-1\/(0<=r/\r+((N xs+(xs.map In.sz).sum:Nat):Int)<=left/\N xs<=1048576/\∀i,i<N xs->In.LB 1048576 (xs.getD i I0))):=by
 obtain⟨hn,v⟩:=v;have hw:IntKind.i64.wrap (left-N xs)=left-N xs:=by rw[Kz];omega
 by_cases h:left-N xs<0
 . clear C;go_enter func121,ntmps121;go_wp2;go_ret;exact⟨-1,rfl,bFz,.inl rfl⟩
 have L:=Hm C;have F:=Hm v;clear C v;go_enter func121,ntmps121;go_wp2;go_loopw [1,5] (λq i wr=>∃(k:Nat) (r:Int),k<=N xs/\i=U O k/\q=U O r/\0<=r/\r+(((xs.take k).map In.sz).sum:Int)<=left-N xs/\(∀i,i<k->In.LB 1048576 (xs.getD i I0))/\Bw w.heap.size w wr) (λ_ i _=>N xs-(intOf i).toNat)
 case atStart=>exact⟨0,_,Kw _,rfl,rfl,by omega,by simp,λi y=>by omega,bFz⟩
 obtain⟨k,r,hk,rfl,rfl,s,B,d,z⟩:=hrel;by_cases g:k<N xs
 . rcases L.o.up (up_below z)with m|⟨b,o,ea,_,E⟩
   . subst m;simp at g
   subst ea;have l:=E k g;have j:=F.o k g;(have ac:(k:Int)<(N xs:Int):=by omega);obtain⟨x,m⟩:∃x,x=xs.getD k I0:=⟨_,rfl⟩;rw[<- m]at l j;obtain⟨a1,c1,⟨q0,Y,X,V,R⟩,y⟩:=l;have H:=Hm m;have HT:=Hm (QQ (f:=In.sz) I0 xs k g);have HA:=Hm d;have I:=Hm (qzIn_c x a1 c1 r wr s (by omega) y j);clear m E d L y j F;(go_wp2_with fail);refine I.o.mono ?_;rintro e M ⟨D,rfl,u,p⟩;have t:Bw w.heap.size w M:=z.trans (u.mono z.size);clear u q0 Y X V R I;rcases p with rfl|⟨A,ab,n⟩
   . go_wp2;go_ret;exact⟨-1,rfl,t,.inl rfl⟩
   (have f:¬D<0:=by omega);have HR:=Hm n;clear n;go_wp2;go_roundw
   case rel=>exact⟨k+1,D,by omega,by go_num,rfl,A,by rw[HT.o,<- H.o];push_cast;omega,fun i y=>by
    rcases(by omega:i<k\/i=k)with h|h
    . exact HA.o i h
    . subst h;rw[<- H.o];exact HR.o,t⟩
   case measure=>simp[intOf];omega
 have e:k=N xs:=by omega
 subst e;go_wp2;go_ret;exact⟨r,rfl,z,.inr ⟨s,by rw[Kh]at B;push_cast;omega,by omega,d⟩⟩
theorem qzImp_c (x:Imp)(left:Int)(w:J)(u:0<=left)(t:left<=1048576)(s:Imp.Is 0 w x)(m:Imp.LB 9223372036854775807 x):Ec Q 69 #[Ag #[Xs x.mod,Xs x.nm,U O x.kind,U O x.ty,U O x.lim.min,U O x.lim.max,G x.lim.has,U O x.gl.ty,G x.gl.mu],U O left] w λe w'=>∃r:Int,e=Z (U O r)/\Bw w.heap.size w w'/\(r=-1\/(0<=r/\r+(Imp.sz x:Int)<=left/\Imp.LB 1048576 x)):=by
 obtain⟨q,p⟩:=m;go_enter func69,ntmps69;go_upto_region 1 with fail
 refine Qj (λW=>(W.cell? ⟨w.heap.size,0,none⟩=some (Xs x.mod)/\W.cell? ⟨w.heap.size,1,none⟩=some (Xs x.nm))/\Bw w.heap.size w W/\w.heap.size<W.heap.size) ⟨⟨Qe rfl rfl,Qe rfl rfl⟩,bFz.alloc lRz _,by simp⟩ ?_;rintro W ⟨⟨o,n⟩,b,l⟩;have g:IntKind.i64.wrap (left-(x.mod.size:Int))=left-(x.mod.size:Int):=by rw[Kz];omega
 by_cases k:left-(x.mod.size:Int)<0
 . go_wp2;go_ret;exact⟨-1,rfl,b,.inl rfl⟩
 have d:x.mod.size<=1048576:=by omega
 go_upto_region 4 with fail
 have f:IntKind.i64.wrap ((left-(x.mod.size:Int))-(x.nm.size:Int))=(left-(x.mod.size:Int))-(x.nm.size:Int):=by rw[Kz];omega
 by_cases j:(left-(x.mod.size:Int))-(x.nm.size:Int)<0
 . go_wp2;go_ret;exact⟨-1,rfl,b,.inl rfl⟩
 have c:x.nm.size<=1048576:=by omega
 have a:0<=(left-(x.mod.size:Int))-(x.nm.size:Int):=by omega
 go_wp2;go_ret;exact⟨((left-(x.mod.size:Int))-(x.nm.size:Int)),rfl,b,.inr ⟨a,by simp only[Imp.sz];omega,⟨d,c⟩⟩⟩
theorem qzImps_c (a:Option Ad)(c:Nat)(xs:List Imp)(left:Int)(w:J)(h0:0<=left)(h1:left<=1048576)(D:Imp.Ls 0 w a xs)(v:N xs<=9223372036854775807/\∀i,i<N xs->Imp.LB 9223372036854775807 (xs.getD i Imp.z)):Ec Q 14 #[S a (N xs) c,U O left] w λe w'=>∃r:Int,e=Z (U O r)/\Bw w.heap.size w w'/\(r=-1\/(0<=r/\r+((N xs+(xs.map Imp.sz).sum:Nat):Int)<=left/\N xs<=1048576/\∀i,i<N xs->Imp.LB 1048576 (xs.getD i Imp.z))):=by
 obtain⟨hn,v⟩:=v;have hw:IntKind.i64.wrap (left-N xs)=left-N xs:=by rw[Kz];omega
 by_cases h:left-N xs<0
 . clear D;go_enter func14,ntmps14;go_wp2;go_ret;exact⟨-1,rfl,bFz,.inl rfl⟩
 have M:=Hm D;have H:=Hm v;clear D v;go_enter func14,ntmps14;go_wp2;go_loopw [1,5] (λq i wr=>∃(k:Nat) (r:Int),k<=N xs/\i=U O k/\q=U O r/\0<=r/\r+(((xs.take k).map Imp.sz).sum:Int)<=left-N xs/\(∀i,i<k->Imp.LB 1048576 (xs.getD i Imp.z))/\Bw w.heap.size w wr) (λ_ i _=>N xs-(intOf i).toNat)
 case atStart=>exact⟨0,_,Kw _,rfl,rfl,by omega,by simp,λi y=>by omega,bFz⟩
 obtain⟨k,r,hk,rfl,rfl,s,C,d,A⟩:=hrel;by_cases g:k<N xs
 . rcases M.o.up (up_below A)with m|⟨b,o,ea,_,F⟩
   . subst m;simp at g
   subst ea;have l:=F k g;have j:=H.o k g;(have ah:(k:Int)<(N xs:Int):=by omega);obtain⟨x,m⟩:∃x,x=xs.getD k Imp.z:=⟨_,rfl⟩;rw[<- m]at l j;obtain⟨⟨q0,q1,q2,q3,q4,q5,Y,X,V⟩,y⟩:=l;have I:=Hm m;have HT:=Hm (QQ (f:=Imp.sz) Imp.z xs k g);have HA:=Hm d;have L:=Hm (qzImp_c x r wr s (by omega) y j);clear m F d M y j H;(go_wp2_with fail);refine L.o.mono ?_;rintro e R ⟨E,rfl,u,p⟩;have t:Bw w.heap.size w R:=A.trans (u.mono A.size);clear u q0 q1 q2 q3 q4 q5 Y X V L;rcases p with rfl|⟨B,ag,n⟩
   . go_wp2;go_ret;exact⟨-1,rfl,t,.inl rfl⟩
   (have f:¬E<0:=by omega);have HR:=Hm n;clear n;go_wp2;go_roundw
   case rel=>exact⟨k+1,E,by omega,by go_num,rfl,B,by rw[HT.o,<- I.o];push_cast;omega,fun i y=>by
    rcases(by omega:i<k\/i=k)with h|h
    . exact HA.o i h
    . subst h;rw[<- I.o];exact HR.o,t⟩
   case measure=>simp[intOf];omega
 have e:k=N xs:=by omega
 subst e;go_wp2;go_ret;exact⟨r,rfl,A,.inr ⟨s,by rw[Kh]at C;push_cast;omega,by omega,d⟩⟩
theorem qzGlob_c (x:Qm)(g:Option Ad)(c1:Nat)(left:Int)(w:J)(B:0<=left)(A:left<=1048576)(m:Qm.Is 0 w x g)(u:Qm.LB 9223372036854775807 x):Ec Q 70 #[Ag #[U O x.ty.ty,G x.ty.mu,S g (N x.ini) c1],U O left] w λe w'=>∃r:Int,e=Z (U O r)/\Bw w.heap.size w w'/\(r=-1\/(0<=r/\r+(Qm.sz x:Int)<=left/\Qm.LB 1048576 x)):=by
 have q:=u;have l:=m;clear m;have z:=Hm l;clear l;go_enter func70,ntmps70;go_upto_region 1 with fail
 refine Qj (λW=>(W.cell? ⟨w.heap.size,2,none⟩=some (S g (N x.ini) c1))/\Bw w.heap.size w W/\w.heap.size<W.heap.size) ⟨Qe rfl rfl,bFz.alloc lRz _,by simp⟩ ?_;rintro W ⟨n,k,t⟩;have f:=Hm (qzIns_c g c1 x.ini left W (by omega) (by omega) (z.o.up (up_below k)) q);go_wp2_with fail
 refine f.o.mono ?_;rintro e y ⟨p,rfl,c,j⟩;have d:Bw w.heap.size w y:=k.trans (c.mono k.size);clear c f n;rcases j with rfl|⟨b,a,s⟩
 . go_wp2;go_ret;exact⟨-1,rfl,d,.inl rfl⟩
 generalize v:(N x.ini+(x.ini.map In.sz).sum)=g2 at a;go_wp2;go_ret;exact⟨p,rfl,d,.inr ⟨b,by simp only[Qm.sz];omega,s⟩⟩
theorem qzGlobs_c (a:Option Ad)(c:Nat)(xs:List Qm)(left:Int)(w:J)(h0:0<=left)(h1:left<=1048576)(D:Qm.Ls 0 w a xs)(v:N xs<=9223372036854775807/\∀i,i<N xs->Qm.LB 9223372036854775807 (xs.getD i Qm.z)):Ec Q 17 #[S a (N xs) c,U O left] w λe w'=>∃r:Int,e=Z (U O r)/\Bw w.heap.size w w'/\(r=-1\/(0<=r/\r+((N xs+(xs.map Qm.sz).sum:Nat):Int)<=left/\N xs<=1048576/\∀i,i<N xs->Qm.LB 1048576 (xs.getD i Qm.z))):=by
 obtain⟨hn,v⟩:=v;have hw:IntKind.i64.wrap (left-N xs)=left-N xs:=by rw[Kz];omega
 by_cases h:left-N xs<0
 . clear D;go_enter func17,ntmps17;go_wp2;go_ret;exact⟨-1,rfl,bFz,.inl rfl⟩
 have M:=Hm D;have H:=Hm v;clear D v;go_enter func17,ntmps17;go_wp2;go_loopw [1,5] (λq i wr=>∃(k:Nat) (r:Int),k<=N xs/\i=U O k/\q=U O r/\0<=r/\r+(((xs.take k).map Qm.sz).sum:Int)<=left-N xs/\(∀i,i<k->Qm.LB 1048576 (xs.getD i Qm.z))/\Bw w.heap.size w wr) (λ_ i _=>N xs-(intOf i).toNat)
 case atStart=>exact⟨0,_,Kw _,rfl,rfl,by omega,by simp,λi y=>by omega,bFz⟩
 obtain⟨k,r,hk,rfl,rfl,s,C,d,A⟩:=hrel;by_cases g:k<N xs
 . rcases M.o.up (up_below A)with m|⟨b,o,ea,_,F⟩
   . subst m;simp at g
   subst ea;have l:=F k g;have j:=H.o k g;(have ab:(k:Int)<(N xs:Int):=by omega);obtain⟨x,m⟩:∃x,x=xs.getD k Qm.z:=⟨_,rfl⟩;rw[<- m]at l j;obtain⟨a1,c1,⟨Y,X,V⟩,y⟩:=l;have I:=Hm m;have HT:=Hm (QQ (f:=Qm.sz) Qm.z xs k g);have HA:=Hm d;have L:=Hm (qzGlob_c x a1 c1 r wr s (by omega) y j);clear m F d M y j H;(go_wp2_with fail);refine L.o.mono ?_;rintro e R ⟨E,rfl,u,p⟩;have t:Bw w.heap.size w R:=A.trans (u.mono A.size);clear u Y X V L;rcases p with rfl|⟨B,aa,n⟩
   . go_wp2;go_ret;exact⟨-1,rfl,t,.inl rfl⟩
   (have f:¬E<0:=by omega);have HR:=Hm n;clear n;go_wp2;go_roundw
   case rel=>exact⟨k+1,E,by omega,by go_num,rfl,B,by rw[HT.o,<- I.o];push_cast;omega,fun i y=>by
    rcases(by omega:i<k\/i=k)with h|h
    . exact HA.o i h
    . subst h;rw[<- I.o];exact HR.o,t⟩
   case measure=>simp[intOf];omega
 have e:k=N xs:=by omega
 subst e;go_wp2;go_ret;exact⟨r,rfl,A,.inr ⟨s,by rw[Kh]at C;push_cast;omega,by omega,d⟩⟩
theorem qzExp_c (x:Exp)(left:Int)(w:J)(p:0<=left)(o:left<=1048576)(n:Exp.Is 0 w x)(k:Exp.LB 9223372036854775807 x):Ec Q 71 #[Ag #[Xs x.nm,U O x.kind,U O x.ix],U O left] w λe w'=>∃r:Int,e=Z (U O r)/\Bw w.heap.size w w'/\(r=-1\/(0<=r/\r+(Exp.sz x:Int)<=left/\Exp.LB 1048576 x)):=by
 have m:x.nm.size<=9223372036854775807:=k;go_enter func71,ntmps71;go_upto_region 1 with fail
 refine Qj (λW=>(W.cell? ⟨w.heap.size,0,none⟩=some (Xs x.nm))/\Bw w.heap.size w W/\w.heap.size<W.heap.size) ⟨Qe rfl rfl,bFz.alloc lRz _,by simp⟩ ?_;rintro W ⟨l,c,j⟩;have f:IntKind.i64.wrap (left-(x.nm.size:Int))=left-(x.nm.size:Int):=by rw[Kz];omega
 by_cases g:left-(x.nm.size:Int)<0
 . go_wp2;go_ret;exact⟨-1,rfl,c,.inl rfl⟩
 have d:x.nm.size<=1048576:=by omega
 have a:0<=left-(x.nm.size:Int):=by omega
 have b:left-(x.nm.size:Int)+(x.nm.size:Int)<=left:=by omega
 go_wp2;go_ret;exact⟨(left-(x.nm.size:Int)),rfl,c,.inr ⟨a,by simp only[Exp.sz];omega,d⟩⟩
theorem qzExps_c (a:Option Ad)(c:Nat)(xs:List Exp)(left:Int)(w:J)(h0:0<=left)(h1:left<=1048576)(D:Exp.Ls 0 w a xs)(v:N xs<=9223372036854775807/\∀i,i<N xs->Exp.LB 9223372036854775807 (xs.getD i Exp.z)):Ec Q 18 #[S a (N xs) c,U O left] w λe w'=>∃r:Int,e=Z (U O r)/\Bw w.heap.size w w'/\(r=-1\/(0<=r/\r+((N xs+(xs.map Exp.sz).sum:Nat):Int)<=left/\N xs<=1048576/\∀i,i<N xs->Exp.LB 1048576 (xs.getD i Exp.z))):=by
 obtain⟨hn,v⟩:=v;have hw:IntKind.i64.wrap (left-N xs)=left-N xs:=by rw[Kz];omega
 by_cases h:left-N xs<0
 . clear D;go_enter func18,ntmps18;go_wp2;go_ret;exact⟨-1,rfl,bFz,.inl rfl⟩
 have M:=Hm D;have H:=Hm v;clear D v;go_enter func18,ntmps18;go_wp2;go_loopw [1,5] (λq i wr=>∃(k:Nat) (r:Int),k<=N xs/\i=U O k/\q=U O r/\0<=r/\r+(((xs.take k).map Exp.sz).sum:Int)<=left-N xs/\(∀i,i<k->Exp.LB 1048576 (xs.getD i Exp.z))/\Bw w.heap.size w wr) (λ_ i _=>N xs-(intOf i).toNat)
 case atStart=>exact⟨0,_,Kw _,rfl,rfl,by omega,by simp,λi y=>by omega,bFz⟩
 obtain⟨k,r,hk,rfl,rfl,s,C,d,A⟩:=hrel;by_cases g:k<N xs
 . rcases M.o.up (up_below A)with m|⟨b,o,ea,_,F⟩
   . subst m;simp at g
   subst ea;have l:=F k g;have j:=H.o k g;(have ab:(k:Int)<(N xs:Int):=by omega);obtain⟨x,m⟩:∃x,x=xs.getD k Exp.z:=⟨_,rfl⟩;rw[<- m]at l j;obtain⟨⟨Y,X,V⟩,y⟩:=l;have I:=Hm m;have HT:=Hm (QQ (f:=Exp.sz) Exp.z xs k g);have HA:=Hm d;have L:=Hm (qzExp_c x r wr s (by omega) y j);clear m F d M y j H;(go_wp2_with fail);refine L.o.mono ?_;rintro e R ⟨E,rfl,u,p⟩;have t:Bw w.heap.size w R:=A.trans (u.mono A.size);clear u Y X V L;rcases p with rfl|⟨B,aa,n⟩
   . go_wp2;go_ret;exact⟨-1,rfl,t,.inl rfl⟩
   (have f:¬E<0:=by omega);have HR:=Hm n;clear n;go_wp2;go_roundw
   case rel=>exact⟨k+1,E,by omega,by go_num,rfl,B,by rw[HT.o,<- I.o];push_cast;omega,fun i y=>by
    rcases(by omega:i<k\/i=k)with h|h
    . exact HA.o i h
    . subst h;rw[<- I.o];exact HR.o,t⟩
   case measure=>simp[intOf];omega
 have e:k=N xs:=by omega
 subst e;go_wp2;go_ret;exact⟨r,rfl,A,.inr ⟨s,by rw[Kh]at C;push_cast;omega,by omega,d⟩⟩
theorem qzEle_c (x:Ele)(q:Option Ad)(c1:Nat)(n:Option Ad)(c2:Nat)(left:Int)(w:J)(h0:0<=left)(h1:left<=1048576)(X:Ele.Is 0 w x q n)(L:Ele.LB 9223372036854775807 x):Ec Q 72 #[Ag #[S q (N x.off) c1,S n (N x.fs) c2],U O left] w λe w'=>∃r:Int,e=Z (U O r)/\Bw w.heap.size w w'/\(r=-1\/(0<=r/\r+(Ele.sz x:Int)<=left/\Ele.LB 1048576 x)):=by
 obtain⟨F,E⟩:=L;obtain⟨y,A⟩:=X;have R1:=Hm y;clear y A;go_enter func72,ntmps72;go_upto_region 1 with fail
 refine Qj (λW=>(W.cell? ⟨w.heap.size,0,none⟩=some (S q (N x.off) c1)/\W.cell? ⟨w.heap.size,1,none⟩=some (S n (N x.fs) c2))/\Bw w.heap.size w W/\w.heap.size<W.heap.size) ⟨⟨Qe rfl rfl,Qe rfl rfl⟩,bFz.alloc lRz _,by simp⟩ ?_;rintro W ⟨⟨B,s⟩,v,g⟩;have m:=Hm (qzIns_c q c1 x.off left W (by omega) (by omega) (R1.o.up (up_below v)) F);go_wp2_with fail
 refine m.o.mono ?_;rintro e W0 ⟨D,rfl,a,u⟩;have b:Bw w.heap.size w W0:=v.trans (a.mono v.size);have V:w.heap.size<W0.heap.size:=Km g a.size;have s:=(a.cell (p:=⟨w.heap.size,1,none⟩) g).trans s;clear a m B;rcases u with rfl|⟨z,d,I⟩
 . go_wp2;go_ret;exact⟨-1,rfl,b,.inl rfl⟩
 generalize R:(N x.off+(x.off.map In.sz).sum)=g0 at d;go_upto_region 4 with fail
 have l:=Hm (qzInts_c n (N x.fs) c2 D W0 (by omega) (by omega) E);go_wp2_with fail
 refine l.o.mono ?_;rintro e Y ⟨C,rfl,j,t⟩;have k:Bw w.heap.size w Y:=b.trans (j.mono b.size);clear j l s;rcases t with rfl|⟨f,c,H⟩
 . go_wp2;go_ret;exact⟨-1,rfl,k,.inl rfl⟩
 generalize M:N x.fs=g1 at c;go_wp2;go_ret;exact⟨C,rfl,k,.inr ⟨f,by simp only[Ele.sz];omega,⟨I,H⟩⟩⟩
theorem qzEles_c (a:Option Ad)(c:Nat)(xs:List Ele)(left:Int)(w:J)(h0:0<=left)(h1:left<=1048576)(D:Ele.Ls 0 w a xs)(v:N xs<=9223372036854775807/\∀i,i<N xs->Ele.LB 9223372036854775807 (xs.getD i Ele.z)):Ec Q 19 #[S a (N xs) c,U O left] w λe w'=>∃r:Int,e=Z (U O r)/\Bw w.heap.size w w'/\(r=-1\/(0<=r/\r+((N xs+(xs.map Ele.sz).sum:Nat):Int)<=left/\N xs<=1048576/\∀i,i<N xs->Ele.LB 1048576 (xs.getD i Ele.z))):=by
 obtain⟨hn,v⟩:=v;have hw:IntKind.i64.wrap (left-N xs)=left-N xs:=by rw[Kz];omega
 by_cases h:left-N xs<0
 . clear D;go_enter func19,ntmps19;go_wp2;go_ret;exact⟨-1,rfl,bFz,.inl rfl⟩
 have M:=Hm D;have H:=Hm v;clear D v;go_enter func19,ntmps19;go_wp2;go_loopw [1,5] (λq i wr=>∃(k:Nat) (r:Int),k<=N xs/\i=U O k/\q=U O r/\0<=r/\r+(((xs.take k).map Ele.sz).sum:Int)<=left-N xs/\(∀i,i<k->Ele.LB 1048576 (xs.getD i Ele.z))/\Bw w.heap.size w wr) (λ_ i _=>N xs-(intOf i).toNat)
 case atStart=>exact⟨0,_,Kw _,rfl,rfl,by omega,by simp,λi y=>by omega,bFz⟩
 obtain⟨k,r,hk,rfl,rfl,s,C,d,A⟩:=hrel;by_cases g:k<N xs
 . rcases M.o.up (up_below A)with m|⟨b,o,ea,_,F⟩
   . subst m;simp at g
   subst ea;have l:=F k g;have j:=H.o k g;(have aa:(k:Int)<(N xs:Int):=by omega);obtain⟨x,m⟩:∃x,x=xs.getD k Ele.z:=⟨_,rfl⟩;rw[<- m]at l j;obtain⟨a1,c1,a2,c2,⟨X,V⟩,y⟩:=l;have I:=Hm m;have HT:=Hm (QQ (f:=Ele.sz) Ele.z xs k g);have HA:=Hm d;have L:=Hm (qzEle_c x a1 c1 a2 c2 r wr s (by omega) y j);clear m F d M y j H;(go_wp2_with fail);refine L.o.mono ?_;rintro e R ⟨E,rfl,u,p⟩;have t:Bw w.heap.size w R:=A.trans (u.mono A.size);clear u X V L;rcases p with rfl|⟨B,Y,n⟩
   . go_wp2;go_ret;exact⟨-1,rfl,t,.inl rfl⟩
   (have f:¬E<0:=by omega);have HR:=Hm n;clear n;go_wp2;go_roundw
   case rel=>exact⟨k+1,E,by omega,by go_num,rfl,B,by rw[HT.o,<- I.o];push_cast;omega,fun i y=>by
    rcases(by omega:i<k\/i=k)with h|h
    . exact HA.o i h
    . subst h;rw[<- I.o];exact HR.o,t⟩
   case measure=>simp[intOf];omega
 have e:k=N xs:=by omega
 subst e;go_wp2;go_ret;exact⟨r,rfl,A,.inr ⟨s,by rw[Kh]at C;push_cast;omega,by omega,d⟩⟩
theorem qzCod_c (x:Cod)(q:Option Ad)(c1:Nat)(n:Option Ad)(c2:Nat)(left:Int)(w:J)(h0:0<=left)(h1:left<=1048576)(Y:Cod.Is 0 w x q n)(M:Cod.LB 9223372036854775807 x):Ec Q 73 #[Ag #[S q (N x.gq) c1,S n (N x.body) c2],U O left] w λe w'=>∃r:Int,e=Z (U O r)/\Bw w.heap.size w w'/\(r=-1\/(0<=r/\r+(Cod.sz x:Int)<=left/\Cod.LB 1048576 x)):=by
 obtain⟨I,H⟩:=M;obtain⟨C,y⟩:=Y;have R2:=Hm y;clear C y;go_enter func73,ntmps73;go_upto_region 1 with fail
 refine Qj (λW=>(W.cell? ⟨w.heap.size,0,none⟩=some (S q (N x.gq) c1)/\W.cell? ⟨w.heap.size,1,none⟩=some (S n (N x.body) c2))/\Bw w.heap.size w W/\w.heap.size<W.heap.size) ⟨⟨Qe rfl rfl,Qe rfl rfl⟩,bFz.alloc lRz _,by simp⟩ ?_;rintro W ⟨⟨D,s⟩,B,g⟩;have m:=Hm (qzGrps_c q (N x.gq) c1 left W (by omega) (by omega) I.1);go_wp2_with fail
 refine m.o.mono ?_;rintro e W0 ⟨F,rfl,a,v⟩;have b:Bw w.heap.size w W0:=B.trans (a.mono B.size);have X:w.heap.size<W0.heap.size:=Km g a.size;have s:=(a.cell (p:=⟨w.heap.size,1,none⟩) g).trans s;clear a m D;rcases v with rfl|⟨A,d,t⟩
 . go_wp2;go_ret;exact⟨-1,rfl,b,.inl rfl⟩
 generalize V:N x.gq=g0 at d;have t:N x.gq<=1048576/\∀i,i<N x.gq->Grp.LB 1048576 (x.gq.getD i Grp.z):=⟨t,λ_ _=>trivial⟩;go_upto_region 4 with fail
 have l:=Hm (qzIns_c n c2 x.body F W0 (by omega) (by omega) (R2.o.up (up_below b)) H);go_wp2_with fail
 refine l.o.mono ?_;rintro e W1 ⟨E,rfl,j,u⟩;have k:Bw w.heap.size w W1:=b.trans (j.mono b.size);clear j l s;rcases u with rfl|⟨f,c,L⟩
 . go_wp2;go_ret;exact⟨-1,rfl,k,.inl rfl⟩
 generalize R:(N x.body+(x.body.map In.sz).sum)=g1 at c;go_wp2;go_ret;exact⟨E,rfl,k,.inr ⟨f,by simp only[Cod.sz];omega,⟨t,L⟩⟩⟩
theorem qzCods_c (a:Option Ad)(c:Nat)(xs:List Cod)(left:Int)(w:J)(h0:0<=left)(h1:left<=1048576)(D:Cod.Ls 0 w a xs)(v:N xs<=9223372036854775807/\∀i,i<N xs->Cod.LB 9223372036854775807 (xs.getD i Cod.z)):Ec Q 20 #[S a (N xs) c,U O left] w λe w'=>∃r:Int,e=Z (U O r)/\Bw w.heap.size w w'/\(r=-1\/(0<=r/\r+((N xs+(xs.map Cod.sz).sum:Nat):Int)<=left/\N xs<=1048576/\∀i,i<N xs->Cod.LB 1048576 (xs.getD i Cod.z))):=by
 obtain⟨hn,v⟩:=v;have hw:IntKind.i64.wrap (left-N xs)=left-N xs:=by rw[Kz];omega
 by_cases h:left-N xs<0
 . clear D;go_enter func20,ntmps20;go_wp2;go_ret;exact⟨-1,rfl,bFz,.inl rfl⟩
 have M:=Hm D;have H:=Hm v;clear D v;go_enter func20,ntmps20;go_wp2;go_loopw [1,5] (λq i wr=>∃(k:Nat) (r:Int),k<=N xs/\i=U O k/\q=U O r/\0<=r/\r+(((xs.take k).map Cod.sz).sum:Int)<=left-N xs/\(∀i,i<k->Cod.LB 1048576 (xs.getD i Cod.z))/\Bw w.heap.size w wr) (λ_ i _=>N xs-(intOf i).toNat)
 case atStart=>exact⟨0,_,Kw _,rfl,rfl,by omega,by simp,λi y=>by omega,bFz⟩
 obtain⟨k,r,hk,rfl,rfl,s,C,d,A⟩:=hrel;by_cases g:k<N xs
 . rcases M.o.up (up_below A)with m|⟨b,o,ea,_,F⟩
   . subst m;simp at g
   subst ea;have l:=F k g;have j:=H.o k g;(have aa:(k:Int)<(N xs:Int):=by omega);obtain⟨x,m⟩:∃x,x=xs.getD k Cod.z:=⟨_,rfl⟩;rw[<- m]at l j;obtain⟨a1,c1,a2,c2,⟨X,V⟩,y⟩:=l;have I:=Hm m;have HT:=Hm (QQ (f:=Cod.sz) Cod.z xs k g);have HA:=Hm d;have L:=Hm (qzCod_c x a1 c1 a2 c2 r wr s (by omega) y j);clear m F d M y j H;(go_wp2_with fail);refine L.o.mono ?_;rintro e R ⟨E,rfl,u,p⟩;have t:Bw w.heap.size w R:=A.trans (u.mono A.size);clear u X V L;rcases p with rfl|⟨B,Y,n⟩
   . go_wp2;go_ret;exact⟨-1,rfl,t,.inl rfl⟩
   (have f:¬E<0:=by omega);have HR:=Hm n;clear n;go_wp2;go_roundw
   case rel=>exact⟨k+1,E,by omega,by go_num,rfl,B,by rw[HT.o,<- I.o];push_cast;omega,fun i y=>by
    rcases(by omega:i<k\/i=k)with h|h
    . exact HA.o i h
    . subst h;rw[<- I.o];exact HR.o,t⟩
   case measure=>simp[intOf];omega
 have e:k=N xs:=by omega
 subst e;go_wp2;go_ret;exact⟨r,rfl,A,.inr ⟨s,by rw[Kh]at C;push_cast;omega,by omega,d⟩⟩
theorem qzDat_c (x:Dat)(q:Option Ad)(c1:Nat)(n:Option Ad)(c2:Nat)(left:Int)(w:J)(h0:0<=left)(h1:left<=1048576)(X:Dat.Is 0 w x q n)(L:Dat.LB 9223372036854775807 x):Ec Q 74 #[Ag #[S q (N x.off) c1,S n (N x.bs) c2],U O left] w λe w'=>∃r:Int,e=Z (U O r)/\Bw w.heap.size w w'/\(r=-1\/(0<=r/\r+(Dat.sz x:Int)<=left/\Dat.LB 1048576 x)):=by
 obtain⟨F,E⟩:=L;obtain⟨y,A⟩:=X;have R1:=Hm y;clear y A;go_enter func74,ntmps74;go_upto_region 1 with fail
 refine Qj (λW=>(W.cell? ⟨w.heap.size,0,none⟩=some (S q (N x.off) c1)/\W.cell? ⟨w.heap.size,1,none⟩=some (S n (N x.bs) c2))/\Bw w.heap.size w W/\w.heap.size<W.heap.size) ⟨⟨Qe rfl rfl,Qe rfl rfl⟩,bFz.alloc lRz _,by simp⟩ ?_;rintro W ⟨⟨B,s⟩,v,g⟩;have m:=Hm (qzIns_c q c1 x.off left W (by omega) (by omega) (R1.o.up (up_below v)) F);go_wp2_with fail
 refine m.o.mono ?_;rintro e W0 ⟨D,rfl,a,u⟩;have b:Bw w.heap.size w W0:=v.trans (a.mono v.size);have V:w.heap.size<W0.heap.size:=Km g a.size;have s:=(a.cell (p:=⟨w.heap.size,1,none⟩) g).trans s;clear a m B;rcases u with rfl|⟨z,d,I⟩
 . go_wp2;go_ret;exact⟨-1,rfl,b,.inl rfl⟩
 generalize R:(N x.off+(x.off.map In.sz).sum)=g0 at d;go_upto_region 4 with fail
 have l:=Hm (qzBytes_c n (N x.bs) c2 D W0 (by omega) (by omega) E);go_wp2_with fail
 refine l.o.mono ?_;rintro e Y ⟨C,rfl,j,t⟩;have k:Bw w.heap.size w Y:=b.trans (j.mono b.size);clear j l s;rcases t with rfl|⟨f,c,H⟩
 . go_wp2;go_ret;exact⟨-1,rfl,k,.inl rfl⟩
 generalize M:N x.bs=g1 at c;go_wp2;go_ret;exact⟨C,rfl,k,.inr ⟨f,by simp only[Dat.sz];omega,⟨I,H⟩⟩⟩
theorem qzDats_c (a:Option Ad)(c:Nat)(xs:List Dat)(left:Int)(w:J)(h0:0<=left)(h1:left<=1048576)(D:Dat.Ls 0 w a xs)(v:N xs<=9223372036854775807/\∀i,i<N xs->Dat.LB 9223372036854775807 (xs.getD i Dat.z)):Ec Q 21 #[S a (N xs) c,U O left] w λe w'=>∃r:Int,e=Z (U O r)/\Bw w.heap.size w w'/\(r=-1\/(0<=r/\r+((N xs+(xs.map Dat.sz).sum:Nat):Int)<=left/\N xs<=1048576/\∀i,i<N xs->Dat.LB 1048576 (xs.getD i Dat.z))):=by
 obtain⟨hn,v⟩:=v;have hw:IntKind.i64.wrap (left-N xs)=left-N xs:=by rw[Kz];omega
 by_cases h:left-N xs<0
 . clear D;go_enter func21,ntmps21;go_wp2;go_ret;exact⟨-1,rfl,bFz,.inl rfl⟩
 have M:=Hm D;have H:=Hm v;clear D v;go_enter func21,ntmps21;go_wp2;go_loopw [1,5] (λq i wr=>∃(k:Nat) (r:Int),k<=N xs/\i=U O k/\q=U O r/\0<=r/\r+(((xs.take k).map Dat.sz).sum:Int)<=left-N xs/\(∀i,i<k->Dat.LB 1048576 (xs.getD i Dat.z))/\Bw w.heap.size w wr) (λ_ i _=>N xs-(intOf i).toNat)
 case atStart=>exact⟨0,_,Kw _,rfl,rfl,by omega,by simp,λi y=>by omega,bFz⟩
 obtain⟨k,r,hk,rfl,rfl,s,C,d,A⟩:=hrel;by_cases g:k<N xs
 . rcases M.o.up (up_below A)with m|⟨b,o,ea,_,F⟩
   . subst m;simp at g
   subst ea;have l:=F k g;have j:=H.o k g;(have aa:(k:Int)<(N xs:Int):=by omega);obtain⟨x,m⟩:∃x,x=xs.getD k Dat.z:=⟨_,rfl⟩;rw[<- m]at l j;obtain⟨a1,c1,a2,c2,⟨X,V⟩,y⟩:=l;have I:=Hm m;have HT:=Hm (QQ (f:=Dat.sz) Dat.z xs k g);have HA:=Hm d;have L:=Hm (qzDat_c x a1 c1 a2 c2 r wr s (by omega) y j);clear m F d M y j H;(go_wp2_with fail);refine L.o.mono ?_;rintro e R ⟨E,rfl,u,p⟩;have t:Bw w.heap.size w R:=A.trans (u.mono A.size);clear u X V L;rcases p with rfl|⟨B,Y,n⟩
   . go_wp2;go_ret;exact⟨-1,rfl,t,.inl rfl⟩
   (have f:¬E<0:=by omega);have HR:=Hm n;clear n;go_wp2;go_roundw
   case rel=>exact⟨k+1,E,by omega,by go_num,rfl,B,by rw[HT.o,<- I.o];push_cast;omega,fun i y=>by
    rcases(by omega:i<k\/i=k)with h|h
    . exact HA.o i h
    . subst h;rw[<- I.o];exact HR.o,t⟩
   case measure=>simp[intOf];omega
 have e:k=N xs:=by omega
 subst e;go_wp2;go_ret;exact⟨r,rfl,A,.inr ⟨s,by rw[Kh]at C;push_cast;omega,by omega,d⟩⟩
theorem qzCus_c (x:Cus)(g:Option Ad)(c1:Nat)(left:Int)(w:J)(H:0<=left)(F:left<=1048576)(m:Cus.Is 0 w x g)(A:Cus.LB 9223372036854775807 x):Ec Q 75 #[Ag #[U O x.aft,Xs x.nm,S g (N x.bs) c1],U O left] w λe w'=>∃r:Int,e=Z (U O r)/\Bw w.heap.size w w'/\(r=-1\/(0<=r/\r+(Cus.sz x:Int)<=left/\Cus.LB 1048576 x)):=by
 obtain⟨E,s⟩:=A;have n:=m;clear m;clear n;go_enter func75,ntmps75;go_upto_region 1 with fail
 refine Qj (λW=>(W.cell? ⟨w.heap.size,1,none⟩=some (Xs x.nm)/\W.cell? ⟨w.heap.size,2,none⟩=some (S g (N x.bs) c1))/\Bw w.heap.size w W/\w.heap.size<W.heap.size) ⟨⟨Qe rfl rfl,Qe rfl rfl⟩,bFz.alloc lRz _,by simp⟩ ?_;rintro W ⟨⟨D,p⟩,k,z⟩;have v:IntKind.i64.wrap (left-(x.nm.size:Int))=left-(x.nm.size:Int):=by rw[Kz];omega
 by_cases y:left-(x.nm.size:Int)<0
 . go_wp2;go_ret;exact⟨-1,rfl,k,.inl rfl⟩
 have u:x.nm.size<=1048576:=by omega
 have l:0<=left-(x.nm.size:Int):=by omega
 go_upto_region 4 with fail
 have f:=Hm (qzBytes_c g (N x.bs) c1 (left-(x.nm.size:Int)) W (by omega) (by omega) s);go_wp2_with fail
 refine f.o.mono ?_;rintro e C ⟨q,rfl,c,j⟩;have d:Bw w.heap.size w C:=k.trans (c.mono k.size);clear c f p;rcases j with rfl|⟨b,a,t⟩
 . go_wp2;go_ret;exact⟨-1,rfl,d,.inl rfl⟩
 generalize B:N x.bs=g2 at a;go_wp2;go_ret;exact⟨q,rfl,d,.inr ⟨b,by simp only[Cus.sz];omega,⟨u,t⟩⟩⟩
theorem qzCuss_c (a:Option Ad)(c:Nat)(xs:List Cus)(left:Int)(w:J)(h0:0<=left)(h1:left<=1048576)(D:Cus.Ls 0 w a xs)(v:N xs<=9223372036854775807/\∀i,i<N xs->Cus.LB 9223372036854775807 (xs.getD i Cus.z)):Ec Q 22 #[S a (N xs) c,U O left] w λe w'=>∃r:Int,e=Z (U O r)/\Bw w.heap.size w w'/\(r=-1\/(0<=r/\r+((N xs+(xs.map Cus.sz).sum:Nat):Int)<=left/\N xs<=1048576/\∀i,i<N xs->Cus.LB 1048576 (xs.getD i Cus.z))):=by
 obtain⟨hn,v⟩:=v;have hw:IntKind.i64.wrap (left-N xs)=left-N xs:=by rw[Kz];omega
 by_cases h:left-N xs<0
 . clear D;go_enter func22,ntmps22;go_wp2;go_ret;exact⟨-1,rfl,bFz,.inl rfl⟩
 have M:=Hm D;have H:=Hm v;clear D v;go_enter func22,ntmps22;go_wp2;go_loopw [1,5] (λq i wr=>∃(k:Nat) (r:Int),k<=N xs/\i=U O k/\q=U O r/\0<=r/\r+(((xs.take k).map Cus.sz).sum:Int)<=left-N xs/\(∀i,i<k->Cus.LB 1048576 (xs.getD i Cus.z))/\Bw w.heap.size w wr) (λ_ i _=>N xs-(intOf i).toNat)
 case atStart=>exact⟨0,_,Kw _,rfl,rfl,by omega,by simp,λi y=>by omega,bFz⟩
 obtain⟨k,r,hk,rfl,rfl,s,C,d,A⟩:=hrel;by_cases g:k<N xs
 . rcases M.o.up (up_below A)with m|⟨b,o,ea,_,F⟩
   . subst m;simp at g
   subst ea;have l:=F k g;have j:=H.o k g;(have ab:(k:Int)<(N xs:Int):=by omega);obtain⟨x,m⟩:∃x,x=xs.getD k Cus.z:=⟨_,rfl⟩;rw[<- m]at l j;obtain⟨a1,c1,⟨Y,X,V⟩,y⟩:=l;have I:=Hm m;have HT:=Hm (QQ (f:=Cus.sz) Cus.z xs k g);have HA:=Hm d;have L:=Hm (qzCus_c x a1 c1 r wr s (by omega) y j);clear m F d M y j H;(go_wp2_with fail);refine L.o.mono ?_;rintro e R ⟨E,rfl,u,p⟩;have t:Bw w.heap.size w R:=A.trans (u.mono A.size);clear u Y X V L;rcases p with rfl|⟨B,aa,n⟩
   . go_wp2;go_ret;exact⟨-1,rfl,t,.inl rfl⟩
   (have f:¬E<0:=by omega);have HR:=Hm n;clear n;go_wp2;go_roundw
   case rel=>exact⟨k+1,E,by omega,by go_num,rfl,B,by rw[HT.o,<- I.o];push_cast;omega,fun i y=>by
    rcases(by omega:i<k\/i=k)with h|h
    . exact HA.o i h
    . subst h;rw[<- I.o];exact HR.o,t⟩
   case measure=>simp[intOf];omega
 have e:k=N xs:=by omega
 subst e;go_wp2;go_ret;exact⟨r,rfl,A,.inr ⟨s,by rw[Kh]at C;push_cast;omega,by omega,d⟩⟩
theorem qzMod_c (x:Mod)(a1:Option Ad)(c1:Nat)(a2:Option Ad)(c2:Nat)(a3:Option Ad)(c3:Nat)(a4:Option Ad)(c4:Nat)(a5:Option Ad)(c5:Nat)(a6:Option Ad)(c6:Nat)(a7:Option Ad)(c7:Nat)(a8:Option Ad)(c8:Nat)(a9:Option Ad)(c9:Nat)(af:Option Ad)(ba:Nat)(ae:Option Ad)(a0:Nat)(left:Int)(w:J)(h0:0<=left)(h1:left<=1048576)(hI:Mod.Is 0 w x a1 a2 a3 a4 a5 a6 a7 a8 a9 af ae)(hl:Mod.LB 9223372036854775807 x):Ec Q 4 #[Ag #[S a1 (N x.types) c1,S a2 (N x.cj) c2,S a3 (N x.jk) c3,S a4 (N x.cw) c4,S a5 (N x.jz) c5,S a6 (N x.ck) c6,S a7 (N x.cv) c7,G x.gz,U O x.start,S a8 (N x.fq) c8,S a9 (N x.fj) c9,S af (N x.fx) ba,S ae (N x.fw) a0],U O left] w λe w'=>∃r:Int,e=Z (U O r)/\Bw w.heap.size w w'/\(r=-1\/(0<=r/\r+(Mod.sz x:Int)<=left/\Mod.LB 1048576 x)):=by
 obtain⟨l0,l1,l2,l3,l4,l5,l6,l9,ce,cd,cc⟩:=hl;obtain⟨r1,r2,r3,r4,r5,r6,r7,r8,r9,bf,bd⟩:=hI;have R1:=Hm r1;have R2:=Hm r2;have R6:=Hm r6;have R7:=Hm r7;have R8:=Hm r8;have R9:=Hm r9;have dm:=Hm bf;have dl:=Hm bd;clear r1 r2 r3 r4 r5 r6 r7 r8 r9 bf bd;go_enter func4,ntmps4;go_upto_region 1 with fail
 refine Qj (λW=>(W.cell? ⟨w.heap.size,0,none⟩=some (S a1 (N x.types) c1)/\W.cell? ⟨w.heap.size,1,none⟩=some (S a2 (N x.cj) c2)/\W.cell? ⟨w.heap.size,2,none⟩=some (S a3 (N x.jk) c3)/\W.cell? ⟨w.heap.size,3,none⟩=some (S a4 (N x.cw) c4)/\W.cell? ⟨w.heap.size,4,none⟩=some (S a5 (N x.jz) c5)/\W.cell? ⟨w.heap.size,5,none⟩=some (S a6 (N x.ck) c6)/\W.cell? ⟨w.heap.size,6,none⟩=some (S a7 (N x.cv) c7)/\W.cell? ⟨w.heap.size,9,none⟩=some (S a8 (N x.fq) c8)/\W.cell? ⟨w.heap.size,10,none⟩=some (S a9 (N x.fj) c9)/\W.cell? ⟨w.heap.size,11,none⟩=some (S af (N x.fx) ba)/\W.cell? ⟨w.heap.size,12,none⟩=some (S ae (N x.fw) a0))/\Bw w.heap.size w W/\w.heap.size<W.heap.size) ⟨⟨Qe rfl rfl,Qe rfl rfl,Qe rfl rfl,Qe rfl rfl,Qe rfl rfl,Qe rfl rfl,Qe rfl rfl,Qe rfl rfl,Qe rfl rfl,Qe rfl rfl,Qe rfl rfl⟩,bFz.alloc lRz _,by simp⟩ ?_;rintro W ⟨⟨q0,q1,q2,q3,V,H,D,u,c,b,a⟩,hb,g⟩;have bv:=Hm (qzFTypes_c a1 c1 x.types left W (by omega) (by omega) (R1.o.up (up_below hb)) l0);go_wp2_with fail
 refine bv.o.mono ?_;rintro e W0 ⟨m0,rfl,d,cy⟩;have ad:Bw w.heap.size w W0:=hb.trans (d.mono hb.size);have l:w.heap.size<W0.heap.size:=Km g d.size;have q1:=(d.cell (p:=⟨w.heap.size,1,none⟩) g).trans q1;have q2:=(d.cell (p:=⟨w.heap.size,2,none⟩) g).trans q2;have q3:=(d.cell (p:=⟨w.heap.size,3,none⟩) g).trans q3;have V:=(d.cell (p:=⟨w.heap.size,4,none⟩) g).trans V;have H:=(d.cell (p:=⟨w.heap.size,5,none⟩) g).trans H;have D:=(d.cell (p:=⟨w.heap.size,6,none⟩) g).trans D;have u:=(d.cell (p:=⟨w.heap.size,9,none⟩) g).trans u;have c:=(d.cell (p:=⟨w.heap.size,10,none⟩) g).trans c;have b:=(d.cell (p:=⟨w.heap.size,11,none⟩) g).trans b;have a:=(d.cell (p:=⟨w.heap.size,12,none⟩) g).trans a;clear d bv q0;rcases cy with rfl|⟨d1,M,k0⟩
 . go_wp2;go_ret;exact⟨-1,rfl,ad,.inl rfl⟩
 generalize e8:(N x.types+(x.types.map Qc.sz).sum)=g0 at M;go_upto_region 4 with fail
 have bu:=Hm (qzImps_c a2 c2 x.cj m0 W0 (by omega) (by omega) (R2.o.up (up_below ad)) l1);go_wp2_with fail
 refine bu.o.mono ?_;rintro e W1 ⟨m1,rfl,f,ct⟩;have az:Bw w.heap.size w W1:=ad.trans (f.mono ad.size);have n:w.heap.size<W1.heap.size:=Km l f.size;have q2:=(f.cell (p:=⟨w.heap.size,2,none⟩) l).trans q2;have q3:=(f.cell (p:=⟨w.heap.size,3,none⟩) l).trans q3;have V:=(f.cell (p:=⟨w.heap.size,4,none⟩) l).trans V;have H:=(f.cell (p:=⟨w.heap.size,5,none⟩) l).trans H;have D:=(f.cell (p:=⟨w.heap.size,6,none⟩) l).trans D;have u:=(f.cell (p:=⟨w.heap.size,9,none⟩) l).trans u;have c:=(f.cell (p:=⟨w.heap.size,10,none⟩) l).trans c;have b:=(f.cell (p:=⟨w.heap.size,11,none⟩) l).trans b;have a:=(f.cell (p:=⟨w.heap.size,12,none⟩) l).trans a;clear f bu q1;rcases ct with rfl|⟨d0,L,k1⟩
 . go_wp2;go_ret;exact⟨-1,rfl,az,.inl rfl⟩
 generalize e7:(N x.cj+(x.cj.map Imp.sz).sum)=g1 at L;go_upto_region 7 with fail
 have bt:=Hm (qzInts_c a3 (N x.jk) c3 m1 W1 (by omega) (by omega) l2);go_wp2_with fail
 refine bt.o.mono ?_;rintro e W2 ⟨m2,rfl,j,cs⟩;have ay:Bw w.heap.size w W2:=az.trans (j.mono az.size);have t:w.heap.size<W2.heap.size:=Km n j.size;have q3:=(j.cell (p:=⟨w.heap.size,3,none⟩) n).trans q3;have V:=(j.cell (p:=⟨w.heap.size,4,none⟩) n).trans V;have H:=(j.cell (p:=⟨w.heap.size,5,none⟩) n).trans H;have D:=(j.cell (p:=⟨w.heap.size,6,none⟩) n).trans D;have u:=(j.cell (p:=⟨w.heap.size,9,none⟩) n).trans u;have c:=(j.cell (p:=⟨w.heap.size,10,none⟩) n).trans c;have b:=(j.cell (p:=⟨w.heap.size,11,none⟩) n).trans b;have a:=(j.cell (p:=⟨w.heap.size,12,none⟩) n).trans a;clear j bt q2;rcases cs with rfl|⟨dz,I,k2⟩
 . go_wp2;go_ret;exact⟨-1,rfl,ay,.inl rfl⟩
 generalize e6:N x.jk=g2 at I;go_upto_region 10 with fail
 have bs:=Hm (qzLimitss_c a4 (N x.cw) c4 m2 W2 (by omega) (by omega) l3.1);go_wp2_with fail
 refine bs.o.mono ?_;rintro e W3 ⟨m3,rfl,k,cr⟩;have ax:Bw w.heap.size w W3:=ay.trans (k.mono ay.size);have y:w.heap.size<W3.heap.size:=Km t k.size;have V:=(k.cell (p:=⟨w.heap.size,4,none⟩) t).trans V;have H:=(k.cell (p:=⟨w.heap.size,5,none⟩) t).trans H;have D:=(k.cell (p:=⟨w.heap.size,6,none⟩) t).trans D;have u:=(k.cell (p:=⟨w.heap.size,9,none⟩) t).trans u;have c:=(k.cell (p:=⟨w.heap.size,10,none⟩) t).trans c;have b:=(k.cell (p:=⟨w.heap.size,11,none⟩) t).trans b;have a:=(k.cell (p:=⟨w.heap.size,12,none⟩) t).trans a;clear k bs q3;rcases cr with rfl|⟨dy,bn,k3⟩
 . go_wp2;go_ret;exact⟨-1,rfl,ax,.inl rfl⟩
 generalize e5:N x.cw=g3 at bn;have k3:N x.cw<=1048576/\∀i,i<N x.cw->Qd.LB 1048576 (x.cw.getD i Qd.z):=⟨k3,λ_ _=>trivial⟩;go_upto_region 13 with fail
 have br:=Hm (qzLimitss_c a5 (N x.jz) c5 m3 W3 (by omega) (by omega) l4.1);go_wp2_with fail
 refine br.o.mono ?_;rintro e W4 ⟨m4,rfl,m,cp⟩;have ac:Bw w.heap.size w W4:=ax.trans (m.mono ax.size);have F:w.heap.size<W4.heap.size:=Km y m.size;have H:=(m.cell (p:=⟨w.heap.size,5,none⟩) y).trans H;have D:=(m.cell (p:=⟨w.heap.size,6,none⟩) y).trans D;have u:=(m.cell (p:=⟨w.heap.size,9,none⟩) y).trans u;have c:=(m.cell (p:=⟨w.heap.size,10,none⟩) y).trans c;have b:=(m.cell (p:=⟨w.heap.size,11,none⟩) y).trans b;have a:=(m.cell (p:=⟨w.heap.size,12,none⟩) y).trans a;clear m br V;rcases cp with rfl|⟨dx,bm,k4⟩
 . go_wp2;go_ret;exact⟨-1,rfl,ac,.inl rfl⟩
 generalize e4:N x.jz=g4 at bm;have k4:N x.jz<=1048576/\∀i,i<N x.jz->Qd.LB 1048576 (x.jz.getD i Qd.z):=⟨k4,λ_ _=>trivial⟩;go_upto_region 16 with fail
 have bq:=Hm (qzGlobs_c a6 c6 x.ck m4 W4 (by omega) (by omega) (R6.o.up (up_below ac)) l5);go_wp2_with fail
 refine bq.o.mono ?_;rintro e W5 ⟨m5,rfl,q,co⟩;have ab:Bw w.heap.size w W5:=ac.trans (q.mono ac.size);have R:w.heap.size<W5.heap.size:=Km F q.size;have D:=(q.cell (p:=⟨w.heap.size,6,none⟩) F).trans D;have u:=(q.cell (p:=⟨w.heap.size,9,none⟩) F).trans u;have c:=(q.cell (p:=⟨w.heap.size,10,none⟩) F).trans c;have b:=(q.cell (p:=⟨w.heap.size,11,none⟩) F).trans b;have a:=(q.cell (p:=⟨w.heap.size,12,none⟩) F).trans a;clear q bq H;rcases co with rfl|⟨dw,bl,k5⟩
 . go_wp2;go_ret;exact⟨-1,rfl,ab,.inl rfl⟩
 generalize e3:(N x.ck+(x.ck.map Qm.sz).sum)=g5 at bl;go_upto_region 19 with fail
 have bp:=Hm (qzExps_c a7 c7 x.cv m5 W5 (by omega) (by omega) (R7.o.up (up_below ab)) l6);go_wp2_with fail
 refine bp.o.mono ?_;rintro e W6 ⟨m6,rfl,v,cn⟩;have aa:Bw w.heap.size w W6:=ab.trans (v.mono ab.size);have X:w.heap.size<W6.heap.size:=Km R v.size;have u:=(v.cell (p:=⟨w.heap.size,9,none⟩) R).trans u;have c:=(v.cell (p:=⟨w.heap.size,10,none⟩) R).trans c;have b:=(v.cell (p:=⟨w.heap.size,11,none⟩) R).trans b;have a:=(v.cell (p:=⟨w.heap.size,12,none⟩) R).trans a;clear v bp D;rcases cn with rfl|⟨dv,bj,k6⟩
 . go_wp2;go_ret;exact⟨-1,rfl,aa,.inl rfl⟩
 generalize e2:(N x.cv+(x.cv.map Exp.sz).sum)=g6 at bj;go_upto_region 22 with fail
 have bo:=Hm (qzEles_c a8 c8 x.fq m6 W6 (by omega) (by omega) (R8.o.up (up_below aa)) l9);go_wp2_with fail
 refine bo.o.mono ?_;rintro e W9 ⟨m9,rfl,E,cm⟩;have Y:Bw w.heap.size w W9:=aa.trans (E.mono aa.size);have aw:w.heap.size<W9.heap.size:=Km X E.size;have c:=(E.cell (p:=⟨w.heap.size,10,none⟩) X).trans c;have b:=(E.cell (p:=⟨w.heap.size,11,none⟩) X).trans b;have a:=(E.cell (p:=⟨w.heap.size,12,none⟩) X).trans a;clear E bo u;rcases cm with rfl|⟨du,bh,k9⟩
 . go_wp2;go_ret;exact⟨-1,rfl,Y,.inl rfl⟩
 generalize e1:(N x.fq+(x.fq.map Ele.sz).sum)=g9 at bh;go_upto_region 25 with fail
 have ao:=Hm (qzCods_c a9 c9 x.fj m9 W9 (by omega) (by omega) (R9.o.up (up_below Y)) ce);go_wp2_with fail
 refine ao.o.mono ?_;rintro e bc ⟨cb,rfl,s,M⟩;have C:Bw w.heap.size w bc:=Y.trans (s.mono Y.size);have ah:w.heap.size<bc.heap.size:=Km aw s.size;have b:=(s.cell (p:=⟨w.heap.size,11,none⟩) aw).trans b;have a:=(s.cell (p:=⟨w.heap.size,12,none⟩) aw).trans a;clear s ao c;rcases M with rfl|⟨cx,au,cl⟩
 . go_wp2;go_ret;exact⟨-1,rfl,C,.inl rfl⟩
 generalize d4:(N x.fj+(x.fj.map Cod.sz).sum)=g10 at au;go_upto_region 28 with fail
 have ak:=Hm (qzDats_c af ba x.fx cb bc (by omega) (by omega) (dm.o.up (up_below C)) cd);go_wp2_with fail
 refine ak.o.mono ?_;rintro e bb ⟨ca,rfl,A,L⟩;have B:Bw w.heap.size w bb:=C.trans (A.mono C.size);have d5:w.heap.size<bb.heap.size:=Km ah A.size;have a:=(A.cell (p:=⟨w.heap.size,12,none⟩) ah).trans a;clear A ak b;rcases L with rfl|⟨cu,ar,ci⟩
 . go_wp2;go_ret;exact⟨-1,rfl,B,.inl rfl⟩
 generalize d3:(N x.fx+(x.fx.map Dat.sz).sum)=g11 at ar;go_upto_region 31 with fail
 have aj:=Hm (qzCuss_c ae a0 x.fw ca bb (by omega) (by omega) (dl.o.up (up_below B)) cc);go_wp2_with fail
 refine aj.o.mono ?_;rintro e dj ⟨b9,rfl,ag,I⟩;have ai:Bw w.heap.size w dj:=B.trans (ag.mono B.size);clear ag aj a;rcases I with rfl|⟨av,aq,ch⟩
 . go_wp2;go_ret;exact⟨-1,rfl,ai,.inl rfl⟩
 generalize d2:(N x.fw+(x.fw.map Cus.sz).sum)=g12 at aq;go_wp2;go_ret;exact⟨b9,rfl,ai,.inr ⟨av,by simp only[Mod.sz];omega,⟨k0,k1,k2,k3,k4,k5,k6,k9,cl,ci,ch⟩⟩⟩
structure Bet (B C:Nat)(w w':J):Prop where
 os:w'.os=w.os
 tape:w'.tape=w.tape
 output:w'.output=w.output
 size:w.heap.size<=w'.heap.size
 block:∀k,k<B\/(C<=k/\k<w.heap.size)->w'.heap[k]?=w.heap[k]?
theorem Bet.below (h:Bet B C w w'):Bw B w w':=⟨h.os,h.tape,h.output,h.size,λk hk=>h.block k (.inl hk)⟩
theorem Bet.cell (h:Bet B C w w'){o:Nat}(a:b<B\/(C<=b/\b<w.heap.size)):w'.cell? ⟨b,o,none⟩=w.cell? ⟨b,o,none⟩:=World.cell?_of_block (h.block b a)
theorem Bet.frozen (h:Bet B C w w'){o:Nat}(a:b<B\/(C<=b/\b<w.heap.size)):w'.frozen? ⟨b,o,none⟩=w.frozen? ⟨b,o,none⟩:=World.frozen?_of_block (h.block b a)
structure Mk (B:Nat)(W0 V:J):Prop where
 sl:∀b o a n c,W0.cell? ⟨b,o,none⟩=some (S a n c)->V.cell? ⟨b,o,none⟩=some (S a n c)
 ex:∀b o v,W0.cell? ⟨b,o,none⟩=some v->∃u,V.cell? ⟨b,o,none⟩=some u
 fz:∀b o,B<=b->b<W0.heap.size->V.frozen? ⟨b,o,none⟩=false
 size:W0.heap.size<=V.heap.size
 lb:B<=W0.heap.size
structure MB (B:Nat)(W0 V V':J):Prop where
 mm:Mk B W0 V'
 bt:Bet B W0.heap.size V V'
theorem MB.refl (h:Mk B W0 V):MB B W0 V V:=⟨h,⟨rfl,rfl,rfl,lRz,λ_ _=>rfl⟩⟩
theorem MB.trans {a:J}(h:MB B W0 V V1)(k:MB B W0 V1 a):MB B W0 V a :=
 ⟨k.mm,⟨k.bt.os.trans h.bt.os,k.bt.tape.trans h.bt.tape,k.bt.output.trans h.bt.output,Kq h.bt.size k.bt.size,λj hj=>(k.bt.block j (hj.imp id (λhj=>⟨hj.1,Km hj.2 h.bt.size⟩))).trans (h.bt.block j hj)⟩⟩
theorem MB.below {g:J}(h:MB B W0 V V1)(d:Bw V1.heap.size V1 g):MB B W0 V g:=by
 have lt:∀b o v,V1.cell? ⟨b,o,none⟩=some v->g.cell? ⟨b,o,none⟩=some v:=λb o v hv=>(d.cell (p:=⟨b,o,none⟩) (Kk V1 _ hv)).trans hv;refine⟨⟨λb o a n c hc=>lt _ _ _ (h.mm.sl b o a n c hc),λb o v hc=>?_,λb o hB hl=>?_,Kq h.mm.size d.size,h.mm.lb⟩,⟨d.os.trans h.bt.os,d.tape.trans h.bt.tape,d.output.trans h.bt.output,Kq h.bt.size d.size,λj f=>(d.block j ?_).trans (h.bt.block j f)⟩⟩
 . obtain⟨u,k⟩:=h.mm.ex b o v hc;exact⟨u,lt _ _ _ k⟩
 . rw[d.frozen (p:=⟨b,o,none⟩) (Km hl h.mm.size)];exact h.mm.fz b o hB hl
 have:=h.mm.size;have:=h.bt.size;have:=h.mm.lb;rcases f with f|f<;>omega
theorem MB.set (h:MB B W0 V V1){o:Nat}{u:Vu}(v:Vu)(m:B<=b)(k:W0.cell? ⟨b,o,none⟩=some u)(f:∀a n c,u≠S a n c):MB B W0 V (V1.setCell ⟨b,o,none⟩ v):=by
 have l:b<W0.heap.size:=Kk W0 _ k;have d:∀b' o' x,(b',o')≠(b,o)->V1.cell? ⟨b',o',none⟩=some x->(V1.setCell ⟨b,o,none⟩ v).cell? ⟨b',o',none⟩=some x:=λb' o' x hne hx=>by rw[World.cell?_setCell_other _ _ _ _ (λe=>hne (by injection e with e1 e2;rw[<- e1,<- e2]))];exact hx
 refine⟨⟨λb' o' a n c hc'=>?_,λb' o' x hc'=>?_,λb' o' h1 h2=>by rw[World.frozen?_setCell];exact h.mm.fz b' o' h1 h2,by simpa using h.mm.size,h.mm.lb⟩,⟨h.bt.os,h.bt.tape,h.bt.output,by simpa using h.bt.size,λj hj=>(Below.heap_setCell _ _ _ _ (λe=>by have p:j=b:=e;omega)).trans (h.bt.block j hj)⟩⟩
 . refine d b' o' _ (λe=>?_) (h.mm.sl b' o' a n c hc');simp only[Prod.mk.injEq]at e;obtain⟨rfl,rfl⟩:=e;rw[k]at hc';cases hc';exact f a n c rfl
 obtain⟨y,g⟩:=h.mm.ex b' o' x hc';by_cases e:(b',o')=(b,o)
 . simp only[Prod.mk.injEq]at e;obtain⟨rfl,rfl⟩:=e;exact⟨v,QS g⟩
 exact⟨y,d b' o' y e g⟩
theorem Xi {α:Type}(f:α->Nat)(l:List α)(k:Nat):((l.take k).map f).sum<=(l.map f).sum:=by
 conv=>rhs;rw[<- List.take_append_drop k l]
 rw[Tf,Ix];omega
theorem conv_one (W:J)(x:Int):(convert 160 9 (S (some ⟨W.heap.size,0,none⟩) 1 1)).run Q (W.alloc (Fc #[U .u8 x] 5))=.ok (Xs (strOfNums [x])) (W.alloc (Fc #[U .u8 x] 5)):=by
 refine run_convert_bytes_arg _ 160 5 underlying160 underlying5 W.heap.size 0 1 1 [x] rfl (λi hi=>?_) 9 underlying9;obtain rfl:i=0:=by omega
 exact Qe rfl rfl
theorem mtext_c (k:Int)(w:J)(j:0<=k)(g:k<=1000000000):Ec Q 117 #[U O k] w λe w'=>∃s,e=Z (Xs s)/\Bw w.heap.size w w':=by
 by_cases m:k<=0
 . go_enter func117,ntmps117;go_wp2;go_ret;exact⟨_,rfl,bFz⟩
 go_enter func117,ntmps117;go_wp2;go_loopw [0,3] (λq s wr=>∃(n:Int) (t:ByteArray),0<=n/\n+(t.size:Int)<=1000000000/\q=U O n/\s=Xs t/\Bw w.heap.size w wr) (λq _ _=>(intOf q).toNat)
 case atStart=>exact⟨k,_,j,by simpa[ByteArray.size]using g,rfl,rfl,bFz⟩
 obtain⟨n,t,f,v,rfl,rfl,b⟩:=hrel;clear j g m;by_cases A:0<n
 . have r:=conv_one wr;have u:=Hm (b.alloc b.size (Fc #[U .u8 (48+n%10)] 5));(have c:0<=n / 10:=by omega);(have p:n / 10<n:=by omega);have y:Int.tmod n 10=n%10:=Int.tmod_eq_emod_of_nonneg f;have z:Int.tdiv n 10=n / 10:=Int.tdiv_eq_ediv_of_nonneg f;clear b;(have a:(strOfNums [48+n%10]++t).size=t.size+1:=by simp[strOfNums_size,ByteArray.size_append];omega);(have l:¬9223372036854775807<(strOfNums [48+n%10]).size+t.size:=by rw[strOfNums_size];simp only[List.length_cons,List.length_nil];omega);have d:=Hm a;clear a;go_wp2;(go_roundw);(case rel=>exact⟨n / 10,_,c,by rw[d.o];omega,rfl,rfl,u.o⟩);case measure=>simp[intOf];omega
 go_wp2;go_ret;first|exact⟨⟨_,rfl⟩,b⟩|exact⟨_,rfl,b⟩
def Qd.sz (x:Qd):Nat:=0
def Grp.sz (x:Grp):Nat:=0
theorem sum_zero (l:List Grp):(l.map Grp.sz).sum=0:=by
 induction l with
 |nil=>rfl
 |cons x l ih=>simp[Grp.sz,ih]
theorem sum_zeroL (l:List Qd):(l.map Qd.sz).sum=0:=by
 induction l with
 |nil=>rfl
 |cons x l ih=>simp[Qd.sz,ih]
theorem mkInts_c (a)(c:Nat)(xs)(g:Int)(B)(W0 V:J)(p:HI O B W0 a xs)(l:Mk B W0 V)(L:0<=g)(I:g+N xs<=100000000):Ec Q 59 #[S a (N xs) c,U O g] V λe V'=>e=Z (U O (g+N xs))/\MB B W0 V V':=by
 have t:=Hm p;have s:=Hm l;clear p l;go_enter func59,ntmps59;go_wp2;go_loopw [1,5] (λq i wr=>∃j:Nat,j<=N xs/\i=U O j/\q=U O (g+j)/\MB B W0 V wr) (λ_ i _=>N xs-(intOf i).toNat)
 case atStart=>exact⟨0,Kw _,rfl,by simp,MB.refl s.o⟩
 obtain⟨j,H,rfl,rfl,d⟩:=hrel;by_cases k:j<N xs
 . (have z:(j:Int)<(N xs:Int):=by omega);rcases t.o with y|⟨b,off,A,r,m⟩
   . rw[y]at k;simp at k
   have f:=m j k;obtain⟨u,F⟩:=d.mm.ex b (off+j) _ f;have D:=d.mm.fz b (off+j) r (Kk W0 _ f);have C:=Hm (λv=>d.set v r f (by intro a n c h;cases h));(have E:IntKind.i64.wrap (g+j+1)=g+j+1:=by rw[Kz];omega);subst A;clear m f d s t;go_wp2;(go_roundw);(case rel=>exact⟨j+1,by omega,by go_num,by go_num,C.o _⟩);case measure=>simp[intOf];omega
 have e:j=N xs:=by omega
 subst e;go_wp2;go_ret;exact⟨rfl,d⟩
theorem mkBytes_c (a)(c:Nat)(xs)(g:Int)(B)(W0 V:J)(p:HI .u8 B W0 a xs)(l:Mk B W0 V)(L:0<=g)(I:g+N xs<=100000000):Ec Q 120 #[S a (N xs) c,U O g] V λe V'=>e=Z (U O (g+N xs))/\MB B W0 V V':=by
 have t:=Hm p;have s:=Hm l;clear p l;go_enter func120,ntmps120;go_wp2;go_loopw [1,5] (λq i wr=>∃j:Nat,j<=N xs/\i=U O j/\q=U O (g+j)/\MB B W0 V wr) (λ_ i _=>N xs-(intOf i).toNat)
 case atStart=>exact⟨0,Kw _,rfl,by simp,MB.refl s.o⟩
 obtain⟨j,H,rfl,rfl,d⟩:=hrel;by_cases k:j<N xs
 . (have z:(j:Int)<(N xs:Int):=by omega);rcases t.o with y|⟨b,off,A,r,m⟩
   . rw[y]at k;simp at k
   have f:=m j k;obtain⟨u,F⟩:=d.mm.ex b (off+j) _ f;have D:=d.mm.fz b (off+j) r (Kk W0 _ f);have C:=Hm (λv=>d.set v r f (by intro a n c h;cases h));(have E:IntKind.i64.wrap (g+j+1)=g+j+1:=by rw[Kz];omega);subst A;clear m f d s t;go_wp2;(go_roundw);(case rel=>exact⟨j+1,by omega,by go_num,by go_num,C.o _⟩);case measure=>simp[intOf];omega
 have e:j=N xs:=by omega
 subst e;go_wp2;go_ret;exact⟨rfl,d⟩
theorem mkLimitss_c (a:Option Ad)(c:Nat)(xs:List Qd)(g:Int)(B:Nat)(W0 V:J)(hL:Qd.Ls B W0 a xs)(hm:Mk B W0 V)(h0:0<=g)(h1:g+10*((N xs+(xs.map Qd.sz).sum):Nat)<=100000000):Ec Q 60 #[S a (N xs) c,U O g] V λe V'=>∃k1:Int,e=Z (U O k1)/\g<=k1/\k1<=g+10*((N xs+(xs.map Qd.sz).sum):Nat)/\MB B W0 V V':=by
 have HL:=Hm hL;have HM:=Hm hm;have H1:=Hm h1;have ak:N xs<=100000000:=by omega
 clear hL hm h1;go_enter func60,ntmps60;go_wp2;go_loopw [1,5] (λq i wr=>∃(j:Nat) (kk:Int),j<=N xs/\i=U O j/\q=U O kk/\g<=kk/\kk<=g+10*((j+((xs.take j).map Qd.sz).sum:Nat):Int)/\MB B W0 V wr) (λ_ i _=>N xs-(intOf i).toNat)
 case atStart=>exact⟨0,g,Kw _,rfl,rfl,Lh _,by simp,MB.refl HM.o⟩
 obtain⟨j,kk,hj,rfl,rfl,p,l,d⟩:=hrel;clear HM;by_cases k:j<N xs
 . (have ar:(j:Int)<(N xs:Int):=by omega);rcases HL.o with hx|⟨b,off,ea,s,hc⟩
   . rw[hx]at k;simp at k
   have hr:=hc j k;have st:=QQ (f:=Qd.sz) Qd.z xs j k;have t:=Xi Qd.sz xs (j+1);have L:=H1.o;obtain⟨⟨M,d1,d2⟩,hi⟩:=hr;generalize xs.getD j Qd.z=y at *;have I:b<W0.heap.size:=Kk W0 _ M;(have r:Hid (j+1+((xs.take (j+1)).map Qd.sz).sum=(j+((xs.take j).map Qd.sz).sum)+(1+Qd.sz y)):=by show _=_;rw[st];omega);(have E:kk+10*((1+Qd.sz y:Nat):Int)<=100000000:=by rw[st]at t;omega);subst ea;clear st t L hc HL H1;simp only[Qd.sz]at E r;(have aq:0<=kk:=by omega);(go_upto_region 4 with fail);obtain⟨u,D⟩:=d.mm.ex b (off+j*3) _ M;have A:=d.mm.fz b (off+j*3) s I;(have C:IntKind.i64.wrap (kk+1)=kk+1:=by rw[Kz];omega);have m:=Hm (λv=>d.set v s M (by intro a n c h;cases h));clear d;(go_upto_region 5 with fail);refine Qj (λW=>MB B W0 V W) (m.o _) ?_;rintro V1 H;clear m D A u;(go_upto_region 6 with fail);clear C;obtain⟨u,D⟩:=H.mm.ex b (off+j*3+1) _ d1;have A:=H.mm.fz b (off+j*3+1) s I;(have C:IntKind.i64.wrap ((kk+1)+1)=(kk+1)+1:=by rw[Kz];omega);have m:=Hm (λv=>H.set v s d1 (by intro a n c h;cases h));clear H;(go_upto_region 7 with fail);refine Qj (λW=>MB B W0 V W) (m.o _) ?_;rintro V2 F;clear m D A u;(go_upto_region 8 with fail);clear C;obtain⟨u,D⟩:=F.mm.ex b (off+j*3+2) _ d2;have A:=F.mm.fz b (off+j*3+2) s I;(have C:IntKind.i64.wrap (((kk+1)+1)+1)=((kk+1)+1)+1:=by rw[Kz];omega);have m:=Hm (λv=>F.set v s d2 (by intro a n c h;cases h));clear F;(go_upto_region 9 with fail);refine Qj (λW=>MB B W0 V W) (m.o _) ?_;rintro V3 m2;clear m D A u;(go_upto_region 3 with fail);clear C;have R:=Hm m2;clear m2;(have Y:Hid (g<=(((kk+1)+1)+1)):=by show _<=_;omega);(have X:Hid ((((kk+1)+1)+1)<=g+10*((j+1+((xs.take (j+1)).map Qd.sz).sum:Nat):Int)):=by show _<=_;rw[r.o];omega);clear r E p l;go_wp2;(go_roundw);(case rel=>exact⟨j+1,(((kk+1)+1)+1),by omega,by go_num,rfl,Y.o,X.o,R.o⟩);case measure=>simp[intOf];omega
 have e:j=N xs:=by omega
 subst e;rw[Kh]at l;have HO:=Hm (And.intro p (And.intro l d));clear p l d;go_wp2;go_ret;exact⟨kk,rfl,HO.o⟩
theorem mkIns_c (a:Option Ad)(c:Nat)(xs:List In)(k:Int)(B:Nat)(W0 V:J)(hL:In.Ls B W0 a xs)(hm:Mk B W0 V)(h0:0<=k)(h1:k+10*((N xs+(xs.map In.sz).sum):Nat)<=100000000):Ec Q 118 #[S a (N xs) c,U O k] V λe V'=>∃k1:Int,e=Z (U O k1)/\k<=k1/\k1<=k+10*((N xs+(xs.map In.sz).sum):Nat)/\MB B W0 V V':=by
 have HL:=Hm hL;have HM:=Hm hm;have H1:=Hm h1;have ay:N xs<=100000000:=by omega
 clear hL hm h1;go_enter func118,ntmps118;go_wp2;go_loopw [1,5] (λq i wr=>∃(j:Nat) (kk:Int),j<=N xs/\i=U O j/\q=U O kk/\k<=kk/\kk<=k+10*((j+((xs.take j).map In.sz).sum:Nat):Int)/\MB B W0 V wr) (λ_ i _=>N xs-(intOf i).toNat)
 case atStart=>exact⟨0,k,Kw _,rfl,rfl,Lh _,by simp,MB.refl HM.o⟩
 obtain⟨j,kk,hj,rfl,rfl,A,p,d⟩:=hrel;clear HM;by_cases m:j<N xs
 . (have a3:(j:Int)<(N xs:Int):=by omega);rcases HL.o with hx|⟨b,off,ea,r,hc⟩
   . rw[hx]at m;simp at m
   have hr:=hc j m;have st:=QQ (f:=In.sz) I0 xs j m;have D:=Xi In.sz xs (j+1);have Y:=H1.o;obtain⟨p1,s1,⟨d0,d1,d2,d3,d4⟩,hi⟩:=hr;generalize xs.getD j I0=y at *;have R:b<W0.heap.size:=Kk W0 _ d0;(have C:Hid (j+1+((xs.take (j+1)).map In.sz).sum=(j+((xs.take j).map In.sz).sum)+(1+In.sz y)):=by show _=_;rw[st];omega);(have E:kk+10*((1+In.sz y:Nat):Int)<=100000000:=by rw[st]at D;omega);subst ea;clear st D Y hc HL H1;simp only[In.sz]at E C;(have a2:0<=kk:=by omega);(go_upto_region 4 with fail);obtain⟨u,z⟩:=d.mm.ex b (off+j*5) _ d0;have s:=d.mm.fz b (off+j*5) r R;(have t:IntKind.i64.wrap (kk+1)=kk+1:=by rw[Kz];omega);have g:=Hm (λv=>d.set v r d0 (by intro a n c h;cases h));clear d;(go_upto_region 5 with fail);refine Qj (λW=>MB B W0 V W) (g.o _) ?_;rintro V1 M;clear g z s u;(go_upto_region 6 with fail);clear t;obtain⟨u,z⟩:=M.mm.ex b (off+j*5+1) _ d1;have s:=M.mm.fz b (off+j*5+1) r R;(have t:IntKind.i64.wrap ((kk+1)+1)=(kk+1)+1:=by rw[Kz];omega);have g:=Hm (λv=>M.set v r d1 (by intro a n c h;cases h));clear M;(go_upto_region 7 with fail);refine Qj (λW=>MB B W0 V W) (g.o _) ?_;rintro V2 L;clear g z s u;(go_upto_region 8 with fail);clear t;obtain⟨u,z⟩:=L.mm.ex b (off+j*5+2) _ d2;have s:=L.mm.fz b (off+j*5+2) r R;(have t:IntKind.i64.wrap (((kk+1)+1)+1)=((kk+1)+1)+1:=by rw[Kz];omega);have g:=Hm (λv=>L.set v r d2 (by intro a n c h;cases h));clear L;(go_upto_region 9 with fail);refine Qj (λW=>MB B W0 V W) (g.o _) ?_;rintro V3 I;clear g z s u;(go_upto_region 10 with fail);clear t;obtain⟨u,z⟩:=I.mm.ex b (off+j*5+3) _ d3;have s:=I.mm.fz b (off+j*5+3) r R;(have t:IntKind.i64.wrap ((((kk+1)+1)+1)+1)=(((kk+1)+1)+1)+1:=by rw[Kz];omega);(have X:IntKind.u64.wrap ((((kk+1)+1)+1))=(((kk+1)+1)+1):=by rw[IntKind.wrap_u64];omega);have g:=Hm (λv=>I.set v r d3 (by intro a n c h;cases h));clear I;(go_upto_region 11 with fail);refine Qj (λW=>MB B W0 V W) (g.o _) ?_
   rintro V4 H;clear g z s u;(go_upto_region 12 with fail);clear t X;have hs:=H.mm.sl b (off+j*5+4) _ _ _ d4;have KC:=Hm (mkInts_c p1 s1 y.l (((((kk+1)+1)+1)+1)) B W0 V4 (hi) H.mm (by omega) (by omega));have F:=Hm H;clear H;(go_wp2_with fail);refine KC.o.mono ?_;rintro e V5 ⟨rfl,mc⟩;have m4:=F.o.trans mc;clear mc KC F hs;have ab:=Hm m4;clear m4;(have ad:Hid (k<=(((((kk+1)+1)+1)+1)+N y.l)):=by show _<=_;omega);(have ac:Hid ((((((kk+1)+1)+1)+1)+N y.l)<=k+10*((j+1+((xs.take (j+1)).map In.sz).sum:Nat):Int)):=by show _<=_;rw[C.o];omega);clear C E A p;go_wp2;(go_roundw);(case rel=>exact⟨j+1,(((((kk+1)+1)+1)+1)+N y.l),by omega,by go_num,rfl,ad.o,ac.o,ab.o⟩);case measure=>simp[intOf];omega
 have e:j=N xs:=by omega
 subst e;rw[Kh]at p;have HO:=Hm (And.intro A (And.intro p d));clear A p d;go_wp2;go_ret;exact⟨kk,rfl,HO.o⟩
theorem mkGrps_c (a:Option Ad)(c:Nat)(xs:List Grp)(g:Int)(B:Nat)(W0 V:J)(hL:Grp.Ls B W0 a xs)(hm:Mk B W0 V)(h0:0<=g)(h1:g+10*((N xs+(xs.map Grp.sz).sum):Nat)<=100000000):Ec Q 119 #[S a (N xs) c,U O g] V λe V'=>∃k1:Int,e=Z (U O k1)/\g<=k1/\k1<=g+10*((N xs+(xs.map Grp.sz).sum):Nat)/\MB B W0 V V':=by
 have HL:=Hm hL;have HM:=Hm hm;have H1:=Hm h1;have ai:N xs<=100000000:=by omega
 clear hL hm h1;go_enter func119,ntmps119;go_wp2;go_loopw [1,5] (λq i wr=>∃(j:Nat) (kk:Int),j<=N xs/\i=U O j/\q=U O kk/\g<=kk/\kk<=g+10*((j+((xs.take j).map Grp.sz).sum:Nat):Int)/\MB B W0 V wr) (λ_ i _=>N xs-(intOf i).toNat)
 case atStart=>exact⟨0,g,Kw _,rfl,rfl,Lh _,by simp,MB.refl HM.o⟩
 obtain⟨j,kk,hj,rfl,rfl,m,l,d⟩:=hrel;clear HM;by_cases k:j<N xs
 . (have ap:(j:Int)<(N xs:Int):=by omega);rcases HL.o with hx|⟨b,off,ea,C,hc⟩
   . rw[hx]at k;simp at k
   have hr:=hc j k;have st:=QQ (f:=Grp.sz) Grp.z xs j k;have r:=Xi Grp.sz xs (j+1);have H:=H1.o;obtain⟨⟨I,d1⟩,hi⟩:=hr;generalize xs.getD j Grp.z=y at *;have Y:b<W0.heap.size:=Kk W0 _ I;(have p:Hid (j+1+((xs.take (j+1)).map Grp.sz).sum=(j+((xs.take j).map Grp.sz).sum)+(1+Grp.sz y)):=by show _=_;rw[st];omega);(have s:kk+10*((1+Grp.sz y:Nat):Int)<=100000000:=by rw[st]at r;omega);subst ea;clear st r H hc HL H1;simp only[Grp.sz]at s p;(have ao:0<=kk:=by omega);(go_upto_region 4 with fail);obtain⟨u,F⟩:=d.mm.ex b (off+j*2) _ I;have D:=d.mm.fz b (off+j*2) C Y;(have E:IntKind.i64.wrap (kk+1)=kk+1:=by rw[Kz];omega);have t:=Hm (λv=>d.set v C I (by intro a n c h;cases h));clear d;(go_upto_region 5 with fail);refine Qj (λW=>MB B W0 V W) (t.o _) ?_;rintro V1 A;clear t F D u;(go_upto_region 6 with fail);clear E;obtain⟨u,F⟩:=A.mm.ex b (off+j*2+1) _ d1;have D:=A.mm.fz b (off+j*2+1) C Y;(have E:IntKind.i64.wrap ((kk+1)+1)=(kk+1)+1:=by rw[Kz];omega);have t:=Hm (λv=>A.set v C d1 (by intro a n c h;cases h));clear A;(go_upto_region 7 with fail);refine Qj (λW=>MB B W0 V W) (t.o _) ?_;rintro V2 X;clear t F D u;(go_upto_region 3 with fail);clear E;have L:=Hm X;clear X;(have R:Hid (g<=((kk+1)+1)):=by show _<=_;omega);(have M:Hid (((kk+1)+1)<=g+10*((j+1+((xs.take (j+1)).map Grp.sz).sum:Nat):Int)):=by show _<=_;rw[p.o];omega);clear p s m l;go_wp2;(go_roundw);(case rel=>exact⟨j+1,((kk+1)+1),by omega,by go_num,rfl,R.o,M.o,L.o⟩);case measure=>simp[intOf];omega
 have e:j=N xs:=by omega
 subst e;rw[Kh]at l;have HO:=Hm (And.intro m (And.intro l d));clear m l d;go_wp2;go_ret;exact⟨kk,rfl,HO.o⟩
theorem mkFTypes_c (a:Option Ad)(c:Nat)(xs:List Qc)(k:Int)(B:Nat)(W0 V:J)(R:Qc.Ls B W0 a xs)(I:Mk B W0 V)(h0:0<=k)(X:k+10*((N xs+(xs.map Qc.sz).sum):Nat)<=100000000):Ec Q 57 #[S a (N xs) c,U O k] V λe V'=>∃k1:Int,e=Z (U O k1)/\k<=k1/\k1<=k+10*((N xs+(xs.map Qc.sz).sum):Nat)/\MB B W0 V V':=by
 have HL:=Hm R;have Y:=Hm I;have H1:=Hm X;have ag:N xs<=100000000:=by omega
 clear R I X;go_enter func57,ntmps57;go_wp2;go_loopw [1,5] (λq i wr=>∃(j:Nat) (kk:Int),j<=N xs/\i=U O j/\q=U O kk/\k<=kk/\kk<=k+10*((j+((xs.take j).map Qc.sz).sum:Nat):Int)/\MB B W0 V wr) (λ_ i _=>N xs-(intOf i).toNat)
 case atStart=>exact⟨0,k,Kw _,rfl,rfl,Lh _,by simp,MB.refl Y.o⟩
 obtain⟨j,kk,hj,rfl,rfl,n,m,d⟩:=hrel;clear Y;by_cases l:j<N xs
 . (have ak:(j:Int)<(N xs:Int):=by omega);rcases HL.o with hx|⟨b,off,ea,hB,M⟩
   . rw[hx]at l;simp at l
   have hr:=M j l;have st:=QQ (f:=Qc.sz) Qc.z xs j l;have r:=Xi Qc.sz xs (j+1);have C:=H1.o;obtain⟨p1,s1,p2,s2,⟨d0,d1⟩,L⟩:=hr;generalize xs.getD j Qc.z=y at *;(have p:Hid (j+1+((xs.take (j+1)).map Qc.sz).sum=(j+((xs.take j).map Qc.sz).sum)+(1+Qc.sz y)):=by show _=_;rw[st];omega);(have t:kk+10*((1+Qc.sz y:Nat):Int)<=100000000:=by rw[st]at r;omega);subst ea;clear st r C M HL H1;simp only[Qc.sz]at t p;(have aj:0<=kk:=by omega);(go_upto_region 4 with fail);have A:=d.mm.sl b (off+j*2) _ _ _ d0;have u:=Hm (mkInts_c p1 s1 y.ps (kk) B W0 wr (L.1) d.mm (by omega) (by omega));have g:=Hm d;clear d;(go_wp2_with fail);refine u.o.mono ?_;rintro e V1 ⟨rfl,s⟩;have v:=g.o.trans s;clear s u g A;(go_upto_region 5 with fail);have A:=v.mm.sl b (off+j*2+1) _ _ _ d1;have u:=Hm (mkInts_c p2 s2 y.rs ((kk+N y.ps)) B W0 V1 (L.2) v.mm (by omega) (by omega));have g:=Hm v;clear v;(go_wp2_with fail);refine u.o.mono ?_;rintro e V2 ⟨rfl,s⟩;have H:=g.o.trans s;clear s u g A;have D:=Hm H;clear H;(have F:Hid (k<=((kk+N y.ps)+N y.rs)):=by show _<=_;omega);(have E:Hid (((kk+N y.ps)+N y.rs)<=k+10*((j+1+((xs.take (j+1)).map Qc.sz).sum:Nat):Int)):=by show _<=_;rw[p.o];omega);clear p t n m;go_wp2;(go_roundw);(case rel=>exact⟨j+1,((kk+N y.ps)+N y.rs),by omega,by go_num,rfl,F.o,E.o,D.o⟩);case measure=>simp[intOf];omega
 have e:j=N xs:=by omega
 subst e;rw[Kh]at m;have HO:=Hm (And.intro n (And.intro m d));clear n m d;go_wp2;go_ret;exact⟨kk,rfl,HO.o⟩
theorem mkExps_c (a:Option Ad)(c:Nat)(xs:List Exp)(g:Int)(B:Nat)(W0 V:J)(hL:Exp.Ls B W0 a xs)(hm:Mk B W0 V)(h0:0<=g)(h1:g+10*((N xs+(xs.map Exp.sz).sum):Nat)<=100000000):Ec Q 62 #[S a (N xs) c,U O g] V λe V'=>∃k1:Int,e=Z (U O k1)/\g<=k1/\k1<=g+10*((N xs+(xs.map Exp.sz).sum):Nat)/\MB B W0 V V':=by
 have HL:=Hm hL;have HM:=Hm hm;have H1:=Hm h1;have ar:N xs<=100000000:=by omega
 clear hL hm h1;go_enter func62,ntmps62;go_wp2;go_loopw [1,5] (λq i wr=>∃(j:Nat) (kk:Int),j<=N xs/\i=U O j/\q=U O kk/\g<=kk/\kk<=g+10*((j+((xs.take j).map Exp.sz).sum:Nat):Int)/\MB B W0 V wr) (λ_ i _=>N xs-(intOf i).toNat)
 case atStart=>exact⟨0,g,Kw _,rfl,rfl,Lh _,by simp,MB.refl HM.o⟩
 obtain⟨j,kk,hj,rfl,rfl,s,l,d⟩:=hrel;clear HM;by_cases k:j<N xs
 . (have ax:(j:Int)<(N xs:Int):=by omega);rcases HL.o with hx|⟨b,off,ea,t,hc⟩
   . rw[hx]at k;simp at k
   have hr:=hc j k;have st:=QQ (f:=Exp.sz) Exp.z xs j k;have C:=Xi Exp.sz xs (j+1);have Y:=H1.o;obtain⟨⟨X,d1,d2⟩,hi⟩:=hr;generalize xs.getD j Exp.z=y at *;have R:b<W0.heap.size:=Kk W0 _ X;(have A:Hid (j+1+((xs.take (j+1)).map Exp.sz).sum=(j+((xs.take j).map Exp.sz).sum)+(1+Exp.sz y)):=by show _=_;rw[st];omega);(have F:kk+10*((1+Exp.sz y:Nat):Int)<=100000000:=by rw[st]at C;omega);subst ea;clear st C Y hc HL H1;simp only[Exp.sz]at F A;(have aw:0<=kk:=by omega);(go_upto_region 4 with fail);obtain⟨u,r⟩:=d.mm.ex b (off+j*3) _ X;have p:=d.mm.fz b (off+j*3) t R;(have D:IntKind.i64.wrap (kk+1)=kk+1:=by rw[Kz];omega);have KT:=Hm (mtext_c (kk) wr (by omega) (by omega));have H:=Hm d;clear d u r p;(go_wp2_with fail);refine KT.o.mono ?_;rintro e az ⟨tx,rfl,E⟩;have I:=H.o.below E;obtain⟨u,r⟩:=I.mm.ex b (off+j*3) _ X;have p:=I.mm.fz b (off+j*3) t R;have m:=Hm (λv=>I.set v t X (by intro a n c h;cases h));clear I E KT H;(go_upto_region 5 with fail);refine Qj (λW=>MB B W0 V W) (m.o _) ?_;rintro V1 M;clear m r p u;(go_upto_region 6 with fail);clear D;obtain⟨u,r⟩:=M.mm.ex b (off+j*3+1) _ d1;have p:=M.mm.fz b (off+j*3+1) t R;(have D:IntKind.i64.wrap ((kk+1)+1)=(kk+1)+1:=by rw[Kz];omega);have m:=Hm (λv=>M.set v t d1 (by intro a n c h;cases h));clear M;(go_upto_region 7 with fail);refine Qj (λW=>MB B W0 V W) (m.o _) ?_;rintro V2 L;clear m r p u;(go_upto_region 8 with fail);clear D;obtain⟨u,r⟩:=L.mm.ex b (off+j*3+2) _ d2;have p:=L.mm.fz b (off+j*3+2) t R;(have D:IntKind.i64.wrap (((kk+1)+1)+1)=((kk+1)+1)+1:=by rw[Kz];omega);have m:=Hm (λv=>L.set v t d2 (by intro a n c h;cases h));clear L;(go_upto_region 9 with fail);refine Qj (λW=>MB B W0 V W) (m.o _) ?_;rintro V3 m2;clear m r p u;(go_upto_region 3 with fail);clear D;have aa:=Hm m2;clear m2;have ac:Hid (g<=(((kk+1)+1)+1)):=by show _<=_;omega
   (have ab:Hid ((((kk+1)+1)+1)<=g+10*((j+1+((xs.take (j+1)).map Exp.sz).sum:Nat):Int)):=by show _<=_;rw[A.o];omega);clear A F s l;go_wp2;(go_roundw);(case rel=>exact⟨j+1,(((kk+1)+1)+1),by omega,by go_num,rfl,ac.o,ab.o,aa.o⟩);case measure=>simp[intOf];omega
 have e:j=N xs:=by omega
 subst e;rw[Kh]at l;have HO:=Hm (And.intro s (And.intro l d));clear s l d;go_wp2;go_ret;exact⟨kk,rfl,HO.o⟩
theorem mkImps_c (a:Option Ad)(c:Nat)(xs:List Imp)(A:Int)(B:Nat)(W0 V:J)(hL:Imp.Ls B W0 a xs)(hm:Mk B W0 V)(h0:0<=A)(h1:A+10*((N xs+(xs.map Imp.sz).sum):Nat)<=100000000):Ec Q 58 #[S a (N xs) c,U O A] V λe V'=>∃k1:Int,e=Z (U O k1)/\A<=k1/\k1<=A+10*((N xs+(xs.map Imp.sz).sum):Nat)/\MB B W0 V V':=by
 have HL:=Hm hL;have HM:=Hm hm;have H1:=Hm h1;have a6:N xs<=100000000:=by omega
 clear hL hm h1;go_enter func58,ntmps58;go_wp2;go_loopw [1,5] (λq i wr=>∃(j:Nat) (kk:Int),j<=N xs/\i=U O j/\q=U O kk/\A<=kk/\kk<=A+10*((j+((xs.take j).map Imp.sz).sum:Nat):Int)/\MB B W0 V wr) (λ_ i _=>N xs-(intOf i).toNat)
 case atStart=>exact⟨0,A,Kw _,rfl,rfl,Lh _,by simp,MB.refl HM.o⟩
 obtain⟨j,kk,hj,rfl,rfl,F,E,p⟩:=hrel;clear HM;by_cases D:j<N xs
 . (have ba:(j:Int)<(N xs:Int):=by omega);rcases HL.o with hx|⟨b,off,ea,l,hc⟩
   . rw[hx]at D;simp at D
   have hr:=hc j D;have st:=QQ (f:=Imp.sz) Imp.z xs j D;have I:=Xi Imp.sz xs (j+1);have ag:=H1.o;obtain⟨⟨d0,d1,d2,d3,d4,d5,d6,d7,d8⟩,hi⟩:=hr;generalize xs.getD j Imp.z=y at *;have r:b<W0.heap.size:=Kk W0 _ d0;(have H:Hid (j+1+((xs.take (j+1)).map Imp.sz).sum=(j+((xs.take j).map Imp.sz).sum)+(1+Imp.sz y)):=by show _=_;rw[st];omega);(have L:kk+10*((1+Imp.sz y:Nat):Int)<=100000000:=by rw[st]at I;omega);subst ea;clear st I ag hc HL H1;simp only[Imp.sz]at L H;(have a9:0<=kk:=by omega);(go_upto_region 4 with fail);obtain⟨u,k⟩:=p.mm.ex b (off+j*9) _ d0;have g:=p.mm.fz b (off+j*9) l r;(have m:IntKind.i64.wrap (kk+1)=kk+1:=by rw[Kz];omega);have M:=Hm (mtext_c (kk) wr (by omega) (by omega));have t:=Hm p;clear p u k g;(go_wp2_with fail);refine M.o.mono ?_;rintro e bd ⟨tx,rfl,s⟩;have C:=t.o.below s;obtain⟨u,k⟩:=C.mm.ex b (off+j*9) _ d0;have g:=C.mm.fz b (off+j*9) l r;have d:=Hm (λv=>C.set v l d0 (by intro a n c h;cases h));clear C s M t;(go_upto_region 5 with fail);refine Qj (λW=>MB B W0 V W) (d.o _) ?_;rintro V1 m0;clear d k g u;(go_upto_region 6 with fail);clear m;obtain⟨u,k⟩:=m0.mm.ex b (off+j*9+1) _ d1;have g:=m0.mm.fz b (off+j*9+1) l r;(have m:IntKind.i64.wrap ((kk+1)+1)=(kk+1)+1:=by rw[Kz];omega);have M:=Hm (mtext_c ((kk+1)) V1 (by omega) (by omega));have t:=Hm m0;clear m0 u k g;(go_wp2_with fail);refine M.o.mono ?_;rintro e bc ⟨tx,rfl,s⟩;have C:=t.o.below s;obtain⟨u,k⟩:=C.mm.ex b (off+j*9+1) _ d1;have g:=C.mm.fz b (off+j*9+1) l r;have d:=Hm (λv=>C.set v l d1 (by intro a n c h;cases h));clear C s M t;(go_upto_region 7 with fail);refine Qj (λW=>MB B W0 V W) (d.o _) ?_;rintro V2 m1;clear d k g u;(go_upto_region 8 with fail);clear m;obtain⟨u,k⟩:=m1.mm.ex b (off+j*9+2) _ d2;have g:=m1.mm.fz b (off+j*9+2) l r;(have m:IntKind.i64.wrap (((kk+1)+1)+1)=((kk+1)+1)+1:=by rw[Kz];omega);have d:=Hm (λv=>m1.set v l d2 (by intro a n c h;cases h));clear m1
   (go_upto_region 9 with fail);refine Qj (λW=>MB B W0 V W) (d.o _) ?_;rintro V3 m2;clear d k g u;(go_upto_region 10 with fail);clear m;obtain⟨u,k⟩:=m2.mm.ex b (off+j*9+3) _ d3;have g:=m2.mm.fz b (off+j*9+3) l r;(have m:IntKind.i64.wrap ((((kk+1)+1)+1)+1)=(((kk+1)+1)+1)+1:=by rw[Kz];omega);have d:=Hm (λv=>m2.set v l d3 (by intro a n c h;cases h));clear m2;(go_upto_region 11 with fail);refine Qj (λW=>MB B W0 V W) (d.o _) ?_;rintro V4 m3;clear d k g u;(go_upto_region 12 with fail);clear m;obtain⟨u,k⟩:=m3.mm.ex b (off+j*9+4) _ d4;have g:=m3.mm.fz b (off+j*9+4) l r;(have m:IntKind.i64.wrap (((((kk+1)+1)+1)+1)+1)=((((kk+1)+1)+1)+1)+1:=by rw[Kz];omega);have d:=Hm (λv=>m3.set v l d4 (by intro a n c h;cases h));clear m3;(go_upto_region 13 with fail);refine Qj (λW=>MB B W0 V W) (d.o _) ?_;rintro V5 m4;clear d k g u;(go_upto_region 14 with fail);clear m;obtain⟨u,k⟩:=m4.mm.ex b (off+j*9+5) _ d5;have g:=m4.mm.fz b (off+j*9+5) l r;(have m:IntKind.i64.wrap ((((((kk+1)+1)+1)+1)+1)+1)=(((((kk+1)+1)+1)+1)+1)+1:=by rw[Kz];omega);have d:=Hm (λv=>m4.set v l d5 (by intro a n c h;cases h));clear m4;(go_upto_region 15 with fail);refine Qj (λW=>MB B W0 V W) (d.o _) ?_;rintro V6 Y;clear d k g u;(go_upto_region 16 with fail);clear m;obtain⟨u,k⟩:=Y.mm.ex b (off+j*9+6) _ d6;have g:=Y.mm.fz b (off+j*9+6) l r;(have m:IntKind.i64.wrap (((((((kk+1)+1)+1)+1)+1)+1)+1)=((((((kk+1)+1)+1)+1)+1)+1)+1:=by rw[Kz];omega);have d:=Hm (λv=>Y.set v l d6 (by intro a n c h;cases h));clear Y;(go_upto_region 17 with fail);refine Qj (λW=>MB B W0 V W) (d.o _) ?_;rintro V7 X;clear d k g u;(go_upto_region 18 with fail);clear m;obtain⟨u,k⟩:=X.mm.ex b (off+j*9+7) _ d7;have g:=X.mm.fz b (off+j*9+7) l r;(have m:IntKind.i64.wrap ((((((((kk+1)+1)+1)+1)+1)+1)+1)+1)=(((((((kk+1)+1)+1)+1)+1)+1)+1)+1:=by rw[Kz];omega);have d:=Hm (λv=>X.set v l d7 (by intro a n c h;cases h));clear X;go_upto_region 19 with fail
   refine Qj (λW=>MB B W0 V W) (d.o _) ?_;rintro V8 R;clear d k g u;(go_upto_region 20 with fail);clear m;obtain⟨u,k⟩:=R.mm.ex b (off+j*9+8) _ d8;have g:=R.mm.fz b (off+j*9+8) l r;(have m:IntKind.i64.wrap (((((((((kk+1)+1)+1)+1)+1)+1)+1)+1)+1)=((((((((kk+1)+1)+1)+1)+1)+1)+1)+1)+1:=by rw[Kz];omega);have d:=Hm (λv=>R.set v l d8 (by intro a n c h;cases h));clear R;(go_upto_region 21 with fail);refine Qj (λW=>MB B W0 V W) (d.o _) ?_;rintro V9 m8;clear d k g u;(go_upto_region 3 with fail);clear m;have ai:=Hm m8;clear m8;(have ak:Hid (A<=(((((((((kk+1)+1)+1)+1)+1)+1)+1)+1)+1)):=by show _<=_;omega);(have aj:Hid ((((((((((kk+1)+1)+1)+1)+1)+1)+1)+1)+1)<=A+10*((j+1+((xs.take (j+1)).map Imp.sz).sum:Nat):Int)):=by show _<=_;rw[H.o];omega);clear H L F E;go_wp2;(go_roundw);(case rel=>exact⟨j+1,(((((((((kk+1)+1)+1)+1)+1)+1)+1)+1)+1),by omega,by go_num,rfl,ak.o,aj.o,ai.o⟩);case measure=>simp[intOf];omega
 have e:j=N xs:=by omega
 subst e;rw[Kh]at E;have HO:=Hm (And.intro F (And.intro E p));clear F E p;go_wp2;go_ret;exact⟨kk,rfl,HO.o⟩
theorem mkGlobs_c (a:Option Ad)(c:Nat)(xs:List Qm)(g:Int)(B:Nat)(W0 V:J)(hL:Qm.Ls B W0 a xs)(hm:Mk B W0 V)(h0:0<=g)(h1:g+10*((N xs+(xs.map Qm.sz).sum):Nat)<=100000000):Ec Q 61 #[S a (N xs) c,U O g] V λe V'=>∃k1:Int,e=Z (U O k1)/\g<=k1/\k1<=g+10*((N xs+(xs.map Qm.sz).sum):Nat)/\MB B W0 V V':=by
 have HL:=Hm hL;have HM:=Hm hm;have H1:=Hm h1;have av:N xs<=100000000:=by omega
 clear hL hm h1;go_enter func61,ntmps61;go_wp2;go_loopw [1,5] (λq i wr=>∃(j:Nat) (kk:Int),j<=N xs/\i=U O j/\q=U O kk/\g<=kk/\kk<=g+10*((j+((xs.take j).map Qm.sz).sum:Nat):Int)/\MB B W0 V wr) (λ_ i _=>N xs-(intOf i).toNat)
 case atStart=>exact⟨0,g,Kw _,rfl,rfl,Lh _,by simp,MB.refl HM.o⟩
 obtain⟨j,kk,hj,rfl,rfl,p,l,d⟩:=hrel;clear HM;by_cases k:j<N xs
 . (have a0:(j:Int)<(N xs:Int):=by omega);rcases HL.o with hx|⟨b,off,ea,F,hc⟩
   . rw[hx]at k;simp at k
   have hr:=hc j k;have st:=QQ (f:=Qm.sz) Qm.z xs j k;have s:=Xi Qm.sz xs (j+1);have M:=H1.o;obtain⟨p1,s1,⟨R,d1,d2⟩,hi⟩:=hr;generalize xs.getD j Qm.z=y at *;have lb:b<W0.heap.size:=Kk W0 _ R;(have r:Hid (j+1+((xs.take (j+1)).map Qm.sz).sum=(j+((xs.take j).map Qm.sz).sum)+(1+Qm.sz y)):=by show _=_;rw[st];omega);(have t:kk+10*((1+Qm.sz y:Nat):Int)<=100000000:=by rw[st]at s;omega);subst ea;clear st s M hc HL H1;simp only[Qm.sz]at t r;(have az:0<=kk:=by omega);(go_upto_region 4 with fail);obtain⟨u,L⟩:=d.mm.ex b (off+j*3) _ R;have H:=d.mm.fz b (off+j*3) F lb;(have I:IntKind.i64.wrap (kk+1)=kk+1:=by rw[Kz];omega);have A:=Hm (λv=>d.set v F R (by intro a n c h;cases h));clear d;(go_upto_region 5 with fail);refine Qj (λW=>MB B W0 V W) (A.o _) ?_;rintro V1 E;clear A L H u;(go_upto_region 6 with fail);clear I;obtain⟨u,L⟩:=E.mm.ex b (off+j*3+1) _ d1;have H:=E.mm.fz b (off+j*3+1) F lb;(have I:IntKind.i64.wrap ((kk+1)+1)=(kk+1)+1:=by rw[Kz];omega);have A:=Hm (λv=>E.set v F d1 (by intro a n c h;cases h));clear E;(go_upto_region 7 with fail);refine Qj (λW=>MB B W0 V W) (A.o _) ?_;rintro V2 D;clear A L H u;(go_upto_region 8 with fail);clear I;have hs:=D.mm.sl b (off+j*3+2) _ _ _ d2;have KC:=Hm (mkIns_c p1 s1 y.ini (((kk+1)+1)) B W0 V2 (hi) D.mm (by omega) (by omega));have C:=Hm D;clear D;(go_wp2_with fail);refine KC.o.mono ?_;rintro e V3 ⟨m,rfl,au,up2,mc⟩;have m2:=C.o.trans mc;clear mc KC C hs;have X:=Hm m2;clear m2;(have aa:Hid (g<=m):=by show _<=_;omega);(have Y:Hid (m<=g+10*((j+1+((xs.take (j+1)).map Qm.sz).sum:Nat):Int)):=by show _<=_;rw[r.o];omega);clear r t p l;go_wp2;(go_roundw);(case rel=>exact⟨j+1,m,by omega,by go_num,rfl,aa.o,Y.o,X.o⟩);case measure=>simp[intOf];omega
 have e:j=N xs:=by omega
 subst e;rw[Kh]at l;have HO:=Hm (And.intro p (And.intro l d));clear p l d;go_wp2;go_ret;exact⟨kk,rfl,HO.o⟩
theorem mkEles_c (a:Option Ad)(c:Nat)(xs:List Ele)(k:Int)(B:Nat)(W0 V:J)(X:Ele.Ls B W0 a xs)(L:Mk B W0 V)(h0:0<=k)(Y:k+10*((N xs+(xs.map Ele.sz).sum):Nat)<=100000000):Ec Q 63 #[S a (N xs) c,U O k] V λe V'=>∃k1:Int,e=Z (U O k1)/\k<=k1/\k1<=k+10*((N xs+(xs.map Ele.sz).sum):Nat)/\MB B W0 V V':=by
 have HL:=Hm X;have HM:=Hm L;have H1:=Hm Y;have aj:N xs<=100000000:=by omega
 clear X L Y;go_enter func63,ntmps63;go_wp2;go_loopw [1,5] (λq i wr=>∃(j:Nat) (kk:Int),j<=N xs/\i=U O j/\q=U O kk/\k<=kk/\kk<=k+10*((j+((xs.take j).map Ele.sz).sum:Nat):Int)/\MB B W0 V wr) (λ_ i _=>N xs-(intOf i).toNat)
 case atStart=>exact⟨0,k,Kw _,rfl,rfl,Lh _,by simp,MB.refl HM.o⟩
 obtain⟨j,kk,hj,rfl,rfl,p,n,d⟩:=hrel;clear HM;by_cases m:j<N xs
 . (have aq:(j:Int)<(N xs:Int):=by omega);rcases HL.o with hx|⟨b,off,ea,hB,R⟩
   . rw[hx]at m;simp at m
   have hr:=R j m;have st:=QQ (f:=Ele.sz) Ele.z xs j m;have s:=Xi Ele.sz xs (j+1);have D:=H1.o;obtain⟨p1,s1,p2,s2,⟨d0,d1⟩,M⟩:=hr;generalize xs.getD j Ele.z=y at *;(have r:Hid (j+1+((xs.take (j+1)).map Ele.sz).sum=(j+((xs.take j).map Ele.sz).sum)+(1+Ele.sz y)):=by show _=_;rw[st];omega);(have u:kk+10*((1+Ele.sz y:Nat):Int)<=100000000:=by rw[st]at s;omega);subst ea;clear st s D R HL H1;simp only[Ele.sz]at u r;(have ap:0<=kk:=by omega);(go_upto_region 4 with fail);have C:=d.mm.sl b (off+j*2) _ _ _ d0;have v:=Hm (mkIns_c p1 s1 y.off (kk) B W0 wr (M.1) d.mm (by omega) (by omega));have g:=Hm d;clear d;(go_wp2_with fail);refine v.o.mono ?_;rintro e V1 ⟨l,rfl,ai,ad,t⟩;have A:=g.o.trans t;clear t v g C;(go_upto_region 5 with fail);have C:=A.mm.sl b (off+j*2+1) _ _ _ d1;have v:=Hm (mkInts_c p2 s2 y.fs (l) B W0 V1 (M.2) A.mm (by omega) (by omega));have g:=Hm A;clear A;(go_wp2_with fail);refine v.o.mono ?_;rintro e V2 ⟨rfl,t⟩;have I:=g.o.trans t;clear t v g C;have E:=Hm I;clear I;(have H:Hid (k<=(l+N y.fs)):=by show _<=_;omega);(have F:Hid ((l+N y.fs)<=k+10*((j+1+((xs.take (j+1)).map Ele.sz).sum:Nat):Int)):=by show _<=_;rw[r.o];omega);clear r u p n;go_wp2;(go_roundw);(case rel=>exact⟨j+1,(l+N y.fs),by omega,by go_num,rfl,H.o,F.o,E.o⟩);case measure=>simp[intOf];omega
 have e:j=N xs:=by omega
 subst e;rw[Kh]at n;have HO:=Hm (And.intro p (And.intro n d));clear p n d;go_wp2;go_ret;exact⟨kk,rfl,HO.o⟩
theorem mkCods_c (a:Option Ad)(c:Nat)(xs:List Cod)(k:Int)(B:Nat)(W0 V:J)(hL:Cod.Ls B W0 a xs)(R:Mk B W0 V)(h0:0<=k)(h1:k+10*((N xs+(xs.map Cod.sz).sum):Nat)<=100000000):Ec Q 64 #[S a (N xs) c,U O k] V λe V'=>∃k1:Int,e=Z (U O k1)/\k<=k1/\k1<=k+10*((N xs+(xs.map Cod.sz).sum):Nat)/\MB B W0 V V':=by
 have HL:=Hm hL;have HM:=Hm R;have H1:=Hm h1;have ao:N xs<=100000000:=by omega
 clear hL R h1;go_enter func64,ntmps64;go_wp2;go_loopw [1,5] (λq i wr=>∃(j:Nat) (kk:Int),j<=N xs/\i=U O j/\q=U O kk/\k<=kk/\kk<=k+10*((j+((xs.take j).map Cod.sz).sum:Nat):Int)/\MB B W0 V wr) (λ_ i _=>N xs-(intOf i).toNat)
 case atStart=>exact⟨0,k,Kw _,rfl,rfl,Lh _,by simp,MB.refl HM.o⟩
 obtain⟨j,kk,hj,rfl,rfl,p,m,d⟩:=hrel;clear HM;by_cases l:j<N xs
 . (have au:(j:Int)<(N xs:Int):=by omega);rcases HL.o with hx|⟨b,off,ea,hB,Y⟩
   . rw[hx]at l;simp at l
   have hr:=Y j l;have st:=QQ (f:=Cod.sz) Cod.z xs j l;have s:=Xi Cod.sz xs (j+1);have F:=H1.o;obtain⟨p1,s1,p2,s2,⟨d0,d1⟩,X⟩:=hr;generalize xs.getD j Cod.z=y at *;(have r:Hid (j+1+((xs.take (j+1)).map Cod.sz).sum=(j+((xs.take j).map Cod.sz).sum)+(1+Cod.sz y)):=by show _=_;rw[st];omega);(have u:kk+10*((1+Cod.sz y:Nat):Int)<=100000000:=by rw[st]at s;omega);subst ea;clear st s F Y HL H1;simp only[Cod.sz]at u r;(have ar:0<=kk:=by omega);(go_upto_region 4 with fail);have E:=d.mm.sl b (off+j*2) _ _ _ d0;have v:=Hm (mkGrps_c p1 s1 y.gq (kk) B W0 wr (X.1) d.mm (by omega) (by rw[sum_zero];omega));have g:=Hm d;clear d;(go_wp2_with fail);refine v.o.mono ?_;rintro e V1 ⟨D,rfl,ak,C,t⟩;have A:=g.o.trans t;clear t v g E;rw[sum_zero]at C;(go_upto_region 5 with fail);have E:=A.mm.sl b (off+j*2+1) _ _ _ d1;have v:=Hm (mkIns_c p2 s2 y.body (D) B W0 V1 (X.2) A.mm (by omega) (by omega));have g:=Hm A;clear A;(go_wp2_with fail);refine v.o.mono ?_;rintro e V2 ⟨n,rfl,aj,up1,t⟩;have M:=g.o.trans t;clear t v g E;have H:=Hm M;clear M;(have L:Hid (k<=n):=by show _<=_;omega);(have I:Hid (n<=k+10*((j+1+((xs.take (j+1)).map Cod.sz).sum:Nat):Int)):=by show _<=_;rw[r.o];omega);clear r u p m;go_wp2;(go_roundw);(case rel=>exact⟨j+1,n,by omega,by go_num,rfl,L.o,I.o,H.o⟩);case measure=>simp[intOf];omega
 have e:j=N xs:=by omega
 subst e;rw[Kh]at m;have HO:=Hm (And.intro p (And.intro m d));clear p m d;go_wp2;go_ret;exact⟨kk,rfl,HO.o⟩
theorem mkDats_c (a:Option Ad)(c:Nat)(xs:List Dat)(k:Int)(B:Nat)(W0 V:J)(X:Dat.Ls B W0 a xs)(L:Mk B W0 V)(h0:0<=k)(Y:k+10*((N xs+(xs.map Dat.sz).sum):Nat)<=100000000):Ec Q 65 #[S a (N xs) c,U O k] V λe V'=>∃k1:Int,e=Z (U O k1)/\k<=k1/\k1<=k+10*((N xs+(xs.map Dat.sz).sum):Nat)/\MB B W0 V V':=by
 have HL:=Hm X;have HM:=Hm L;have H1:=Hm Y;have aj:N xs<=100000000:=by omega
 clear X L Y;go_enter func65,ntmps65;go_wp2;go_loopw [1,5] (λq i wr=>∃(j:Nat) (kk:Int),j<=N xs/\i=U O j/\q=U O kk/\k<=kk/\kk<=k+10*((j+((xs.take j).map Dat.sz).sum:Nat):Int)/\MB B W0 V wr) (λ_ i _=>N xs-(intOf i).toNat)
 case atStart=>exact⟨0,k,Kw _,rfl,rfl,Lh _,by simp,MB.refl HM.o⟩
 obtain⟨j,kk,hj,rfl,rfl,p,n,d⟩:=hrel;clear HM;by_cases m:j<N xs
 . (have aq:(j:Int)<(N xs:Int):=by omega);rcases HL.o with hx|⟨b,off,ea,hB,R⟩
   . rw[hx]at m;simp at m
   have hr:=R j m;have st:=QQ (f:=Dat.sz) Dat.z xs j m;have s:=Xi Dat.sz xs (j+1);have D:=H1.o;obtain⟨p1,s1,p2,s2,⟨d0,d1⟩,M⟩:=hr;generalize xs.getD j Dat.z=y at *;(have r:Hid (j+1+((xs.take (j+1)).map Dat.sz).sum=(j+((xs.take j).map Dat.sz).sum)+(1+Dat.sz y)):=by show _=_;rw[st];omega);(have u:kk+10*((1+Dat.sz y:Nat):Int)<=100000000:=by rw[st]at s;omega);subst ea;clear st s D R HL H1;simp only[Dat.sz]at u r;(have ap:0<=kk:=by omega);(go_upto_region 4 with fail);have C:=d.mm.sl b (off+j*2) _ _ _ d0;have v:=Hm (mkIns_c p1 s1 y.off (kk) B W0 wr (M.1) d.mm (by omega) (by omega));have g:=Hm d;clear d;(go_wp2_with fail);refine v.o.mono ?_;rintro e V1 ⟨l,rfl,ai,ad,t⟩;have A:=g.o.trans t;clear t v g C;(go_upto_region 5 with fail);have C:=A.mm.sl b (off+j*2+1) _ _ _ d1;have v:=Hm (mkBytes_c p2 s2 y.bs (l) B W0 V1 (M.2) A.mm (by omega) (by omega));have g:=Hm A;clear A;(go_wp2_with fail);refine v.o.mono ?_;rintro e V2 ⟨rfl,t⟩;have I:=g.o.trans t;clear t v g C;have E:=Hm I;clear I;(have H:Hid (k<=(l+N y.bs)):=by show _<=_;omega);(have F:Hid ((l+N y.bs)<=k+10*((j+1+((xs.take (j+1)).map Dat.sz).sum:Nat):Int)):=by show _<=_;rw[r.o];omega);clear r u p n;go_wp2;(go_roundw);(case rel=>exact⟨j+1,(l+N y.bs),by omega,by go_num,rfl,H.o,F.o,E.o⟩);case measure=>simp[intOf];omega
 have e:j=N xs:=by omega
 subst e;rw[Kh]at n;have HO:=Hm (And.intro p (And.intro n d));clear p n d;go_wp2;go_ret;exact⟨kk,rfl,HO.o⟩
theorem mkCuss_c (a:Option Ad)(c:Nat)(xs:List Cus)(k:Int)(B:Nat)(W0 V:J)(hL:Cus.Ls B W0 a xs)(hm:Mk B W0 V)(h0:0<=k)(h1:k+10*((N xs+(xs.map Cus.sz).sum):Nat)<=100000000):Ec Q 66 #[S a (N xs) c,U O k] V λe V'=>∃k1:Int,e=Z (U O k1)/\k<=k1/\k1<=k+10*((N xs+(xs.map Cus.sz).sum):Nat)/\MB B W0 V V':=by
 have HL:=Hm hL;have HM:=Hm hm;have H1:=Hm h1;have aw:N xs<=100000000:=by omega
 clear hL hm h1;go_enter func66,ntmps66;go_wp2;go_loopw [1,5] (λq i wr=>∃(j:Nat) (kk:Int),j<=N xs/\i=U O j/\q=U O kk/\k<=kk/\kk<=k+10*((j+((xs.take j).map Cus.sz).sum:Nat):Int)/\MB B W0 V wr) (λ_ i _=>N xs-(intOf i).toNat)
 case atStart=>exact⟨0,k,Kw _,rfl,rfl,Lh _,by simp,MB.refl HM.o⟩
 obtain⟨j,kk,hj,rfl,rfl,p,m,d⟩:=hrel;clear HM;by_cases l:j<N xs
 . (have a1:(j:Int)<(N xs:Int):=by omega);rcases HL.o with hx|⟨b,off,ea,E,hc⟩
   . rw[hx]at l;simp at l
   have hr:=hc j l;have st:=QQ (f:=Cus.sz) Cus.z xs j l;have s:=Xi Cus.sz xs (j+1);have X:=H1.o;obtain⟨p1,s1,⟨d0,Y,d2⟩,hi⟩:=hr;generalize xs.getD j Cus.z=y at *;have M:b<W0.heap.size:=Kk W0 _ d0;(have r:Hid (j+1+((xs.take (j+1)).map Cus.sz).sum=(j+((xs.take j).map Cus.sz).sum)+(1+Cus.sz y)):=by show _=_;rw[st];omega);(have D:kk+10*((1+Cus.sz y:Nat):Int)<=100000000:=by rw[st]at s;omega);subst ea;clear st s X hc HL H1;simp only[Cus.sz]at D r;(have a0:0<=kk:=by omega);(go_upto_region 4 with fail);obtain⟨u,A⟩:=d.mm.ex b (off+j*3) _ d0;have t:=d.mm.fz b (off+j*3) E M;(have R:IntKind.i64.wrap (kk+1)=kk+1:=by rw[Kz];omega);have F:=Hm (λv=>d.set v E d0 (by intro a n c h;cases h));clear d;(go_upto_region 5 with fail);refine Qj (λW=>MB B W0 V W) (F.o _) ?_;rintro V1 L;clear F A t u;(go_upto_region 6 with fail);clear R;obtain⟨u,A⟩:=L.mm.ex b (off+j*3+1) _ Y;have t:=L.mm.fz b (off+j*3+1) E M;(have R:IntKind.i64.wrap ((kk+1)+1)=(kk+1)+1:=by rw[Kz];omega);have KT:=Hm (mtext_c ((kk+1)) V1 (by omega) (by omega));have g:=Hm L;clear L u A t;(go_wp2_with fail);refine KT.o.mono ?_;rintro e a5 ⟨tx,rfl,C⟩;have H:=g.o.below C;obtain⟨u,A⟩:=H.mm.ex b (off+j*3+1) _ Y;have t:=H.mm.fz b (off+j*3+1) E M;have F:=Hm (λv=>H.set v E Y (by intro a n c h;cases h));clear H C KT g;(go_upto_region 7 with fail);refine Qj (λW=>MB B W0 V W) (F.o _) ?_;rintro V2 I;clear F A t u;(go_upto_region 8 with fail);clear R;have hs:=I.mm.sl b (off+j*3+2) _ _ _ d2;have KC:=Hm (mkBytes_c p1 s1 y.bs (((kk+1)+1)) B W0 V2 (hi) I.mm (by omega) (by omega));have g:=Hm I;clear I;(go_wp2_with fail);refine KC.o.mono ?_;rintro e V3 ⟨rfl,mc⟩;have m2:=g.o.trans mc;clear mc KC g hs;have ab:=Hm m2;clear m2;(have ad:Hid (k<=(((kk+1)+1)+N y.bs)):=by show _<=_;omega);(have ac:Hid ((((kk+1)+1)+N y.bs)<=k+10*((j+1+((xs.take (j+1)).map Cus.sz).sum:Nat):Int)):=by show _<=_;rw[r.o];omega);clear r D p m;go_wp2;go_roundw
   (case rel=>exact⟨j+1,(((kk+1)+1)+N y.bs),by omega,by go_num,rfl,ad.o,ac.o,ab.o⟩);case measure=>simp[intOf];omega
 have e:j=N xs:=by omega
 subst e;rw[Kh]at m;have HO:=Hm (And.intro p (And.intro m d));clear p m d;go_wp2;go_ret;exact⟨kk,rfl,HO.o⟩
theorem X7 {b:J}{g:Nat}{cs}(h:Bk b g cs)(t:Bet B C b V1)(a:C<=g):Bk V1 g cs :=
 ⟨Km h.1 t.size,λj v hv=>(t.cell (.inr ⟨a,h.1⟩)).trans (h.2.1 j v hv),λj=>(t.frozen (.inr ⟨a,h.1⟩)).trans (h.2.2 j)⟩
theorem mkMod_c (x:Mod)(a1:Option Ad)(c1:Nat)(a2:Option Ad)(c2:Nat)(a3:Option Ad)(c3:Nat)(a4:Option Ad)(c4:Nat)(Y:Option Ad)(c5:Nat)(X:Option Ad)(c6:Nat)(R:Option Ad)(c7:Nat)(M:Option Ad)(c8:Nat)(L:Option Ad)(c9:Nat)(m:Option Ad)(r:Nat)(l:Option Ad)(q:Nat)(B:Nat)(W0 V:J)(g:Mod.Is B W0 x a1 a2 a3 a4 Y X R M L m l)(hm:Mk B W0 V)(hs:x.sz<=1048576):Ec Q 10 #[Ag #[S a1 (N x.types) c1,S a2 (N x.cj) c2,S a3 (N x.jk) c3,S a4 (N x.cw) c4,S Y (N x.jz) c5,S X (N x.ck) c6,S R (N x.cv) c7,G x.gz,U O x.start,S M (N x.fq) c8,S L (N x.fj) c9,S m (N x.fx) r,S l (N x.fw) q],U O 1] V λe V'=>∃k:Int,e=Z (U O k)/\0<=k/\MB B W0 V V':=by
 simp only[Mod.sz]at hs;have zt:=sum_zeroL x.cw;have zm:=sum_zeroL x.jz;obtain⟨V0,p⟩:∃V0,V0=V.alloc (Fc #[S a1 (N x.types) c1,S a2 (N x.cj) c2,S a3 (N x.jk) c3,S a4 (N x.cw) c4,S Y (N x.jz) c5,S X (N x.ck) c6,S R (N x.cv) c7,G x.gz,U O x.start,S M (N x.fq) c8,S L (N x.fj) c9,S m (N x.fx) r,S l (N x.fw) q] 48):=⟨_,rfl⟩;have t:Bk V0 V.heap.size [S a1 (N x.types) c1,S a2 (N x.cj) c2,S a3 (N x.jk) c3,S a4 (N x.cw) c4,S Y (N x.jz) c5,S X (N x.ck) c6,S R (N x.cv) c7,G x.gz,U O x.start,S M (N x.fq) c8,S L (N x.fj) c9,S m (N x.fx) r,S l (N x.fw) q]:=by rw[p];exact Bk.new
 have m0:MB B W0 V V0:=(MB.refl hm).below (by rw[p];exact bFz.alloc lRz _);have n:W0.heap.size<=V.heap.size:=hm.size;have af:=Hm p;clear p hm;go_enter func10,ntmps10;go_upto_region 1 with fail
 rw[<- af.o];clear af;have f:=t.2.1 0 _ rfl;have c:=Hm (mkFTypes_c a1 c1 x.types 1 B W0 V0 g.1 m0.mm (by omega) (by omega));have b:=Hm m0;have d:=Hm t;clear m0 t;go_wp2_with fail
 refine c.o.mono ?_;rintro e V1 ⟨k1,rfl,bz,up1,a⟩;have m1:=b.o.trans a;have F:=X7 d.o a.bt n;clear a c b d f;have f:=F.2.1 1 _ rfl;have c:=Hm (mkImps_c a2 c2 x.cj k1 B W0 V1 g.2.1 m1.mm (by omega) (by omega));have b:=Hm m1;have d:=Hm F;clear m1 F;go_wp2_with fail
 refine c.o.mono ?_;rintro e V2 ⟨k2,rfl,bw,up2,a⟩;have m2:=b.o.trans a;have E:=X7 d.o a.bt n;clear a c b d f;have f:=E.2.1 2 _ rfl;have c:=Hm (mkInts_c a3 c3 x.jk k2 B W0 V2 g.2.2.1 m2.mm (by omega) (by omega));have b:=Hm m2;have d:=Hm E;clear m2 E;go_wp2_with fail
 refine c.o.mono ?_;rintro e V3 ⟨rfl,a⟩;have m3:=b.o.trans a;have D:=X7 d.o a.bt n;clear a c b d f;have f:=D.2.1 3 _ rfl;have c:=Hm (mkLimitss_c a4 c4 x.cw (k2+N x.jk) B W0 V3 g.2.2.2.1 m3.mm (by omega) (by omega));have b:=Hm m3;have d:=Hm D;clear m3 D;go_wp2_with fail
 refine c.o.mono ?_;rintro e V4 ⟨k4,rfl,bv,bo,a⟩;have m4:=b.o.trans a;have C:=X7 d.o a.bt n;clear a c b d f;have f:=C.2.1 4 _ rfl;have c:=Hm (mkLimitss_c Y c5 x.jz k4 B W0 V4 g.2.2.2.2.1 m4.mm (by omega) (by omega));have b:=Hm m4;have d:=Hm C;clear m4 C;go_wp2_with fail
 refine c.o.mono ?_;rintro e V5 ⟨k5,rfl,bu,bn,a⟩;have m5:=b.o.trans a;have A:=X7 d.o a.bt n;clear a c b d f;have f:=A.2.1 5 _ rfl;have c:=Hm (mkGlobs_c X c6 x.ck k5 B W0 V5 g.2.2.2.2.2.1 m5.mm (by omega) (by omega));have b:=Hm m5;have d:=Hm A;clear m5 A;go_wp2_with fail
 refine c.o.mono ?_;rintro e V6 ⟨k6,rfl,bs,bm,a⟩;have m6:=b.o.trans a;have z:=X7 d.o a.bt n;clear a c b d f;have f:=z.2.1 6 _ rfl;have c:=Hm (mkExps_c R c7 x.cv k6 B W0 V6 g.2.2.2.2.2.2.1 m6.mm (by omega) (by omega));have b:=Hm m6;have d:=Hm z;clear m6 z;go_wp2_with fail
 refine c.o.mono ?_;rintro e V7 ⟨k7,rfl,br,bl,a⟩;have m7:=b.o.trans a;have y:=X7 d.o a.bt n;clear a c b d f;have f:=y.2.1 9 _ rfl;have c:=Hm (mkEles_c M c8 x.fq k7 B W0 V7 g.2.2.2.2.2.2.2.1 m7.mm (by omega) (by omega));have b:=Hm m7;have d:=Hm y;clear m7 y;go_wp2_with fail
 refine c.o.mono ?_;rintro e V8 ⟨k8,rfl,bq,bj,a⟩;have m8:=b.o.trans a;have v:=X7 d.o a.bt n;clear a c b d f;have f:=v.2.1 10 _ rfl;have c:=Hm (mkCods_c L c9 x.fj k8 B W0 V8 g.2.2.2.2.2.2.2.2.1 m8.mm (by omega) (by omega));have b:=Hm m8;have d:=Hm v;clear m8 v;go_wp2_with fail
 refine c.o.mono ?_;rintro e V9 ⟨k9,rfl,bp,bh,a⟩;have m9:=b.o.trans a;have u:=X7 d.o a.bt n;clear a c b d f;have f:=u.2.1 11 _ rfl;have c:=Hm (mkDats_c m r x.fx k9 B W0 V9 g.2.2.2.2.2.2.2.2.2.1 m9.mm (by omega) (by omega));have b:=Hm m9;have d:=Hm u;clear m9 u;go_wp2_with fail
 refine c.o.mono ?_;rintro e ba ⟨az,rfl,bf,bc,a⟩;have s:=b.o.trans a;have j:=X7 d.o a.bt n;clear a c b d f;have f:=j.2.1 12 _ rfl;have c:=Hm (mkCuss_c l q x.fw az B W0 ba g.2.2.2.2.2.2.2.2.2.2 s.mm (by omega) (by omega));have b:=Hm s;have d:=Hm j;clear s j;go_wp2_with fail
 refine c.o.mono ?_;rintro e ch ⟨I,rfl,bd,bb,a⟩;have H:=b.o.trans a;clear a c b d f;have b:=Hm H;have HP:Hid (0<=I):=by show _<=_;omega
 clear H;go_wp2;go_ret;exact⟨I,rfl,HP.o,b.o⟩
theorem eqB_any (a b)(t s:Nat)(xs:List Int)(w)(p:N xs<=1099511627776)(l:HI .u8 0 w a xs)(j:HI .u8 0 w b xs):Ec Q 181 #[S a (N xs) t,S b (N xs) s] w λe w'=>e=Z (G true)/\∃n,w'=w.drewN n:=by
 by_cases c:xs=[]
 . subst c;clear l j p;go_enter func181,ntmps181;go_wp2;refine wp_loop_rounds 1 ?_;rw[rounds_succ];go_wp2;go_ret;exact⟨rfl,0,rfl⟩
 have g:0<N xs:=List.length_pos_iff.2 c;rcases l with h|⟨u,o,rfl,_,f⟩
 . exact absurd h c
 rcases j with h|⟨A,v,rfl,_,r⟩
 . exact absurd h c
 clear c;go_enter func181,ntmps181;go_wp2;go_loopw [5] (λi wr=>∃k:Nat,k<=N xs/\i=U O k/\∃m,wr=w.drewN m) (λi _=>N xs-(intOf i).toNat)
 case atStart=>exact⟨0,Kw _,rfl,0,rfl⟩
 obtain⟨k,y,rfl,m,rfl⟩:=hrel;by_cases d:k<N xs
 . have z:(w.drewN m).cell? ⟨u,o+k,none⟩=some (U .u8 (xs.getD k 0)):=f k d;(have q:(k:Int)<(N xs:Int):=by omega);go_wp2;(go_quiet (fail));go_wp2;(go_roundw);(case rel=>exact⟨k+1,by omega,by go_num,_,rfl⟩);case measure=>simp[intOf];omega
 go_wp2;go_ret;exact⟨rfl,m,rfl⟩
theorem two (w:J)(b z:List Vu)(t a:TypeId):Bk ((w.alloc (Fc b.toArray t)).alloc (Fc z.toArray a)) w.heap.size b/\Bk ((w.alloc (Fc b.toArray t)).alloc (Fc z.toArray a)) (w.heap.size+1) z/\Bw w.heap.size w ((w.alloc (Fc b.toArray t)).alloc (Fc z.toArray a)):=by
 refine⟨Bk.new.past,?_,(bFz.alloc lRz _).alloc (by simp) _⟩;have:=(Bk.new (w:=w.alloc (Fc b.toArray t)) (cs:=z) (t:=a));simpa using this
theorem reLimits_c (x:Qd)(w:J)(r:Qd.Is 0 w x)(f:Qd.Is 0 w x)(q:Qd.LB 1048576 x):Ec Q 110 #[Ag #[U O x.min,U O x.max,G x.has],Ag #[U O x.min,U O x.max,G x.has]] w λe w'=>e=Z (G true)/\Bw w.heap.size w w':=by
 have d:Hid (Bk ((w.alloc (Fc #[U O x.min,U O x.max,G x.has] 175)).alloc (Fc #[U O x.min,U O x.max,G x.has] 175)) w.heap.size [U O x.min,U O x.max,G x.has]/\Bk ((w.alloc (Fc #[U O x.min,U O x.max,G x.has] 175)).alloc (Fc #[U O x.min,U O x.max,G x.has] 175)) (w.heap.size+1) [U O x.min,U O x.max,G x.has]/\Bw w.heap.size w ((w.alloc (Fc #[U O x.min,U O x.max,G x.has] 175)).alloc (Fc #[U O x.min,U O x.max,G x.has] 175))):=two w [U O x.min,U O x.max,G x.has] [U O x.min,U O x.max,G x.has] 175 175;go_enter func110,ntmps110;go_upto_region 1 with fail
 refine Qj (λW=>Bk W w.heap.size [U O x.min,U O x.max,G x.has]/\Bk W (w.heap.size+1) [U O x.min,U O x.max,G x.has]/\Bw w.heap.size w W) d.o ?_;rintro W ⟨b,a,c⟩;clear d;have l:=b.2.1 0 _ rfl;have p:=a.2.1 0 _ rfl;have k:=b.2.1 1 _ rfl;have n:=a.2.1 1 _ rfl;have j:=b.2.1 2 _ rfl;have m:=a.2.1 2 _ rfl;have g:=Hm c;clear c b a;go_wp2;go_ret;exact⟨rfl,g.o⟩
theorem reGType_c (x:Qx)(w:J)(p:Qx.Is 0 w x)(f:Qx.Is 0 w x)(n:Qx.LB 1048576 x):Ec Q 178 #[Ag #[U O x.ty,G x.mu],Ag #[U O x.ty,G x.mu]] w λe w'=>e=Z (G true)/\Bw w.heap.size w w':=by
 have d:Hid (Bk ((w.alloc (Fc #[U O x.ty,G x.mu] 176)).alloc (Fc #[U O x.ty,G x.mu] 176)) w.heap.size [U O x.ty,G x.mu]/\Bk ((w.alloc (Fc #[U O x.ty,G x.mu] 176)).alloc (Fc #[U O x.ty,G x.mu] 176)) (w.heap.size+1) [U O x.ty,G x.mu]/\Bw w.heap.size w ((w.alloc (Fc #[U O x.ty,G x.mu] 176)).alloc (Fc #[U O x.ty,G x.mu] 176))):=two w [U O x.ty,G x.mu] [U O x.ty,G x.mu] 176 176;go_enter func178,ntmps178;go_upto_region 1 with fail
 refine Qj (λW=>Bk W w.heap.size [U O x.ty,G x.mu]/\Bk W (w.heap.size+1) [U O x.ty,G x.mu]/\Bw w.heap.size w W) d.o ?_;rintro W ⟨b,a,c⟩;clear d;have k:=b.2.1 0 _ rfl;have m:=a.2.1 0 _ rfl;have j:=b.2.1 1 _ rfl;have l:=a.2.1 1 _ rfl;have g:=Hm c;clear c b a;go_wp2;go_ret;exact⟨rfl,g.o⟩
theorem reGrp_c (x:Grp)(w:J)(q:Grp.Is 0 w x)(f:Grp.Is 0 w x)(p:Grp.LB 1048576 x):Ec Q 238 #[Ag #[U O x.n,U O x.ty],Ag #[U O x.n,U O x.ty]] w λe w'=>e=Z (G true)/\Bw w.heap.size w w':=by
 have d:Hid (Bk ((w.alloc (Fc #[U O x.n,U O x.ty] 172)).alloc (Fc #[U O x.n,U O x.ty] 172)) w.heap.size [U O x.n,U O x.ty]/\Bk ((w.alloc (Fc #[U O x.n,U O x.ty] 172)).alloc (Fc #[U O x.n,U O x.ty] 172)) (w.heap.size+1) [U O x.n,U O x.ty]/\Bw w.heap.size w ((w.alloc (Fc #[U O x.n,U O x.ty] 172)).alloc (Fc #[U O x.n,U O x.ty] 172))):=two w [U O x.n,U O x.ty] [U O x.n,U O x.ty] 172 172;go_enter func238,ntmps238;go_upto_region 1 with fail
 refine Qj (λW=>Bk W w.heap.size [U O x.n,U O x.ty]/\Bk W (w.heap.size+1) [U O x.n,U O x.ty]/\Bw w.heap.size w W) d.o ?_;rintro W ⟨b,a,c⟩;clear d;have k:=b.2.1 0 _ rfl;have m:=a.2.1 0 _ rfl;have j:=b.2.1 1 _ rfl;have l:=a.2.1 1 _ rfl;have g:=Hm c;clear c b a;go_wp2;go_ret;exact⟨rfl,g.o⟩
theorem reIn_c (x:In)(k:Option Ad)(c1:Nat)(c:Option Ad)(d:Nat)(w:J)(u:In.Is 0 w x k)(q:In.Is 0 w x c)(R:In.LB 1048576 x):Ec Q 237 #[Ag #[U O x.op,U O x.a,U O x.b,U Ou x.v,S k (N x.l) c1],Ag #[U O x.op,U O x.a,U O x.b,U Ou x.v,S c (N x.l) d]] w λe w'=>e=Z (G true)/\Bw w.heap.size w w':=by
 have l4:N x.l<=1048576:=R;have t:=u;clear u;have X:=Hm t;clear t;have n:=q;clear q;have s:=Hm n;clear n;have y:Hid (Bk ((w.alloc (Fc #[U O x.op,U O x.a,U O x.b,U Ou x.v,S k (N x.l) c1] 85)).alloc (Fc #[U O x.op,U O x.a,U O x.b,U Ou x.v,S c (N x.l) d] 85)) w.heap.size [U O x.op,U O x.a,U O x.b,U Ou x.v,S k (N x.l) c1]/\Bk ((w.alloc (Fc #[U O x.op,U O x.a,U O x.b,U Ou x.v,S k (N x.l) c1] 85)).alloc (Fc #[U O x.op,U O x.a,U O x.b,U Ou x.v,S c (N x.l) d] 85)) (w.heap.size+1) [U O x.op,U O x.a,U O x.b,U Ou x.v,S c (N x.l) d]/\Bw w.heap.size w ((w.alloc (Fc #[U O x.op,U O x.a,U O x.b,U Ou x.v,S k (N x.l) c1] 85)).alloc (Fc #[U O x.op,U O x.a,U O x.b,U Ou x.v,S c (N x.l) d] 85))):=two w [U O x.op,U O x.a,U O x.b,U Ou x.v,S k (N x.l) c1] [U O x.op,U O x.a,U O x.b,U Ou x.v,S c (N x.l) d] 85 85;go_enter func237,ntmps237;go_upto_region 1 with fail
 refine Qj (λW=>Bk W w.heap.size [U O x.op,U O x.a,U O x.b,U Ou x.v,S k (N x.l) c1]/\Bk W (w.heap.size+1) [U O x.op,U O x.a,U O x.b,U Ou x.v,S c (N x.l) d]/\Bw w.heap.size w W) y.o ?_;rintro W ⟨g,f,m⟩;clear y;have D:=g.2.1 0 _ rfl;have L:=f.2.1 0 _ rfl;have C:=g.2.1 1 _ rfl;have I:=f.2.1 1 _ rfl;have B:=g.2.1 2 _ rfl;have H:=f.2.1 2 _ rfl;have A:=g.2.1 3 _ rfl;have F:=f.2.1 3 _ rfl;have z:=g.2.1 4 _ rfl;have E:=f.2.1 4 _ rfl;have r:=Hm (eq_any k c c1 d x.l W (by omega) (X.o.up (up_below m)).has (s.o.up (up_below m)).has);go_wp2_with fail
 refine r.o.mono ?_;rintro e V ⟨rfl,M,p⟩;have j:Bw W.heap.size W V:=by rw[p];exact Qo bFz _
 clear p;have g:=g.keep j;have f:=f.keep j;have m:=m.trans (j.mono m.size);clear r j;have D:=g.2.1 0 _ rfl;have L:=f.2.1 0 _ rfl;have C:=g.2.1 1 _ rfl;have I:=f.2.1 1 _ rfl;have B:=g.2.1 2 _ rfl;have H:=f.2.1 2 _ rfl;have A:=g.2.1 3 _ rfl;have F:=f.2.1 3 _ rfl;have z:=g.2.1 4 _ rfl;have E:=f.2.1 4 _ rfl;have Y:=Hm m;clear m g f;go_wp2;go_ret;exact⟨rfl,Y.o⟩
theorem reIns_c (a a':Option Ad)(c c':Nat)(xs:List In)(w:J)(g:N xs<=1048576/\∀i,i<N xs->In.LB 1048576 (xs.getD i I0))(h:In.Ls 0 w a xs)(h':In.Ls 0 w a' xs):Ec Q 179 #[S a (N xs) c,S a' (N xs) c'] w λe w'=>e=Z (G true)/\Bw w.heap.size w w':=by
 obtain⟨hn,g⟩:=g;have H1:=Hm h;have H2:=Hm h';have H3:=Hm g;clear h h' g;go_enter func179,ntmps179;go_wp2;go_loopw [5] (λi wr=>∃k:Nat,k<=N xs/\i=U O k/\Bw w.heap.size w wr) (λi _=>N xs-(intOf i).toNat)
 case atStart=>exact⟨0,Kw _,rfl,bFz⟩
 obtain⟨k,hk,rfl,r⟩:=hrel;by_cases f:k<N xs
 . (have a0:(k:Int)<(N xs:Int):=by omega);rcases H1.o.up (up_below r)with I|⟨b,o,ea,_,hc⟩
   . subst I;simp at f
   rcases H2.o.up (up_below r)with I|⟨b',o',R,_,q⟩
   . subst I;simp at f
   have g1:=hc k f;have g2:=q k f;have g:=H3.o k f;subst ea R;generalize xs.getD k I0=x at g1 g2 g;obtain⟨a1,c1,⟨q0,q1,Y,X,V⟩,hi⟩:=g1;obtain⟨t,s,⟨p0,p1,p2,p3,p4⟩,n⟩:=g2;have B:=cell_regrown q0;have H:=cell_regrown p0;have A:=cell_regrown q1;have F:=cell_regrown p1;have z:=cell_regrown Y;have E:=cell_regrown p2;have y:=cell_regrown X;have D:=cell_regrown p3;have u:=cell_regrown V;have C:=cell_regrown p4;have cE:∀d os,Ec Q 237 #[Ag #[U O x.op,U O x.a,U O x.b,U Ou x.v,S a1 (N x.l) c1],Ag #[U O x.op,U O x.a,U O x.b,U Ou x.v,S t (N x.l) s]] (grow (redrawn wr d) os) λe w''=>e=Z (G true)/\∃p:Regrown,w''=grow (redrawn wr p.d) p.os:=λd os=>Tz (reIn_c x a1 c1 t s _ (hi.up (up_below (below_regrown wr d os))) (n.up (up_below (below_regrown wr d os))) g);have HB:=Hm r;have HE:=Hm cE;clear r hc q hi n g H1 H2 H3 cE q0 p0 q1 p1 Y p2 X p3 V p4;go_wp2;refine wp_region_quiet_below (by kernel_rfl) (by kernel_rfl) ?_;(repeat (quiet_step (exact HE.o _ _)));refine wpQuiet_nil ?_;intro _ M;obtain⟨⟨dq,j⟩,m⟩:=M;subst m;have L:=HB.o.trans ((below_regrown wr dq j).mono HB.o.size);clear B H A F z E y D u C;generalize grow (redrawn wr dq) j=w5 at *;show Exit.then _ _ Tn _ w5;go_wp2;(go_roundw);(case rel=>exact⟨k+1,by omega,by go_num,L⟩);case measure=>simp[intOf];omega
 go_wp2;go_ret;exact⟨rfl,r⟩
theorem reLimitss_c (a a':Option Ad)(c c':Nat)(xs:List Qd)(w:J)(g:N xs<=1048576/\∀i,i<N xs->Qd.LB 1048576 (xs.getD i Qd.z))(h:Qd.Ls 0 w a xs)(X:Qd.Ls 0 w a' xs):Ec Q 50 #[S a (N xs) c,S a' (N xs) c'] w λe w'=>e=Z (G true)/\Bw w.heap.size w w':=by
 obtain⟨hn,g⟩:=g;have H1:=Hm h;have H2:=Hm X;have H3:=Hm g;clear h X g;go_enter func50,ntmps50;go_wp2;go_loopw [5] (λi wr=>∃k:Nat,k<=N xs/\i=U O k/\Bw w.heap.size w wr) (λi _=>N xs-(intOf i).toNat)
 case atStart=>exact⟨0,Kw _,rfl,bFz⟩
 obtain⟨k,hk,rfl,q⟩:=hrel;by_cases f:k<N xs
 . (have ai:(k:Int)<(N xs:Int):=by omega);rcases H1.o.up (up_below q)with A|⟨b,o,ea,_,V⟩
   . subst A;simp at f
   rcases H2.o.up (up_below q)with A|⟨b',o',D,_,n⟩
   . subst A;simp at f
   have g1:=V k f;have Y:=n k f;have g:=H3.o k f;subst ea D;generalize xs.getD k Qd.z=x at g1 Y g;obtain⟨⟨H,F,E⟩,R⟩:=g1;obtain⟨⟨M,L,I⟩,m⟩:=Y;have t:=cell_regrown H;have y:=cell_regrown M;have s:=cell_regrown F;have v:=cell_regrown L;have r:=cell_regrown E;have u:=cell_regrown I;have cE:∀d os,Ec Q 110 #[Ag #[U O x.min,U O x.max,G x.has],Ag #[U O x.min,U O x.max,G x.has]] (grow (redrawn wr d) os) λe w''=>e=Z (G true)/\∃p:Regrown,w''=grow (redrawn wr p.d) p.os:=λd os=>Tz (reLimits_c x _ (R.up (up_below (below_regrown wr d os))) (m.up (up_below (below_regrown wr d os))) g);have HB:=Hm q;have HE:=Hm cE;clear q V n R m g H1 H2 H3 cE H M F L E I;go_wp2;refine wp_region_quiet_below (by kernel_rfl) (by kernel_rfl) ?_;(repeat (quiet_step (exact HE.o _ _)));refine wpQuiet_nil ?_;intro _ C;obtain⟨⟨dq,j⟩,l⟩:=C;subst l;have B:=HB.o.trans ((below_regrown wr dq j).mono HB.o.size);clear t y s v r u;generalize grow (redrawn wr dq) j=w5 at *;show Exit.then _ _ Tn _ w5;go_wp2;(go_roundw);(case rel=>exact⟨k+1,by omega,by go_num,B⟩);case measure=>simp[intOf];omega
 go_wp2;go_ret;exact⟨rfl,q⟩
theorem reGrps_c (a a':Option Ad)(c c':Nat)(xs:List Grp)(w:J)(g:N xs<=1048576/\∀i,i<N xs->Grp.LB 1048576 (xs.getD i Grp.z))(h:Grp.Ls 0 w a xs)(M:Grp.Ls 0 w a' xs):Ec Q 180 #[S a (N xs) c,S a' (N xs) c'] w λe w'=>e=Z (G true)/\Bw w.heap.size w w':=by
 obtain⟨hn,g⟩:=g;have H1:=Hm h;have H2:=Hm M;have H3:=Hm g;clear h M g;go_enter func180,ntmps180;go_wp2;go_loopw [5] (λi wr=>∃k:Nat,k<=N xs/\i=U O k/\Bw w.heap.size w wr) (λi _=>N xs-(intOf i).toNat)
 case atStart=>exact⟨0,Kw _,rfl,bFz⟩
 obtain⟨k,hk,rfl,r⟩:=hrel;by_cases f:k<N xs
 . (have af:(k:Int)<(N xs:Int):=by omega);rcases H1.o.up (up_below r)with y|⟨b,o,ea,_,L⟩
   . subst y;simp at f
   rcases H2.o.up (up_below r)with y|⟨b',o',C,_,q⟩
   . subst y;simp at f
   have V:=L k f;have R:=q k f;have g:=H3.o k f;subst ea C;generalize xs.getD k Grp.z=x at V R g;obtain⟨⟨E,D⟩,I⟩:=V;obtain⟨⟨H,F⟩,m⟩:=R;have t:=cell_regrown E;have v:=cell_regrown H;have s:=cell_regrown D;have u:=cell_regrown F;have Y:∀d os,Ec Q 238 #[Ag #[U O x.n,U O x.ty],Ag #[U O x.n,U O x.ty]] (grow (redrawn wr d) os) λe w''=>e=Z (G true)/\∃p:Regrown,w''=grow (redrawn wr p.d) p.os:=λd os=>Tz (reGrp_c x _ (I.up (up_below (below_regrown wr d os))) (m.up (up_below (below_regrown wr d os))) g);have HB:=Hm r;have HE:=Hm Y;clear r L q I m g H1 H2 H3 Y E H D F;go_wp2;refine wp_region_quiet_below (by kernel_rfl) (by kernel_rfl) ?_;(repeat (quiet_step (exact HE.o _ _)));refine wpQuiet_nil ?_;intro _ B;obtain⟨⟨X,j⟩,l⟩:=B;subst l;have A:=HB.o.trans ((below_regrown wr X j).mono HB.o.size);clear t v s u;generalize grow (redrawn wr X) j=w5 at *;show Exit.then _ _ Tn _ w5;go_wp2;(go_roundw);(case rel=>exact⟨k+1,by omega,by go_num,A⟩);case measure=>simp[intOf];omega
 go_wp2;go_ret;exact⟨rfl,r⟩
theorem reFType_c (x:Qc)(n:Option Ad)(c1:Nat)(m:Option Ad)(c2:Nat)(b:Option Ad)(d:Nat)(a:Option Ad)(c:Nat)(w:J)(V:Qc.Is 0 w x n m)(y:Qc.Is 0 w x b a)(R:Qc.LB 1048576 x):Ec Q 108 #[Ag #[S n (N x.ps) c1,S m (N x.rs) c2],Ag #[S b (N x.ps) d,S a (N x.rs) c]] w λe w'=>e=Z (G true)/\Bw w.heap.size w w':=by
 obtain⟨l0,l1⟩:=R;obtain⟨C,B⟩:=V;have R1:=Hm C;have Y:=Hm B;clear C B;obtain⟨q,p⟩:=y;have A:=Hm q;have z:=Hm p;clear q p;have I:Hid (Bk ((w.alloc (Fc #[S n (N x.ps) c1,S m (N x.rs) c2] 76)).alloc (Fc #[S b (N x.ps) d,S a (N x.rs) c] 76)) w.heap.size [S n (N x.ps) c1,S m (N x.rs) c2]/\Bk ((w.alloc (Fc #[S n (N x.ps) c1,S m (N x.rs) c2] 76)).alloc (Fc #[S b (N x.ps) d,S a (N x.rs) c] 76)) (w.heap.size+1) [S b (N x.ps) d,S a (N x.rs) c]/\Bw w.heap.size w ((w.alloc (Fc #[S n (N x.ps) c1,S m (N x.rs) c2] 76)).alloc (Fc #[S b (N x.ps) d,S a (N x.rs) c] 76))):=two w [S n (N x.ps) c1,S m (N x.rs) c2] [S b (N x.ps) d,S a (N x.rs) c] 76 76;go_enter func108,ntmps108;go_upto_region 1 with fail
 refine Qj (λW=>Bk W w.heap.size [S n (N x.ps) c1,S m (N x.rs) c2]/\Bk W (w.heap.size+1) [S b (N x.ps) d,S a (N x.rs) c]/\Bw w.heap.size w W) I.o ?_;rintro W ⟨j,g,f⟩;clear I;have E:=j.2.1 0 _ rfl;have H:=g.2.1 0 _ rfl;have D:=j.2.1 1 _ rfl;have F:=g.2.1 1 _ rfl;have u:=Hm (eq_any n b c1 d x.ps W (by omega) (R1.o.up (up_below f)).has (A.o.up (up_below f)).has);go_wp2_with fail
 refine u.o.mono ?_;rintro e v ⟨rfl,M,s⟩;have l:Bw W.heap.size W v:=by rw[s];exact Qo bFz _
 clear s;have j:=j.keep l;have g:=g.keep l;have f:=f.trans (l.mono f.size);clear u l;have E:=j.2.1 0 _ rfl;have H:=g.2.1 0 _ rfl;have D:=j.2.1 1 _ rfl;have F:=g.2.1 1 _ rfl;have t:=Hm (eq_any m a c2 c x.rs v (by omega) (Y.o.up (up_below f)).has (z.o.up (up_below f)).has);go_wp2_with fail
 refine t.o.mono ?_;rintro e X ⟨rfl,L,r⟩;have k:Bw v.heap.size v X:=by rw[r];exact Qo bFz _
 clear r;have j:=j.keep k;have g:=g.keep k;have f:=f.trans (k.mono f.size);clear t k;have E:=j.2.1 0 _ rfl;have H:=g.2.1 0 _ rfl;have D:=j.2.1 1 _ rfl;have F:=g.2.1 1 _ rfl;have HB:=Hm f;clear f j g;go_wp2;go_ret;exact⟨rfl,HB.o⟩
theorem reFTypes_c (a a':Option Ad)(c c':Nat)(xs:List Qc)(w:J)(g:N xs<=1048576/\∀i,i<N xs->Qc.LB 1048576 (xs.getD i Qc.z))(h:Qc.Ls 0 w a xs)(X:Qc.Ls 0 w a' xs):Ec Q 48 #[S a (N xs) c,S a' (N xs) c'] w λe w'=>e=Z (G true)/\Bw w.heap.size w w':=by
 obtain⟨hn,g⟩:=g;have H1:=Hm h;have H2:=Hm X;have H3:=Hm g;clear h X g;go_enter func48,ntmps48;go_wp2;go_loopw [5] (λi wr=>∃k:Nat,k<=N xs/\i=U O k/\Bw w.heap.size w wr) (λi _=>N xs-(intOf i).toNat)
 case atStart=>exact⟨0,Kw _,rfl,bFz⟩
 obtain⟨k,hk,rfl,q⟩:=hrel;by_cases f:k<N xs
 . (have ap:(k:Int)<(N xs:Int):=by omega);rcases H1.o.up (up_below q)with C|⟨b,o,ea,_,V⟩
   . subst C;simp at f
   rcases H2.o.up (up_below q)with C|⟨b',o',F,_,n⟩
   . subst C;simp at f
   have g1:=V k f;have Y:=n k f;have g:=H3.o k f;subst ea F;generalize xs.getD k Qc.z=x at g1 Y g;obtain⟨a1,c1,a2,c2,⟨I,H⟩,R⟩:=g1;obtain⟨u,s,t,r,⟨M,L⟩,m⟩:=Y;have y:=cell_regrown I;have B:=cell_regrown M;have v:=cell_regrown H;have A:=cell_regrown L;have cE:∀d os,Ec Q 108 #[Ag #[S a1 (N x.ps) c1,S a2 (N x.rs) c2],Ag #[S u (N x.ps) s,S t (N x.rs) r]] (grow (redrawn wr d) os) λe w''=>e=Z (G true)/\∃p:Regrown,w''=grow (redrawn wr p.d) p.os:=λd os=>Tz (reFType_c x a1 c1 a2 c2 u s t r _ (R.up (up_below (below_regrown wr d os))) (m.up (up_below (below_regrown wr d os))) g);have HB:=Hm q;have HE:=Hm cE;clear q V n R m g H1 H2 H3 cE I M H L;go_wp2;refine wp_region_quiet_below (by kernel_rfl) (by kernel_rfl) ?_;(repeat (quiet_step (exact HE.o _ _)));refine wpQuiet_nil ?_;intro _ E;obtain⟨⟨dq,j⟩,l⟩:=E;subst l;have D:=HB.o.trans ((below_regrown wr dq j).mono HB.o.size);clear y B v A;generalize grow (redrawn wr dq) j=w5 at *;show Exit.then _ _ Tn _ w5;go_wp2;(go_roundw);(case rel=>exact⟨k+1,by omega,by go_num,D⟩);case measure=>simp[intOf];omega
 go_wp2;go_ret;exact⟨rfl,q⟩
theorem reImp_c (x:Imp)(w:J)(X:Imp.Is 0 w x)(I:Imp.Is 0 w x)(H:Imp.LB 1048576 x):Ec Q 109 #[Ag #[Xs x.mod,Xs x.nm,U O x.kind,U O x.ty,U O x.lim.min,U O x.lim.max,G x.lim.has,U O x.gl.ty,G x.gl.mu],Ag #[Xs x.mod,Xs x.nm,U O x.kind,U O x.ty,U O x.lim.min,U O x.lim.max,G x.lim.has,U O x.gl.ty,G x.gl.mu]] w λe w'=>e=Z (G true)/\Bw w.heap.size w w':=by
 obtain⟨V,R⟩:=H;have F:Hid (Bk ((w.alloc (Fc #[Xs x.mod,Xs x.nm,U O x.kind,U O x.ty,U O x.lim.min,U O x.lim.max,G x.lim.has,U O x.gl.ty,G x.gl.mu] 178)).alloc (Fc #[Xs x.mod,Xs x.nm,U O x.kind,U O x.ty,U O x.lim.min,U O x.lim.max,G x.lim.has,U O x.gl.ty,G x.gl.mu] 178)) w.heap.size [Xs x.mod,Xs x.nm,U O x.kind,U O x.ty,U O x.lim.min,U O x.lim.max,G x.lim.has,U O x.gl.ty,G x.gl.mu]/\Bk ((w.alloc (Fc #[Xs x.mod,Xs x.nm,U O x.kind,U O x.ty,U O x.lim.min,U O x.lim.max,G x.lim.has,U O x.gl.ty,G x.gl.mu] 178)).alloc (Fc #[Xs x.mod,Xs x.nm,U O x.kind,U O x.ty,U O x.lim.min,U O x.lim.max,G x.lim.has,U O x.gl.ty,G x.gl.mu] 178)) (w.heap.size+1) [Xs x.mod,Xs x.nm,U O x.kind,U O x.ty,U O x.lim.min,U O x.lim.max,G x.lim.has,U O x.gl.ty,G x.gl.mu]/\Bw w.heap.size w ((w.alloc (Fc #[Xs x.mod,Xs x.nm,U O x.kind,U O x.ty,U O x.lim.min,U O x.lim.max,G x.lim.has,U O x.gl.ty,G x.gl.mu] 178)).alloc (Fc #[Xs x.mod,Xs x.nm,U O x.kind,U O x.ty,U O x.lim.min,U O x.lim.max,G x.lim.has,U O x.gl.ty,G x.gl.mu] 178))):=two w [Xs x.mod,Xs x.nm,U O x.kind,U O x.ty,U O x.lim.min,U O x.lim.max,G x.lim.has,U O x.gl.ty,G x.gl.mu] [Xs x.mod,Xs x.nm,U O x.kind,U O x.ty,U O x.lim.min,U O x.lim.max,G x.lim.has,U O x.gl.ty,G x.gl.mu] 178 178;go_enter func109,ntmps109;go_upto_region 1 with fail
 refine Qj (λW=>Bk W w.heap.size [Xs x.mod,Xs x.nm,U O x.kind,U O x.ty,U O x.lim.min,U O x.lim.max,G x.lim.has,U O x.gl.ty,G x.gl.mu]/\Bk W (w.heap.size+1) [Xs x.mod,Xs x.nm,U O x.kind,U O x.ty,U O x.lim.min,U O x.lim.max,G x.lim.has,U O x.gl.ty,G x.gl.mu]/\Bw w.heap.size w W) F.o ?_;rintro W ⟨b,a,f⟩;clear F;have t:=b.2.1 0 _ rfl;have E:=a.2.1 0 _ rfl;have s:=b.2.1 1 _ rfl;have D:=a.2.1 1 _ rfl;have r:=b.2.1 2 _ rfl;have C:=a.2.1 2 _ rfl;have q:=b.2.1 3 _ rfl;have B:=a.2.1 3 _ rfl;have p:=b.2.1 4 _ rfl;have A:=a.2.1 4 _ rfl;have n:=b.2.1 5 _ rfl;have z:=a.2.1 5 _ rfl;have m:=b.2.1 6 _ rfl;have y:=a.2.1 6 _ rfl;have l:=b.2.1 7 _ rfl;have v:=a.2.1 7 _ rfl;have k:=b.2.1 8 _ rfl;have u:=a.2.1 8 _ rfl;have j:=Hm (reLimits_c x.lim W trivial trivial trivial);go_wp2_with fail
 refine j.o.mono ?_;rintro e L ⟨rfl,d⟩;have b:=b.keep d;have a:=a.keep d;have f:=f.trans (d.mono f.size);clear j d;have t:=b.2.1 0 _ rfl;have E:=a.2.1 0 _ rfl;have s:=b.2.1 1 _ rfl;have D:=a.2.1 1 _ rfl;have r:=b.2.1 2 _ rfl;have C:=a.2.1 2 _ rfl;have q:=b.2.1 3 _ rfl;have B:=a.2.1 3 _ rfl;have p:=b.2.1 4 _ rfl;have A:=a.2.1 4 _ rfl;have n:=b.2.1 5 _ rfl;have z:=a.2.1 5 _ rfl;have m:=b.2.1 6 _ rfl;have y:=a.2.1 6 _ rfl;have l:=b.2.1 7 _ rfl;have v:=a.2.1 7 _ rfl;have k:=b.2.1 8 _ rfl;have u:=a.2.1 8 _ rfl;have g:=Hm (reGType_c x.gl L trivial trivial trivial);go_wp2_with fail
 refine g.o.mono ?_;rintro e Y ⟨rfl,c⟩;have b:=b.keep c;have a:=a.keep c;have f:=f.trans (c.mono f.size);clear g c;have t:=b.2.1 0 _ rfl;have E:=a.2.1 0 _ rfl;have s:=b.2.1 1 _ rfl;have D:=a.2.1 1 _ rfl;have r:=b.2.1 2 _ rfl;have C:=a.2.1 2 _ rfl;have q:=b.2.1 3 _ rfl;have B:=a.2.1 3 _ rfl;have p:=b.2.1 4 _ rfl;have A:=a.2.1 4 _ rfl;have n:=b.2.1 5 _ rfl;have z:=a.2.1 5 _ rfl;have m:=b.2.1 6 _ rfl;have y:=a.2.1 6 _ rfl;have l:=b.2.1 7 _ rfl;have v:=a.2.1 7 _ rfl;have k:=b.2.1 8 _ rfl;have u:=a.2.1 8 _ rfl;have M:=Hm f;clear f b a;go_wp2;go_ret;exact⟨rfl,M.o⟩
theorem reImps_c (a a':Option Ad)(c c':Nat)(xs:List Imp)(w:J)(g:N xs<=1048576/\∀i,i<N xs->Imp.LB 1048576 (xs.getD i Imp.z))(h:Imp.Ls 0 w a xs)(h':Imp.Ls 0 w a' xs):Ec Q 49 #[S a (N xs) c,S a' (N xs) c'] w λe w'=>e=Z (G true)/\Bw w.heap.size w w':=by
 obtain⟨hn,g⟩:=g;have H1:=Hm h;have H2:=Hm h';have H3:=Hm g;clear h h' g;go_enter func49,ntmps49;go_wp2;go_loopw [5] (λi wr=>∃k:Nat,k<=N xs/\i=U O k/\Bw w.heap.size w wr) (λi _=>N xs-(intOf i).toNat)
 case atStart=>exact⟨0,Kw _,rfl,bFz⟩
 obtain⟨k,hk,rfl,q⟩:=hrel;by_cases f:k<N xs
 . (have bb:(k:Int)<(N xs:Int):=by omega);rcases H1.o.up (up_below q)with X|⟨b,o,ea,_,hc⟩
   . subst X;simp at f
   rcases H2.o.up (up_below q)with X|⟨b',o',ab,_,n⟩
   . subst X;simp at f
   have g1:=hc k f;have g2:=n k f;have g:=H3.o k f;subst ea ab;generalize xs.getD k Imp.z=x at g1 g2 g;obtain⟨⟨q0,q1,q2,q3,q4,q5,q6,q7,q8⟩,hi⟩:=g1;obtain⟨⟨p0,p1,p2,p3,p4,p5,p6,p7,p8⟩,m⟩:=g2;have C:=cell_regrown q0;have V:=cell_regrown p0;have B:=cell_regrown q1;have R:=cell_regrown p1;have A:=cell_regrown q2;have M:=cell_regrown p2;have y:=cell_regrown q3;have L:=cell_regrown p3;have v:=cell_regrown q4;have I:=cell_regrown p4;have u:=cell_regrown q5;have H:=cell_regrown p5;have t:=cell_regrown q6;have F:=cell_regrown p6;have s:=cell_regrown q7;have E:=cell_regrown p7;have r:=cell_regrown q8;have D:=cell_regrown p8;have cE:∀d os,Ec Q 109 #[Ag #[Xs x.mod,Xs x.nm,U O x.kind,U O x.ty,U O x.lim.min,U O x.lim.max,G x.lim.has,U O x.gl.ty,G x.gl.mu],Ag #[Xs x.mod,Xs x.nm,U O x.kind,U O x.ty,U O x.lim.min,U O x.lim.max,G x.lim.has,U O x.gl.ty,G x.gl.mu]] (grow (redrawn wr d) os) λe w''=>e=Z (G true)/\∃p:Regrown,w''=grow (redrawn wr p.d) p.os:=λd os=>Tz (reImp_c x _ (hi.up (up_below (below_regrown wr d os))) (m.up (up_below (below_regrown wr d os))) g);have HB:=Hm q;have HE:=Hm cE;clear q hc n hi m g H1 H2 H3 cE q0 p0 q1 p1 q2 p2 q3 p3 q4 p4 q5 p5 q6 p6 q7 p7 q8 p8;go_wp2;refine wp_region_quiet_below (by kernel_rfl) (by kernel_rfl) ?_;(repeat (quiet_step (exact HE.o _ _)));refine wpQuiet_nil ?_;intro _ aa;obtain⟨⟨dq,j⟩,l⟩:=aa;subst l;have Y:=HB.o.trans ((below_regrown wr dq j).mono HB.o.size);clear C V B R A M y L v I u H t F s E r D;generalize grow (redrawn wr dq) j=w5 at *;show Exit.then _ _ Tn _ w5;go_wp2;(go_roundw);(case rel=>exact⟨k+1,by omega,by go_num,Y⟩);case measure=>simp[intOf];omega
 go_wp2;go_ret;exact⟨rfl,q⟩
theorem reExp_c (x:Exp)(w:J)(r:Exp.Is 0 w x)(f:Exp.Is 0 w x)(q:Exp.LB 1048576 x):Ec Q 112 #[Ag #[Xs x.nm,U O x.kind,U O x.ix],Ag #[Xs x.nm,U O x.kind,U O x.ix]] w λe w'=>e=Z (G true)/\Bw w.heap.size w w':=by
 have d:Hid (Bk ((w.alloc (Fc #[Xs x.nm,U O x.kind,U O x.ix] 192)).alloc (Fc #[Xs x.nm,U O x.kind,U O x.ix] 192)) w.heap.size [Xs x.nm,U O x.kind,U O x.ix]/\Bk ((w.alloc (Fc #[Xs x.nm,U O x.kind,U O x.ix] 192)).alloc (Fc #[Xs x.nm,U O x.kind,U O x.ix] 192)) (w.heap.size+1) [Xs x.nm,U O x.kind,U O x.ix]/\Bw w.heap.size w ((w.alloc (Fc #[Xs x.nm,U O x.kind,U O x.ix] 192)).alloc (Fc #[Xs x.nm,U O x.kind,U O x.ix] 192))):=two w [Xs x.nm,U O x.kind,U O x.ix] [Xs x.nm,U O x.kind,U O x.ix] 192 192;go_enter func112,ntmps112;go_upto_region 1 with fail
 refine Qj (λW=>Bk W w.heap.size [Xs x.nm,U O x.kind,U O x.ix]/\Bk W (w.heap.size+1) [Xs x.nm,U O x.kind,U O x.ix]/\Bw w.heap.size w W) d.o ?_;rintro W ⟨b,a,c⟩;clear d;have l:=b.2.1 0 _ rfl;have p:=a.2.1 0 _ rfl;have k:=b.2.1 1 _ rfl;have n:=a.2.1 1 _ rfl;have j:=b.2.1 2 _ rfl;have m:=a.2.1 2 _ rfl;have g:=Hm c;clear c b a;go_wp2;go_ret;exact⟨rfl,g.o⟩
theorem reExps_c (a a':Option Ad)(c c':Nat)(xs:List Exp)(w:J)(g:N xs<=1048576/\∀i,i<N xs->Exp.LB 1048576 (xs.getD i Exp.z))(h:Exp.Ls 0 w a xs)(X:Exp.Ls 0 w a' xs):Ec Q 52 #[S a (N xs) c,S a' (N xs) c'] w λe w'=>e=Z (G true)/\Bw w.heap.size w w':=by
 obtain⟨hn,g⟩:=g;have H1:=Hm h;have H2:=Hm X;have H3:=Hm g;clear h X g;go_enter func52,ntmps52;go_wp2;go_loopw [5] (λi wr=>∃k:Nat,k<=N xs/\i=U O k/\Bw w.heap.size w wr) (λi _=>N xs-(intOf i).toNat)
 case atStart=>exact⟨0,Kw _,rfl,bFz⟩
 obtain⟨k,hk,rfl,q⟩:=hrel;by_cases f:k<N xs
 . (have ai:(k:Int)<(N xs:Int):=by omega);rcases H1.o.up (up_below q)with A|⟨b,o,ea,_,V⟩
   . subst A;simp at f
   rcases H2.o.up (up_below q)with A|⟨b',o',D,_,n⟩
   . subst A;simp at f
   have g1:=V k f;have Y:=n k f;have g:=H3.o k f;subst ea D;generalize xs.getD k Exp.z=x at g1 Y g;obtain⟨⟨H,F,E⟩,R⟩:=g1;obtain⟨⟨M,L,I⟩,m⟩:=Y;have t:=cell_regrown H;have y:=cell_regrown M;have s:=cell_regrown F;have v:=cell_regrown L;have r:=cell_regrown E;have u:=cell_regrown I;have cE:∀d os,Ec Q 112 #[Ag #[Xs x.nm,U O x.kind,U O x.ix],Ag #[Xs x.nm,U O x.kind,U O x.ix]] (grow (redrawn wr d) os) λe w''=>e=Z (G true)/\∃p:Regrown,w''=grow (redrawn wr p.d) p.os:=λd os=>Tz (reExp_c x _ (R.up (up_below (below_regrown wr d os))) (m.up (up_below (below_regrown wr d os))) g);have HB:=Hm q;have HE:=Hm cE;clear q V n R m g H1 H2 H3 cE H M F L E I;go_wp2;refine wp_region_quiet_below (by kernel_rfl) (by kernel_rfl) ?_;(repeat (quiet_step (exact HE.o _ _)));refine wpQuiet_nil ?_;intro _ C;obtain⟨⟨dq,j⟩,l⟩:=C;subst l;have B:=HB.o.trans ((below_regrown wr dq j).mono HB.o.size);clear t y s v r u;generalize grow (redrawn wr dq) j=w5 at *;show Exit.then _ _ Tn _ w5;go_wp2;(go_roundw);(case rel=>exact⟨k+1,by omega,by go_num,B⟩);case measure=>simp[intOf];omega
 go_wp2;go_ret;exact⟨rfl,q⟩
theorem reGlob_c (x:Qm)(k:Option Ad)(c1:Nat)(a:Option Ad)(b:Nat)(w:J)(A:Qm.Is 0 w x k)(m:Qm.Is 0 w x a)(D:Qm.LB 1048576 x):Ec Q 111 #[Ag #[U O x.ty.ty,G x.ty.mu,S k (N x.ini) c1],Ag #[U O x.ty.ty,G x.ty.mu,S a (N x.ini) b]] w λe w'=>e=Z (G true)/\Bw w.heap.size w w':=by
 have C:=D;have r:=A;clear A;have F:=Hm r;clear r;have l:=m;clear m;have q:=Hm l;clear l;have B:Hid (Bk ((w.alloc (Fc #[U O x.ty.ty,G x.ty.mu,S k (N x.ini) c1] 180)).alloc (Fc #[U O x.ty.ty,G x.ty.mu,S a (N x.ini) b] 180)) w.heap.size [U O x.ty.ty,G x.ty.mu,S k (N x.ini) c1]/\Bk ((w.alloc (Fc #[U O x.ty.ty,G x.ty.mu,S k (N x.ini) c1] 180)).alloc (Fc #[U O x.ty.ty,G x.ty.mu,S a (N x.ini) b] 180)) (w.heap.size+1) [U O x.ty.ty,G x.ty.mu,S a (N x.ini) b]/\Bw w.heap.size w ((w.alloc (Fc #[U O x.ty.ty,G x.ty.mu,S k (N x.ini) c1] 180)).alloc (Fc #[U O x.ty.ty,G x.ty.mu,S a (N x.ini) b] 180))):=two w [U O x.ty.ty,G x.ty.mu,S k (N x.ini) c1] [U O x.ty.ty,G x.ty.mu,S a (N x.ini) b] 180 180;go_enter func111,ntmps111;go_upto_region 1 with fail
 refine Qj (λW=>Bk W w.heap.size [U O x.ty.ty,G x.ty.mu,S k (N x.ini) c1]/\Bk W (w.heap.size+1) [U O x.ty.ty,G x.ty.mu,S a (N x.ini) b]/\Bw w.heap.size w W) B.o ?_;rintro W ⟨d,c,f⟩;clear B;have u:=d.2.1 0 _ rfl;have z:=c.2.1 0 _ rfl;have t:=d.2.1 1 _ rfl;have y:=c.2.1 1 _ rfl;have s:=d.2.1 2 _ rfl;have v:=c.2.1 2 _ rfl;have p:=Hm (reGType_c x.ty W trivial trivial trivial);go_wp2_with fail
 refine p.o.mono ?_;rintro e E ⟨rfl,j⟩;have d:=d.keep j;have c:=c.keep j;have f:=f.trans (j.mono f.size);clear p j;have u:=d.2.1 0 _ rfl;have z:=c.2.1 0 _ rfl;have t:=d.2.1 1 _ rfl;have y:=c.2.1 1 _ rfl;have s:=d.2.1 2 _ rfl;have v:=c.2.1 2 _ rfl;have n:=Hm (reIns_c k a c1 b x.ini E C (F.o.up (up_below f)) (q.o.up (up_below f)));go_wp2_with fail
 refine n.o.mono ?_;rintro e I ⟨rfl,g⟩;have d:=d.keep g;have c:=c.keep g;have f:=f.trans (g.mono f.size);clear n g;have u:=d.2.1 0 _ rfl;have z:=c.2.1 0 _ rfl;have t:=d.2.1 1 _ rfl;have y:=c.2.1 1 _ rfl;have s:=d.2.1 2 _ rfl;have v:=c.2.1 2 _ rfl;have H:=Hm f;clear f d c;go_wp2;go_ret;exact⟨rfl,H.o⟩
theorem reGlobs_c (a a':Option Ad)(c c':Nat)(xs:List Qm)(w:J)(g:N xs<=1048576/\∀i,i<N xs->Qm.LB 1048576 (xs.getD i Qm.z))(h:Qm.Ls 0 w a xs)(h':Qm.Ls 0 w a' xs):Ec Q 51 #[S a (N xs) c,S a' (N xs) c'] w λe w'=>e=Z (G true)/\Bw w.heap.size w w':=by
 obtain⟨hn,g⟩:=g;have H1:=Hm h;have H2:=Hm h';have H3:=Hm g;clear h h' g;go_enter func51,ntmps51;go_wp2;go_loopw [5] (λi wr=>∃k:Nat,k<=N xs/\i=U O k/\Bw w.heap.size w wr) (λi _=>N xs-(intOf i).toNat)
 case atStart=>exact⟨0,Kw _,rfl,bFz⟩
 obtain⟨k,hk,rfl,q⟩:=hrel;by_cases f:k<N xs
 . (have ap:(k:Int)<(N xs:Int):=by omega);rcases H1.o.up (up_below q)with C|⟨b,o,ea,_,Y⟩
   . subst C;simp at f
   rcases H2.o.up (up_below q)with C|⟨b',o',F,_,n⟩
   . subst C;simp at f
   have g1:=Y k f;have g2:=n k f;have g:=H3.o k f;subst ea F;generalize xs.getD k Qm.z=x at g1 g2 g;obtain⟨a1,c1,⟨L,I,H⟩,X⟩:=g1;obtain⟨s,r,⟨V,R,M⟩,m⟩:=g2;have v:=cell_regrown L;have B:=cell_regrown V;have u:=cell_regrown I;have A:=cell_regrown R;have t:=cell_regrown H;have y:=cell_regrown M;have cE:∀d os,Ec Q 111 #[Ag #[U O x.ty.ty,G x.ty.mu,S a1 (N x.ini) c1],Ag #[U O x.ty.ty,G x.ty.mu,S s (N x.ini) r]] (grow (redrawn wr d) os) λe w''=>e=Z (G true)/\∃p:Regrown,w''=grow (redrawn wr p.d) p.os:=λd os=>Tz (reGlob_c x a1 c1 s r _ (X.up (up_below (below_regrown wr d os))) (m.up (up_below (below_regrown wr d os))) g);have HB:=Hm q;have HE:=Hm cE;clear q Y n X m g H1 H2 H3 cE L V I R H M;go_wp2;refine wp_region_quiet_below (by kernel_rfl) (by kernel_rfl) ?_;(repeat (quiet_step (exact HE.o _ _)));refine wpQuiet_nil ?_;intro _ E;obtain⟨⟨dq,j⟩,l⟩:=E;subst l;have D:=HB.o.trans ((below_regrown wr dq j).mono HB.o.size);clear v B u A t y;generalize grow (redrawn wr dq) j=w5 at *;show Exit.then _ _ Tn _ w5;go_wp2;(go_roundw);(case rel=>exact⟨k+1,by omega,by go_num,D⟩);case measure=>simp[intOf];omega
 go_wp2;go_ret;exact⟨rfl,q⟩
theorem reEle_c (x:Ele)(n:Option Ad)(c1:Nat)(m:Option Ad)(c2:Nat)(b:Option Ad)(d:Nat)(a:Option Ad)(c:Nat)(w:J)(R:Ele.Is 0 w x n m)(u:Ele.Is 0 w x b a)(M:Ele.LB 1048576 x):Ec Q 113 #[Ag #[S n (N x.off) c1,S m (N x.fs) c2],Ag #[S b (N x.off) d,S a (N x.fs) c]] w λe w'=>e=Z (G true)/\Bw w.heap.size w w':=by
 obtain⟨L,l1⟩:=M;obtain⟨B,A⟩:=R;have Y:=Hm B;have X:=Hm A;clear B A;obtain⟨q,p⟩:=u;have z:=Hm q;have y:=Hm p;clear q p;have H:Hid (Bk ((w.alloc (Fc #[S n (N x.off) c1,S m (N x.fs) c2] 195)).alloc (Fc #[S b (N x.off) d,S a (N x.fs) c] 195)) w.heap.size [S n (N x.off) c1,S m (N x.fs) c2]/\Bk ((w.alloc (Fc #[S n (N x.off) c1,S m (N x.fs) c2] 195)).alloc (Fc #[S b (N x.off) d,S a (N x.fs) c] 195)) (w.heap.size+1) [S b (N x.off) d,S a (N x.fs) c]/\Bw w.heap.size w ((w.alloc (Fc #[S n (N x.off) c1,S m (N x.fs) c2] 195)).alloc (Fc #[S b (N x.off) d,S a (N x.fs) c] 195))):=two w [S n (N x.off) c1,S m (N x.fs) c2] [S b (N x.off) d,S a (N x.fs) c] 195 195;go_enter func113,ntmps113;go_upto_region 1 with fail
 refine Qj (λW=>Bk W w.heap.size [S n (N x.off) c1,S m (N x.fs) c2]/\Bk W (w.heap.size+1) [S b (N x.off) d,S a (N x.fs) c]/\Bw w.heap.size w W) H.o ?_;rintro W ⟨j,g,f⟩;clear H;have D:=j.2.1 0 _ rfl;have F:=g.2.1 0 _ rfl;have C:=j.2.1 1 _ rfl;have E:=g.2.1 1 _ rfl;have t:=Hm (reIns_c n b c1 d x.off W L (Y.o.up (up_below f)) (z.o.up (up_below f)));go_wp2_with fail
 refine t.o.mono ?_;rintro e v ⟨rfl,l⟩;have j:=j.keep l;have g:=g.keep l;have f:=f.trans (l.mono f.size);clear t l;have D:=j.2.1 0 _ rfl;have F:=g.2.1 0 _ rfl;have C:=j.2.1 1 _ rfl;have E:=g.2.1 1 _ rfl;have s:=Hm (eq_any m a c2 c x.fs v (by omega) (X.o.up (up_below f)).has (y.o.up (up_below f)).has);go_wp2_with fail
 refine s.o.mono ?_;rintro e V ⟨rfl,I,r⟩;have k:Bw v.heap.size v V:=by rw[r];exact Qo bFz _
 clear r;have j:=j.keep k;have g:=g.keep k;have f:=f.trans (k.mono f.size);clear s k;have D:=j.2.1 0 _ rfl;have F:=g.2.1 0 _ rfl;have C:=j.2.1 1 _ rfl;have E:=g.2.1 1 _ rfl;have HB:=Hm f;clear f j g;go_wp2;go_ret;exact⟨rfl,HB.o⟩
theorem reEles_c (a a':Option Ad)(c c':Nat)(xs:List Ele)(w:J)(g:N xs<=1048576/\∀i,i<N xs->Ele.LB 1048576 (xs.getD i Ele.z))(h:Ele.Ls 0 w a xs)(X:Ele.Ls 0 w a' xs):Ec Q 53 #[S a (N xs) c,S a' (N xs) c'] w λe w'=>e=Z (G true)/\Bw w.heap.size w w':=by
 obtain⟨hn,g⟩:=g;have H1:=Hm h;have H2:=Hm X;have H3:=Hm g;clear h X g;go_enter func53,ntmps53;go_wp2;go_loopw [5] (λi wr=>∃k:Nat,k<=N xs/\i=U O k/\Bw w.heap.size w wr) (λi _=>N xs-(intOf i).toNat)
 case atStart=>exact⟨0,Kw _,rfl,bFz⟩
 obtain⟨k,hk,rfl,q⟩:=hrel;by_cases f:k<N xs
 . (have ap:(k:Int)<(N xs:Int):=by omega);rcases H1.o.up (up_below q)with C|⟨b,o,ea,_,V⟩
   . subst C;simp at f
   rcases H2.o.up (up_below q)with C|⟨b',o',F,_,n⟩
   . subst C;simp at f
   have g1:=V k f;have Y:=n k f;have g:=H3.o k f;subst ea F;generalize xs.getD k Ele.z=x at g1 Y g;obtain⟨a1,c1,a2,c2,⟨I,H⟩,R⟩:=g1;obtain⟨u,s,t,r,⟨M,L⟩,m⟩:=Y;have y:=cell_regrown I;have B:=cell_regrown M;have v:=cell_regrown H;have A:=cell_regrown L;have cE:∀d os,Ec Q 113 #[Ag #[S a1 (N x.off) c1,S a2 (N x.fs) c2],Ag #[S u (N x.off) s,S t (N x.fs) r]] (grow (redrawn wr d) os) λe w''=>e=Z (G true)/\∃p:Regrown,w''=grow (redrawn wr p.d) p.os:=λd os=>Tz (reEle_c x a1 c1 a2 c2 u s t r _ (R.up (up_below (below_regrown wr d os))) (m.up (up_below (below_regrown wr d os))) g);have HB:=Hm q;have HE:=Hm cE;clear q V n R m g H1 H2 H3 cE I M H L;go_wp2;refine wp_region_quiet_below (by kernel_rfl) (by kernel_rfl) ?_;(repeat (quiet_step (exact HE.o _ _)));refine wpQuiet_nil ?_;intro _ E;obtain⟨⟨dq,j⟩,l⟩:=E;subst l;have D:=HB.o.trans ((below_regrown wr dq j).mono HB.o.size);clear y B v A;generalize grow (redrawn wr dq) j=w5 at *;show Exit.then _ _ Tn _ w5;go_wp2;(go_roundw);(case rel=>exact⟨k+1,by omega,by go_num,D⟩);case measure=>simp[intOf];omega
 go_wp2;go_ret;exact⟨rfl,q⟩
theorem reCod_c (x:Cod)(n:Option Ad)(c1:Nat)(m:Option Ad)(c2:Nat)(b:Option Ad)(d:Nat)(a:Option Ad)(c:Nat)(w:J)(L:Cod.Is 0 w x n m)(t:Cod.Is 0 w x b a)(I:Cod.LB 1048576 x):Ec Q 114 #[Ag #[S n (N x.gq) c1,S m (N x.body) c2],Ag #[S b (N x.gq) d,S a (N x.body) c]] w λe w'=>e=Z (G true)/\Bw w.heap.size w w':=by
 obtain⟨H,F⟩:=I;obtain⟨z,y⟩:=L;have V:=Hm z;have R:=Hm y;clear z y;obtain⟨q,p⟩:=t;have v:=Hm q;have u:=Hm p;clear q p;have E:Hid (Bk ((w.alloc (Fc #[S n (N x.gq) c1,S m (N x.body) c2] 72)).alloc (Fc #[S b (N x.gq) d,S a (N x.body) c] 72)) w.heap.size [S n (N x.gq) c1,S m (N x.body) c2]/\Bk ((w.alloc (Fc #[S n (N x.gq) c1,S m (N x.body) c2] 72)).alloc (Fc #[S b (N x.gq) d,S a (N x.body) c] 72)) (w.heap.size+1) [S b (N x.gq) d,S a (N x.body) c]/\Bw w.heap.size w ((w.alloc (Fc #[S n (N x.gq) c1,S m (N x.body) c2] 72)).alloc (Fc #[S b (N x.gq) d,S a (N x.body) c] 72))):=two w [S n (N x.gq) c1,S m (N x.body) c2] [S b (N x.gq) d,S a (N x.body) c] 72 72;go_enter func114,ntmps114;go_upto_region 1 with fail
 refine Qj (λW=>Bk W w.heap.size [S n (N x.gq) c1,S m (N x.body) c2]/\Bk W (w.heap.size+1) [S b (N x.gq) d,S a (N x.body) c]/\Bw w.heap.size w W) E.o ?_;rintro W ⟨j,g,f⟩;clear E;have B:=j.2.1 0 _ rfl;have D:=g.2.1 0 _ rfl;have A:=j.2.1 1 _ rfl;have C:=g.2.1 1 _ rfl;have s:=Hm (reGrps_c n b c1 d x.gq W H (V.o.up (up_below f)) (v.o.up (up_below f)));go_wp2_with fail
 refine s.o.mono ?_;rintro e M ⟨rfl,l⟩;have j:=j.keep l;have g:=g.keep l;have f:=f.trans (l.mono f.size);clear s l;have B:=j.2.1 0 _ rfl;have D:=g.2.1 0 _ rfl;have A:=j.2.1 1 _ rfl;have C:=g.2.1 1 _ rfl;have r:=Hm (reIns_c m a c2 c x.body M F (R.o.up (up_below f)) (u.o.up (up_below f)));go_wp2_with fail
 refine r.o.mono ?_;rintro e Y ⟨rfl,k⟩;have j:=j.keep k;have g:=g.keep k;have f:=f.trans (k.mono f.size);clear r k;have B:=j.2.1 0 _ rfl;have D:=g.2.1 0 _ rfl;have A:=j.2.1 1 _ rfl;have C:=g.2.1 1 _ rfl;have X:=Hm f;clear f j g;go_wp2;go_ret;exact⟨rfl,X.o⟩
theorem reCods_c (a a':Option Ad)(c c':Nat)(xs:List Cod)(w:J)(g:N xs<=1048576/\∀i,i<N xs->Cod.LB 1048576 (xs.getD i Cod.z))(h:Cod.Ls 0 w a xs)(X:Cod.Ls 0 w a' xs):Ec Q 54 #[S a (N xs) c,S a' (N xs) c'] w λe w'=>e=Z (G true)/\Bw w.heap.size w w':=by
 obtain⟨hn,g⟩:=g;have H1:=Hm h;have H2:=Hm X;have H3:=Hm g;clear h X g;go_enter func54,ntmps54;go_wp2;go_loopw [5] (λi wr=>∃k:Nat,k<=N xs/\i=U O k/\Bw w.heap.size w wr) (λi _=>N xs-(intOf i).toNat)
 case atStart=>exact⟨0,Kw _,rfl,bFz⟩
 obtain⟨k,hk,rfl,q⟩:=hrel;by_cases f:k<N xs
 . (have ap:(k:Int)<(N xs:Int):=by omega);rcases H1.o.up (up_below q)with C|⟨b,o,ea,_,V⟩
   . subst C;simp at f
   rcases H2.o.up (up_below q)with C|⟨b',o',F,_,n⟩
   . subst C;simp at f
   have g1:=V k f;have Y:=n k f;have g:=H3.o k f;subst ea F;generalize xs.getD k Cod.z=x at g1 Y g;obtain⟨a1,c1,a2,c2,⟨I,H⟩,R⟩:=g1;obtain⟨u,s,t,r,⟨M,L⟩,m⟩:=Y;have y:=cell_regrown I;have B:=cell_regrown M;have v:=cell_regrown H;have A:=cell_regrown L;have cE:∀d os,Ec Q 114 #[Ag #[S a1 (N x.gq) c1,S a2 (N x.body) c2],Ag #[S u (N x.gq) s,S t (N x.body) r]] (grow (redrawn wr d) os) λe w''=>e=Z (G true)/\∃p:Regrown,w''=grow (redrawn wr p.d) p.os:=λd os=>Tz (reCod_c x a1 c1 a2 c2 u s t r _ (R.up (up_below (below_regrown wr d os))) (m.up (up_below (below_regrown wr d os))) g);have HB:=Hm q;have HE:=Hm cE;clear q V n R m g H1 H2 H3 cE I M H L;go_wp2;refine wp_region_quiet_below (by kernel_rfl) (by kernel_rfl) ?_;(repeat (quiet_step (exact HE.o _ _)));refine wpQuiet_nil ?_;intro _ E;obtain⟨⟨dq,j⟩,l⟩:=E;subst l;have D:=HB.o.trans ((below_regrown wr dq j).mono HB.o.size);clear y B v A;generalize grow (redrawn wr dq) j=w5 at *;show Exit.then _ _ Tn _ w5;go_wp2;(go_roundw);(case rel=>exact⟨k+1,by omega,by go_num,D⟩);case measure=>simp[intOf];omega
 go_wp2;go_ret;exact⟨rfl,q⟩
theorem reDat_c (x:Dat)(n:Option Ad)(c1:Nat)(m:Option Ad)(c2:Nat)(b:Option Ad)(d:Nat)(a:Option Ad)(c:Nat)(w:J)(R:Dat.Is 0 w x n m)(u:Dat.Is 0 w x b a)(M:Dat.LB 1048576 x):Ec Q 115 #[Ag #[S n (N x.off) c1,S m (N x.bs) c2],Ag #[S b (N x.off) d,S a (N x.bs) c]] w λe w'=>e=Z (G true)/\Bw w.heap.size w w':=by
 obtain⟨L,l1⟩:=M;obtain⟨B,A⟩:=R;have Y:=Hm B;have X:=Hm A;clear B A;obtain⟨q,p⟩:=u;have z:=Hm q;have y:=Hm p;clear q p;have H:Hid (Bk ((w.alloc (Fc #[S n (N x.off) c1,S m (N x.bs) c2] 199)).alloc (Fc #[S b (N x.off) d,S a (N x.bs) c] 199)) w.heap.size [S n (N x.off) c1,S m (N x.bs) c2]/\Bk ((w.alloc (Fc #[S n (N x.off) c1,S m (N x.bs) c2] 199)).alloc (Fc #[S b (N x.off) d,S a (N x.bs) c] 199)) (w.heap.size+1) [S b (N x.off) d,S a (N x.bs) c]/\Bw w.heap.size w ((w.alloc (Fc #[S n (N x.off) c1,S m (N x.bs) c2] 199)).alloc (Fc #[S b (N x.off) d,S a (N x.bs) c] 199))):=two w [S n (N x.off) c1,S m (N x.bs) c2] [S b (N x.off) d,S a (N x.bs) c] 199 199;go_enter func115,ntmps115;go_upto_region 1 with fail
 refine Qj (λW=>Bk W w.heap.size [S n (N x.off) c1,S m (N x.bs) c2]/\Bk W (w.heap.size+1) [S b (N x.off) d,S a (N x.bs) c]/\Bw w.heap.size w W) H.o ?_;rintro W ⟨j,g,f⟩;clear H;have D:=j.2.1 0 _ rfl;have F:=g.2.1 0 _ rfl;have C:=j.2.1 1 _ rfl;have E:=g.2.1 1 _ rfl;have t:=Hm (reIns_c n b c1 d x.off W L (Y.o.up (up_below f)) (z.o.up (up_below f)));go_wp2_with fail
 refine t.o.mono ?_;rintro e v ⟨rfl,l⟩;have j:=j.keep l;have g:=g.keep l;have f:=f.trans (l.mono f.size);clear t l;have D:=j.2.1 0 _ rfl;have F:=g.2.1 0 _ rfl;have C:=j.2.1 1 _ rfl;have E:=g.2.1 1 _ rfl;have s:=Hm (eqB_any m a c2 c x.bs v (by omega) (X.o.up (up_below f)) (y.o.up (up_below f)));go_wp2_with fail
 refine s.o.mono ?_;rintro e V ⟨rfl,I,r⟩;have k:Bw v.heap.size v V:=by rw[r];exact Qo bFz _
 clear r;have j:=j.keep k;have g:=g.keep k;have f:=f.trans (k.mono f.size);clear s k;have D:=j.2.1 0 _ rfl;have F:=g.2.1 0 _ rfl;have C:=j.2.1 1 _ rfl;have E:=g.2.1 1 _ rfl;have HB:=Hm f;clear f j g;go_wp2;go_ret;exact⟨rfl,HB.o⟩
theorem reDats_c (a a':Option Ad)(c c':Nat)(xs:List Dat)(w:J)(g:N xs<=1048576/\∀i,i<N xs->Dat.LB 1048576 (xs.getD i Dat.z))(h:Dat.Ls 0 w a xs)(X:Dat.Ls 0 w a' xs):Ec Q 55 #[S a (N xs) c,S a' (N xs) c'] w λe w'=>e=Z (G true)/\Bw w.heap.size w w':=by
 obtain⟨hn,g⟩:=g;have H1:=Hm h;have H2:=Hm X;have H3:=Hm g;clear h X g;go_enter func55,ntmps55;go_wp2;go_loopw [5] (λi wr=>∃k:Nat,k<=N xs/\i=U O k/\Bw w.heap.size w wr) (λi _=>N xs-(intOf i).toNat)
 case atStart=>exact⟨0,Kw _,rfl,bFz⟩
 obtain⟨k,hk,rfl,q⟩:=hrel;by_cases f:k<N xs
 . (have ap:(k:Int)<(N xs:Int):=by omega);rcases H1.o.up (up_below q)with C|⟨b,o,ea,_,V⟩
   . subst C;simp at f
   rcases H2.o.up (up_below q)with C|⟨b',o',F,_,n⟩
   . subst C;simp at f
   have g1:=V k f;have Y:=n k f;have g:=H3.o k f;subst ea F;generalize xs.getD k Dat.z=x at g1 Y g;obtain⟨a1,c1,a2,c2,⟨I,H⟩,R⟩:=g1;obtain⟨u,s,t,r,⟨M,L⟩,m⟩:=Y;have y:=cell_regrown I;have B:=cell_regrown M;have v:=cell_regrown H;have A:=cell_regrown L;have cE:∀d os,Ec Q 115 #[Ag #[S a1 (N x.off) c1,S a2 (N x.bs) c2],Ag #[S u (N x.off) s,S t (N x.bs) r]] (grow (redrawn wr d) os) λe w''=>e=Z (G true)/\∃p:Regrown,w''=grow (redrawn wr p.d) p.os:=λd os=>Tz (reDat_c x a1 c1 a2 c2 u s t r _ (R.up (up_below (below_regrown wr d os))) (m.up (up_below (below_regrown wr d os))) g);have HB:=Hm q;have HE:=Hm cE;clear q V n R m g H1 H2 H3 cE I M H L;go_wp2;refine wp_region_quiet_below (by kernel_rfl) (by kernel_rfl) ?_;(repeat (quiet_step (exact HE.o _ _)));refine wpQuiet_nil ?_;intro _ E;obtain⟨⟨dq,j⟩,l⟩:=E;subst l;have D:=HB.o.trans ((below_regrown wr dq j).mono HB.o.size);clear y B v A;generalize grow (redrawn wr dq) j=w5 at *;show Exit.then _ _ Tn _ w5;go_wp2;(go_roundw);(case rel=>exact⟨k+1,by omega,by go_num,D⟩);case measure=>simp[intOf];omega
 go_wp2;go_ret;exact⟨rfl,q⟩
theorem reCus_c (x:Cus)(g:Option Ad)(c1:Nat)(a:Option Ad)(b:Nat)(w:J)(r:Cus.Is 0 w x g)(m:Cus.Is 0 w x a)(C:Cus.LB 1048576 x):Ec Q 116 #[Ag #[U O x.aft,Xs x.nm,S g (N x.bs) c1],Ag #[U O x.aft,Xs x.nm,S a (N x.bs) b]] w λe w'=>e=Z (G true)/\Bw w.heap.size w w':=by
 obtain⟨I,H⟩:=C;have q:=r;clear r;have E:=Hm q;clear q;have k:=m;clear m;have p:=Hm k;clear k;have s:Hid (Bk ((w.alloc (Fc #[U O x.aft,Xs x.nm,S g (N x.bs) c1] 201)).alloc (Fc #[U O x.aft,Xs x.nm,S a (N x.bs) b] 201)) w.heap.size [U O x.aft,Xs x.nm,S g (N x.bs) c1]/\Bk ((w.alloc (Fc #[U O x.aft,Xs x.nm,S g (N x.bs) c1] 201)).alloc (Fc #[U O x.aft,Xs x.nm,S a (N x.bs) b] 201)) (w.heap.size+1) [U O x.aft,Xs x.nm,S a (N x.bs) b]/\Bw w.heap.size w ((w.alloc (Fc #[U O x.aft,Xs x.nm,S g (N x.bs) c1] 201)).alloc (Fc #[U O x.aft,Xs x.nm,S a (N x.bs) b] 201))):=two w [U O x.aft,Xs x.nm,S g (N x.bs) c1] [U O x.aft,Xs x.nm,S a (N x.bs) b] 201 201;go_enter func116,ntmps116;go_upto_region 1 with fail
 refine Qj (λW=>Bk W w.heap.size [U O x.aft,Xs x.nm,S g (N x.bs) c1]/\Bk W (w.heap.size+1) [U O x.aft,Xs x.nm,S a (N x.bs) b]/\Bw w.heap.size w W) s.o ?_;rintro W ⟨f,d,j⟩;clear s;have v:=f.2.1 0 _ rfl;have A:=d.2.1 0 _ rfl;have u:=f.2.1 1 _ rfl;have z:=d.2.1 1 _ rfl;have t:=f.2.1 2 _ rfl;have y:=d.2.1 2 _ rfl;have n:=Hm (eqB_any g a c1 b x.bs W (by omega) (E.o.up (up_below j)) (p.o.up (up_below j)));go_wp2_with fail
 refine n.o.mono ?_;rintro e D ⟨rfl,B,l⟩;have c:Bw W.heap.size W D:=by rw[l];exact Qo bFz _
 clear l;have f:=f.keep c;have d:=d.keep c;have j:=j.trans (c.mono j.size);clear n c;have v:=f.2.1 0 _ rfl;have A:=d.2.1 0 _ rfl;have u:=f.2.1 1 _ rfl;have z:=d.2.1 1 _ rfl;have t:=f.2.1 2 _ rfl;have y:=d.2.1 2 _ rfl;have F:=Hm j;clear j f d;go_wp2;go_ret;exact⟨rfl,F.o⟩
theorem reCuss_c (a a':Option Ad)(c c':Nat)(xs:List Cus)(w:J)(g:N xs<=1048576/\∀i,i<N xs->Cus.LB 1048576 (xs.getD i Cus.z))(h:Cus.Ls 0 w a xs)(h':Cus.Ls 0 w a' xs):Ec Q 56 #[S a (N xs) c,S a' (N xs) c'] w λe w'=>e=Z (G true)/\Bw w.heap.size w w':=by
 obtain⟨hn,g⟩:=g;have H1:=Hm h;have H2:=Hm h';have H3:=Hm g;clear h h' g;go_enter func56,ntmps56;go_wp2;go_loopw [5] (λi wr=>∃k:Nat,k<=N xs/\i=U O k/\Bw w.heap.size w wr) (λi _=>N xs-(intOf i).toNat)
 case atStart=>exact⟨0,Kw _,rfl,bFz⟩
 obtain⟨k,hk,rfl,q⟩:=hrel;by_cases f:k<N xs
 . (have ap:(k:Int)<(N xs:Int):=by omega);rcases H1.o.up (up_below q)with C|⟨b,o,ea,_,Y⟩
   . subst C;simp at f
   rcases H2.o.up (up_below q)with C|⟨b',o',F,_,n⟩
   . subst C;simp at f
   have g1:=Y k f;have g2:=n k f;have g:=H3.o k f;subst ea F;generalize xs.getD k Cus.z=x at g1 g2 g;obtain⟨a1,c1,⟨L,I,H⟩,X⟩:=g1;obtain⟨s,r,⟨V,R,M⟩,m⟩:=g2;have v:=cell_regrown L;have B:=cell_regrown V;have u:=cell_regrown I;have A:=cell_regrown R;have t:=cell_regrown H;have y:=cell_regrown M;have cE:∀d os,Ec Q 116 #[Ag #[U O x.aft,Xs x.nm,S a1 (N x.bs) c1],Ag #[U O x.aft,Xs x.nm,S s (N x.bs) r]] (grow (redrawn wr d) os) λe w''=>e=Z (G true)/\∃p:Regrown,w''=grow (redrawn wr p.d) p.os:=λd os=>Tz (reCus_c x a1 c1 s r _ (X.up (up_below (below_regrown wr d os))) (m.up (up_below (below_regrown wr d os))) g);have HB:=Hm q;have HE:=Hm cE;clear q Y n X m g H1 H2 H3 cE L V I R H M;go_wp2;refine wp_region_quiet_below (by kernel_rfl) (by kernel_rfl) ?_;(repeat (quiet_step (exact HE.o _ _)));refine wpQuiet_nil ?_;intro _ E;obtain⟨⟨dq,j⟩,l⟩:=E;subst l;have D:=HB.o.trans ((below_regrown wr dq j).mono HB.o.size);clear v B u A t y;generalize grow (redrawn wr dq) j=w5 at *;show Exit.then _ _ Tn _ w5;go_wp2;(go_roundw);(case rel=>exact⟨k+1,by omega,by go_num,D⟩);case measure=>simp[intOf];omega
 go_wp2;go_ret;exact⟨rfl,q⟩
