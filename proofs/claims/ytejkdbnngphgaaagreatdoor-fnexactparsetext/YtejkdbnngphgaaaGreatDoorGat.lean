import Derived.Test.YtejkdbnngphgaaaGreatDoorGal
import Derived.Lib.TrimByte
import Derived.Test.YtejkdbnngphgaaaGreatDoorGan
import Derived.Test.YtejkdbnngphgaaaGreatDoorGaf
set_option linter.all false
set_option maxHeartbeats 400000000
set_option maxRecDepth 100000
namespace Go.Proofs
open Value renaming int->U,slice->S,bool->G,pointer->Yp,string->Xs,agg->Ag
open IntKind renaming i64->O
open Ending renaming returned->Z
open Obj renaming cells->Fc
open Go renaming World->J,Calls->Ec,Value->Vu,Addr->Ad
open Go.RowKit renaming Below->Bw
open Tryz renaming prog->Q
open Tryz
open Instr renaming index->Lf
open Nat renaming zero_add->Kk,le_trans->Kf
open List renaming eq_nil_of_length_eq_zero->Lk,getD->Ty,flatMap_cons->En,cons_append->Tv,length_cons->Kj,reverse_cons->Dh,dropWhile_cons_of_pos->Bwz,dropWhile_cons_of_neg->Bv,length_reverse->Cn,mem_of_mem_tail->Mh,length->N
open IntKind renaming wrap_u8->Td
open World renaming cell?_of_block->Kx
namespace YtejkdbnngphgaaaGreatDoor.Yz
open Go.RowKit Go.Sort
attribute [-go_sem] run_index_string
abbrev Iy (s:Wd):List Int:=s.map λc=>(c.toNat:Int)
def plain (c:UInt8):Bool:=decide (32<=c.toNat)&&(decide (c.toNat<=126)&&(decide (c.toNat≠34)&&decide (c.toNat≠92)))
def enc (c:UInt8):Wd:=if plain c then [c]else [92,hx (c.toNat / 16),hx (c.toNat%16)]
def J4 (b:Wd):Wd:=34::(b.flatMap enc++[34])
theorem plain_c (c:UInt8)(w:J):Ec Q 204 #[U .u8 (c.toNat:Int)] w λe w'=>e=Z (G (plain c))/\w=w':=by
 unfold plain;have hc:=c.toNat_lt;generalize c.toNat=n at *;by_cases a:32<=n
 . by_cases b:n<=126
   . by_cases f:n=34
     . subst f;go_enter func204,ntmps204;go_wp2;go_ret;exact⟨by simp,rfl⟩
     by_cases d:n=92
     . subst d;go_enter func204,ntmps204;go_wp2;go_ret;exact⟨by simp,rfl⟩
     (have j:(32:Int)<=n:=by omega);(have m:(n:Int)<=126:=by omega);(have l:¬(n:Int)=34:=by omega);(have k:¬(n:Int)=92:=by omega);have g:=Hm (⟨a,b,f,d⟩:32<=n/\n<=126/\n≠34/\n≠92);clear a b f d;go_enter func204,ntmps204;go_wp2;go_ret;obtain⟨a,b,f,d⟩:=g.o;exact⟨by simp[a,b,f,d,l,k],rfl⟩
   (have j:(32:Int)<=n:=by omega);(have m:¬(n:Int)<=126:=by omega);have g:=Hm b;clear a b;go_enter func204,ntmps204;go_wp2;go_ret;exact⟨by simp[g.o],rfl⟩
 have j:¬(32:Int)<=n:=by omega
 have g:=Hm a;clear a;go_enter func204,ntmps204;go_wp2;go_ret;exact⟨by simp[g.o],rfl⟩
theorem hx_ix (k:Nat)(w:J)(h:k<16):(Lf 9 (Xs ⟨#[48,49,50,51,52,53,54,55,56,57,97,98,99,100,101,102]⟩) (U .u8 (k:Int))).run Q w=.ok (U .u8 ((hx k).toNat:Int)) w:=by
 have:=hx_at k h;rw[run_index_string (w:=w) (t:=9) (s:=⟨#[48,49,50,51,52,53,54,55,56,57,97,98,99,100,101,102]⟩) (k:=.u8) (i:=(k:Int)) underlying9,dif_pos ⟨by omega,by show(k:Int)<16;omega⟩];congr 4
theorem add_off (b o j:Nat):(⟨b,o,none⟩:Ad).add j=⟨b,o+j,none⟩:=by unfold Addr.add;split<;>simp_all
theorem Qq (w:J)(cs:Array Vu)(t:TypeId):∀j u,cs.toList[j]?=some u->(w.alloc (Fc cs t)).cell? ((⟨w.heap.size,0,none⟩:Ad).add j)=some u:=by
 intro j u h;rw[add_off,Kk];exact Qn rfl (by simpa using h)
theorem XF {B:Nat}{v:Vu}{W:J}{l:Wd}(h:W.ownsRow B 5 1 v (N l) (Uz0 (Iy l))):(convert 22 9 v).run Q W=.ok (Xs (Sz0 l)) W:=by
 rcases h.2 with ⟨e,b⟩|⟨g,a,c,hv,d⟩
 . have:l=[]:=Lk b;subst this e;exact run_convert_bytes_nil W 22 5 underlying22 underlying5 0 0 9 underlying9
 subst hv;refine conv_c l g 0 a W (λj hj=>?_);have:=World.ownsRow.cellAt h j (by omega);rw[Kk,this];simp[hj]
def BsAt (w:J)(a:Option Ad)(b:Wd):Prop:=b=[]\/∃g o,a=some ⟨g,o,none⟩/\∀j,j<N b->w.cell? ⟨g,o+j,none⟩=some (U .u8 ((b.getD j 0).toNat:Int))
theorem BsAt.keep {w w':J}{a:Option Ad}{b:Wd}(h:BsAt w a b)(c:Bw w.heap.size w w'):BsAt w' a b:=by
 rcases h with h|⟨g,o,e,h⟩
 . exact .inl h
 exact .inr ⟨g,o,e,λj hj=>(c.cell (p:=⟨g,o+j,none⟩) (World.block_lt_of_cell? w _ (h j hj))).trans (h j hj)⟩
theorem Iy_app (a b:Wd):Iy (a++b)=Iy a++Iy b:=by simp
theorem U_app (a b:List Int):Uz0 (a++b)=Uz0 a++Uz0 b:=by simp
def JS (b:Wd)(k:Nat):Wd:=34::(b.take k).flatMap enc
theorem preT_succ {b:Wd}{k:Nat}(h:k<N b):JS b (k+1)=JS b k++enc (b.getD k 0):=by
 have e:b.getD k 0=b[k]:=by simp[Ty,List.getElem?_eq_getElem h]
 unfold JS;rw[List.take_succ_eq_append_getElem h,List.flatMap_append,e];simp only[En,List.flatMap_nil,List.append_nil,Tv]
theorem enc_len (c:UInt8):(enc c).length<=3:=by unfold enc;split<;>simp
theorem preT_len (b:Wd)(k:Nat):(JS b k).length<=3*k+1:=by
 unfold JS
 have:∀l:Wd,(l.flatMap enc).length<=3*N l:=by
  intro l;induction l with
  |nil=>simp
  |cons a l ih=>have:=enc_len a;simp only[En,List.length_append,Kj];omega
 have:=this (b.take k);have:(b.take k).length<=k:=by simp;omega
 simp only[Kj];omega
theorem textStr_c (b:Wd)(ba:Option Ad)(bc:Nat)(w:J)(m:BsAt w ba b)(hl:N b<=1048576):Ec Q 169 #[S ba (N b) bc] w λe w'=>e=Z (Xs (Sz0 (J4 b)))/\Bw w.heap.size w w':=by
 have HA:=Hm m;clear m;go_enter func169,ntmps169;go_upto_region 3 with fail
 go_loopw [3,5,9] (λvo vc vi wr=>∃k:Nat,k<=N b/\vi=U O (k:Int)/\wr.ownsRow w.heap.size 5 1 vo (JS b k).length (Uz0 (Iy (JS b k)))/\Bw w.heap.size w wr) (λ_ _ vi _=>N b-(intOf vi).toNat)
 case atStart=>refine⟨0,Nat.zero_le _,rfl,⟨by simp[JS],.inr ⟨w.heap.size,1,#[U .u8 34],rfl,lRz,Array.getElem?_push_size,lRz,by decide,rfl,rfl⟩⟩,bFz.alloc lRz _⟩
 obtain⟨k,hk,rfl,z,m⟩:=hrel;have HO:=Hm z;have HB:=Hm m;by_cases E:k<N b
 . have az:(k:Int)<(N b:Int):=by omega
   obtain⟨g,o,rfl,F⟩:∃g o,ba=some ⟨g,o,none⟩/\∀j,j<N b->wr.cell? ⟨g,o+j,none⟩=some (U .u8 ((b.getD j 0).toNat:Int)):=by
    rcases HA.o.keep m with h|⟨g,o,e,h⟩
    . rw[h]at E;simp at E
    exact⟨g,o,e,h⟩
   have hc:=F k E;have HS:=Hm (preT_succ E);generalize b.getD k 0=c at *;have KP:=Hm (plain_c c wr);clear F z m;by_cases H:plain c=true
   . rw[H]at KP;(go_wp2_with fail);refine KP.o.mono ?_;rintro e w1 ⟨rfl,rfl⟩;have z:=HO.o;have M:=HB.o.size;have HP:=Hm H;clear H KP;have hn:=preT_len b k;(go_wp2_with (at_builtin;refine wal info5 (z.alloc _) [U .u8 (c.toNat:Int)] (cell_one_new _ _ _) (oneB _) ?_;intro s w2 d n L C;have A:=Hm (And.intro d n);obtain⟨V,R,rfl⟩:=QO d;clear d n L C));refine⟨⟨k+1,by omega,(by first|rfl|(congr 1;omega)),?_,(HB.o.alloc M _ |>.grown A.o.2 (by simp;omega) (λj hj=>(z.lt j hj).1))⟩,by simp[intOf];omega⟩;rw[HS.o,show enc c=[c] by unfold enc;rw[if_pos HP.o]];simpa using A.o.1
   rw[Bool.not_eq_true]at H;rw[H]at KP;have HP:=Hm H;clear H;(go_upto_region 7 with fail);refine KP.o.mono ?_;rintro e w1 ⟨rfl,rfl⟩;(go_upto_region 7 with fail);obtain⟨r,Y⟩:∃x,x=c.toNat / 16:=⟨_,rfl⟩;obtain⟨q,X⟩:∃x,x=c.toNat%16:=⟨_,rfl⟩;have ag:=c.toNat_lt;have D:=Hm (⟨by omega,by rw[Td];omega,by rw[Int.tmod_eq_emod_of_nonneg (by omega)];omega,by rw[Td];omega,by omega,by omega,Y,X⟩:(c.toNat:Int) / 16=(r:Int)/\IntKind.u8.wrap (r:Int)=(r:Int)/\(c.toNat:Int).tmod 16=(q:Int)/\IntKind.u8.wrap (q:Int)=(q:Int)/\r<16/\q<16/\r=c.toNat / 16/\q=c.toNat%16);clear Y X ag;refine Rp.rg (nN:=33) [u3,U .u8 (c.toNat:Int),U .u8 (r:Int),U .u8 ((hx r).toNat:Int),U .u8 (c.toNat:Int),U .u8 (q:Int),U .u8 ((hx q).toNat:Int),undef,undef,undef] [7,8,9] 2 (Rp.Fz (λ_=>True) 2 [λt W=>t=[]/\W.ownsRow w.heap.size 5 1 u3 (JS b k).length (Uz0 (Iy (JS b k)))/\Bw w.heap.size w W,λt W=>∃g,t=[S (some ⟨g,0,none⟩) 3 3]/\W.ownsRow w.heap.size 5 1 u3 (JS b k).length (Uz0 (Iy (JS b k)))/\Bw w.heap.size w W/\∀j u,([U .u8 92,U .u8 ((hx r).toNat:Int),U .u8 ((hx q).toNat:Int)]:List Vu)[j]?=some u->W.cell? ((⟨g,0,none⟩:Ad).add j)=some u,λt W=>∃g s,t=[S (some ⟨g,0,none⟩) 3 3,s]/\W.ownsRow w.heap.size 5 1 s ((JS b k).length+3) (Uz0 (Iy (JS b k))++[U .u8 92,U .u8 ((hx r).toNat:Int),U .u8 ((hx q).toNat:Int)])/\Bw w.heap.size w W,λt W=>∃g s,t=[S (some ⟨g,0,none⟩) 3 3,s,s]/\W.ownsRow w.heap.size 5 1 s ((JS b k).length+3) (Uz0 (Iy (JS b k))++[U .u8 92,U .u8 ((hx r).toNat:Int),U .u8 ((hx q).toNat:Int)])/\Bw w.heap.size w W]) ?_ ?_ ?_
   . exact⟨λ_=>trivial,rfl,HO.o.drew,HB.o.drew⟩
   . refine Rp.os 3 (u3) ?_;refine Rp.os 5 (U .u8 (c.toNat:Int)) ?_;refine Rp.Qj.c (by kernel_rfl) (λa W kk t Kc f hk m p y hK=>?_) ?_
     . have a7:=Rp.va f 1 20;have hq:=D.o.1;have hw:=D.o.2.1;refine Rp.QA (U .u8 (r:Int)) (Rp.Qd rfl) rfl ?_ hK;clear f hK y p m;go_simp;try rfl
     refine Rp.Qj.c (by kernel_rfl) (λa W kk t Kc f hk m p y hK=>?_) ?_
     . have a6:=Rp.va f 2 21;have af:=hx_ix r W D.o.2.2.2.2.1;refine Rp.QA (U .u8 ((hx r).toNat:Int)) (Rp.Qd rfl) rfl ?_ hK;clear f hK y p m;go_simp;try rfl
     refine Rp.os 5 (U .u8 (c.toNat:Int)) ?_;refine Rp.Qj.c (by kernel_rfl) (λa W kk t Kc f hk m p y hK=>?_) ?_
     . have a4:=Rp.va f 4 23;have hq:=D.o.2.2.1;have hw:=D.o.2.2.2.1;refine Rp.QA (U .u8 (q:Int)) (Rp.Qd rfl) rfl ?_ hK;clear f hK y p m;go_simp;try rfl
     refine Rp.Qj.c (by kernel_rfl) (λa W kk t Kc f hk m p y hK=>?_) ?_
     . have a3:=Rp.va f 5 24;have af:=hx_ix q W D.o.2.2.2.2.2.1;refine Rp.QA (U .u8 ((hx q).toNat:Int)) (Rp.Qd rfl) rfl ?_ hK;clear f hK y p m;go_simp;try rfl
     refine Rp.hv 0 (λa W t f p y=>?_) ?_
     . have a5:=Rp.va f 3 22;have a2:=Rp.va f 6 25;obtain⟨-,rfl,z,m⟩:=y;refine⟨(S (some ⟨W.heap.size,0,none⟩) 3 3),W.alloc (Fc #[U .u8 92,U .u8 ((hx r).toNat:Int),U .u8 ((hx q).toNat:Int)] 5),?_,?_⟩
       . clear f p;go_simp;try rfl
       exact⟨λ_=>trivial,W.heap.size,rfl,z.alloc _,m.alloc m.size _,Qq _ _ _⟩
     refine Rp.ha 1 (λa W t f p y Kc hK=>?_) ?_
     . have ai:=Rp.va f 0 19;have ah:=Rp.vu p 0 26;obtain⟨-,g1,rfl,z,m,F⟩:=y;refine Rp.ap (news:=[U .u8 92,U .u8 ((hx r).toNat:Int),U .u8 ((hx q).toNat:Int)]) ai z ah F (by intro u p;simp at p;rcases p with rfl|rfl|rfl<;>rfl) info5 (by have:=preT_len b k;unfold maxLen;omega) (by have:=preT_len b k;omega) m.size (λs w' h1 h2 h3=>?_) hK;exact⟨λ_=>trivial,g1,s,rfl,h1,m.grown h2 m.size (λj hj=>(z.lt j hj).1)⟩
     refine Rp.hv 2 (λa W t f p y=>?_) ?_
     . have a1:=Rp.vu p 1 27;obtain⟨-,g1,s,rfl,z,m⟩:=y;refine⟨s,W,?_,?_⟩
       . clear f p;go_simp;try rfl
       exact⟨λh=>by omega,g1,s,rfl,z,m⟩
     exact Rp.Qj.nil
   intro t a W f;have ea:=Rp.ca f [19,20,21,22,23,24,25,26,27,3];have y:=f.ph;simp only[List.foldl_cons,List.foldl_nil,Rp.cv f 0 19,Rp.cv f 1 20,Rp.cv f 2 21,Rp.cv f 3 22,Rp.cv f 4 23,Rp.cv f 5 24,Rp.cv f 6 25,Rp.cu f 0 26,Rp.cu f 1 27,Rp.cu f 2 3]at ea;clear f;subst ea;obtain⟨-,g1,s,rfl,I,aa⟩:=y;have A:=Hm I;have ao:=Hm aa;obtain⟨V,R,rfl⟩:=QO I;clear I aa;go_wp2;refine⟨⟨k+1,by omega,(by first|rfl|(congr 1;omega)),?_,ao.o⟩,by simp[intOf];omega⟩;rw[HS.o,show enc c=[92,hx r,hx q] by unfold enc;rw[if_neg (by rw[HP.o];decide),D.o.2.2.2.2.2.2.1,D.o.2.2.2.2.2.2.2]];simpa using A.o
 have e:k=N b:=by omega
 subst e;have M:=HB.o.size;have hn:=preT_len b (N b);have hq:J4 b=JS b (N b)++[34]:=by simp[J4,JS]
 have D:=Hm hq;clear m hq;go_wp2_with (at_builtin;refine wal info5 (z.alloc _) [U .u8 34] (cell_one_new _ _ _) (oneB _) ?_;intro s w2 d n L C;have A:=Hm (And.intro d n);have a0:=XF (W:=w2) (v:=s) (B:=w.heap.size) (l:=J4 b) (by rw[D.o];simpa using d);obtain⟨V,R,rfl⟩:=QO d;clear d n L C)
 go_ret;exact⟨rfl,HB.o.alloc M _ |>.grown A.o.2 (by simp;omega) (λj hj=>(z.lt j hj).1)⟩
end YtejkdbnngphgaaaGreatDoor.Yz
namespace YtejkdbnngphgaaaGreatDoor.Yz
open Go.RowKit Go.Sort
attribute [-go_sem] run_index_string
def XQ (s:Wd):UInt8 × Nat:=if s.headD 0=92/\3<=N s then(match puW 255 ((s.take 3).drop 1)with|some n=>(UInt8.ofNat n,3)|none=>(s.headD 0,1))else (s.headD 0,1)
theorem dec1_pos (s:Wd):1<=(XQ s).2:=by
 unfold XQ;split
 · split<;>simp
 simp
theorem dec1_le {s:Wd}(h:s≠[]):(XQ s).2<=N s:=by
 have:1<=N s:=by cases s with|nil=>exact absurd rfl h|cons a l=>simp
 unfold XQ;split
 · split
   · rename_i h _ _ _;exact h.2
   exact this
 exact this
def decW (s:Wd):Wd:=if h:s=[]then []else (XQ s).1::decW (s.drop (XQ s).2)
termination_by (N s)
decreasing_by
 have:=dec1_pos s
 have:1<=N s:=by cases s with|nil=>exact absurd rfl h|cons a l=>simp
 simp;omega
theorem decW_len (s:Wd):(decW s).length<=N s:=by
 induction hn:N s using Nat.strongRecOn generalizing s with
 |_ n ih =>
  rw[decW]
  by_cases h:s=[]
  . rw[dif_pos h];simp
  . rw[dif_neg h];have b:=dec1_pos s;have a:=dec1_le h
    have:=ih (s.drop (XQ s).2).length (by simp;omega) _ rfl
    simp only[List.length_drop]at this
    simp only[Kj]
    omega
theorem dgI_hxT:∀k,k<16->dgI (hx k)=some k:=by decide
theorem hx_nq:∀k,k<16->hx k≠34:=by decide
theorem dec1_enc (c:UInt8)(r:Wd):XQ (enc c++r)=(c,(enc c).length):=by
 have hc:=c.toNat_lt;by_cases a:plain c=true
 . (have b:c≠92:=λe=>by subst e;revert a;decide);simp[enc,a,XQ,b]
 have e:enc c=[92,hx (c.toNat / 16),hx (c.toNat%16)]:=by unfold enc;rw[if_neg a]
 have d:puW 255 [hx (c.toNat / 16),hx (c.toNat%16)]=some c.toNat:=by
  have j:¬255<c.toNat / 16:=by omega
  have g:¬255<c.toNat / 16*16+c.toNat%16:=by omega
  have f:¬1152921504606846976<=c.toNat / 16:=by omega
  simp only[puW,pu,dgI_hxT _ (show c.toNat / 16<16 by omega),dgI_hxT _ (show c.toNat%16<16 by omega)];simp[j,g,f];omega
 rw[e];simp[XQ,d]
theorem decW_enc:∀b:Wd,decW (b.flatMap enc)=b
 |[]=>by rw[decW];simp
 |c::b=>by
  have d:=decW_enc b;have a:(enc c++b.flatMap enc)≠[]:=by unfold enc;split<;>simp
  rw[En,decW,dif_neg a,dec1_enc]
  simp[d]
theorem enc_nq (c:UInt8):∀x∈enc c,x≠34:=by
 have hc:=c.toNat_lt;intro x a;unfold enc at a;split at a
 . rename_i b;simp at a;subst a;intro e;subst e;(revert b);decide
 simp at a;rcases a with rfl|rfl|rfl
 . decide
 . exact hx_nq _ (by omega)
 exact hx_nq _ (by omega)
theorem trim_q {m:Wd}(h:∀x∈m,x≠34):Lib.trimB (34::(m++[34])) 34=m:=by
 have d:Lib.trimRightB (34::(m++[34])) 34=if m=[]then []else 34::m:=by
  unfold Lib.trimRightB;rw[Dh,List.reverse_append,Dh,List.reverse_nil,List.nil_append,List.singleton_append,Tv,Bwz (by simp)];cases b:m.reverse with
  |nil =>
   have:m=[]:=by simpa using b
   subst this
   simp
  |cons a l =>
   have c:m≠[]:=λe=>by subst e;simp at b
   have ha:a∈m:=by rw[<- List.mem_reverse,b];simp
   rw[if_neg c,Tv,Bv (by simpa using h a ha),<- Tv,<- b]
   simp
 unfold Lib.trimB;rw[d];by_cases b:m=[]
 . subst b;rfl
 rw[if_neg b];unfold Lib.trimLeftB;rw[Bwz (by simp)];cases m with
 |nil=>exact absurd rfl b
 |cons a l=>rw[Bv (by simpa using h a (by simp))]
def Qm (s:Wd):Wd:=decW (Lib.trimB s 34)
def okS (s:Wd):Bool:=decide (J4 (Qm s)=s)
theorem sdec_q (b:Wd):Qm (J4 b)=b:=by
 unfold Qm J4;rw[trim_q (λx hx'=>by obtain⟨c,_,h⟩:=List.mem_flatMap.1 hx';exact enc_nq c x h),decW_enc]
theorem okS_q (b:Wd):okS (J4 b)=true:=by unfold okS;rw[sdec_q];simp
theorem okS_iff {s:Wd}:okS s=true ↔ ∃b,J4 b=s:=⟨λh=>⟨Qm s,by simpa[okS]using h⟩,λ⟨b,h⟩=>by rw[<- h];exact okS_q b⟩
theorem trim_len (s:Wd):(Lib.trimB s 34).length<=N s:=by
 have h:∀(p:UInt8->Bool) (l:Wd),(l.dropWhile p).length<=N l:=λp l=>(List.dropWhile_suffix p).length_le;unfold Lib.trimB Lib.trimLeftB Lib.trimRightB;refine Kf (h _ _) ?_;rw[Cn];refine Kf (h _ _) ?_;rw[Cn];exact lRz
theorem Xm (s:Wd):(Qm s).length<=N s:=Kf (decW_len _) (trim_len s)
end YtejkdbnngphgaaaGreatDoor.Yz
namespace YtejkdbnngphgaaaGreatDoor.Yz
open Go.RowKit Go.Sort
attribute [-go_sem] run_index_string
theorem tbyte_c (q:Nat)(s:Wd)(w:J)(z:s≠[])(hl:N s<=1048576)(k:Vs q w):Ec Q 168 #[Xs (Sz0 s)] w λe w'=>e=Z (.tuple #[U .u8 ((XQ s).1.toNat:Int),U O ((XQ s).2:Int)])/\Bw w.heap.size w w':=by
 have H:(Sz0 s).size=N s:=QJ s;have r:0<N s:=by cases s with|nil=>exact absurd rfl z|cons a l=>simp
 have d:∀w,(Lf 9 (Xs (Sz0 s)) (U O 0)).run Q w=.ok (U .u8 ((s.headD 0).toNat:Int)) w:=λw=>by have:=Q4 s 0 w r;rw[show s.getD 0 0=s.headD 0 by cases s<;>rfl]at this;exact this
 obtain⟨c,hc⟩:∃c,c=s.headD 0:=⟨_,rfl⟩;rw[<- hc]at d;by_cases b:c=92
 . by_cases m:3<=N s
   . (have f:XQ s=(match puW 255 ((s.take 3).drop 1)with|some n=>(UInt8.ofNat n,3)|none=>(c,1)):=by unfold XQ;rw[<- hc,if_pos ⟨b,m⟩];try (cases puW 255 ((s.take 3).drop 1)<;>rfl));have j:=Hm f;have K:=Hm (pup8_c q ((s.take 3).drop 1) w (by simp;omega) k);rw[<- XX]at K;subst b;(have t:(3:Int)<=(N s:Int):=by omega);clear f k hc m;have g:∀w,(Lf 9 (Xs (Sz0 s)) (U O 0)).run Q w=.ok (U .u8 92) w:=d;clear d;generalize v:puW 255 ((s.take 3).drop 1)=P at *;have C:=Hm v;clear v;go_enter func168,ntmps168;(go_wp2_with fail);refine K.o.mono ?_;rintro e D ⟨x,L,rfl,u,hx⟩;have y:=Hm u;clear u K;rcases hx with ⟨n,p,rfl,rfl⟩|⟨p,E,F,rfl⟩
     . (have B:n<256:=by have:=puW_le (C.o.trans p);omega);subst p;(have I:IntKind.u8.wrap (n:Int)=(n:Int):=by rw[Td];omega);go_wp2;(go_ret2);refine⟨?_,y.o⟩;rw[j.o];simp[Nat.mod_eq_of_lt B]
     subst p;go_wp2;(go_ret2);refine⟨?_,y.o⟩;rw[j.o];rfl
   (have f:XQ s=(c,1):=by unfold XQ;rw[<- hc,if_neg (λh=>m h.2)]);have j:=Hm f;subst b;(have t:¬(3:Int)<=(N s:Int):=by omega);clear f k hc m;have g:∀w,(Lf 9 (Xs (Sz0 s)) (U O 0)).run Q w=.ok (U .u8 92) w:=d;clear d;go_enter func168,ntmps168;go_wp2;(go_ret2);rw[j.o];exact⟨rfl,bFz⟩
 have f:XQ s=(c,1):=by unfold XQ;rw[<- hc,if_neg (λh=>b h.1)]
 have j:=Hm f;have A:¬((c.toNat:Nat):Int)=92:=λe=>b (UInt8.toNat_inj.1 (by have:(92:UInt8).toNat=92:=rfl;omega));clear f k hc b;go_enter func168,ntmps168;go_wp2;go_ret2
 rw[j.o];exact⟨rfl,bFz⟩
theorem Tw.grown {w w':J}{q:Nat}{ws:List Wd}{bad:Bool}(h:Tw w q ws bad){r:Option Nat}(hg:w.grownBy w' r)(hr:∀k,r=some k->q<k):Tw w' q ws bad:=by
 have m:=h.lt;have d:∀k,k<=q->w'.heap[k]?=w.heap[k]?:=λk hk=>hg.block k (by omega) (λe=>by have:=hr k e.symm;omega);obtain⟨a,c,l,f⟩:=h.c0;refine⟨⟨a,c,(Kx (d q lRz)).trans l,?_⟩,(Kx (d q lRz)).trans h.c1,λi=>(World.frozen?_of_block (d q lRz)).trans (h.fz i),h.le⟩;rcases f with f|⟨b,o,e,j,hc,g⟩
 . exact .inl f
 exact .inr ⟨b,o,e,j,hc,λi hi=>(Kx (d b (by omega))).trans (g i hi)⟩
section
variable {q:Nat}{w V W:J}{rs:List Qb}{ws:List Wd}{bad:Bool}
theorem Rd.push {r r':Qb}{V1}(h:Rd q w (r::rs) ws bad V)(g:Bw V.heap.size V V1)(b:V1.grownBy W r.v.ownBlock)(own:r'.Ok w.heap.size W)(d:r'.v.ownBlock=r.v.ownBlock\/r'.v.ownBlock=some V1.heap.size):Rd q w (r'::rs) ws bad W:=by
 have a:=h.below g;have f:=h.lt;have c:∀k,r.v.ownBlock=some k->w.heap.size<=k:=λk hk=>(a.own.lt (QF.2 ⟨r,by simp,hk⟩)).1;refine⟨a.own.push b own d,a.tw.grown b (λk hk=>by have:=c k hk;omega),⟨b.os.trans a.gr.os,b.tape.trans a.gr.tape,b.output.trans a.gr.output,Kf a.gr.size b.size,λk hk hne=>?_⟩,f⟩;exact(b.block k (Nat.lt_of_lt_of_le hk a.gr.size) (λe=>by have:=c k e.symm;omega)).trans (a.gr.block k hk hne)
theorem Rd.more {ns V'}{b:List Wd}{a:Bool}(h:Rd q w rs ws bad V)(c:Rd q V ns b a V'):Rd q w (ns++rs) b a V':=by
 have d:=h.call c.tw c.gr;exact⟨(Own.new h.own d.own c.own h.gr.size).comm,c.tw,d.gr,h.lt⟩
theorem Rd.none (h:Rd q w rs ws bad V)(T sz:Nat):Rd q w (⟨T,sz,0,S none 0 0,[]⟩::rs) ws bad V :=
 ⟨⟨fun r a=>by
     rcases List.mem_cons.1 a with rfl|a
     . exact⟨by simp,.inl ⟨rfl,rfl⟩⟩
     . exact h.own.all r a,by simpa[blk,Value.ownBlock]using h.own.nd⟩,h.tw,h.gr,h.lt⟩
theorem Rd.vs (h:Rd q w rs ws bad V)(a:Vs q w):Vs q V:=a.keep (Jt h.gr h.lt)
end
theorem trim_c (s:Wd)(w:J)(hl:N s<=1048576):Ec Q 167 #[Xs (Sz0 s),Xs ⟨#[34]⟩] w λe a=>e=Z (Xs (Sz0 (Lib.trimB s 34)))/\Bw w.heap.size w a:=by
 refine(strings_Trim_one (Sz0 s) 34 (by decide) w (by rw[QJ];omega)).mono ?_;rintro e a ⟨rfl,b⟩;rw[QB];refine⟨rfl,?_⟩;rcases b with rfl|rfl
 . exact bFz
 exact bFz.drew
def sz1:Vu->Nat
 |Xs b=>b.size
 |_=>0
theorem row_bs {B:Nat}{W:J}{a:Option Ad}{n c:Nat}{b:Wd}(d:n=N b)(h:W.ownsRow B 5 1 (S a n c) n (Uz0 (Iy b))):BsAt W a b:=by
 subst d;rcases h.2 with ⟨e,f⟩|⟨g,l,k,hv,m⟩
 . exact .inl (Lk f)
 cases hv;refine .inr ⟨g,0,rfl,λj hj=>?_⟩;have:=World.ownsRow.cellAt h j (by omega);rw[Kk,this];simp[Ty,hj]
abbrev bRow (v:Vu)(b:Wd):Qb:=⟨5,1,N b,v,Uz0 (Iy b)⟩
theorem str_c (q:Nat)(ws:List Wd)(bad:Bool)(w:J)(h:Tw w q ws bad)(hl:∀x∈ws,N x<=1048576)(hV:Vs q w):Ec Q 106 #[Yp (some ⟨q,0,none⟩)] w λe w'=>∃v,e=Z v/\Rd q w [bRow v (Qm (ws.headD []))] ws.tail ((bad || ws.isEmpty) || !okS (ws.headD [])) w':=by
 have KN:=Hm (next_g q ws bad w h);have I:(ws.headD []).length<=1048576:=by
  cases ws with
  |nil=>simp
  |cons x r=>exact hl x (by simp)
 have HV:=Hm hV;have H:=Hm h;clear h hV hl;generalize ws.headD []=s at *;generalize ws.tail=r at *;generalize(bad || ws.isEmpty)=z at *;go_enter func106,ntmps106;go_wp2_with fail
 refine KN.o.mono ?_;rintro e w1 ⟨rfl,t1,g1⟩;have D:=Hm ((Rd.start H.o).call t1 g1);clear t1 g1 KN;go_wp2_with fail
 refine(trim_c s w1 I).mono ?_;rintro e w2 ⟨rfl,hb⟩;have ag:=Hm ((D.o.below hb).none 5 1);clear hb D;obtain⟨m,X⟩:∃m,m=Lib.trimB s 34:=⟨_,rfl⟩;have a4:N m<=1048576:=by rw[X];exact Kf (trim_len s) I
 have HM:=Hm X;rw[<- X];clear X;go_upto_region 4 with fail
 go_loopw [4,5,6,7] (λvi vb v6 v7 wr=>∃(b d:Wd),vi=Xs (Sz0 b)/\Rd q w [bRow vb d] r z wr/\decW m=d++decW b/\N b+N d<=N m) (λvi _ _ _ _=>sz1 vi)
 case atStart=>exact⟨m,[],rfl,ag.o,rfl,by simp⟩
 obtain⟨b,d,rfl,A,M,ar⟩:=hrel;have ab:(Sz0 b).size=N b:=QJ b;have D:=Hm A;have HD:=Hm M;obtain⟨va,vc,aa⟩:=QO (show wr.ownsRow w.heap.size 5 1 u5 (N d) (Uz0 (Iy d))from A.own.head);subst aa;have KV:=Hm (A.vs HV.o);by_cases C:b=[]
 . subst C;(have F:Qm s=d:=by unfold Qm;rw[<- HM.o,M,decW];simp);have KT:=Hm (textStr_c d va vc wr (row_bs rfl A.own.head) (by omega));have Y:=Hm F;clear A M ab F KV;(go_wp2_with fail);refine KT.o.mono ?_;rintro e V ⟨rfl,p⟩;have g:=Hm (D.o.below p);clear p KT;by_cases B:J4 d=s
   . (have ac:((Sz0 (J4 d)).toList==(Sz0 s).toList)=true:=by rw[Xt];simp[B]);(have j:okS s=true:=by unfold okS;rw[Y.o];simp[B]);have HK:=Hm j;clear j B;(go_wp2_with fail);refine(JZ q r z true V g.o.tw).mono ?_;rintro e w4 ⟨rfl,E,R⟩;have HF:=Hm (g.o.call E R);clear E R;go_wp2;go_ret;refine⟨_,rfl,?_⟩;rw[Y.o,HK.o];exact HF.o
   (have ac:((Sz0 (J4 d)).toList==(Sz0 s).toList)=false:=by rw[Xt];simp[B]);(have j:okS s=false:=by unfold okS;rw[Y.o];simp[B]);have HK:=Hm j;clear j B;(go_wp2_with fail);refine(JZ q r z false V g.o.tw).mono ?_;rintro e w4 ⟨rfl,E,R⟩;have HF:=Hm (g.o.call E R);clear E R;go_wp2;go_ret;refine⟨_,rfl,?_⟩;rw[Y.o,HK.o];exact HF.o
 have hp:0<N b:=by cases b with|nil=>exact absurd rfl C|cons a l=>simp
 have KB:=Hm (tbyte_c q b wr C (by omega) KV.o);have h1:=dec1_pos b;have h2:=dec1_le C;have L:decW m=(d++[(XQ b).1])++decW (b.drop (XQ b).2):=by rw[M,decW,dif_neg C];simp
 have aj:=Hm L;clear M L A C KV;generalize ae:XQ b=dd at *;obtain⟨c,n⟩:=dd;dsimp only at *;clear ae;have a3:(n:Int)<=(N b:Int):=by omega
 go_wp2_with fail
 refine KB.o.mono ?_;rintro e V ⟨rfl,p⟩;have t:=D.o.below p;have g:=Hm t;have ho:V.ownsRow w.heap.size 5 1 (S va (N d) vc) (N d) (Uz0 (Iy d)):=t.own.head;have a5:=t.gr.size;clear p KB D t;go_wp2_with (at_builtin;refine wal info5 (ho.alloc _) [U .u8 (c.toNat:Int)] (cell_one_new _ _ _) (oneB _) ?_;intro v' w4 f k ad u;have y:=Hm (And.intro f (And.intro k u));obtain⟨a1,a0,rfl⟩:=QO f;clear f k ad u)
 refine⟨⟨b.drop n,d++[c],?_,?_,aj.o,?_⟩,?_⟩
 . rw[XX];simp
 . refine g.o.push (r':=bRow _ (d++[c])) (bFz.alloc lRz _) y.o.2.1 ?_ y.o.2.2;show World.ownsRow _ _ _ _ _ _ _;simpa using y.o.1
 . simp;omega
 simp[sz1];omega
end YtejkdbnngphgaaaGreatDoor.Yz
namespace YtejkdbnngphgaaaGreatDoor.Yz
open Go.RowKit Go.Sort
def fl (ok:Wd->Bool)(ws:List Wd)(z:Bool):Bool:=(z || ws.isEmpty) || !ok (ws.headD [])
theorem Xf {ok:Wd->Bool}{ws:List Wd}{z:Bool}:fl ok ws z=false ↔ z=false/\∃s r,ws=s::r/\ok s=true:=by
 cases ws with
 |nil=>simp[fl]
 |cons s r=>simp[fl]
theorem fl_cons {ok:Wd->Bool}{s:Wd}{r:List Wd}{z:Bool}:fl ok (s::r) z=(z || !ok s):=by simp[fl]
def okU (s:Wd):Bool:=okN 0 4294967295 s
def nv (s:Wd):Int:=(okP s).getD 0
def okT (s:Wd):Bool:=!(tyN s==0)
def okK (s:Wd):Bool:=(lkL knL s).isSome
def okM (s:Wd):Bool:=(lkL mtL s).isSome
def kdN (s:Wd):Int:=(lkL knL s).getD 0
def muN (s:Wd):Int:=(lkL mtL s).getD 0
def JA (s:Wd):Bool:=okS s&&nameB (Sz0 (Qm s))
section
variable (q:Nat) (ws:List Wd) (bad:Bool) (w:J) (h:Tw w q ws bad)
include h
theorem u32_p (hl:∀x∈ws,N x<=1048576)(b:Vs q w):Ec Q 90 #[Yp (some ⟨q,0,none⟩)] w λe a=>∃x:Int,e=Z (U O x)/\Rd q w [] ws.tail (fl okU ws bad) a/\(okU (ws.headD [])=true->x=nv (ws.headD [])):=by
 refine(u32_c q ws bad w h (λx hx=>by have:=hl x hx;omega) b).mono ?_;rintro e a ⟨x,rfl,t,g,hx⟩;exact⟨x,rfl,(Rd.start h).call t g,λhk=>by unfold nv;rw[hx hk];rfl⟩
theorem vty_p:Ec Q 112 #[Yp (some ⟨q,0,none⟩)] w λe a=>e=Z (U O (tyN (ws.headD [])))/\Rd q w [] ws.tail (fl okT ws bad) a:=by
 refine(vty_c q ws bad w h).mono ?_;rintro e a ⟨rfl,t,g⟩;refine⟨rfl,(Rd.start h).call ?_ g⟩;simpa[fl,okT]using t
theorem kind_p:Ec Q 151 #[Yp (some ⟨q,0,none⟩)] w λe a=>e=Z (U O (kdN (ws.headD [])))/\Rd q w [] ws.tail (fl okK ws bad) a:=by
 refine(kind_c q ws bad w h).mono ?_;rintro e a ⟨rfl,t,g⟩;refine⟨rfl,(Rd.start h).call ?_ g⟩;have:(!okK (ws.headD []))=(lkL knL (ws.headD [])).isNone:=by unfold okK;cases lkL knL (ws.headD [])<;>rfl
 unfold fl;rw[this];exact t
theorem str_p (hl:∀x∈ws,N x<=1048576)(f:Vs q w):Ec Q 106 #[Yp (some ⟨q,0,none⟩)] w λe b=>∃a c,e=Z (S a (Qm (ws.headD [])).length c)/\Rd q w [bRow (S a (Qm (ws.headD [])).length c) (Qm (ws.headD []))] ws.tail (fl okS ws bad) b:=by
 refine(str_c q ws bad w h hl f).mono ?_;rintro e b ⟨v,rfl,d⟩;obtain⟨a,c,rfl⟩:=QO (show b.ownsRow w.heap.size 5 1 v (Qm (ws.headD [])).length (Uz0 (Iy (Qm (ws.headD []))))from d.own.head);exact⟨a,c,rfl,d⟩
theorem name_p (hl:∀x∈ws,N x<=1048576)(m:Vs q w):Ec Q 147 #[Yp (some ⟨q,0,none⟩)] w λe w'=>e=Z (Xs (Sz0 (Qm (ws.headD []))))/\Rd q w [] ws.tail (fl JA ws bad) w':=by
 have K:=Hm (str_p q ws bad w h hl m);have d:(ws.headD []).length<=1048576:=by
  cases ws with
  |nil=>simp
  |cons x r=>exact hl x (by simp)
 have k:fl JA ws bad=(fl okS ws bad || !nameB (Sz0 (Qm (ws.headD [])))):=by unfold fl JA;cases bad<;>cases ws.isEmpty<;>cases okS (ws.headD [])<;>cases nameB (Sz0 (Qm (ws.headD [])))<;>rfl
 rw[k];clear h hl m k;generalize ws.headD []=s at *;have b:(Sz0 (Qm s)).size<=1048576:=by rw[QJ];exact Kf (Xm s) d
 generalize fl okS ws bad=z at *;generalize ws.tail=r at *;go_enter func147,ntmps147;go_wp2_with fail
 refine K.o.mono ?_;rintro e j ⟨va,v,rfl,c⟩;have p:=Hm c;have f:=XF (show j.ownsRow w.heap.size 5 1 (S va (Qm s).length v) (Qm s).length (Uz0 (Iy (Qm s)))from c.own.head);clear c K;go_wp2_with fail
 refine(iname_ok (Sz0 (Qm s)) j b).mono ?_;rintro e u ⟨rfl,l⟩;have a:=Hm (p.o.below l);clear l p;have n:=Hm (JZ q r z (nameB (Sz0 (Qm s))) u a.o.tw);clear f;go_wp2_with fail
 refine n.o.mono ?_;rintro e A ⟨rfl,t,g⟩;have y:=Hm (a.o.call t g).tail;clear t g n;go_wp2;go_ret;exact⟨rfl,y.o⟩
end
def EnP {R:Type}(F:List Wd->Option R)(Rep:R->List Vu->List Qb->Prop)(kv:List Vu->Vu)(q:Nat)(w:J)(ws:List Wd)(bad:Bool)(e:Ending)(w':J):Prop:=∃x c r ws' bd,e=Z (kv c)/\Rep x c r/\Rd q w r ws' bd w'/\(bd=false->ws'=[]->bad=false/\F ws=some x)/\(∀y,bad=false->F ws=some y->bd=false/\ws'=[]/\x=y)
theorem bR_eq (v:Vu)(b:Wd):bR v (Iy b)=bRow v b:=by
 unfold bR bRow;rw[List.length_map]
def if3 {α:Type}(o1 o2 o3:Wd->Bool)(f:Wd->Wd->Wd->α):List Wd->Option α
 |[a,b,c]=>if o1 a&&(o2 b&&o3 c)then some (f a b c)else none
 |_=>none
theorem if3_ok {α:Type}{o1 o2 o3:Wd->Bool}{f:Wd->Wd->Wd->α}{ws:List Wd}{bad z:Bool}(k:fl o3 ws.tail.tail (fl o2 ws.tail (fl o1 ws bad))=z){x:α}(hx:o1 (ws.headD [])=true->o2 (ws.tail.headD [])=true->o3 (ws.tail.tail.headD [])=true->x=f (ws.headD []) (ws.tail.headD []) (ws.tail.tail.headD [])):(z=false->ws.tail.tail.tail=[]->bad=false/\if3 o1 o2 o3 f ws=some x)/\(∀y,bad=false->if3 o1 o2 o3 f ws=some y->z=false/\ws.tail.tail.tail=[]/\x=y):=by
 refine⟨λh1 h2=>?_,λy h1 h2=>?_⟩
 . rw[h1]at k;obtain⟨l,c,q,v,d⟩:=Xf.1 k;obtain⟨m,b,r,A,g⟩:=Xf.1 l;obtain⟨u,a,t,B,j⟩:=Xf.1 m;subst B;have p:t=b::r:=A;subst p;have o:r=c::q:=v;subst o;have n:q=[]:=h2;subst n;exact⟨u,by simp[if3,j,g,d,hx j g d]⟩
 match ws,h2 with
 |[a,b,c],h2 =>
  simp only[if3]at h2
  split at h2
  · rename_i s
    simp only[Bool.and_eq_true]at s
    obtain⟨j,g,d⟩:=s
    cases h2
    exact⟨by rw[<- k];simp[fl,j,g,d,h1],rfl,hx j g d⟩
  . cases h2
 |[],h2=>cases h2
 |[_],h2=>cases h2
 |[_,_],h2=>cases h2
 |_::_::_::_::_,h2=>cases h2
def XV:List Wd->Option Exp:=if3 JA okK okU λa b c=>⟨Sz0 (Qm a),kdN b,nv c⟩
def cusF:List Wd->Option Cus:=if3 okU JA okS λa b c=>⟨nv a,Sz0 (Qm b),Iy (Qm c)⟩
theorem exported_c (q:Nat)(ws:List Wd)(bad:Bool)(w:J)(h:Tw w q ws bad)(hl:∀x∈ws,N x<=1048576)(hV:Vs q w):Ec Q 94 #[Yp (some ⟨q,0,none⟩)] w (EnP XV RExp agV q w ws bad):=by
 obtain⟨g,hg⟩:∃g,g=w.heap.size:=⟨_,rfl⟩;obtain⟨W,hW⟩:∃W,W=w.alloc (Fc #[Xs ⟨#[]⟩,U O 0,U O 0] 157):=⟨_,rfl⟩;have hr:Rd q w [box 157 3 g [Xs ⟨#[]⟩,U O 0,U O 0]] ws bad W:=by have:=(Rd.start h).box (cur:=#[Xs ⟨#[]⟩,U O 0,U O 0]) 157 3 rfl;rw[hW,hg];exact this
 have HV:=Hm hV;have ab:=Hm hr;obtain⟨D,A⟩:∃s,s=ws.headD []:=⟨_,rfl⟩;obtain⟨j,d⟩:∃t,t=ws.tail:=⟨_,rfl⟩;obtain⟨z1,n⟩:∃z,z=fl JA ws bad:=⟨_,rfl⟩;have ad:Hid (∀x∈j,N x<=1048576):=by show ∀x∈j,N x<=1048576;rw[d];exact λx hx=>hl x (Mh hx)
 obtain⟨C,y⟩:∃s,s=j.headD []:=⟨_,rfl⟩;obtain⟨f,c⟩:∃t,t=j.tail:=⟨_,rfl⟩;obtain⟨z2,m⟩:∃z,z=fl okK j z1:=⟨_,rfl⟩;have ac:Hid (∀x∈f,N x<=1048576):=by show ∀x∈f,N x<=1048576;rw[c];exact λx hx=>ad.o x (Mh hx)
 obtain⟨s3,u⟩:∃s,s=f.headD []:=⟨_,rfl⟩;obtain⟨t3,r⟩:∃t,t=f.tail:=⟨_,rfl⟩;obtain⟨z3,l⟩:∃z,z=fl okU f z2:=⟨_,rfl⟩;have k:=Hm (⟨A,y,u,d,c,r,n,m,l⟩:D=ws.headD []/\C=j.headD []/\s3=f.headD []/\j=ws.tail/\f=j.tail/\t3=f.tail/\z1=fl JA ws bad/\z2=fl okK j z1/\z3=fl okU f z2);have K1:=Hm (name_p q ws bad W hr.tw hl (hr.vs HV.o));rw[<- k.o.1,<- k.o.2.2.2.1,<- k.o.2.2.2.2.2.2.1]at K1;clear hr h A y u d c r n m l;go_enter func94,ntmps94;go_upto_region 1 with fail
 rw[<- hW,<- hg];clear hW hg;go_wp2_with fail
 refine K1.o.mono ?_;rintro e w1 ⟨rfl,r1⟩;have B:=(ab.o.more r1).box (cur:=#[Xs (Sz0 (Qm D)),U O 0,U O 0]) 157 3 rfl;obtain⟨p,hp⟩:∃p,p=w1.heap.size:=⟨_,rfl⟩;obtain⟨V1,M⟩:∃V,V=w1.alloc (Fc #[Xs (Sz0 (Qm D)),U O 0,U O 0] 157):=⟨_,rfl⟩;rw[<- hp,<- M]at B;have aa:=Hm B;clear r1 K1 ab;have K2:=Hm (kind_p q j z1 V1 B.tw );rw[<- k.o.2.1,<- k.o.2.2.2.2.1,<- k.o.2.2.2.2.2.2.2.1]at K2;clear B;go_upto_region 2 with fail
 rw[<- M,<- hp];clear M hp;go_wp2_with fail
 refine K2.o.mono ?_;rintro e w2 ⟨rfl,r2⟩;have H:=(aa.o.more r2);obtain⟨ca,fa⟩:=H.b0 1;have a:=H.set 1 (U O (kdN C));obtain⟨V2,L⟩:∃V,V=w2.setCell ⟨p,1,none⟩ (U O (kdN C)):=⟨_,rfl⟩;rw[<- L]at a;have Y:=Hm a;clear r2 K2 aa H;have K3:=Hm (u32_p q f z2 V2 a.tw ac.o (a.vs HV.o));rw[<- k.o.2.2.1,<- k.o.2.2.2.2.2.1,<- k.o.2.2.2.2.2.2.2.2]at K3;clear a;go_upto_region 3 with fail
 rw[<- L];clear L ca fa;go_wp2_with fail
 refine K3.o.mono ?_;rintro e w3 ⟨E,rfl,r3,R⟩;have ax:=Hm R;clear R;have F:=(Y.o.more r3);obtain⟨ca,fa⟩:=F.b0 2;have b:=F.set 2 (U O E);obtain⟨V3,I⟩:∃V,V=w3.setCell ⟨p,2,none⟩ (U O E):=⟨_,rfl⟩;rw[<- I]at b;have X:=Hm b;clear r3 K3 Y F;clear b;go_upto_region 4 with fail
 rw[<- I];clear I ca fa;have a:=X.o;have bk:=(a.b0 0).1;have bj:=(a.b0 1).1;have bh:=(a.b0 2).1;have b:=a.perm (List.Perm.swap _ _ _);obtain⟨bf,bb⟩:=b.b0 0;obtain⟨bd,ba⟩:=b.b0 1;obtain⟨bc,a9⟩:=b.b0 2;have HF:=Hm (((b.set 0 (Xs (Sz0 (Qm D)))).set 1 (U O (kdN C))).set 2 (U O E));clear a b X hl ad ac;go_wp2;refine Jp (λW'=>Rd q w (box 157 3 g [Xs (Sz0 (Qm D)),U O (kdN C),U O E]::box 157 3 p [Xs (Sz0 (Qm D)),U O (kdN C),U O E]::[]) t3 z3 W') HF.o ?_;intro W' hw;have u0:=(hw.b0 0).1;have u1:=(hw.b0 1).1;have u2:=(hw.b0 2).1;refine bodyPost_ret (v:=Ag #[Xs (Sz0 (Qm D)),U O (kdN C),U O E]) (by simp[results,results94,go_sem,u0,u1,u2]) rfl ?_;obtain⟨A,y,u,d,c,r,n,m,l⟩:=k.o;refine⟨⟨Sz0 (Qm D),kdN C,E⟩,_,[],t3,z3,rfl,⟨rfl,rfl⟩,hw.tail.tail,?_⟩;subst A y u d c r;refine if3_ok (by rw[l,m,n]) λk1 k2 k3=>?_;rw[ax.o k3]
theorem custom_c (q:Nat)(ws:List Wd)(bad:Bool)(w:J)(h:Tw w q ws bad)(hl:∀x∈ws,N x<=1048576)(hV:Vs q w):Ec Q 81 #[Yp (some ⟨q,0,none⟩)] w (EnP cusF RCus agV q w ws bad):=by
 obtain⟨g,hg⟩:∃g,g=w.heap.size:=⟨_,rfl⟩;obtain⟨W,hW⟩:∃W,W=w.alloc (Fc #[U O 0,Xs ⟨#[]⟩,S none 0 0] 131):=⟨_,rfl⟩;have hr:Rd q w [box 131 3 g [U O 0,Xs ⟨#[]⟩,S none 0 0]] ws bad W:=by have:=(Rd.start h).box (cur:=#[U O 0,Xs ⟨#[]⟩,S none 0 0]) 131 3 rfl;rw[hW,hg];exact this
 have HV:=Hm hV;have ae:=Hm hr;obtain⟨s1,C⟩:∃s,s=ws.headD []:=⟨_,rfl⟩;obtain⟨l,f⟩:∃t,t=ws.tail:=⟨_,rfl⟩;obtain⟨z1,u⟩:∃z,z=fl okU ws bad:=⟨_,rfl⟩;have Y:Hid (∀x∈l,N x<=1048576):=by show ∀x∈l,N x<=1048576;rw[f];exact λx hx=>hl x (Mh hx)
 obtain⟨D,B⟩:∃s,s=l.headD []:=⟨_,rfl⟩;obtain⟨k,d⟩:∃t,t=l.tail:=⟨_,rfl⟩;obtain⟨z2,r⟩:∃z,z=fl JA l z1:=⟨_,rfl⟩;have af:Hid (∀x∈k,N x<=1048576):=by show ∀x∈k,N x<=1048576;rw[d];exact λx hx=>Y.o x (Mh hx)
 obtain⟨c,A⟩:∃s,s=k.headD []:=⟨_,rfl⟩;obtain⟨t3,y⟩:∃t,t=k.tail:=⟨_,rfl⟩;obtain⟨z3,n⟩:∃z,z=fl okS k z2:=⟨_,rfl⟩;have m:=Hm (⟨C,B,A,f,d,y,u,r,n⟩:s1=ws.headD []/\D=l.headD []/\c=k.headD []/\l=ws.tail/\k=l.tail/\t3=k.tail/\z1=fl okU ws bad/\z2=fl JA l z1/\z3=fl okS k z2);have K1:=Hm (u32_p q ws bad W hr.tw hl (hr.vs HV.o));rw[<- m.o.1,<- m.o.2.2.2.1,<- m.o.2.2.2.2.2.2.1]at K1;clear hr h C B A f d y u r n;go_enter func81,ntmps81;go_upto_region 1 with fail
 rw[<- hW,<- hg];clear hW hg;go_wp2_with fail
 refine K1.o.mono ?_;rintro e w1 ⟨H,rfl,r1,aa⟩;have az:=Hm aa;clear aa;have j:=(ae.o.more r1).box (cur:=#[U O H,Xs ⟨#[]⟩,S none 0 0]) 131 3 rfl;obtain⟨p,hp⟩:∃p,p=w1.heap.size:=⟨_,rfl⟩;obtain⟨V1,X⟩:∃V,V=w1.alloc (Fc #[U O H,Xs ⟨#[]⟩,S none 0 0] 131):=⟨_,rfl⟩;rw[<- hp,<- X]at j;have ad:=Hm j;clear r1 K1 ae;have K2:=Hm (name_p q l z1 V1 j.tw Y.o (j.vs HV.o));rw[<- m.o.2.1,<- m.o.2.2.2.2.1,<- m.o.2.2.2.2.2.2.2.1]at K2;clear j;go_upto_region 2 with fail
 rw[<- X,<- hp];clear X hp;go_wp2_with fail
 refine K2.o.mono ?_;rintro e w2 ⟨rfl,r2⟩;have L:=(ad.o.more r2);obtain⟨ca,fa⟩:=L.b0 1;have a:=L.set 1 (Xs (Sz0 (Qm D)));obtain⟨V2,R⟩:∃V,V=w2.setCell ⟨p,1,none⟩ (Xs (Sz0 (Qm D))):=⟨_,rfl⟩;rw[<- R]at a;have ac:=Hm a;clear r2 K2 ad L;have K3:=Hm (str_p q k z2 V2 a.tw af.o (a.vs HV.o));rw[<- m.o.2.2.1,<- m.o.2.2.2.2.2.1,<- m.o.2.2.2.2.2.2.2.2]at K3;clear a;go_upto_region 3 with fail
 rw[<- R];clear R ca fa;go_wp2_with fail
 refine K3.o.mono ?_;rintro e w3 ⟨F,E,rfl,r3⟩;have I:=(ac.o.more r3).perm (by simpa using List.perm_append_comm (l₁:=[_]));obtain⟨ca,fa⟩:=I.b0 2;have b:=I.set 2 (S F (Qm c).length E);obtain⟨V3,M⟩:∃V,V=w3.setCell ⟨p,2,none⟩ (S F (Qm c).length E):=⟨_,rfl⟩;rw[<- M]at b;have ab:=Hm b;clear r3 K3 ac I;clear b;go_upto_region 4 with fail
 rw[<- M];clear M ca fa;have a:=ab.o;have bn:=(a.b0 0).1;have bm:=(a.b0 1).1;have bl:=(a.b0 2).1;have b:=a.perm (List.Perm.swap _ _ _);obtain⟨bj,bf⟩:=b.b0 0;obtain⟨bh,bd⟩:=b.b0 1;obtain⟨bg,bc⟩:=b.b0 2;have HF:=Hm (((b.set 0 (U O H)).set 1 (Xs (Sz0 (Qm D)))).set 2 (S F (Qm c).length E));clear a b ab hl Y af;go_wp2;refine Jp (λW'=>Rd q w (box 131 3 g [U O H,Xs (Sz0 (Qm D)),S F (Qm c).length E]::box 131 3 p [U O H,Xs (Sz0 (Qm D)),S F (Qm c).length E]::[bRow (S F (Qm c).length E) (Qm c)]) t3 z3 W') HF.o ?_;intro W' hw;have u0:=(hw.b0 0).1;have u1:=(hw.b0 1).1;have u2:=(hw.b0 2).1;refine bodyPost_ret (v:=Ag #[U O H,Xs (Sz0 (Qm D)),S F (Qm c).length E]) (by simp[results,results81,go_sem,u0,u1,u2]) rfl ?_;obtain⟨C,B,A,f,d,y,u,r,n⟩:=m.o;refine⟨⟨H,Sz0 (Qm D),Iy (Qm c)⟩,_,[bR (S F (Qm c).length E) (Iy (Qm c))],t3,z3,rfl,⟨_,rfl,rfl⟩,?_,?_⟩
 . rw[bR_eq];exact hw.tail.tail
 subst C B A f d y;refine if3_ok (by rw[n,r,u]) λk1 k2 k3=>?_;rw[az.o k1]
