import Derived.Test.YtejkdbnngphgaaaGreatDoorGaa
import Derived.Maps.AppendAt
import Derived.Deep.Cut
import Derived.ScopeJumps
import Derived.Deep.Onto
import Derived.Sort.Grow
import Derived.Great.Frames
import Derived.Orders
set_option linter.all false
set_option maxHeartbeats 400000000
set_option maxRecDepth 100000
namespace Go.Proofs
open Value renaming int->U,slice->S,bool->G,pointer->Yp,string->Xs,agg->Ag
open IntKind renaming i64->O,u64->Ou
open Ending renaming returned->Z
open Obj renaming cells->Fc
open Go renaming World->J,Calls->Ec,Value->Vu,Addr->Ad
open Go.RowKit renaming Below->Bw
open Tryz renaming prog->Q
open Tryz
open Value renaming int->Rz,ownBlock->Lc,slice->Ig
open List renaming replicate->Lg,getElem?_toArray->Pm,getElem?_append_left->Hb,append_assoc->Kd,set_append_right->Pc,getElem?_append_right->Lz,getElem?_eq_getElem->Kv,map_append->Rb,map_cons->Mm,map_nil->Rm,drop_eq_getElem_cons->Tx,getD->Ty,nodup_append->Em,perm_append_comm_assoc->Ib,getElem?_eq_none->Hh,range->Pg,all_eq_true->Px,mem_range->Ic,mem_of_getElem?->Tj,mem_filter->Cq,size_toArray->Rv,getD_eq_getElem?_getD->Lj,length->N
open Nat renaming lt_or_ge->Pv,pow_succ->Pn,div_div_eq_div_mul->Ef,mod_eq_of_lt->Mc,le_succ->Dp,zero_le->Hw,strongRecOn->Rf,lt_trans->Dy,lt_of_lt_of_eq->Ry
open Option renaming map_some->Lw,getD_some->Lh
open World renaming block_lt_of_cell?->Kh,size_alloc->Aw,cell?_alloc_past->Ey,frozen?_alloc_new->Py,cell?_of_block->Kx,frozen?_of_block->Mj,frozen?_setCell->Tn,cell?_setCell_other->Tk
open Region renaming wanted->Hg,ready->Rc
open _root_.Array renaming getD_eq_getD_getElem?->Pk,any_eq_true'->Bj,all_eq_true'->Bq,replicate->Vj,getElem?_eq_getElem->Lx
open Bool renaming and_eq_true->Hy,or_eq_true->Vk,not_eq_true'->Dc
open Act renaming put->Vq,eval_put_same->Bf,eval_put_ne->Ah,eval->Cc
open Oper renaming wp->Cv,upon_value->Ck
namespace YtejkdbnngphgaaaGreatDoor
open Go.RowKit
theorem conv_c (l:List UInt8)(b o c:Nat)(w:J)(hc:∀j (a:j<N l),w.cell? ⟨b,o+j,none⟩=some (U .u8 (l[j].toNat:Int))) :
    (convert 22 9 (S (some ⟨b,o,none⟩) (N l) c)).run Q w=.ok (Xs (Sz0 l)) w :=
 run_convert_bytes_back w 22 9 5 ⟨b,o,none⟩ c l underlying22 underlying5 underlying9 (fun j a=>by
  rw[show(⟨b,o,none⟩:Ad).add j=⟨b,o+j,none⟩ by unfold Addr.add;split<;>simp_all]
  exact hc j a)
theorem hx_at:∀k (h:k<16),((⟨#[48,49,50,51,52,53,54,55,56,57,97,98,99,100,101,102]⟩:ByteArray)[k]'(by exact h))=hx k:=by decide
theorem JU (x:Nat)(w:J)(h:x<256):Ec Q 186 #[U .u8 (x:Int)] w λe w'=>e=Z (U .u8 ((hx (x%16)).toNat:Int))/\w=w':=by
 have a:=Hm (hx_at (x%16) (by omega));go_enter func186,ntmps186;go_wp2;go_ret;refine⟨?_,rfl⟩;rw[<- a.o];rfl
abbrev Uz0 (xs:List Int):List Vu:=xs.map (Rz .u8)
end YtejkdbnngphgaaaGreatDoor
namespace YtejkdbnngphgaaaGreatDoor.Yz
open Go.RowKit
theorem tz16_c (w:J)(b:w.cell? ⟨7,15,none⟩=some (U .u8 4)):Ec Q 267 #[U Ou 16] w λe w'=>e=Z (U O 4)/\w=w':=by
 have a:IntKind.u64.wrap (bits .and Ou 16 (IntKind.u64.wrap (-16))*285870213051353865) / 288230376151711744=15:=by decide
 go_enter func267,ntmps267;go_wp2;go_ret;exact⟨rfl,rfl⟩
theorem pow2_c (w:J):Ec Q 266 #[U O 16] w λe w'=>e=Z (G true)/\w=w':=by
 have a:bits .and O 16 15=0:=by decide
 go_enter func266,ntmps266;go_wp2;go_ret;exact⟨rfl,rfl⟩
def hxA (u k:Nat):Array Vu:=(Lg (65-k) (Rz .u8 0)++(JG k u).map (λb=>Rz .u8 (b.toNat:Int))).toArray
theorem hxA_at (u k:Nat)(a:k<65):(hxA u k)[64-k]?=some (Rz .u8 0):=by
 simp only[hxA,Pm];rw[Hb (by simp;omega),List.getElem?_replicate,if_pos (by omega)]
theorem hxA_set (u k:Nat)(a:k<65):(hxA u k).setIfInBounds (64-k) (Rz .u8 ((hx (u / 16 ^ k%16)).toNat:Int))=hxA u (k+1):=by
 simp only[hxA,List.setIfInBounds_toArray];congr 1
 rw[hexN_cons,show 65-k=(64-k)+1 by omega,List.replicate_succ',Kd,Pc _ _ (by simp)];simp[show 65-(k+1)=64-k by omega]
theorem hx36_at:∀k (h:k<16),((⟨#[48,49,50,51,52,53,54,55,56,57,97,98,99,100,101,102,103,104,105,106,107,108,109,110,111,112,113,114,115,116,117,118,119,120,121,122]⟩:ByteArray)[k]'(by show k<36;omega))=hx k:=by decide
theorem k14 (u k:Nat)(c:u<18446744073709551616)(h:16<=u / 16 ^ k):k<=14:=by
 rcases Pv k 15 with a|a
 . omega
 have b:16 ^ 15<=16 ^ k:=Nat.pow_le_pow_right (by omega) a;have f:u / 16 ^ k<=u / 16 ^ 15:=Nat.div_le_div_left b (by decide);have d:u / 16 ^ 15<16:=by rw[show(16:Nat) ^ 15=1152921504606846976 by decide];omega
 omega
theorem hxA_cell (u k m j:Nat)(a:k+m=64)(b:j<(JG (k+1) u).length)(w:J):(w.alloc (Fc (hxA u (k+1)) 310)).cell? ⟨w.heap.size,m+j,none⟩=some (U .u8 ((JG (k+1) u)[j].toNat:Int)):=by
 have:(hxA u (k+1))[m+j]?=some (U .u8 ((JG (k+1) u)[j].toNat:Int)):=by simp only[hxA,Pm];rw[Lz (by simp;omega)];simp only[List.length_replicate,show m+j-(65-(k+1))=j by omega,List.getElem?_map,Kv b,Lw]
 simp[this]
theorem sl_c (b m k:Nat)(c:k+m=64)(W:J):(Instr.sliceAt 310 (Yp (some ⟨b,0,none⟩)) (some (U O (m:Int))) none none).run Q W=.ok (S (some ⟨b,m,none⟩) (k+1) (k+1)) W:=by
 have a:Q.arrayLen 310=65:=by kernel_rfl
 rw[run_sliceAt_array_l W 310 ⟨b,0,none⟩ (by simp[Program.arrayLen,Program.elem,underlying310]) O (m:Int) (by omega) (by rw[a];omega)];have f:¬65=m:=by omega
 have g:65-m=k+1:=by omega
 have d:Q.elem 310=5:=by kernel_rfl
 rw[a,d];go_simp
theorem fmt16_c (u:Nat)(w:J)(z:u<18446744073709551616)(C:w.cell? ⟨7,15,none⟩=some (U .u8 4)):Ec Q 254 #[S none 0 0,U Ou (u:Int),U O 16,G false,G false] w λe w'=>e=Z (.tuple #[S none 0 0,Xs (Sz0 (XP u))])/\Bw w.heap.size w w':=by
 have y:∀o,(w.alloc o).cell? ⟨7,15,none⟩=some (U .u8 4):=λo=>((bFz.alloc lRz o).cell (p:=⟨7,15,none⟩) (Kh w _ C)).trans C;go_enter func254,ntmps254;go_wp2_with (first|(go_at_call 266;refine(pow2_c _).mono ?_;rintro e w' ⟨rfl,rfl⟩)|(go_at_call 267;refine(tz16_c _ (y _)).mono ?_;rintro e w' ⟨rfl,rfl⟩))
 clear C y;have h0:zeroCells310=hxA u 0:=by rfl
 rw[h0];go_loopw [1,13] (λq i wr=>∃k m:Nat,k+m=64/\k<=15/\q=U Ou ((u / 16 ^ k:Nat):Int)/\i=U O ((m+1:Nat):Int)/\XP u=XP (u / 16 ^ k)++JG k u/\wr=w.alloc (Fc (hxA u k) 310)) (λq _ _=>(intOf q).toNat)
 case atStart=>exact⟨0,64,rfl,by omega,by simp,rfl,by simp[JG],rfl⟩
 obtain⟨k,m,s,hk,rfl,rfl,I,rfl⟩:=hrel;obtain⟨v,hv⟩:∃v,v=u / 16 ^ k:=⟨_,rfl⟩;have A:v<18446744073709551616:=by rw[hv];exact Nat.lt_of_le_of_lt (Nat.div_le_self _ _) z
 have X:64-k=m:=by omega
 have a:=hxA_set u k (by omega);have g:=hxA_at u k (by omega);rw[X]at a g;have M:=Hm I;have b:=Hm hv;have L:=Hm a;rw[<- hv];have Y:(w.alloc (Fc (hxA u k) 310)).cell? ⟨w.heap.size,m,none⟩=some (U .u8 0):=by simp[g]
 have R:IntKind.i64.wrap (((m+1:Nat):Int)-1)=(m:Int):=by rw[IntKind.wrap_i64];omega
 have t:bits .and Ou (v:Int) 15=((v%16:Nat):Int):=by have:=u64_and_nat v 15 A (by omega);rw[show((15:Nat):Int)=15 from rfl]at this;rw[this];have D:v &&& 15=v%16:=Nat.and_two_pow_sub_one_eq_mod v 4;rw[D]
 clear I hv a g;by_cases d:16<=v
 . (have r:(16:Int)<=(v:Int):=by omega);(have l:v%16<16:=by omega);(have B:((v%16:Nat):Int)<36:=by omega);have hx:=hx36_at (v%16) l;have E:=Hm hx;clear hx;go_wp2;go_roundw
   case rel=>
    refine⟨k+1,m-1,by have:=k14 u k z (by rw[<- b.o];exact d);omega,by have:=k14 u k z (by rw[<- b.o];exact d);omega,?_,?_,?_,?_⟩
    . rw[Pn,<- Ef,<- b.o];simp
    . rw[show m-1+1=m by have:=k14 u k z (by rw[<- b.o];exact d);omega]
    . rw[M.o,<- b.o,Pn,<- Ef,<- b.o,hexN_cons,<- b.o];conv=>lhs;rw[XP,dif_neg (by omega)]
      simp
    rw[E.o,b.o,L.o]
   case measure=>simp[intOf];omega
 have r:¬(16:Int)<=(v:Int):=by omega
 have l:v<16:=by omega
 have B:(v:Int)<36:=by omega
 have E:=Hm (hx36_at v l);have n:(hxA u k).setIfInBounds m (Rz .u8 ((hx v).toNat:Int))=hxA u (k+1):=by rw[<- L.o,<- b.o,Mc l]
 have F:=Hm n;have V:=λW=>sl_c w.heap.size m k s W;have f:=conv_c (JG (k+1) u) w.heap.size m (k+1) (w.alloc (Fc (hxA u (k+1)) 310)) (λj hj=>hxA_cell u k m j s hj w);rw[XK]at f;have H:=Hm f;have c:XP u=JG (k+1) u:=by rw[M.o,hexN_cons,<- b.o,Mc l,XP,dif_pos l];rfl
 have HF:=Hm c;clear n f c t;go_wp2;rw[E.o,F.o,H.o];go_wp2;go_ret2
 exact⟨by rw[HF.o];rfl,bFz.alloc lRz _⟩
theorem ifu_c (u:Nat)(w:J)(b:u<18446744073709551616)(a:w.cell? ⟨7,15,none⟩=some (U .u8 4)):Ec Q 237 #[U Ou (u:Int),U O 16] w λe w'=>e=Z (Xs (Sz0 (XP u)))/\Bw w.heap.size w w':=by
 have H:=Hm (fmt16_c u w b a);clear a;go_enter func237,ntmps237;go_wp2_with fail
 refine H.o.mono ?_;rintro e d ⟨rfl,c⟩;go_wp2;go_ret;exact⟨rfl,c⟩
theorem fu_c (u:Nat)(w:J)(b:u<18446744073709551616)(a:w.cell? ⟨7,15,none⟩=some (U .u8 4)):Ec Q 216 #[U Ou (u:Int),U O 16] w λe w'=>e=Z (Xs (Sz0 (XP u)))/\Bw w.heap.size w w':=by
 have H:=Hm (ifu_c u w b a);clear a;go_enter func216,ntmps216;go_wp2_with fail
 refine H.o.mono ?_;rintro e d ⟨rfl,c⟩;go_wp2;go_ret;exact⟨rfl,c⟩
end YtejkdbnngphgaaaGreatDoor.Yz
namespace YtejkdbnngphgaaaGreatDoor
open Go.RowKit
variable {dn bd:Bool}{Qz0:Exit->Act->J->Prop}{w W W' w':J}{ks:List Int}{zs:List Vu}{B e n cap b l k:Nat}{R:Option Nat}{P:Program}{v kv:Vu}
theorem opControl_c (p:Nat)(w:J)(h1:0<=p)(a:p<40):Ec Q 205 #[U O p] w λe w'=>e=Z (JN (Qe p))/\Bw w.heap.size w w':=by
 generalize hr:Qe p=r;have b:R52[p]?=some r:=by rw[<- hr];exact R52_at p h1 a
 go_enter func205,ntmps205;go_wp2_with fail
 rw[idxT underlying262 R52 (p:=p) (r:=r) (hr:=b) (hp:=a)];case hv=>kernel_rfl
 simp only[Result.andThen_ok];go_wp2;exact bodyPost_ret (v:=JN r) (by simp[results,results205,go_sem]) rfl ⟨rfl,by repeat (first|exact bFz|refine Below.setCell ?_ (by first|(simp;done)|(simp;omega)) _|refine Below.alloc ?_ (by first|(simp;done)|(simp;omega)) _|apply Below.drew)⟩
open Go.RowKit Go.Sort
def Q0 (n:List Bool)(op:Int):Option (List Bool) :=
 if n.isEmpty then none
 else if op=2\/op=3 then some (n++[false])
 else if op=4 then some (n++[true])
 else if op=5 then(if n.getLast?=some true then some (n.dropLast++[false])else none)
 else if op=11 then some n.dropLast
 else some n
abbrev Bs (n:List Bool):List Vu:=n.map Value.bool
theorem info4:(Q.info? 4).map (λi=>(i.zero,i.size,i.bytes))=some (some (G false),1,1):=by kernel_rfl
theorem oneV (b:Bool):∀u∈[Value.bool b],u.oneCell'=true:=by
 intro u a;simp at a;subst a;rfl
theorem QL (h:w.ownsRow B e 1 v n zs):∃a c,v=S a n c:=by
 rcases h.2 with ⟨e,b⟩|⟨g,cap,d,hv,_⟩
 . rw[b];exact⟨_,_,e⟩
 exact⟨_,_,hv⟩
theorem ownE_split {L:List Vu}(h:w.ownsRow B e 1 v n L)(d:1<=n):∃g cap,v=S (some ⟨g,0,none⟩) n cap/\B<=g/\g<w.heap.size/\n<=cap:=by
 rcases h.2 with ⟨_,f⟩|⟨g,cap,c,hv,b,a,hc,_⟩
 . omega
 exact⟨g,cap,hv,b,(Array.getElem?_eq_some_iff.1 a).1,hc⟩
theorem ownE_take {g:Nat}(h:w.ownsRow B e 1 (S (some ⟨g,0,none⟩) (n+1) cap) (n+1) zs):w.ownsRow B e 1 (S (some ⟨g,0,none⟩) n cap) n (zs.take n):=by
 rcases h.2 with ⟨b,_⟩|⟨p,j,f,b,m,l,k,d,c,a⟩
 . simp at b
 simp only[Value.slice.injEq,Option.some.injEq,Addr.mk.injEq,and_true,true_and]at b;obtain⟨rfl,rfl⟩:=b;have o:=h.1;refine⟨by simp;omega,.inr ⟨g,cap,f,rfl,m,l,by omega,d,c,?_⟩⟩;rw[<- a,List.take_take];congr 1
 omega
theorem XB {u:Vu}{o:Nat}(h:w.ownsRow B e 1 v n zs)(f:v.ownBlock≠some b):(w.setCell ⟨b,o,none⟩ u).ownsRow B e 1 v n zs:=by
 refine⟨h.1,?_⟩;rcases h.2 with j|⟨k,a,c,hv,g,d,r⟩
 . exact .inl j
 subst hv;exact .inr ⟨k,a,c,rfl,g,(Below.heap_setCell _ _ _ _ (λe=>f (by simp[Lc,e]))).trans d,r⟩
theorem Ji (a:Option Ad)(n c:Nat)(w:J):Ec Q 83 #[S a n c] w λe w'=>e=Z (G (decide (n=0)))/\w=w':=by
 by_cases h:n=0
 . subst h;go_enter func83,ntmps83;go_wp2;go_ret;exact⟨rfl,rfl⟩
 have b:((n:Int)==0)=false:=by simp;omega
 go_enter func83,ntmps83;go_wp2;go_ret;exact⟨by simp[h],rfl⟩
structure Ne (B g:Nat)(v:Vu)(n:List Bool)(w:J):Prop where
 cell:w.cell? ⟨g,0,none⟩=some v
 froz:w.frozen? ⟨g,0,none⟩=false
 own:w.ownsRow B 4 1 v (N n) (Bs n)
 ne:v.ownBlock≠some g
 ge:B<=g
 lt:g<w.heap.size
def Gd (B:Nat)(R:Option Nat)(kv:Vu)(w W:J):Prop:=Bw B w W/\w.grownBy W R/\(kv.ownBlock=R\/∀k,kv.ownBlock=some k->w.heap.size<=k)
theorem gr_set (h:w.grownBy W R){a:Ad}(ha:w.heap.size<=a.block\/some a.block=R)(u:Vu):w.grownBy (W.setCell a u) R :=
 ⟨h.os,h.tape,h.output,by simpa using h.size,λj hj hne=>(Below.heap_setCell _ _ _ _ (λe=>by rcases ha with ha|ha;omega;exact hne (by rw[<- ha,e]))).trans (h.block j hj hne)⟩
theorem gr_next {r:Option Nat}{o:Obj}(h:w.grownBy W R)(hg:(W.alloc o).grownBy W' r)(hr:r=R\/∀k,r=some k->w.heap.size<=k):w.grownBy W' R:=by
 have a:=hg.size;simp only[Aw]at a;have c:=h.size;refine⟨hg.os.trans h.os,hg.tape.trans h.tape,hg.output.trans h.output,by omega,λj hj hne=>?_⟩;have b:(W.alloc o).heap[j]?=W.heap[j]?:=Jy W o j (by omega);refine(hg.block j (by simp;omega) (λe=>?_)).trans (b.trans (h.block j hj hne));rcases hr with hr|hr
 . exact hne (by rw[e,hr])
 have:=hr j e.symm;omega
theorem Gd.setCell (h:Gd B R kv w W){a:Ad}(b:B<=a.block)(ha:w.heap.size<=a.block\/some a.block=R)(u:Vu):Gd B R kv w (W.setCell a u):=⟨h.1.setCell b u,gr_set h.2.1 ha u,h.2.2⟩
structure NX (w:J)(B:Nat)(R:Option Nat)(kv:Vu)(dn bd:Bool)(ks:List Int)(W:J):Prop where
 b0:W.cell? ⟨w.heap.size,0,none⟩=some kv
 b1:W.cell? ⟨w.heap.size,1,none⟩=some (G dn)
 b2:W.cell? ⟨w.heap.size,2,none⟩=some (G bd)
 bf:∀i,W.frozen? ⟨w.heap.size,i,none⟩=false
 r0:W.cell? ⟨w.heap.size+1,0,none⟩=some (S none 0 0)
 r1:W.cell? ⟨w.heap.size+1,1,none⟩=some (G false)
 r2:W.cell? ⟨w.heap.size+1,2,none⟩=some (G false)
 rf:∀i,W.frozen? ⟨w.heap.size+1,i,none⟩=false
 own:W.ownsRow B 2 1 kv (N ks) (I ks)
 n0:kv.ownBlock≠some w.heap.size
 n1:kv.ownBlock≠some (w.heap.size+1)
 bel:Gd B R kv w W
 lt:w.heap.size+1<W.heap.size
theorem NX.start (h:w.ownsRow B 2 1 kv (N ks) (I ks))(c:B<=w.heap.size):NX w B kv.ownBlock kv dn bd ks ((w.alloc (Fc #[kv,G dn,G bd] 49)).alloc (Fc #[S none 0 0,G false,G false] 49)):=by
 have b:(w.alloc (Fc #[kv,G dn,G bd] 49)).heap.size=w.heap.size+1:=by simp
 have a:=own_lt h;refine⟨?_,?_,?_,λi=>?_,Qn b.symm rfl,Qn b.symm rfl,Qn b.symm rfl,λi=>?_,(h.alloc _).alloc _,λe=>?_,λe=>?_,?_,by simp⟩
 . rw[Ey _ _ _ (by simp)];exact Qn rfl rfl
 . rw[Ey _ _ _ (by simp)];exact Qn rfl rfl
 . rw[Ey _ _ _ (by simp)];exact Qn rfl rfl
 . rw[World.frozen?_alloc_old _ _ _ (by simp)];exact Py _ _ _ _
 . rw[<- b];exact Py _ _ _ _
 . have:=a _ e;omega
 . have:=a _ e;omega
 exact⟨(bFz.alloc c _).alloc (by simp;omega) _,⟨rfl,rfl,rfl,by simp;omega,λj hj _=>(Jy _ _ j (by simp;omega)).trans (Jy w _ j hj)⟩,.inl rfl⟩
theorem NX.pushed {b:J}{a:Vu}{z:Int}{o:Obj}(h:NX w B R kv dn bd ks W)(r:B<=w.heap.size)(q:b.ownsRow B 2 1 a (N ks+1) (I ks++[U O z]))(hg:(W.alloc o).grownBy b kv.ownBlock)(hl:a.ownBlock=kv.ownBlock\/a.ownBlock=some (W.alloc o).heap.size):NX w B R a dn bd (ks++[z]) (b.setCell ⟨w.heap.size,0,none⟩ a)/\(b.cell? ⟨w.heap.size,0,none⟩=some kv/\b.cell? ⟨w.heap.size,1,none⟩=some (G dn)/\b.cell? ⟨w.heap.size,2,none⟩=some (G bd)/\∀i,b.frozen? ⟨w.heap.size,i,none⟩=false)/\b.cell? ⟨w.heap.size+1,0,none⟩=some (S none 0 0)/\b.cell? ⟨w.heap.size+1,1,none⟩=some (G false)/\b.cell? ⟨w.heap.size+1,2,none⟩=some (G false)/\∀i,b.frozen? ⟨w.heap.size+1,i,none⟩=false:=by
 have lt:=h.lt;have p:=hg.size;simp only[Aw]at p;have d:b.heap[w.heap.size]?=W.heap[w.heap.size]?:=by rw[hg.block _ (by simp;omega) (λe=>h.n0 e.symm)];exact Jy W o _ (by omega)
 have c:b.heap[w.heap.size+1]?=W.heap[w.heap.size+1]?:=by rw[hg.block _ (by simp;omega) (λe=>h.n1 e.symm)];exact Jy W o _ lt
 have c0:b.cell? ⟨w.heap.size,0,none⟩=some kv:=(Kx d).trans h.b0;have l:a.ownBlock≠some w.heap.size:=by
  rcases hl with e|e
  . rw[e];exact h.n0
  rw[e];intro g;injection g with g;simp at g;omega
 have n:a.ownBlock≠some (w.heap.size+1):=by
  rcases hl with e|e
  . rw[e];exact h.n1
  rw[e];intro g;injection g with g;simp at g;omega
 have f:∀i,(⟨w.heap.size,0,none⟩:Ad)≠⟨w.heap.size+1,i,none⟩:=λi e=>by have:=congrArg Addr.block e;simp at this
 refine⟨⟨QW c0,Qi ((Kx d).trans h.b1) (by omega),Qi ((Kx d).trans h.b2) (by omega),λi=>?_,?_,?_,?_,λi=>?_,?_,l,n,?_,by simp;omega⟩,⟨c0,(Kx d).trans h.b1,(Kx d).trans h.b2,λi=>(Mj d).trans (h.bf i)⟩,(Kx c).trans h.r0,(Kx c).trans h.r1,(Kx c).trans h.r2,λi=>(Mj c).trans (h.rf i)⟩
 . rw[Tn];exact(Mj d).trans (h.bf i)
 . rw[Tk _ _ _ _ (f 0)];exact(Kx c).trans h.r0
 . rw[Tk _ _ _ _ (f 1)];exact(Kx c).trans h.r1
 . rw[Tk _ _ _ _ (f 2)];exact(Kx c).trans h.r2
 . rw[Tn];exact(Mj c).trans (h.rf i)
 . (have:b.ownsRow B 2 1 a (ks++[z]).length (I (ks++[z])):=by simpa using q);exact XB this l
 refine Gd.setCell ?_ r (.inl lRz) _;refine⟨(h.bel.1.alloc (by omega) o).grown hg (by simp;omega) (λj hj=>(h.own.lt j hj).1),gr_next h.bel.2.1 hg h.bel.2.2,?_⟩;rcases hl with e|e
 . rw[e];exact h.bel.2.2
 right;intro k m;rw[e]at m;have:=Option.some.inj m;simp at this;omega
theorem NX.set {r:Nat}{m:List Int}{z:Int}(h:NX w B R (S (some ⟨r,0,none⟩) (N m+1) cap) dn bd (m++[z]) W)(hr:B<=r)(a:Int):NX w B R (S (some ⟨r,0,none⟩) (N m+1) cap) dn bd (m++[a]) (W.setCell ⟨r,N m,none⟩ (U O a)):=by
 have own:=h.own;rw[show(m++[z]).length=N m+1 by simp]at own;obtain⟨d,_⟩:=own.stored (N m) (U O a);have e:(I (m++[z])).set (N m) (U O a)=I (m++[a]):=by simp only[I,Rb,Mm,Rm];rw[Pc _ _ (by simp)];simp
 rw[e]at d;have g:r≠w.heap.size:=λe=>h.n0 (by simp[Lc,e]);have f:r≠w.heap.size+1:=λe=>h.n1 (by simp[Lc,e]);have c:∀i,(⟨r,N m,none⟩:Ad)≠⟨w.heap.size,i,none⟩:=λi e=>g (congrArg Addr.block e);have b:∀i,(⟨r,N m,none⟩:Ad)≠⟨w.heap.size+1,i,none⟩:=λi e=>f (congrArg Addr.block e);refine⟨?_,?_,?_,λi=>by rw[Tn];exact h.bf i,?_,?_,?_,λi=>by rw[Tn];exact h.rf i,by rw[show(m++[a]).length=N m+1 by simp];exact d,h.n0,h.n1,h.bel.setCell hr (by rcases h.bel.2.2 with e|e;exact .inr e;exact .inl (e r rfl)) _,by simpa using h.lt⟩
 . rw[Tk _ _ _ _ (c 0)];exact h.b0
 . rw[Tk _ _ _ _ (c 1)];exact h.b1
 . rw[Tk _ _ _ _ (c 2)];exact h.b2
 . rw[Tk _ _ _ _ (b 0)];exact h.r0
 . rw[Tk _ _ _ _ (b 1)];exact h.r1
 rw[Tk _ _ _ _ (b 2)];exact h.r2
theorem NX.drop {r:Nat}{m:List Int}{z:Int}(h:NX w B R (S (some ⟨r,0,none⟩) (N m+1) cap) dn bd (m++[z]) W)(c:B<=w.heap.size):NX w B R (S (some ⟨r,0,none⟩) (N m) cap) dn bd m (W.setCell ⟨w.heap.size,0,none⟩ (S (some ⟨r,0,none⟩) (N m) cap)):=by
 have own:=h.own;rw[show(m++[z]).length=N m+1 by simp]at own;have o2:=ownE_take own;have e:(I (m++[z])).take (N m)=I m:=by simp[I]
 rw[e]at o2;have b:(Ig (some ⟨r,0,none⟩) (N m) cap).ownBlock≠some w.heap.size:=λe=>h.n0 (by simpa[Lc]using e);have d:(Ig (some ⟨r,0,none⟩) (N m) cap).ownBlock≠some (w.heap.size+1):=λe=>h.n1 (by simpa[Lc]using e);have a:∀i,(⟨w.heap.size,0,none⟩:Ad)≠⟨w.heap.size+1,i,none⟩:=λi e=>by have:=congrArg Addr.block e;simp at this
 refine⟨QW h.b0,Qi h.b1 (by omega),Qi h.b2 (by omega),λi=>by rw[Tn];exact h.bf i,?_,?_,?_,λi=>by rw[Tn];exact h.rf i,XB o2 b,b,d,⟨h.bel.1.setCell c _,gr_set h.bel.2.1 (.inl lRz) _,h.bel.2.2⟩,by simpa using h.lt⟩
 . rw[Tk _ _ _ _ (a 0)];exact h.r0
 . rw[Tk _ _ _ _ (a 1)];exact h.r1
 rw[Tk _ _ _ _ (a 2)];exact h.r2
theorem NX.fin {x y z:Vu}(h:NX w B R kv dn bd ks W)(a:B<=w.heap.size) :
    (((W.setCell ⟨w.heap.size+1,0,none⟩ x).setCell ⟨w.heap.size+1,1,none⟩ y).setCell ⟨w.heap.size+1,2,none⟩ z).ownsRow B 2 1 kv (N ks) (I ks)/\Gd B R kv w (((W.setCell ⟨w.heap.size+1,0,none⟩ x).setCell ⟨w.heap.size+1,1,none⟩ y).setCell ⟨w.heap.size+1,2,none⟩ z) :=
 ⟨XB (XB (XB h.own h.n1) h.n1) h.n1,((h.bel.setCell (by show B<=w.heap.size+1;omega) (.inl (Dp _)) _).setCell (by show B<=w.heap.size+1;omega) (.inl (Dp _)) _).setCell (by show B<=w.heap.size+1;omega) (.inl (Dp _)) _⟩
theorem NX.flag (h:NX w B R kv dn bd ks W)(b:B<=w.heap.size)(z:Bool):NX w B R kv z bd ks (W.setCell ⟨w.heap.size,1,none⟩ (G z))/\NX w B R kv dn z ks (W.setCell ⟨w.heap.size,2,none⟩ (G z)):=by
 have a:∀j i,(⟨w.heap.size,j,none⟩:Ad)≠⟨w.heap.size+1,i,none⟩:=λj i e=>by have:=congrArg Addr.block e;simp at this
 constructor
 . refine⟨Qi h.b0 (by omega),QW h.b1,Qi h.b2 (by omega),λi=>by rw[Tn];exact h.bf i,?_,?_,?_,λi=>by rw[Tn];exact h.rf i,XB h.own h.n0,h.n0,h.n1,h.bel.setCell b (.inl lRz) _,by simpa using h.lt⟩
   . rw[Tk _ _ _ _ (a 1 0)];exact h.r0
   . rw[Tk _ _ _ _ (a 1 1)];exact h.r1
   rw[Tk _ _ _ _ (a 1 2)];exact h.r2
 refine⟨Qi h.b0 (by omega),Qi h.b1 (by omega),QW h.b2,λi=>by rw[Tn];exact h.bf i,?_,?_,?_,λi=>by rw[Tn];exact h.rf i,XB h.own h.n0,h.n0,h.n1,h.bel.setCell b (.inl lRz) _,by simpa using h.lt⟩
 . rw[Tk _ _ _ _ (a 2 0)];exact h.r0
 . rw[Tk _ _ _ _ (a 2 1)];exact h.r1
 rw[Tk _ _ _ _ (a 2 2)];exact h.r2
def Up (B:Nat)(w w':J):Prop:=∀k,B<=k->k<w.heap.size->w'.heap[k]?=w.heap[k]?
theorem Up.cell {o:Nat}{w w'}(u:Up B w w')(a:B<=b)(h:w.cell? ⟨b,o,none⟩=some v):w'.cell? ⟨b,o,none⟩=some v :=
 (Kx (u b a (Kh w _ h))).trans h
theorem Qc {w w'}(h:Bw w.heap.size w w'):Up B w w':=λk _ hk=>h.block k hk
def HI (k:IntKind)(B:Nat)(w:J)(a:Option Ad)(xs:List Int):Prop:=xs=[]\/∃b off,a=some ⟨b,off,none⟩/\B<=b/\∀i,i<N xs->w.cell? ⟨b,off+i,none⟩=some (U k (xs.getD i 0))
theorem HI.up {k:IntKind}{B w w' a xs}(h:HI k B w a xs)(u:Up B w w'):HI k B w' a xs:=by
 rcases h with h|⟨b,o,e,c,hc⟩
 . exact .inl h
 exact .inr ⟨b,o,e,c,λi hi=>u.cell c (hc i hi)⟩
theorem HI.mono {k:IntKind}{B':Nat}{w a xs}(h:HI k B w a xs)(d:B'<=B):HI k B' w a xs:=by
 rcases h with h|⟨b,o,e,c,hc⟩
 . exact .inl h
 exact .inr ⟨b,o,e,by omega,hc⟩
theorem HI.has {B w a xs}(h:HI O B w a xs):Has w a xs:=by
 rcases h with h|⟨b,o,e,c,hc⟩
 . exact .inl h
 exact .inr ⟨b,o,e,hc⟩
structure Qp where
 min:Int
 max:Int
 has:Bool
def Qp.z:Qp:=⟨0,0,false⟩
def Qp.Is (B:Nat)(w:J)(x:Qp):Prop:=True
def Qp.At (B:Nat)(w:J)(b o:Nat)(x:Qp):Prop:=(w.cell? ⟨b,o,none⟩=some (U O x.min)/\w.cell? ⟨b,o+1,none⟩=some (U O x.max)/\w.cell? ⟨b,o+2,none⟩=some (G x.has))/\Qp.Is B w x
def Qp.Ls (B:Nat)(w:J)(a:Option Ad)(xs:List Qp):Prop:=xs=[]\/∃b off,a=some ⟨b,off,none⟩/\B<=b/\∀i,i<N xs->Qp.At B w b (off+i*3) (xs.getD i Qp.z)
theorem Qp.Is.up {x:Qp}(h:Qp.Is B w x)(u:Up B w w'):Qp.Is B w' x:=h
theorem Qp.At.up {o:Nat}{x:Qp}(h:Qp.At B w b o x)(u:Up B w w')(a:B<=b):Qp.At B w' b o x:=by
 obtain⟨⟨f,d,c⟩,hi⟩:=h;exact⟨⟨u.cell a f,u.cell a d,u.cell a c⟩,hi.up u⟩
theorem Qp.Ls.up {a:Option Ad}{c:List Qp}(h:Qp.Ls B w a c)(u:Up B w w'):Qp.Ls B w' a c:=by
 rcases h with h|⟨b,o,e,d,hc⟩
 . exact .inl h
 exact .inr ⟨b,o,e,d,λi hi=>(hc i hi).up u d⟩
def Qp.LB (nN:Nat)(x:Qp):Prop:=True
structure Q8 where
 ty:Int
 mu:Bool
def Q8.z:Q8:=⟨0,false⟩
def Q8.Is (B:Nat)(w:J)(x:Q8):Prop:=True
def Q8.LB (nN:Nat)(x:Q8):Prop:=True
structure QE where
 ps:List Int
 rs:List Int
def QE.z:QE:=⟨[],[]⟩
def QE.Is (B:Nat)(w:J)(x:QE)(a1:Option Ad)(a2:Option Ad):Prop:=HI O B w a1 x.ps/\HI O B w a2 x.rs
def QE.At (B:Nat)(w:J)(b o:Nat)(x:QE):Prop:=∃a1 c1 a2 c2,(w.cell? ⟨b,o,none⟩=some (S a1 (N x.ps) c1)/\w.cell? ⟨b,o+1,none⟩=some (S a2 (N x.rs) c2))/\QE.Is B w x a1 a2
def QE.Ls (B:Nat)(w:J)(a:Option Ad)(xs:List QE):Prop:=xs=[]\/∃b off,a=some ⟨b,off,none⟩/\B<=b/\∀i,i<N xs->QE.At B w b (off+i*2) (xs.getD i QE.z)
theorem QE.Is.up {x:QE}{b:Option Ad}{a:Option Ad}(h:QE.Is B w x b a)(u:Up B w w'):QE.Is B w' x b a:=by
 obtain⟨d,c⟩:=h;exact⟨d.up u,c.up u⟩
theorem QE.At.up {o:Nat}{x:QE}(h:QE.At B w b o x)(u:Up B w w')(a:B<=b):QE.At B w' b o x:=by
 obtain⟨k,g,j,f,⟨d,c⟩,hi⟩:=h;exact⟨k,g,j,f,⟨u.cell a d,u.cell a c⟩,hi.up u⟩
theorem QE.Ls.up {a:Option Ad}{c:List QE}(h:QE.Ls B w a c)(u:Up B w w'):QE.Ls B w' a c:=by
 rcases h with h|⟨b,o,e,d,hc⟩
 . exact .inl h
 exact .inr ⟨b,o,e,d,λi hi=>(hc i hi).up u d⟩
def QE.LB (nN:Nat)(x:QE):Prop:=N x.ps<=nN/\N x.rs<=nN
def In.Is (B:Nat)(w:J)(x:In)(a1:Option Ad):Prop:=HI O B w a1 x.l
def In.At (B:Nat)(w:J)(b o:Nat)(x:In):Prop:=∃a1 c1,(w.cell? ⟨b,o,none⟩=some (U O x.op)/\w.cell? ⟨b,o+1,none⟩=some (U O x.a)/\w.cell? ⟨b,o+2,none⟩=some (U O x.b)/\w.cell? ⟨b,o+3,none⟩=some (U Ou x.v)/\w.cell? ⟨b,o+4,none⟩=some (S a1 (N x.l) c1))/\In.Is B w x a1
def In.Ls (B:Nat)(w:J)(a:Option Ad)(xs:List In):Prop:=xs=[]\/∃b off,a=some ⟨b,off,none⟩/\B<=b/\∀i,i<N xs->In.At B w b (off+i*5) (xs.getD i I0)
theorem In.Is.up {x:In}{a:Option Ad}(h:In.Is B w x a)(u:Up B w w'):In.Is B w' x a:=by
 have b:=h;exact HI.up b u
theorem In.At.up {o:Nat}{x:In}(h:In.At B w b o x)(u:Up B w w')(a:B<=b):In.At B w' b o x:=by
 obtain⟨l,k,⟨j,g,f,d,c⟩,hi⟩:=h;exact⟨l,k,⟨u.cell a j,u.cell a g,u.cell a f,u.cell a d,u.cell a c⟩,hi.up u⟩
theorem In.Ls.up {a:Option Ad}{c:List In}(h:In.Ls B w a c)(u:Up B w w'):In.Ls B w' a c:=by
 rcases h with h|⟨b,o,e,d,hc⟩
 . exact .inl h
 exact .inr ⟨b,o,e,d,λi hi=>(hc i hi).up u d⟩
def In.LB (nN:Nat)(x:In):Prop:=N x.l<=nN
structure Imp where
 mod:ByteArray
 nm:ByteArray
 kind:Int
 ty:Int
 lim:Qp
 gl:Q8
def Imp.z:Imp:=⟨⟨#[]⟩,⟨#[]⟩,0,0,Qp.z,Q8.z⟩
def Imp.Is (B:Nat)(w:J)(x:Imp):Prop:=True
def Imp.At (B:Nat)(w:J)(b o:Nat)(x:Imp):Prop:=(w.cell? ⟨b,o,none⟩=some (Xs x.mod)/\w.cell? ⟨b,o+1,none⟩=some (Xs x.nm)/\w.cell? ⟨b,o+2,none⟩=some (U O x.kind)/\w.cell? ⟨b,o+3,none⟩=some (U O x.ty)/\w.cell? ⟨b,o+4,none⟩=some (U O x.lim.min)/\w.cell? ⟨b,o+5,none⟩=some (U O x.lim.max)/\w.cell? ⟨b,o+6,none⟩=some (G x.lim.has)/\w.cell? ⟨b,o+7,none⟩=some (U O x.gl.ty)/\w.cell? ⟨b,o+8,none⟩=some (G x.gl.mu))/\Imp.Is B w x
def Imp.Ls (B:Nat)(w:J)(a:Option Ad)(xs:List Imp):Prop:=xs=[]\/∃b off,a=some ⟨b,off,none⟩/\B<=b/\∀i,i<N xs->Imp.At B w b (off+i*9) (xs.getD i Imp.z)
theorem Imp.Is.up {x:Imp}(h:Imp.Is B w x)(u:Up B w w'):Imp.Is B w' x:=h
theorem Imp.At.up {o:Nat}{x:Imp}(h:Imp.At B w b o x)(u:Up B w w')(a:B<=b):Imp.At B w' b o x:=by
 obtain⟨⟨n,m,l,k,j,g,f,d,c⟩,hi⟩:=h;exact⟨⟨u.cell a n,u.cell a m,u.cell a l,u.cell a k,u.cell a j,u.cell a g,u.cell a f,u.cell a d,u.cell a c⟩,hi.up u⟩
theorem Imp.Ls.up {a:Option Ad}{c:List Imp}(h:Imp.Ls B w a c)(u:Up B w w'):Imp.Ls B w' a c:=by
 rcases h with h|⟨b,o,e,d,hc⟩
 . exact .inl h
 exact .inr ⟨b,o,e,d,λi hi=>(hc i hi).up u d⟩
def Imp.LB (nN:Nat)(x:Imp):Prop:=x.mod.size<=nN/\x.nm.size<=nN
structure Q6 where
 ty:Q8
 ini:List In
def Q6.z:Q6:=⟨Q8.z,[]⟩
def Q6.Is (B:Nat)(w:J)(x:Q6)(a1:Option Ad):Prop:=In.Ls B w a1 x.ini
def Q6.At (B:Nat)(w:J)(b o:Nat)(x:Q6):Prop:=∃a1 c1,(w.cell? ⟨b,o,none⟩=some (U O x.ty.ty)/\w.cell? ⟨b,o+1,none⟩=some (G x.ty.mu)/\w.cell? ⟨b,o+2,none⟩=some (S a1 (N x.ini) c1))/\Q6.Is B w x a1
def Q6.Ls (B:Nat)(w:J)(a:Option Ad)(xs:List Q6):Prop:=xs=[]\/∃b off,a=some ⟨b,off,none⟩/\B<=b/\∀i,i<N xs->Q6.At B w b (off+i*3) (xs.getD i Q6.z)
theorem Q6.Is.up {x:Q6}{a:Option Ad}(h:Q6.Is B w x a)(u:Up B w w'):Q6.Is B w' x a:=by
 have b:=h;exact In.Ls.up b u
theorem Q6.At.up {o:Nat}{x:Q6}(h:Q6.At B w b o x)(u:Up B w w')(a:B<=b):Q6.At B w' b o x:=by
 obtain⟨j,g,⟨f,d,c⟩,hi⟩:=h;exact⟨j,g,⟨u.cell a f,u.cell a d,u.cell a c⟩,hi.up u⟩
theorem Q6.Ls.up {a:Option Ad}{c:List Q6}(h:Q6.Ls B w a c)(u:Up B w w'):Q6.Ls B w' a c:=by
 rcases h with h|⟨b,o,e,d,hc⟩
 . exact .inl h
 exact .inr ⟨b,o,e,d,λi hi=>(hc i hi).up u d⟩
def Q6.LB (nN:Nat)(x:Q6):Prop:=(N x.ini<=nN/\∀i,i<N x.ini->In.LB nN (x.ini.getD i I0))
structure Exp where
 nm:ByteArray
 kind:Int
 ix:Int
def Exp.z:Exp:=⟨⟨#[]⟩,0,0⟩
def Exp.Is (B:Nat)(w:J)(x:Exp):Prop:=True
def Exp.At (B:Nat)(w:J)(b o:Nat)(x:Exp):Prop:=(w.cell? ⟨b,o,none⟩=some (Xs x.nm)/\w.cell? ⟨b,o+1,none⟩=some (U O x.kind)/\w.cell? ⟨b,o+2,none⟩=some (U O x.ix))/\Exp.Is B w x
def Exp.Ls (B:Nat)(w:J)(a:Option Ad)(xs:List Exp):Prop:=xs=[]\/∃b off,a=some ⟨b,off,none⟩/\B<=b/\∀i,i<N xs->Exp.At B w b (off+i*3) (xs.getD i Exp.z)
theorem Exp.Is.up {x:Exp}(h:Exp.Is B w x)(u:Up B w w'):Exp.Is B w' x:=h
theorem Exp.At.up {o:Nat}{x:Exp}(h:Exp.At B w b o x)(u:Up B w w')(a:B<=b):Exp.At B w' b o x:=by
 obtain⟨⟨f,d,c⟩,hi⟩:=h;exact⟨⟨u.cell a f,u.cell a d,u.cell a c⟩,hi.up u⟩
theorem Exp.Ls.up {a:Option Ad}{c:List Exp}(h:Exp.Ls B w a c)(u:Up B w w'):Exp.Ls B w' a c:=by
 rcases h with h|⟨b,o,e,d,hc⟩
 . exact .inl h
 exact .inr ⟨b,o,e,d,λi hi=>(hc i hi).up u d⟩
def Exp.LB (nN:Nat)(x:Exp):Prop:=x.nm.size<=nN
structure Ele where
 off:List In
 fs:List Int
def Ele.z:Ele:=⟨[],[]⟩
def Ele.Is (B:Nat)(w:J)(x:Ele)(a1:Option Ad)(a2:Option Ad):Prop:=In.Ls B w a1 x.off/\HI O B w a2 x.fs
def Ele.At (B:Nat)(w:J)(b o:Nat)(x:Ele):Prop:=∃a1 c1 a2 c2,(w.cell? ⟨b,o,none⟩=some (S a1 (N x.off) c1)/\w.cell? ⟨b,o+1,none⟩=some (S a2 (N x.fs) c2))/\Ele.Is B w x a1 a2
def Ele.Ls (B:Nat)(w:J)(a:Option Ad)(xs:List Ele):Prop:=xs=[]\/∃b off,a=some ⟨b,off,none⟩/\B<=b/\∀i,i<N xs->Ele.At B w b (off+i*2) (xs.getD i Ele.z)
theorem Ele.Is.up {x:Ele}{b:Option Ad}{a:Option Ad}(h:Ele.Is B w x b a)(u:Up B w w'):Ele.Is B w' x b a:=by
 obtain⟨d,c⟩:=h;exact⟨d.up u,c.up u⟩
theorem Ele.At.up {o:Nat}{x:Ele}(h:Ele.At B w b o x)(u:Up B w w')(a:B<=b):Ele.At B w' b o x:=by
 obtain⟨k,g,j,f,⟨d,c⟩,hi⟩:=h;exact⟨k,g,j,f,⟨u.cell a d,u.cell a c⟩,hi.up u⟩
theorem Ele.Ls.up {a:Option Ad}{c:List Ele}(h:Ele.Ls B w a c)(u:Up B w w'):Ele.Ls B w' a c:=by
 rcases h with h|⟨b,o,e,d,hc⟩
 . exact .inl h
 exact .inr ⟨b,o,e,d,λi hi=>(hc i hi).up u d⟩
def Ele.LB (nN:Nat)(x:Ele):Prop:=(N x.off<=nN/\∀i,i<N x.off->In.LB nN (x.off.getD i I0))/\N x.fs<=nN
structure Grp where
 n:Int
 ty:Int
def Grp.z:Grp:=⟨0,0⟩
def Grp.Is (B:Nat)(w:J)(x:Grp):Prop:=True
def Grp.At (B:Nat)(w:J)(b o:Nat)(x:Grp):Prop:=(w.cell? ⟨b,o,none⟩=some (U O x.n)/\w.cell? ⟨b,o+1,none⟩=some (U O x.ty))/\Grp.Is B w x
def Grp.Ls (B:Nat)(w:J)(a:Option Ad)(xs:List Grp):Prop:=xs=[]\/∃b off,a=some ⟨b,off,none⟩/\B<=b/\∀i,i<N xs->Grp.At B w b (off+i*2) (xs.getD i Grp.z)
theorem Grp.Is.up {x:Grp}(h:Grp.Is B w x)(u:Up B w w'):Grp.Is B w' x:=h
theorem Grp.At.up {o:Nat}{x:Grp}(h:Grp.At B w b o x)(u:Up B w w')(a:B<=b):Grp.At B w' b o x:=by
 obtain⟨⟨d,c⟩,hi⟩:=h;exact⟨⟨u.cell a d,u.cell a c⟩,hi.up u⟩
theorem Grp.Ls.up {a:Option Ad}{c:List Grp}(h:Grp.Ls B w a c)(u:Up B w w'):Grp.Ls B w' a c:=by
 rcases h with h|⟨b,o,e,d,hc⟩
 . exact .inl h
 exact .inr ⟨b,o,e,d,λi hi=>(hc i hi).up u d⟩
def Grp.LB (nN:Nat)(x:Grp):Prop:=True
structure Cod where
 gv:List Grp
 body:List In
def Cod.z:Cod:=⟨[],[]⟩
def Cod.Is (B:Nat)(w:J)(x:Cod)(a1:Option Ad)(a2:Option Ad):Prop:=Grp.Ls B w a1 x.gv/\In.Ls B w a2 x.body
def Cod.At (B:Nat)(w:J)(b o:Nat)(x:Cod):Prop:=∃a1 c1 a2 c2,(w.cell? ⟨b,o,none⟩=some (S a1 (N x.gv) c1)/\w.cell? ⟨b,o+1,none⟩=some (S a2 (N x.body) c2))/\Cod.Is B w x a1 a2
def Cod.Ls (B:Nat)(w:J)(a:Option Ad)(xs:List Cod):Prop:=xs=[]\/∃b off,a=some ⟨b,off,none⟩/\B<=b/\∀i,i<N xs->Cod.At B w b (off+i*2) (xs.getD i Cod.z)
theorem Cod.Is.up {x:Cod}{b:Option Ad}{a:Option Ad}(h:Cod.Is B w x b a)(u:Up B w w'):Cod.Is B w' x b a:=by
 obtain⟨d,c⟩:=h;exact⟨d.up u,c.up u⟩
theorem Cod.At.up {o:Nat}{x:Cod}(h:Cod.At B w b o x)(u:Up B w w')(a:B<=b):Cod.At B w' b o x:=by
 obtain⟨k,g,j,f,⟨d,c⟩,hi⟩:=h;exact⟨k,g,j,f,⟨u.cell a d,u.cell a c⟩,hi.up u⟩
theorem Cod.Ls.up {a:Option Ad}{c:List Cod}(h:Cod.Ls B w a c)(u:Up B w w'):Cod.Ls B w' a c:=by
 rcases h with h|⟨b,o,e,d,hc⟩
 . exact .inl h
 exact .inr ⟨b,o,e,d,λi hi=>(hc i hi).up u d⟩
def Cod.LB (nN:Nat)(x:Cod):Prop:=(N x.gv<=nN/\∀i,i<N x.gv->Grp.LB nN (x.gv.getD i Grp.z))/\(N x.body<=nN/\∀i,i<N x.body->In.LB nN (x.body.getD i I0))
structure Dat where
 off:List In
 bs:List Int
def Dat.z:Dat:=⟨[],[]⟩
def Dat.Is (B:Nat)(w:J)(x:Dat)(a1:Option Ad)(a2:Option Ad):Prop:=In.Ls B w a1 x.off/\HI .u8 B w a2 x.bs
def Dat.At (B:Nat)(w:J)(b o:Nat)(x:Dat):Prop:=∃a1 c1 a2 c2,(w.cell? ⟨b,o,none⟩=some (S a1 (N x.off) c1)/\w.cell? ⟨b,o+1,none⟩=some (S a2 (N x.bs) c2))/\Dat.Is B w x a1 a2
def Dat.Ls (B:Nat)(w:J)(a:Option Ad)(xs:List Dat):Prop:=xs=[]\/∃b off,a=some ⟨b,off,none⟩/\B<=b/\∀i,i<N xs->Dat.At B w b (off+i*2) (xs.getD i Dat.z)
theorem Dat.Is.up {x:Dat}{b:Option Ad}{a:Option Ad}(h:Dat.Is B w x b a)(u:Up B w w'):Dat.Is B w' x b a:=by
 obtain⟨d,c⟩:=h;exact⟨d.up u,c.up u⟩
theorem Dat.At.up {o:Nat}{x:Dat}(h:Dat.At B w b o x)(u:Up B w w')(a:B<=b):Dat.At B w' b o x:=by
 obtain⟨k,g,j,f,⟨d,c⟩,hi⟩:=h;exact⟨k,g,j,f,⟨u.cell a d,u.cell a c⟩,hi.up u⟩
theorem Dat.Ls.up {a:Option Ad}{c:List Dat}(h:Dat.Ls B w a c)(u:Up B w w'):Dat.Ls B w' a c:=by
 rcases h with h|⟨b,o,e,d,hc⟩
 . exact .inl h
 exact .inr ⟨b,o,e,d,λi hi=>(hc i hi).up u d⟩
def Dat.LB (nN:Nat)(x:Dat):Prop:=(N x.off<=nN/\∀i,i<N x.off->In.LB nN (x.off.getD i I0))/\N x.bs<=nN
structure Cus where
 aft:Int
 nm:ByteArray
 bs:List Int
def Cus.z:Cus:=⟨0,⟨#[]⟩,[]⟩
def Cus.Is (B:Nat)(w:J)(x:Cus)(a1:Option Ad):Prop:=HI .u8 B w a1 x.bs
def Cus.At (B:Nat)(w:J)(b o:Nat)(x:Cus):Prop:=∃a1 c1,(w.cell? ⟨b,o,none⟩=some (U O x.aft)/\w.cell? ⟨b,o+1,none⟩=some (Xs x.nm)/\w.cell? ⟨b,o+2,none⟩=some (S a1 (N x.bs) c1))/\Cus.Is B w x a1
def Cus.Ls (B:Nat)(w:J)(a:Option Ad)(xs:List Cus):Prop:=xs=[]\/∃b off,a=some ⟨b,off,none⟩/\B<=b/\∀i,i<N xs->Cus.At B w b (off+i*3) (xs.getD i Cus.z)
theorem Cus.Is.up {x:Cus}{a:Option Ad}(h:Cus.Is B w x a)(u:Up B w w'):Cus.Is B w' x a:=by
 have b:=h;exact HI.up b u
theorem Cus.At.up {o:Nat}{x:Cus}(h:Cus.At B w b o x)(u:Up B w w')(a:B<=b):Cus.At B w' b o x:=by
 obtain⟨j,g,⟨f,d,c⟩,hi⟩:=h;exact⟨j,g,⟨u.cell a f,u.cell a d,u.cell a c⟩,hi.up u⟩
theorem Cus.Ls.up {a:Option Ad}{c:List Cus}(h:Cus.Ls B w a c)(u:Up B w w'):Cus.Ls B w' a c:=by
 rcases h with h|⟨b,o,e,d,hc⟩
 . exact .inl h
 exact .inr ⟨b,o,e,d,λi hi=>(hc i hi).up u d⟩
def Cus.LB (nN:Nat)(x:Cus):Prop:=x.nm.size<=nN/\N x.bs<=nN
structure Mod where
 types:List QE
 cj:List Imp
 jv:List Int
 fk:List Qp
 jj:List Qp
 fq:List Q6
 fj:List Exp
 gk:Bool
 start:Int
 fw:List Ele
 gq:List Cod
 gj:List Dat
 gx:List Cus
def Mod.z:Mod:=⟨[],[],[],[],[],[],[],false,0,[],[],[],[]⟩
def Mod.Is (B:Nat)(w:J)(x:Mod)(a1:Option Ad)(a2:Option Ad)(a3:Option Ad)(a4:Option Ad)(a5:Option Ad)(a6:Option Ad)(a7:Option Ad)(a8:Option Ad)(a9:Option Ad)(a10:Option Ad)(a11:Option Ad):Prop:=QE.Ls B w a1 x.types/\Imp.Ls B w a2 x.cj/\HI O B w a3 x.jv/\Qp.Ls B w a4 x.fk/\Qp.Ls B w a5 x.jj/\Q6.Ls B w a6 x.fq/\Exp.Ls B w a7 x.fj/\Ele.Ls B w a8 x.fw/\Cod.Ls B w a9 x.gq/\Dat.Ls B w a10 x.gj/\Cus.Ls B w a11 x.gx
theorem Mod.Is.up {x:Mod}{p:Option Ad}{o:Option Ad}{n:Option Ad}{m:Option Ad}{l:Option Ad}{k:Option Ad}{j:Option Ad}{g:Option Ad}{f:Option Ad}{b:Option Ad}{a:Option Ad}(h:Mod.Is B w x p o n m l k j g f b a)(u:Up B w w'):Mod.Is B w' x p o n m l k j g f b a:=by
 obtain⟨C,A,z,y,v,t,s,r,q,d,c⟩:=h;exact⟨C.up u,A.up u,z.up u,y.up u,v.up u,t.up u,s.up u,r.up u,q.up u,d.up u,c.up u⟩
def Mod.LB (nN:Nat)(x:Mod):Prop:=(N x.types<=nN/\∀i,i<N x.types->QE.LB nN (x.types.getD i QE.z))/\(N x.cj<=nN/\∀i,i<N x.cj->Imp.LB nN (x.cj.getD i Imp.z))/\N x.jv<=nN/\(N x.fk<=nN/\∀i,i<N x.fk->Qp.LB nN (x.fk.getD i Qp.z))/\(N x.jj<=nN/\∀i,i<N x.jj->Qp.LB nN (x.jj.getD i Qp.z))/\(N x.fq<=nN/\∀i,i<N x.fq->Q6.LB nN (x.fq.getD i Q6.z))/\(N x.fj<=nN/\∀i,i<N x.fj->Exp.LB nN (x.fj.getD i Exp.z))/\(N x.fw<=nN/\∀i,i<N x.fw->Ele.LB nN (x.fw.getD i Ele.z))/\(N x.gq<=nN/\∀i,i<N x.gq->Cod.LB nN (x.gq.getD i Cod.z))/\(N x.gj<=nN/\∀i,i<N x.gj->Dat.LB nN (x.gj.getD i Dat.z))/\(N x.gx<=nN/\∀i,i<N x.gx->Cus.LB nN (x.gx.getD i Cus.z))
abbrev U8 (xs:List Int):List Vu:=xs.map λx=>Rz .u8 x
theorem info5r:(Q.info? 5).map (λi=>(i.zero,i.size,i.bytes))=some (some (U .u8 0),1,1):=by kernel_rfl
theorem copyB_step (k:Nat)(a:List Int)(h:k<N a):(U8 (a.take k++(Lg (N a) 0).drop k)).set k (U .u8 (a.getD k 0))=U8 (a.take (k+1)++(Lg (N a) 0).drop (k+1)):=by
 have b:(Lg (N a) (0:Int)).drop k=0::(Lg (N a) (0:Int)).drop (k+1):=by rw[Tx (by simpa using h)];simp
 have ht:a.take (k+1)=a.take k++[a.getD k 0]:=by rw[List.take_succ_eq_append_getElem h];simp[Ty,h]
 rw[b,ht];simp only[U8,Rb,Mm,Kd,List.cons_append,List.nil_append,Rm];rw[Pc _ _ (by simp;omega)];simp[Nat.min_eq_left (Nat.le_of_lt h)]
theorem toB_c (a)(c:Nat)(f:List Int)(w)(D:N f<=1048576)(s:HI .u8 0 w a f):Ec Q 5 #[S a (N f) c] w λe w'=>e=Z (S (some ⟨w.heap.size,0,none⟩) (N f) (N f))/\w'.ownsRow w.heap.size 5 1 (S (some ⟨w.heap.size,0,none⟩) (N f) (N f)) (N f) (U8 f)/\Bw w.heap.size w w':=by
 have r:=run_make_row' (P:=Q) 22 5 (U .u8 0) 1 underlying22 info5r rfl O O (N f) (by omega) (by omega);have v:=Hm s;clear s;have m:(w.alloc (Fc (madeCells #[U .u8 0] (N f)) 5)).ownsRow w.heap.size 5 1 (S (some ⟨w.heap.size,0,none⟩) (N f) (N f)) (N f) (U8 (f.take 0++(Lg (N f) 0).drop 0)):=by
  have:=World.ownsRow_lit (base:=w.heap.size) (e:=5) (size:=1) w (madeCells #[U .u8 0] (N f)) (N f) lRz (by unfold maxLen;omega) (by simp[madeCells]);have e:(madeCells #[U .u8 0] (N f)).toList=U8 (f.take 0++(Lg (N f) 0).drop 0):=by
   apply List.ext_getElem?;intro i;by_cases hi:i<N f
   . simp[madeCells,hi,Nat.mod_one]
   simp[madeCells,hi]
  rw[e]at this;exact this
 have t:=Hm m;clear m;go_enter func5,ntmps5;go_wp2;go_loopw [4] (λi wr=>∃k:Nat,k<=N f/\i=U O k/\wr.ownsRow w.heap.size 5 1 (S (some ⟨w.heap.size,0,none⟩) (N f) (N f)) (N f) (U8 (f.take k++(Lg (N f) 0).drop k))/\Bw w.heap.size w wr) (λi _=>N f-(intOf i).toNat)
 case atStart=>exact⟨0,Hw _,rfl,t.o,bFz.alloc lRz _⟩
 obtain⟨k,E,rfl,l,n⟩:=hrel;clear t r;by_cases g:k<N f
 . (have z:(k:Int)<(N f:Int):=by omega);rcases v.o with hx|⟨b,o,B,_,hc⟩
   . subst hx;simp at g
   have d:wr.cell? ⟨b,o+k,none⟩=some (U .u8 (f.getD k 0)):=(n.cell (p:=⟨b,o+k,none⟩) (Kh w _ (hc k g))).trans (hc k g);subst B;(have j:∃u,wr.cell? ⟨w.heap.size,k,none⟩=some u:=by rw[l.cellAt k (by omega)];exact⟨_,Kv (by simp;omega)⟩);obtain⟨u,C⟩:=j;have A:=l.frozenAt k;obtain⟨x,hx⟩:∃x,x=f.getD k 0:=⟨_,rfl⟩;obtain⟨q,y⟩:=l.stored k (U .u8 x);rw[hx,copyB_step k f g,<- hx]at q;rw[<- hx]at d;have R:=And.intro q (n.setCell (p:=⟨w.heap.size,k,none⟩) lRz (U .u8 x));clear q y l n hc hx v;go_wp2;(go_roundw);(case rel=>exact⟨k+1,by omega,by go_num,R.1,R.2⟩);case measure=>simp[intOf];omega
 have e:k=N f:=by omega
 subst e;rw[List.take_length,List.drop_of_length_le (by simp),List.append_nil]at l;go_wp2;go_ret;exact⟨rfl,l,n⟩
def Bk (W:J)(g:Nat)(cs:List Vu):Prop:=g<W.heap.size/\(∀j v,cs[j]?=some v->W.cell? ⟨g,j,none⟩=some v)/\∀j,W.frozen? ⟨g,j,none⟩=false
theorem Bk.keep {W W' g cs}(h:Bk W g cs)(a:Bw W.heap.size W W'):Bk W' g cs :=
 ⟨Nat.lt_of_lt_of_le h.1 a.size,λj v hj=>(a.cell (p:=⟨g,j,none⟩) h.1).trans (h.2.1 j v hj),λj=>(a.frozen (p:=⟨g,j,none⟩) h.1).trans (h.2.2 j)⟩
theorem Bk.new {cs:List Vu}{t:TypeId}:Bk (w.alloc (Fc cs.toArray t)) w.heap.size cs :=
 ⟨by simp,λj v hj=>Qn rfl (by simpa using hj),λj=>Py _ _ _ _⟩
theorem Bk.past {w g cs}{o:Obj}(h:Bk w g cs):Bk (w.alloc o) g cs:=h.keep (bFz.alloc lRz _)
theorem Bk.other {W}{g b o:Nat}{cs}(h:Bk W g cs)(a:b≠g):Bk (W.setCell ⟨b,o,none⟩ v) g cs :=
 ⟨by simpa using h.1,λj u hj=>by rw[Tk _ _ _ _ (λe=>a (congrArg Addr.block e))];exact h.2.1 j u hj,λj=>by rw[Tn];exact h.2.2 j⟩
open Go.RowKit
def HasB (w:J)(a:Option Ad)(xs:List Int):Prop:=xs=[]\/∃b off,a=some ⟨b,off,none⟩/\∀i,i<N xs->w.cell? ⟨b,off+i,none⟩=some (U .u8 (xs.getD i 0))
def ldN (c:Int):Int:=if c<128 then 0 else if c<194 then -1 else if c<224 then 1 else if c<240 then 2 else if c<245 then 3 else -1
def Jk (c:Int):Int:=if c<194 then 0 else if c<224 then 128 else if c<225 then 160 else if c<240 then 128 else if c<241 then 144 else if c<245 then 128 else 0
def Jl (c:Int):Int:=if c<194 then 0 else if c<237 then 191 else if c<238 then 159 else if c<244 then 191 else if c<245 then 143 else 0
theorem ldN_bd (c:Int):-1<=ldN c/\ldN c<=3:=by unfold ldN;omega
def uf:Nat->Int->Int->Nat->List Int->Int
 |0,_,_,_,[]=>-1
 |0,_,_,p,c::cs=>if ldN c<0 then p else uf (ldN c).toNat (Jk c) (Jl c) (p+1) cs
 |_+1,_,_,p,[]=>p
 |l+1,lo,hi,p,c::cs=>if c<lo\/hi<c then p else uf l 128 191 (p+1) cs
section
variable {bs:List Int}{p:Nat}{lo hi:Int}
theorem uf_any0 (a b:Int)(cs:List Int):uf 0 lo hi p cs=uf 0 a b p cs:=by cases cs<;>simp[uf]
theorem uf_end0 (h:p=N bs):uf 0 lo hi p (bs.drop p)=-1:=by subst h;simp[uf]
theorem uf_endl (h:p=N bs):uf (l+1) lo hi p (bs.drop p)=p:=by subst h;simp[uf]
theorem uf_bad (h:p<N bs)(a:ldN (bs.getD p 0)<0):uf 0 lo hi p (bs.drop p)=p:=by
 rw[Tx h];simp only[Ty,Kv h,Lh]at a;simp[uf,a]
theorem uf_lead (h:p<N bs)(a:¬ldN (bs.getD p 0)<0):uf 0 lo hi p (bs.drop p)=uf (ldN (bs.getD p 0)).toNat (Jk (bs.getD p 0)) (Jl (bs.getD p 0)) (p+1) (bs.drop (p+1)):=by
 rw[Tx h];simp only[Ty,Kv h,Lh]at a⊢;simp[uf,a]
theorem uf_out (h:p<N bs)(a:bs.getD p 0<lo\/hi<bs.getD p 0):uf (l+1) lo hi p (bs.drop p)=p:=by
 rw[Tx h];simp only[Ty,Kv h,Lh]at a;simp[uf,a]
theorem uf_next (h:p<N bs)(a:¬(bs.getD p 0<lo\/hi<bs.getD p 0)):uf (l+1) lo hi p (bs.drop p)=uf l 128 191 (p+1) (bs.drop (p+1)):=by
 rw[Tx h];simp only[Ty,Kv h,Lh]at a;simp only[uf];rw[if_neg a]
end
theorem follow_any (c:Int)(w:J)(b:0<=c)(h1:c<=255):Ec Q 243 #[U .u8 c] w λe w'=>e=Z (.tuple #[U O (ldN c),U .u8 (Jk c),U .u8 (Jl c)])/\w=w':=by
 rcases(show c<128\/(128<=c/\c<194)\/(194<=c/\c<224)\/c=224\/(225<=c/\c<237)\/c=237\/(238<=c/\c<240)\/c=240\/(241<=c/\c<244)\/c=244\/244<c by omega)with h|⟨h,a⟩|⟨h,a⟩|rfl|⟨h,a⟩|rfl|⟨h,a⟩|rfl|⟨h,a⟩|rfl|h
 . rw[show ldN c=0 by unfold ldN;omega,show Jk c=0 by unfold Jk;omega,show Jl c=0 by unfold Jl;omega];go_enter func243,ntmps243;go_wp2;(go_ret3);exact⟨rfl,rfl⟩
 . rw[show ldN c=-1 by unfold ldN;omega,show Jk c=0 by unfold Jk;omega,show Jl c=0 by unfold Jl;omega];go_enter func243,ntmps243;go_wp2;(go_ret3);exact⟨rfl,rfl⟩
 . rw[show ldN c=1 by unfold ldN;omega,show Jk c=128 by unfold Jk;omega,show Jl c=191 by unfold Jl;omega];go_enter func243,ntmps243;go_wp2;(go_ret3);exact⟨rfl,rfl⟩
 . rw[show ldN 224=2 by decide,show Jk 224=160 by decide,show Jl 224=191 by decide];go_enter func243,ntmps243;go_wp2;(go_ret3);exact⟨rfl,rfl⟩
 . rw[show ldN c=2 by unfold ldN;omega,show Jk c=128 by unfold Jk;omega,show Jl c=191 by unfold Jl;omega];go_enter func243,ntmps243;go_wp2;(go_ret3);exact⟨rfl,rfl⟩
 . rw[show ldN 237=2 by decide,show Jk 237=128 by decide,show Jl 237=159 by decide];go_enter func243,ntmps243;go_wp2;(go_ret3);exact⟨rfl,rfl⟩
 . rw[show ldN c=2 by unfold ldN;omega,show Jk c=128 by unfold Jk;omega,show Jl c=191 by unfold Jl;omega];go_enter func243,ntmps243;go_wp2;(go_ret3);exact⟨rfl,rfl⟩
 . rw[show ldN 240=3 by decide,show Jk 240=144 by decide,show Jl 240=191 by decide];go_enter func243,ntmps243;go_wp2;(go_ret3);exact⟨rfl,rfl⟩
 . rw[show ldN c=3 by unfold ldN;omega,show Jk c=128 by unfold Jk;omega,show Jl c=191 by unfold Jl;omega];go_enter func243,ntmps243;go_wp2;(go_ret3);exact⟨rfl,rfl⟩
 . rw[show ldN 244=3 by decide,show Jk 244=128 by decide,show Jl 244=143 by decide];go_enter func243,ntmps243;go_wp2;(go_ret3);exact⟨rfl,rfl⟩
 rw[show ldN c=-1 by unfold ldN;omega,show Jk c=0 by unfold Jk;omega,show Jl c=0 by unfold Jl;omega];go_enter func243,ntmps243;go_wp2;go_ret3
 exact⟨rfl,rfl⟩
def AllB (xs:List Int):Prop:=∀i,0<=xs.getD i 0/\xs.getD i 0<=255
theorem specUtf8_any (a:Option Ad)(cap:Nat)(bs:List Int)(w:J)(hl:N bs<=1099511627776)(ha:HasB w a bs)(M:AllB bs):Ec Q 222 #[S a (N bs) cap] w λe w'=>e=Z (U O (uf 0 0 0 0 bs))/\w=w':=by
 obtain⟨R,C⟩:∃R,R=uf 0 0 0 0 bs:=⟨_,rfl⟩;have D:Hid (uf 0 0 0 0 (bs.drop 0)=R):=by rw[C];rfl
 rw[<- C];clear C;rcases ha with hx|⟨b1,o1,rfl,n⟩
 . subst hx;(have e:R=-1:=by rw[<- D.o];rfl);subst e;clear D M hl;go_enter func222,ntmps222;go_wp2;refine wp_loop_rounds 1 ?_;rw[rounds_succ];go_wp2;go_ret;exact⟨rfl,rfl⟩
 have u:Hid (∀i,i<N bs->w.cell? ⟨b1,o1+i,none⟩=some (U .u8 (bs.getD i 0))):=n;clear n;go_enter func222,ntmps222;go_wp2;go_loop [4] (λi=>∃p:Nat,p<=N bs/\i=U O p/\Hid (uf 0 0 0 p (bs.drop p)=R)) (λi=>N bs-(intOf i).toNat)
 case atStart=>exact⟨0,Hw _,rfl,D⟩
 obtain⟨p,hp,rfl,F⟩:=hrel;by_cases j:p<N bs
 . have V:w.cell? ⟨b1,o1+p,none⟩=some (U .u8 (bs.getD p 0)):=u.o p j;(have X:(p:Int)<(N bs:Int):=by omega);obtain⟨c,d⟩:∃c,c=bs.getD p 0:=⟨_,rfl⟩;rw[<- d]at V;have I:Hid (c=bs.getD p 0):=d;have L:=M p;rw[<- d]at L;obtain⟨s,r⟩:=L;have hn:=ldN_bd c;clear d;by_cases f:ldN c<0
   . (have e:R=p:=by rw[<- F.o,uf_bad j (by rw[<- I.o];exact f)]);subst e;(go_wp2_with (go_at_call 243;refine(follow_any _ _ s r).mono ?_;rintro e w' ⟨rfl,rfl⟩));go_ret;exact⟨rfl,rfl⟩
   (have E:Hid (uf (ldN c).toNat (Jk c) (Jl c) (p+1) (bs.drop (p+1))=R):=by have:=F.o;rw[uf_lead j (by rw[<- I.o];exact f),<- I.o]at this;exact this);(go_wp2_with (go_at_call 243;refine(follow_any _ _ s r).mono ?_;rintro e w' ⟨rfl,rfl⟩));(go_loop [6,7,8] (λlv hv kv=>∃(k l:Nat) (lo hi:Int),(k:Int)+l=ldN c+1/\1<=k/\p+k<=N bs/\kv=U O k/\lv=U .u8 lo/\hv=U .u8 hi/\Hid (uf l lo hi (p+k) (bs.drop (p+k))=R)) (λ_ _ kv=>5-(intOf kv).toNat));(case atStart=>exact⟨1,(ldN c).toNat,_,_,by omega,by omega,by omega,rfl,rfl,rfl,E⟩);obtain⟨k,l,lo,hi,Y,aa,v,rfl,rfl,rfl,t⟩:=hrel;clear V;cases l with
   |zero =>
    have A:ldN c<(k:Int):=by omega
    go_wp2
    go_round
    case rel=>exact⟨p+k,v,by rw[show((p+k:Nat):Int)=(p:Int)+1+ldN c by omega],(uf_any0 lo hi _).trans t.o⟩
    case measure=>simp[intOf];omega
   |succ l =>
    have A:(k:Int)<=ldN c:=by omega
    by_cases b:p+k<N bs
    . have d2:w.cell? ⟨b1,o1+(p+k),none⟩=some (U .u8 (bs.getD (p+k) 0)):=u.o (p+k) b;obtain⟨q,g⟩:∃q,q=bs.getD (p+k) 0:=⟨_,rfl⟩;rw[<- g]at d2;have m:Hid (q=bs.getD (p+k) 0):=g;clear g;have B:(p:Int)+k<(N bs:Int):=by omega
      by_cases z:q<lo
      . have e:R=((p+k:Nat):Int):=by rw[<- t.o,uf_out b (by rw[<- m.o];exact .inl z)]
        subst e
        go_wp2
        go_ret
        exact⟨rfl,rfl⟩
      . by_cases y:hi<q
        . have e:R=((p+k:Nat):Int):=by rw[<- t.o,uf_out b (by rw[<- m.o];exact .inr y)]
          subst e
          go_wp2
          go_ret
          exact⟨rfl,rfl⟩
        . have H:Hid (uf l 128 191 (p+k+1) (bs.drop (p+k+1))=R):=by
            have:=t.o
            rw[uf_next b (by rw[<- m.o];omega)]at this
            exact this
          go_wp2
          go_round
          case rel=>exact⟨k+1,l,128,191,by omega,by omega,by omega,by go_num,rfl,rfl,H⟩
          case measure=>simp[intOf];omega
    . have e:R=(N bs:Int):=by rw[<- t.o,uf_endl (by omega)];omega
      subst e;have B:(N bs:Int)<=(p:Int)+k:=by omega
      go_wp2
      go_ret
      exact⟨rfl,rfl⟩
 have e:R=-1:=by rw[<- F.o,uf_end0 (by omega)]
 subst e;go_wp2;go_ret;exact⟨rfl,rfl⟩
theorem XZ (c:Int)(w:J)(b:0<=c)(h1:c<=255):Ec Q 244 #[U .u8 c] w λe w'=>e=Z (.tuple #[U O (ldN c),U .u8 (Jk c),U .u8 (Jl c)])/\w=w':=by
 rcases(show c<128\/(128<=c/\c<194)\/(194<=c/\c<224)\/c=224\/(225<=c/\c<237)\/c=237\/(238<=c/\c<240)\/c=240\/(241<=c/\c<244)\/c=244\/244<c by omega)with h|⟨h,a⟩|⟨h,a⟩|rfl|⟨h,a⟩|rfl|⟨h,a⟩|rfl|⟨h,a⟩|rfl|h
 . rw[show ldN c=0 by unfold ldN;omega,show Jk c=0 by unfold Jk;omega,show Jl c=0 by unfold Jl;omega];go_enter func244,ntmps244;go_wp2;(go_ret3);exact⟨rfl,rfl⟩
 . rw[show ldN c=-1 by unfold ldN;omega,show Jk c=0 by unfold Jk;omega,show Jl c=0 by unfold Jl;omega];go_enter func244,ntmps244;go_wp2;(go_ret3);exact⟨rfl,rfl⟩
 . rw[show ldN c=1 by unfold ldN;omega,show Jk c=128 by unfold Jk;omega,show Jl c=191 by unfold Jl;omega];go_enter func244,ntmps244;go_wp2;(go_ret3);exact⟨rfl,rfl⟩
 . rw[show ldN 224=2 by decide,show Jk 224=160 by decide,show Jl 224=191 by decide];go_enter func244,ntmps244;go_wp2;(go_ret3);exact⟨rfl,rfl⟩
 . rw[show ldN c=2 by unfold ldN;omega,show Jk c=128 by unfold Jk;omega,show Jl c=191 by unfold Jl;omega];go_enter func244,ntmps244;go_wp2;(go_ret3);exact⟨rfl,rfl⟩
 . rw[show ldN 237=2 by decide,show Jk 237=128 by decide,show Jl 237=159 by decide];go_enter func244,ntmps244;go_wp2;(go_ret3);exact⟨rfl,rfl⟩
 . rw[show ldN c=2 by unfold ldN;omega,show Jk c=128 by unfold Jk;omega,show Jl c=191 by unfold Jl;omega];go_enter func244,ntmps244;go_wp2;(go_ret3);exact⟨rfl,rfl⟩
 . rw[show ldN 240=3 by decide,show Jk 240=144 by decide,show Jl 240=191 by decide];go_enter func244,ntmps244;go_wp2;(go_ret3);exact⟨rfl,rfl⟩
 . rw[show ldN c=3 by unfold ldN;omega,show Jk c=128 by unfold Jk;omega,show Jl c=191 by unfold Jl;omega];go_enter func244,ntmps244;go_wp2;(go_ret3);exact⟨rfl,rfl⟩
 . rw[show ldN 244=3 by decide,show Jk 244=128 by decide,show Jl 244=143 by decide];go_enter func244,ntmps244;go_wp2;(go_ret3);exact⟨rfl,rfl⟩
 rw[show ldN c=-1 by unfold ldN;omega,show Jk c=0 by unfold Jk;omega,show Jl c=0 by unfold Jl;omega];go_enter func244,ntmps244;go_wp2;go_ret3
 exact⟨rfl,rfl⟩
def jumps (Jz0:Nat->Act->J->Prop)(Qz0:Exit->Act->J->Prop):Exit->Act->J->Prop
 |.goto l,a,w=>Jz0 l a w
 |e,a,w=>Qz0 e a w
theorem wp_scope_many {a:Act}{c:Code}(s:Nat->Act->J->Prop)(μ:Nat->Act->J->Nat) (first:c.wp P (jumps s Qz0) a w) (q:∀l a w,s l a w->∃f,findLabel c l=some f/\f.wp P (jumps (λl' a' w'=>s l' a' w'/\μ l' a' w'<μ l a w) Qz0) a w):(Code.scope c).wp P Qz0 a w:=by
 intro b k y;have F:∀l f,findLabel c l=some f->gotoIn l (.inScope c::k)=some (.code f::.inScope c::k):=λl f C=>by simp[gotoIn,C]
 have B:∀n l a w f,μ l a w=n->s l a w->findLabel c l=some f->∃e a' w',Qz0 e a' w'/\Arrives P (lone (b.at a (.code f::.inScope c::k)) y w) b k y e a' w':=by
  intro n;induction n using Rf with
  |_ n ih =>
   intro l a w f M L C
   obtain⟨A,u,H⟩:=q l a w L;rw[C]at u;obtain rfl:=Option.some.inj u;obtain⟨e,o,j,p,d⟩:=H b (.inScope c::k) y
   cases e with
   |normal=>exact⟨.normal,o,j,p,Steps.trans d (.one step_inScope)⟩
   |exit id=>exact⟨.exit id,o,j,p,λk' hk=>d k' (by simp[exitTo,hk])⟩
   |goto l' =>
    obtain⟨v,I⟩:=p;obtain⟨g,r,_⟩:=q l' o j v;obtain⟨D,E,z,t,m⟩:=ih _ (by omega) l' o j g rfl v r
    exact⟨D,E,z,t,.of_steps (d _ (F l' g r)) m⟩
   |ret=>exact⟨_,o,j,p,d⟩
   |panic ch=>exact⟨_,o,j,p,d⟩
   |outgrown=>exact⟨_,o,j,p,d⟩
 obtain⟨e,o,j,p,d⟩:=first b (.inScope c::k) y
 cases e with
 |normal=>exact⟨.normal,o,j,p,.head step_scope (Steps.trans d (.one step_inScope))⟩
 |exit id=>exact⟨.exit id,o,j,p,λk' hk=>.head step_scope (d k' (by simp[exitTo,hk]))⟩
 |goto l' =>
  obtain⟨g,r,_⟩:=q l' o j p;obtain⟨D,E,z,t,m⟩:=B _ l' o j g rfl p r
  exact⟨D,E,z,t,.of_steps (.head step_scope (d _ (F l' g r))) m⟩
 |ret=>exact⟨_,o,j,p,.of_steps (.one step_scope) d⟩
 |panic ch=>exact⟨_,o,j,p,.of_steps (.one step_scope) d⟩
 |outgrown=>exact⟨_,o,j,p,.of_steps (.one step_scope) d⟩
theorem wp_skip_seq {a:Act}{r:Code}(h:r.wp P Qz0 a w):(Code.skip.seq r).wp P Qz0 a w:=wp_seq (wp_skip h)
theorem wp_scope_three {a:Act}{c k m n:Code}(f g j:Act->J->Prop)(μ0 μ1 μ2:Act->J->Nat) (u:findLabel c 0=some (Code.skip.seq k)) (t:findLabel c 2=some (Code.skip.seq m)) (s:findLabel c 1=some (Code.skip.seq n)) (first:(∀a w,f a w->k.wp P (jumps (fun|0,a,w=>f a w|1,a,w=>j a w|2,a,w=>g a w|_,_,_=>False) Qz0) a w)->c.wp P (jumps (fun|0,a,w=>f a w|1,a,w=>j a w|2,a,w=>g a w|_,_,_=>False) Qz0) a w) (r:∀a w,f a w->(∀a' w',g a' w'->μ1 a' w'<μ0 a w->m.wp P (jumps (fun | 0,b,v=>f b v/\μ0 b v<μ0 a w | 1,b,v=>j b v/\μ2 b v<μ0 a w | 2,b,v=>g b v/\μ1 b v<μ0 a w | _,_,_=>False) Qz0) a' w') -> k.wp P (jumps (fun | 0,b,v=>f b v/\μ0 b v<μ0 a w | 1,b,v=>j b v/\μ2 b v<μ0 a w | 2,b,v=>g b v/\μ1 b v<μ0 a w | _,_,_=>False) Qz0) a w) (p:∀a w,g a w->m.wp P (jumps (fun|0,b,v=>f b v/\μ0 b v<μ1 a w|1,b,v=>j b v/\μ2 b v<μ1 a w|2,b,v=>g b v/\μ1 b v<μ1 a w|_,_,_=>False) Qz0) a w) (q:∀a w,j a w->n.wp P (jumps (λ_ _ _=>False) Qz0) a w):(Code.scope c).wp P Qz0 a w:=by
 have o:∀a w,f a w->k.wp P (jumps (fun|0,b,v=>f b v/\μ0 b v<μ0 a w|1,b,v=>j b v/\μ2 b v<μ0 a w|2,b,v=>g b v/\μ1 b v<μ0 a w|_,_,_=>False) Qz0) a w:=by
  intro a w h;refine r a w h λa' w' h' hlt=>Code.wp_mono ?_ (p a' w' h');intro e b v d;cases e with
  |goto l =>
   match l with
   |0=>exact⟨d.1,Dy d.2 hlt⟩
   |1=>exact⟨d.1,Dy d.2 hlt⟩
   |2=>exact⟨d.1,Dy d.2 hlt⟩
   |_+3=>exact d
  |normal=>exact d
  |exit _=>exact d
  |ret=>exact d
  |panic _=>exact d
  |outgrown=>exact d
 refine wp_scope_many (fun|0,a,w=>f a w|1,a,w=>j a w|2,a,w=>g a w|_,_,_=>False) (fun|0,a,w=>μ0 a w|1,a,w=>μ2 a w|_,a,w=>μ1 a w) (first ?_) ?_
 . intro a w h;refine Code.wp_mono ?_ (o a w h);intro e b v d;cases e with
   |goto l =>
    match l with
    |0=>exact d.1
    |1=>exact d.1
    |2=>exact d.1
    |_+3=>exact d
   |normal=>exact d
   |exit _=>exact d
   |ret=>exact d
   |panic _=>exact d
   |outgrown=>exact d
 intro l a w h;match l with
 |0 =>
  refine⟨_,u,wp_skip_seq (Code.wp_mono ?_ (o a w h))⟩
  intro e b v d
  cases e with
  |goto l =>
   match l with
   |0=>exact d
   |1=>exact d
   |2=>exact d
   |_+3=>exact d.elim
  |normal=>exact d
  |exit _=>exact d
  |ret=>exact d
  |panic _=>exact d
  |outgrown=>exact d
 |2 =>
  refine⟨_,t,wp_skip_seq (Code.wp_mono ?_ (p a w h))⟩
  intro e b v d
  cases e with
  |goto l =>
   match l with
   |0=>exact d
   |1=>exact d
   |2=>exact d
   |_+3=>exact d.elim
  |normal=>exact d
  |exit _=>exact d
  |ret=>exact d
  |panic _=>exact d
  |outgrown=>exact d
 |1 =>
  refine⟨_,s,wp_skip_seq (Code.wp_mono ?_ (q a w h))⟩
  intro e b v d
  cases e with
  |goto l=>exact d.elim
  |normal=>exact d
  |exit _=>exact d
  |ret=>exact d
  |panic _=>exact d
  |outgrown=>exact d
 |_+3=>exact h.elim
open Go.RowKit Go.Sort
structure Qb where
 e:Nat
 sz:Nat
 n:Nat
 v:Vu
 cs:List Vu
variable {a rs:List Qb}{r:Qb}
def Qb.Ok (B:Nat)(W:J)(r:Qb):Prop:=W.ownsRow B r.e r.sz r.v r.n r.cs
def blk (rs:List Qb):List Nat:=rs.filterMap (·.v.ownBlock)
structure Own (B:Nat)(W:J)(rs:List Qb):Prop where
 all:∀r∈rs,r.Ok B W
 nd:(blk rs).Nodup
theorem JD (a b:List Qb):blk (a++b)=blk a++blk b:=by simp[blk]
theorem QF:k∈blk rs ↔ ∃r∈rs,r.v.ownBlock=some k:=by simp[blk]
theorem Own.lt {B W rs}(h:Own B W rs)(b:k∈blk rs):B<=k/\k<W.heap.size:=by
 obtain⟨r,a,e⟩:=QF.1 b;exact World.ownsRow.lt (h.all r a) k e
theorem Own.nil (B:Nat)(W:J):Own B W []:=⟨λr hr=>(by cases hr),by simp[blk]⟩
theorem Qb.Ok.cq (h:r.Ok B W)(d:∀k,r.v.ownBlock=some k->W'.heap[k]?=W.heap[k]?):r.Ok B W':=by
 refine⟨h.1,?_⟩;rcases h.2 with j|⟨g,cap,a,hv,f,c,b⟩
 . exact .inl j
 exact .inr ⟨g,cap,a,hv,f,(d g (by rw[hv];rfl)).trans c,b⟩
theorem Own.cq {B}{rs}(h:Own B W rs)(a:∀k,k∈blk rs->W'.heap[k]?=W.heap[k]?):Own B W' rs :=
 ⟨λr hr=>Qb.Ok.cq (h.all r hr) (λk hk=>a k (QF.2 ⟨r,hr,hk⟩)),h.nd⟩
theorem Own.keep {B W W' rs}(h:Own B W rs)(a:Bw W.heap.size W W'):Own B W' rs:=h.cq (λk hk=>a.block k (h.lt hk).2)
theorem Own.grown {B}{rs}{r:Option Nat}(h:Own B W rs)(hg:W.grownBy W' r)(hr:∀k,r=some k->k∉blk rs):Own B W' rs :=
 h.cq (λk hk=>hg.block k (h.lt hk).2 (λe=>hr k e.symm hk))
theorem Own.mono {B':Nat}{W rs}(h:Own B W rs)(a:B'<=B):Own B' W rs:=⟨λr hr=>World.ownsRow.mono (h.all r hr) a,h.nd⟩
theorem Own.app {B W a b}(ha:Own B W a)(c:Own B W b)(d:∀k,k∈blk a->k∉blk b):Own B W (a++b):=by
 refine⟨λr hr=>?_,?_⟩
 . rcases List.mem_append.1 hr with h|h
   . exact ha.all r h
   exact c.all r h
 rw[JD,Em];exact⟨ha.nd,c.nd,λx hx y hy e=>d x hx (e ▸ hy)⟩
theorem Own.left {B W}{b:List Qb}(h:Own B W (a++b)):Own B W a :=
 ⟨λr hr=>h.all r (mL hr),by have:=h.nd;rw[JD,Em]at this;exact this.1⟩
theorem Own.right {B W}{b:List Qb}(h:Own B W (a++b)):Own B W b :=
 ⟨λr hr=>h.all r (mR hr),by have:=h.nd;rw[JD,Em]at this;exact this.2.1⟩
theorem Own.disj {B W}{b:List Qb}(h:Own B W (a++b))(c:k∈blk a):k∉blk b:=λhb=>by
 have:=h.nd
 rw[JD,Em]at this
 exact this.2.2 k c k hb rfl
theorem Own.perm {B W}{b:List Qb}(h:Own B W a)(p:a.Perm b):Own B W b :=
 ⟨λr hr=>h.all r (p.mem_iff.2 hr),(p.filterMap _).nodup_iff.1 h.nd⟩
theorem Own.comm {B W}{b:List Qb}(h:Own B W (a++b)):Own B W (b++a):=h.perm List.perm_append_comm
theorem Own.new {B W W' a b}(ha:Own B W a)(c:Own B W' a)(d:Own W.heap.size W' b)(f:B<=W.heap.size):Own B W' (a++b) :=
 c.app (d.mono f) (λk hk hk'=>by have:=(ha.lt hk).2;have:=(d.lt hk').1;omega)
theorem Own.frame {B}{pre L L' post:List Qb}(h:Own B W (pre++L++post))(n:W.heap.size<=W'.heap.size)(g:∀k,k<W.heap.size->k∉blk L->k∈blk (pre++post)->W'.heap[k]?=W.heap[k]?)(m:Own B W' L')(l:∀k,k∈blk L'->k∈blk L\/W.heap.size<=k):Own B W' (pre++L'++post):=by
 have d:(pre++L++post).Perm (L++(pre++post)):=by rw[Kd];exact(Ib pre L post)
 have c:(L'++(pre++post)).Perm (pre++L'++post):=by rw[Kd];exact(Ib L' pre post)
 have a:=h.perm d;have f:Own B W' (pre++post):=a.right.cq (λk hk'=>g k (a.right.lt hk').2 (λb=>a.disj b hk') hk');refine(m.app f (λk hkL hkR=>?_)).perm c;rcases l k hkL with b|j
 . exact a.disj b hkR
 have:=(a.right.lt hkR).2;omega
theorem Own.one (h:r.Ok B W):Own B W [r]:=by
 refine⟨λx hx=>by simp at hx;subst hx;exact h,?_⟩;cases hv:r.v.ownBlock<;>simp[blk,hv]
theorem Own.head {B W}(h:Own B W (r::rs)):r.Ok B W:=h.all r (by simp)
theorem Own.tail {B W}(h:Own B W (r::rs)):Own B W rs:=Own.right (a:=[r]) h
theorem Own.push {B}{r':Qb}(h:Own B W (r::rs))(hg:W.grownBy W' r.v.ownBlock)(b:r'.Ok B W')(a:r'.v.ownBlock=r.v.ownBlock\/r'.v.ownBlock=some W.heap.size):Own B W' (r'::rs):=by
 refine Own.frame (pre:=[]) (L:=[r]) (L':=[r']) (post:=rs) h hg.size (λk hk hn _=>hg.block k hk (λe=>hn (QF.2 ⟨r,by simp,e.symm⟩))) (Own.one b) (λk hk=>?_);obtain⟨x,hx,e⟩:=QF.1 hk;simp at hx;subst hx;rcases a with a|a
 . exact .inl (QF.2 ⟨r,by simp,by rw[<- a];exact e⟩)
 rw[a]at e;cases e;exact .inr lRz
structure EV where
 cs:List Vu
 rs:List Qb
def LR {α:Type}(Rep:α->List Vu->List Qb->Prop)(xs:List α)(c:List Vu)(k:List Qb):Prop:=∃es:List EV,N es=N xs/\(∀(i:Nat) (x:α) (ev:EV),xs[i]?=some x->es[i]?=some ev->Rep x ev.cs ev.rs)/\c=es.flatMap (·.cs)/\k=es.flatMap (·.rs)
theorem LR.nil {α:Type}(a:α->List Vu->List Qb->Prop):LR a [] [] []:=⟨[],rfl,λi x ev h=>by simp at h,rfl,rfl⟩
theorem LR.snoc {α:Type}{a:α->List Vu->List Qb->Prop}{b:List α}{c k}(h:LR a b c k){x:α}{cs:List Vu}(hx:a x cs rs):LR a (b++[x]) (c++cs) (k++rs):=by
 obtain⟨l,f,g,rfl,rfl⟩:=h;refine⟨l++[⟨cs,rs⟩],by simp[f],λi y ev hy he=>?_,by simp,by simp⟩;by_cases hi:i<N b
 . rw[Hb hi]at hy;rw[Hb (by omega)]at he;exact g i y ev hy he
 rw[Lz (by omega)]at hy he;have d:i-N b=0:=by
  by_cases j:i-N b=0
  . exact j
  rw[Hh (by simp;omega)]at hy;cases hy
 rw[d]at hy;rw[f,d]at he;simp at hy he;subst hy he;exact hx
def nR (v:Vu)(l:List Int):Qb:=⟨2,1,N l,v,I l⟩
def bR (v:Vu)(l:List Int):Qb:=⟨5,1,N l,v,Uz0 l⟩
def RInt (x:Int)(c:List Vu)(r:List Qb):Prop:=c=[U O x]/\r=[]
def RIn (x:In)(c:List Vu)(r:List Qb):Prop:=∃v,c=[U O x.op,U O x.a,U O x.b,U Ou x.v,v]/\r=[nR v x.l]
def RLim (x:Qp)(c:List Vu)(r:List Qb):Prop:=c=[U O x.min,U O x.max,G x.has]/\r=[]
def RGrp (x:Grp)(c:List Vu)(r:List Qb):Prop:=c=[U O x.n,U O x.ty]/\r=[]
def RExp (x:Exp)(c:List Vu)(r:List Qb):Prop:=c=[Xs x.nm,U O x.kind,U O x.ix]/\r=[]
def RImp (x:Imp)(c:List Vu)(r:List Qb):Prop:=c=[Xs x.mod,Xs x.nm,U O x.kind,U O x.ty,U O x.lim.min,U O x.lim.max,G x.lim.has,U O x.gl.ty,G x.gl.mu]/\r=[]
def RFT (x:QE)(c:List Vu)(r:List Qb):Prop:=∃vp vr,c=[vp,vr]/\r=[nR vp x.ps,nR vr x.rs]
def LI' (xs:List In)(v:Vu)(r:List Qb):Prop:=∃c k,LR RIn xs c k/\r=⟨70,5,N xs,v,c⟩::k
def RGlob (x:Q6)(c:List Vu)(r:List Qb):Prop:=∃v,c=[U O x.ty.ty,G x.ty.mu,v]/\LI' x.ini v r
def REle (x:Ele)(c:List Vu)(r:List Qb):Prop:=∃v vf r1,c=[v,vf]/\LI' x.off v r1/\r=r1++[nR vf x.fs]
def RCod (x:Cod)(c:List Vu)(r:List Qb):Prop:=∃vl cl vb r1,c=[vl,vb]/\LR RGrp x.gv cl []/\LI' x.body vb r1/\r=⟨206,2,N x.gv,vl,cl⟩::r1
def RDat (x:Dat)(c:List Vu)(r:List Qb):Prop:=∃v vb r1,c=[v,vb]/\LI' x.off v r1/\r=r1++[bR vb x.bs]
def RCus (x:Cus)(c:List Vu)(r:List Qb):Prop:=∃vb,c=[U O x.aft,Xs x.nm,vb]/\r=[bR vb x.bs]
def agV (c:List Vu):Vu:=Ag c.toArray
def oneV' (c:List Vu):Vu:=c.getD 0 undef
theorem Qb.Ok.slice (h:r.Ok B W):∃a c,r.v=S a r.n c:=by
 rcases h.2 with ⟨d,b⟩|⟨g,cap,f,hv,_⟩
 . exact⟨none,0,by rw[d,b]⟩
 exact⟨_,_,hv⟩
end YtejkdbnngphgaaaGreatDoor
namespace YtejkdbnngphgaaaGreatDoor.Rp
open Go.RowKit Go.Sort
variable {a:Act}{Kc:Act->J->Prop}{l:Array Bool}{b y:Bool}{Qz0:Exit->Act->J->Prop}{W W':J}{us:List Vu}{i j s:Nat}{P:Program}{v u x:Vu}{Gz0:Vu->J->Prop}
structure PT where
 ops:List Oper
 nN:Nat
 g:Nat->J->Vu->Prop
 R:J->J->Prop
 w:J
 a0:Act
variable {T:PT}
def XN (ops:List Oper)(i j:Nat):Bool:=((ops[i]?).map λo=>o.after.any λe=>Region.binds .any e&&e.on==j).getD false
def XM (ops:List Oper):Nat->Nat->Nat->Bool
 |0,i,j=>XN ops i j
 |f+1,i,j=>XN ops i j || (Pg i).any λk=>XN ops i k&&XM ops f k j
def Qs (ops:List Oper)(i:Nat):Option Nat:=(ops[i]?).bind (·.dst)
def at_ (a:Act):Option Nat->Vu
 |some s=>a.eval (.tmp s)
 |none=>undef
def res (o:Oper)(v:Vu):Vu:=if o.dst.isNone then undef else v
structure Iv (T:PT)(l:Array Bool)(a:Act)(W:J):Prop where
 sz:a.tmps.size=T.nN
 df:a.defers=T.a0.defers
 ls:l.size=N T.ops
 cl:∀i j,l.getD i false=true->XN T.ops i j=true->l.getD j false=true
 kp:T.R T.w W
 va:∀i,i<N T.ops->l.getD i false=true->T.g i W (at_ a (Qs T.ops i))
 sm:∀s,(∀i,i<N T.ops->l.getD i false=true->Qs T.ops i≠some s)->a.eval (.tmp s)=T.a0.eval (.tmp s)
structure PT.Ok (T:PT):Prop where
 op:∀i s,Qs T.ops i=some s->s<T.nN
 pr:∀i j,i<N T.ops->XN T.ops i j=true->j<i
 sl:∀i j s,i<N T.ops->j<N T.ops->Qs T.ops i=some s->Qs T.ops j=some s->i=j
 st:∀i W W' v,T.g i W v->T.R W W'->T.g i W' v
 rt:∀{W W' W''},T.R W W'->T.R W' W''->T.R W W''
structure PT.Fx (T:PT)(i:Nat)(a:Act)(W:J):Prop where
 sz:a.tmps.size=T.nN
 kp:T.R T.w W
 va:∀f j,XM T.ops f i j=true->j<N T.ops->T.g j W (at_ a (Qs T.ops j))
 sm:∀s,(∀j,j<N T.ops->Qs T.ops j=some s->j=i\/XN T.ops j i=true)->a.eval (.tmp s)=T.a0.eval (.tmp s)
def StepP (P:Program)(T:PT)(i:Nat)(o:Oper):Prop:=∀(a:Act) (W:J) (K:Act->J->Prop) (Qz0:Exit->Act->J->Prop),T.Fx i a W->(∀v W',T.R W W'->T.g i W' (res o v)->K (a.put o.dst v) W')->if Hg o (yielded T.ops.toArray a.tmps)then o.wp P a W K Qz0 else K (a.put o.dst undef) W
def AllP (P:Program)(T:PT):Nat->List Oper->Prop
 |_,[]=>True
 |i,o::r=>StepP P T i o/\AllP P T (i+1) r
theorem AllP.cons {o:Oper}{r:List Oper}(h:StepP P T i o)(hr:AllP P T (i+1) r):AllP P T i (o::r):=⟨h,hr⟩
theorem Xb (hi:i<l.size):(l.setIfInBounds i true).getD j false=if j=i then true else l.getD j false:=by
 simp only[Pk,Array.getElem?_setIfInBounds];by_cases h:i=j
 . subst h;simp[hi]
 have a:¬j=i:=λe=>h e.symm;simp[h,a]
theorem count_set:∀(l:List Bool) (i:Nat),l[i]?=some false->(l.set i true).count false+1=l.count false
 |[],i,h=>by simp at h
 |b::l,0,h=>by
  simp only[List.getElem?_cons_zero,Option.some.injEq]at h
  subst h
  simp
 |b::l,i+1,h=>by
  have:=count_set l i (by simpa using h)
  simp only[List.set_cons_succ,List.count_cons]
  omega
theorem pre_listed {ops:List Oper}{o:Oper}(a:ops[i]?=some o)(h:(o.after.all λe=>!Region.binds .any e || l.getD e.on false)=true)(hp:XN ops i j=true):l.getD j false=true:=by
 simp only[XN,a,Lw,Lh,Bj,Hy,beq_iff_eq]at hp;obtain⟨e,b,d,c⟩:=hp;rw[Bq]at h;have:=h e b;rw[d,c]at this;simpa using this
theorem Xn (hc:∀i j,l.getD i false=true->XN T.ops i j=true->l.getD j false=true):∀f i j,(∀k,XN T.ops i k=true->l.getD k false=true)->XM T.ops f i j=true->l.getD j false=true
 |0,i,j,h,a=>h j a
 |f+1,i,j,h,a=>by
  simp only[XM,Vk,List.any_eq_true,Hy]at a
  rcases a with a|⟨k,_,c,b⟩
  . exact h j a
  . exact Xn hc f k j (λm hm=>hc k m (h k c) hm) b
theorem Iv.next (m:T.Ok){o:Oper}(h:Iv T l a W)(y:T.ops[i]?=some o)(hl:l.getD i false=false) (hp:∀c,XN T.ops i c=true->l.getD c false=true) (z:T.R W W') (hg:T.g i W' (res o v)):Iv T (l.setIfInBounds i true) (a.put o.dst v) W':=by
 have hi:i<N T.ops:=(List.getElem?_eq_some_iff.1 y).1;have b:i<l.size:=by rw[h.ls];exact hi
 have f:Qs T.ops i=o.dst:=by simp[Qs,y]
 have p:(a.put o.dst v).tmps.size=a.tmps.size:=by cases o.dst<;>simp[Vq]
 have r:(a.put o.dst v).defers=a.defers:=by cases o.dst<;>simp[Vq]
 refine⟨p.trans h.sz,r.trans h.df,by simpa using h.ls,λk j hk' hpj=>?_,m.rt h.kp z,λj hj hlj=>?_,λs hs'=>?_⟩
 . rw[Xb b]at hk'⊢;by_cases e:j=i
   . rw[if_pos e]
   rw[if_neg e];by_cases n:k=i
   . subst n;exact hp j hpj
   rw[if_neg n]at hk';exact h.cl k j hk' hpj
 . rw[Xb b]at hlj;by_cases e:j=i
   . subst e;rw[f];cases hd:o.dst with
     |none =>
      show T.g j W' undef
      simpa[res,hd]using hg
     |some s =>
      have q:s<a.tmps.size:=by rw[h.sz];exact m.op j s (by rw[f,hd])
      show T.g j W' ((a.put (some s) v).eval (.tmp s))
      rw[Bf a s v q]
      simpa[res,hd]using hg
   rw[if_neg e]at hlj;have:=m.st j W W' _ (h.va j hj hlj) z;cases hd:Qs T.ops j with
   |none=>rw[hd]at this;exact this
   |some s =>
    rw[hd]at this
    show T.g j W' ((a.put o.dst v).eval (.tmp s))
    cases ho':o.dst with
    |none=>exact this
    |some t =>
     have d:t≠s:=by
      intro n
      subst n
      exact e (m.sl j i t hj hi hd (by rw[f,ho']))
     rw[Ah a _ _ v d]
     exact this
 have d:o.dst≠some s:=by have:=hs' i hi (by rw[Xb b,if_pos rfl]);rwa [f]at this
 have u:=h.sm s (λj hj hlj=>hs' j hj (by rw[Xb b];split<;>simp_all));cases ho':o.dst with
 |none=>exact u
 |some t =>
  rw[Ah a _ _ v (λe=>d (by rw[ho',e]))]
  exact u
theorem rep_getD (n i:Nat):(Vj n false).getD i false=false:=by
 rw[Pk,Array.getElem?_replicate];split<;>rfl
def okB (ops:List Oper)(nN:Nat):Bool :=
 (Pg (N ops)).all λi=>(match Qs ops i with|some s=>decide (s<nN)&&((Pg (N ops)).all λj=>j==i || !(Qs ops j==some s))|none=>true) &&
  ((ops[i]?).map λo=>o.after.all λe=>!Region.binds .any e || decide (e.on<i)).getD true
theorem ok_of (h:okB T.ops T.nN=true)(b:∀i W W' v,T.g i W v->T.R W W'->T.g i W' v)(c:∀{W W' W''},T.R W W'->T.R W' W''->T.R W W''):T.Ok:=by
 simp only[okB,Px,Ic,Hy]at h;refine⟨λi s hs=>?_,λi j hi hp=>?_,λi j s hi hj hs hs'=>?_,b,c⟩
 . have hi:i<N T.ops:=by
    by_cases hi:i<N T.ops
    . exact hi
    rw[Qs,Hh (by omega)]at hs;cases hs
   have:=(h i hi).1;rw[hs]at this;simp only[Hy,decide_eq_true_eq]at this;exact this.1
 . have:=(h i hi).2;have a:T.ops[i]?=some T.ops[i]:=Kv hi;rw[a,Lw,Lh]at this;simp only[XN,a,Lw,Lh,Bj,Hy,beq_iff_eq]at hp;obtain⟨e,d,f,rfl⟩:=hp;rw[Bq]at this;have:=this e d;rw[f]at this;simpa using this
 have:=(h i hi).1;rw[hs]at this;simp only[Hy,decide_eq_true_eq,Px,Ic]at this;have:=this.2 j hj;rw[hs']at this;simpa using (show(j==i)=true by simpa using this) |> (λe=>(beq_iff_eq.1 e).symm)
theorem JJ (a:Act)(s:Nat):a.eval (.tmp s)=a.tmps[s]?.getD undef:=by simp[Cc]
section
variable {ops:List Oper}{nN:Nat}{g:Nat->J->Vu->Prop}{R:J->J->Prop}{w:J}{a0:Act}{i:Nat}{a:Act}{W:J}
theorem Qd {o:Oper}(h:o.guard=none):Hg o (yielded ops.toArray a.tmps)=true:=by simp[Hg,h]
theorem want_bool {o:Oper}{z:Bool}(h:o.guard=some (j,z))(f:Qs ops j=some s)(d:s<a.tmps.size)(e:a.tmps[s]?.getD undef=G b):Hg o (yielded ops.toArray a.tmps)=(b==z):=by
 rw[Lx d,Lh]at e;have c:(ops[j]?).bind (·.dst)=some s:=f;simp only[Hg,h,yielded,Pm,c,Option.bind_some,Lx d,e];cases b<;>cases z<;>rfl
theorem want_is {o:Oper}{z:Bool}(h:o.guard=some (j,z))(f:Qs ops j=some s)(d:s<a.tmps.size)(e:a.tmps[s]?.getD undef=G b)(c:(b==z)=y):Hg o (yielded ops.toArray a.tmps)=y:=(want_bool h f d e).trans c
end
theorem act_ext {b:Act}(c:a.tmps.size=b.tmps.size)(d:a.defers=b.defers)(f:∀s,a.eval (.tmp s)=b.eval (.tmp s)):a=b:=by
 obtain⟨l,n⟩:=a;obtain⟨k,m⟩:=b;simp only at c d;subst d;congr 1
 apply Array.ext
 . exact c
 intro i j g;have:=f i;simpa[Cc,Array.getD,j,g]using this
theorem act_puts:∀(ws:List Nat) (a b:Act),a.tmps.size=b.tmps.size->a.defers=b.defers->(∀s,s∉ws->a.eval (.tmp s)=b.eval (.tmp s))->a=ws.foldl (λb s=>b.put (some s) (a.eval (.tmp s))) b
 |[],a,b,hs,hd,he=>act_ext hs hd (λs=>he s (by simp))
 |s::ws,a,b,hs,hd,he=>by
  rw[List.foldl_cons]
  refine act_puts ws a (b.put (some s) (a.eval (.tmp s))) (by rw[Act.size_put];exact hs) (by rw[Act.defers_put'];exact hd) (λt ht=>?_)
  by_cases e:t=s
  . subst e
    by_cases c:t<b.tmps.size
    . rw[Bf _ _ _ c]
    . have f:a.eval (.tmp t)=undef:=by simp[Cc,Array.getD,show ¬t<a.tmps.size by omega]
      have d:(b.put (some t) (a.eval (.tmp t))).eval (.tmp t)=undef:=by simp[Cc,Vq,Array.getD,c]
      rw[d,f]
  . rw[Ah _ _ _ _ (λe'=>e e'.symm)]
    exact he t (by simp[e,ht])
def Stb (p:J->Vu->Prop):Prop:=∀W W' v,p W v->Bw W.heap.size W W'->p W' v
def StbL:List (J->Vu->Prop)->Prop
 |[]=>True
 |p::ps=>Stb p/\StbL ps
theorem StbL.cons {p:J->Vu->Prop}{a:List (J->Vu->Prop)}(h:Stb p)(b:StbL a):StbL (p::a):=⟨h,b⟩
section
variable {ops:List Oper}{a:Act}{W:J}{P:Program}{K:Act->J->Prop}{Qz0:Exit->Act->J->Prop}{o:Oper}{p:J->Vu->Prop}{d:Nat}
end
theorem nd_inj {α:Type}:∀(l:List α) (i j:Nat) (x:α),l.Nodup->l[i]?=some x->l[j]?=some x->i=j
 |[],i,j,x,_,h,_=>by simp at h
 |a::l,0,0,x,_,_,_=>rfl
 |a::l,0,j+1,x,hn,h,k=>by
  simp at h k;subst h
  exact absurd (Tj k) (List.nodup_cons.1 hn).1
 |a::l,i+1,0,x,hn,h,k=>by
  simp at h k;subst k
  exact absurd (Tj h) (List.nodup_cons.1 hn).1
 |a::l,i+1,j+1,x,hn,h,k=>by
  have:=nd_inj l i j x (List.nodup_cons.1 hn).2 (by simpa using h) (by simpa using k)
  omega
structure CT where
 ops:List Oper
 nN:Nat
 vs:List Vu
 ch:List Nat
 F:Nat->List Vu->J->Prop
 w:J
 a0:Act
 K:Nat
abbrev CT.c (T:CT)(j:Nat):Nat:=T.ch.getD j 0
def CT.pt (T:CT):PT:=⟨T.ops,T.nN,λi _ v=>i∈T.ch\/v=T.vs.getD i undef,λ_ _=>True,T.w,T.a0⟩
def CT.Us (T:CT)(k:Nat)(us:List Vu)(a:Act):Prop:=N us=k/\∀j,j<k->at_ a (Qs T.ops (T.c j))=us.getD j undef
def CT.Ph (T:CT)(l:Array Bool)(a:Act)(W:J):Prop:=∃k us,k<=N T.ch/\(∀j,j<N T.ch->l.getD (T.c j) false=decide (j<k))/\T.Us k us a/\T.F k us W
structure CT.Fin (T:CT)(us:List Vu)(a:Act)(W:J):Prop where
 sz:a.tmps.size=T.nN
 df:a.defers=T.a0.defers
 va:∀i,i<N T.ops->i∉T.ch->at_ a (Qs T.ops i)=T.vs.getD i undef
 hus:T.Us (N T.ch) us a
 ph:T.F (N T.ch) us W
 sm:∀s,(∀i,i<N T.ops->Qs T.ops i≠some s)->a.eval (.tmp s)=T.a0.eval (.tmp s)
def StepC (P:Program)(T:CT)(Qz0:Exit->Act->J->Prop)(i:Nat)(o:Oper):Prop :=
 (∀k,T.ch[k]?=some i->∀(a:Act) (W:J) (us:List Vu) (Kc:Act->J->Prop),T.pt.Fx i a W->T.Us k us a->T.F k us W->(∀v W',T.F (k+1) (us++[res o v]) W'->Kc (a.put o.dst v) W')->if Hg o (yielded T.ops.toArray a.tmps)then o.wp P a W Kc Qz0 else Kc (a.put o.dst undef) W) /\
 (i∉T.ch->∀(a:Act) (W:J) (k:Nat) (us:List Vu) (Kc:Act->J->Prop),T.pt.Fx i a W->k<=T.K->(∀j,j<N T.ch->XM T.ops 9 i (T.c j)=true->j<k)->T.Us k us a->T.F k us W->(∀v,res o v=T.vs.getD i undef->Kc (a.put o.dst v) W)->if Hg o (yielded T.ops.toArray a.tmps)then o.wp P a W Kc Qz0 else Kc (a.put o.dst undef) W)
def Qj (P:Program)(T:CT)(Qz0:Exit->Act->J->Prop):Nat->List Oper->Prop
 |_,[]=>True
 |i,o::r=>StepC P T Qz0 i o/\Qj P T Qz0 (i+1) r
section
variable {P:Program}{T:CT}{Qz0:Exit->Act->J->Prop}{i:Nat}{o:Oper}{r:List Oper}
theorem Qj.nil:Qj P T Qz0 i []:=trivial
theorem Qj.get:∀(l:List Oper) (k i:Nat) (o:Oper),Qj P T Qz0 k l->l[i]?=some o->StepC P T Qz0 (k+i) o
 |[],k,i,o,_,h=>by simp at h
 |x::r,k,0,o,⟨h1,_⟩,h=>by simp at h;subst h;exact h1
 |x::r,k,i+1,o,⟨_,h2⟩,h=>by
  have:=Qj.get r (k+1) i o h2 (by simpa using h)
  rwa [show k+1+i=k+(i+1) by omega]at this
theorem Qj.c (hi:T.ch.contains i=false)(h:∀(a:Act) (W:J) (k:Nat) (us:List Vu) (Kc:Act->J->Prop),T.pt.Fx i a W->k<=T.K->(∀j,j<N T.ch->XM T.ops 9 i (T.c j)=true->j<k)->T.Us k us a->T.F k us W->(∀v,res o v=T.vs.getD i undef->Kc (a.put o.dst v) W)->if Hg o (yielded T.ops.toArray a.tmps)then o.wp P a W Kc Qz0 else Kc (a.put o.dst undef) W)(hr:Qj P T Qz0 (i+1) r):Qj P T Qz0 i (o::r):=by
 have b:i∉T.ch:=by simpa using hi
 exact⟨⟨λk hk=>absurd (Tj hk) b,λ_=>h⟩,hr⟩
theorem Qj.h (k:Nat)(b:(T.ch[k]?==some i&&decide (T.ch.Nodup))=true)(h:∀(a:Act) (W:J) (us:List Vu) (Kc:Act->J->Prop),T.pt.Fx i a W->T.Us k us a->T.F k us W->(∀v W',T.F (k+1) (us++[res o v]) W'->Kc (a.put o.dst v) W')->if Hg o (yielded T.ops.toArray a.tmps)then o.wp P a W Kc Qz0 else Kc (a.put o.dst undef) W)(hr:Qj P T Qz0 (i+1) r):Qj P T Qz0 i (o::r):=by
 simp only[Hy,beq_iff_eq,decide_eq_true_eq]at b;obtain⟨b,c⟩:=b;refine⟨⟨λj hj=>?_,λhn=>absurd (Tj b) hn⟩,hr⟩;have e:k=j:=by exact nd_inj _ _ _ _ c b hj
 subst e;exact h
end
theorem at_put_same {ops:List Oper}{o:Oper}{nN:Nat}(c:ops[i]?=some o)(hN:a.tmps.size=nN)(b:∀s,Qs ops i=some s->s<nN):at_ (a.put o.dst v) (Qs ops i)=res o v:=by
 have e:Qs ops i=o.dst:=by simp[Qs,c]
 rw[e]at b⊢;cases hd:o.dst with
 |none=>simp[at_,res,hd]
 |some s =>
  show(a.put (some s) v).eval (.tmp s)=_
  rw[Bf a s v (by rw[hN];exact b s hd)]
  simp[res,hd]
theorem at_put_ne {ops:List Oper}{o:Oper}(c:ops[i]?=some o)(b:∀s,Qs ops i=some s->Qs ops j≠some s):at_ (a.put o.dst v) (Qs ops j)=at_ a (Qs ops j):=by
 have e:Qs ops i=o.dst:=by simp[Qs,c]
 rw[e]at b;cases hj:Qs ops j with
 |none=>rfl
 |some s =>
  cases hd:o.dst with
  |none=>rfl
  |some t =>
   show(a.put (some t) v).eval (.tmp s)=a.eval (.tmp s)
   exact Ah a _ _ v (λe'=>b t hd (by rw[hj,e']))
theorem all_listed (m:T.Ok)(j:l.size=N T.ops)(hr:Rc .any T.ops.toArray l=[]):∀i,i<N T.ops->l.getD i false=true:=by
 intro i;induction i using Rf with
 |_ i ih =>
  intro hi
  cases hc:l.getD i false with
  |true=>rfl
  |false =>
   exfalso
   have f:T.ops[i]?=some T.ops[i]:=Kv hi
   have a:i∈Rc .any T.ops.toArray l:=by
    have b:i<l.size:=by rw[j];exact hi
    simp only[Rc,Cq,Ic,Rv,Pm,f,Lw,Lh,Hy]
    refine⟨hi,?_,?_⟩
    . rw[Pk,Lx b]at hc⊢
      simpa using hc
    . rw[Bq]
      intro e k
      by_cases g:Region.binds .any e=true
      . have c:XN T.ops i e.on=true:=by
          simp only[XN,f,Lw,Lh,Bj,Hy,beq_iff_eq]
          exact⟨e,k,g,rfl⟩
        have d:=m.pr i e.on hi c;rw[ih e.on d (by omega)]
        simp
      . simp[g]
   rw[hr]at a
   cases a
theorem ch_any {T:CT}(hT:T.pt.Ok)(V:∀j,j<N T.ch->T.c j<N T.ops)(ad:T.ch.Nodup)(ab:∀j,j+1<N T.ch->XM T.ops 9 (T.c (j+1)) (T.c j)=true) (hK:N T.ch<=T.K\/(T.K+1=N T.ch/\∀j,j<N T.ops->j≠T.c T.K->XM T.ops 9 (T.c T.K) j=true)) (ar:Qj P T Qz0 0 T.ops) (ag:∀us a W,T.Fin us a W->Qz0 .normal a W):∀(b:Nat) (l:Array Bool) (a:Act) (W:J),Iv T.pt l a W->T.Ph l a W->l.toList.count false<=b->wpAny P .any T.ops.toArray Qz0 b l a W:=by
 have y:∀j,j<N T.ch->T.ch[j]?=some (T.c j):=λj hj=>by simp[CT.c,Ty,Kv hj]
 have L:∀l a W,Iv T.pt l a W->T.Ph l a W->Rc .any T.ops.toArray l=[]->Qz0 .normal a W:=by
  intro l a W h p hr;have n:=all_listed hT h.ls hr;obtain⟨k,us,hk,H,z,hF⟩:=p;have au:k=N T.ch:=by
   rcases Pv k (N T.ch)with g|g
   . have:=H k g;rw[n _ (V k g)]at this;simp at this
   omega
  subst au;refine ag us a W ⟨h.sz,h.df,λi hi hn=>?_,z,hF,λs R=>h.sm s (λi hi _=>R i hi)⟩;rcases h.va i hi (n i hi)with e|e
  . exact absurd e hn
  exact e
 intro b;induction b with
 |zero =>
  intro l a W h p hc
  have hr:Rc .any T.ops.toArray l=[]:=by
   cases hx:Rc .any T.ops.toArray l with
   |nil=>rfl
   |cons i r =>
    exfalso
    have F:i∈Rc .any T.ops.toArray l:=by rw[hx];simp
    simp only[Rc,Cq,Ic,Rv,Hy]at F
    obtain⟨g,h2,_⟩:=F;have g:i<l.size:=by rw[h.ls];exact g
    have hm:false∈l.toList:=by
     rw[Pk,Lx g]at h2
     have:l[i]=false:=by simpa using h2
     rw[<- this]
     simp
    have:=List.count_pos_iff.2 hm
    omega
  exact⟨hr,L l a W h p hr⟩
 |succ b ihf =>
  intro l a W h p hc
  refine⟨L l a W h p,λi hi=>?_⟩
  simp only[Rc,Cq,Ic,Rv,Hy]at hi
  obtain⟨g,h2,h3⟩:=hi;have A:T.ops[i]?=some T.ops[i]:=Kv g;generalize T.ops[i]=o at A;rw[Pm,A,Lw,Lh]at h3;have D:i<l.size:=by rw[h.ls];exact g
  have I:l[i]?=some false:=by
   rw[Lx D];rw[Pk,Lx D]at h2
   simpa using h2
  have H:l.getD i false=false:=by rw[Pk,I];rfl
  have M:(l.setIfInBounds i true).toList.count false<=b:=by
   have:=count_set l.toList i (by simpa using I)
   rw[Array.toList_setIfInBounds]
   omega
  have hp:∀c,XN T.ops i c=true->l.getD c false=true:=λc hc=>pre_listed A h3 hc
  have ai:T.pt.Fx i a W:=by
   refine⟨h.sz,h.kp,λf j hf hj=>h.va j hj (Xn h.cl f i j hp hf),λs R=>h.sm s (λj hj hlj e=>?_)⟩
   rcases R j hj e with rfl|hq
   . rw[H]at hlj;cases hlj
   . have:=h.cl j i hlj hq
     rw[H]at this;cases this
  have R:=Qj.get T.ops 0 i o ar A;rw[Nat.zero_add]at R;have aa:∀j,j≠i->j<N T.ops->∀s,Qs T.ops i=some s->Qs T.ops j≠some s:=λj d hj s e1 e2=>d (hT.sl j i s hj g e2 e1);have ay:∀s,Qs T.ops i=some s->s<T.nN:=λs e=>hT.op i s e;obtain⟨k,us,hk,q,z,hF⟩:=p
  have B:if Hg o (yielded T.ops.toArray a.tmps)then o.wp P a W (wpAny P .any T.ops.toArray Qz0 b (l.setIfInBounds i true)) Qz0 else wpAny P .any T.ops.toArray Qz0 b (l.setIfInBounds i true) (a.put o.dst undef) W:=by
   by_cases t:i∈T.ch
   . obtain⟨C,X,aw⟩:=List.getElem_of_mem t;have m:T.ch[C]?=some i:=by rw[Kv X,aw]
     have E:T.c C=i:=by simp[CT.c,Ty,m]
     have e1:k<=C:=by
      have:=q C X
      rw[E,H]at this
      simpa using this.symm
     have e2:C<=k:=by
      rcases Nat.eq_zero_or_pos C with h0|h0
      . omega
      . obtain⟨j,rfl⟩:∃j,C=j+1:=⟨C-1,by omega⟩
        have:=Xn h.cl 9 i (T.c j) hp (by rw[<- E];exact ab j X)
        rw[q j (by omega)]at this
        simp at this
        omega
     have e:k=C:=by omega
     subst e
     refine R.1 k m a W us _ ai z hF (λv W' hF'=>ihf _ _ _ (h.next hT A H hp trivial (.inl t)) ⟨k+1,us++[res o v],by omega,λj hj=>?_,⟨by simp[z.1],λj hj=>?_⟩,hF'⟩ M)
     . rw[Xb D]
       by_cases Y:T.c j=i
       . rw[if_pos Y]
         have:j=k:=by
          have g:=y j hj;rw[Y]at g
          exact nd_inj _ _ _ _ ad g m
         simp[this]
       . rw[if_neg Y,q j hj]
         have:j≠k:=λe=>Y (by rw[e];exact E)
         simp;omega
     . by_cases Y:j=k
       . subst Y;rw[E,at_put_same A h.sz ay]
         simp[Ty,z.1]
       . have af:j<k:=by omega
         have d:T.c j≠i:=λe=>by
          have g:=y j (by omega);rw[e]at g
          exact Y (nd_inj _ _ _ _ ad g m)
         rw[at_put_ne A (aa _ d (V j (by omega))),z.2 j af]
         simp[Ty,Hb (show j<N us by rw[z.1];exact af)]
   . have av:k<=T.K:=by
       rcases hK with hK|⟨hK,n⟩
       . omega
       . rcases Pv T.K k with ae|ax
         . exfalso
           have d:i≠T.c T.K:=λe=>t (by rw[e];exact Tj (y T.K (by omega)));have u:=q T.K (by omega);rw[show decide (T.K<k)=true by simpa using ae]at u
           have:=Xn h.cl 9 (T.c T.K) i (λc hc=>h.cl _ c u hc) (n i g d)
           rw[H]at this;cases this
         . exact ax
     refine R.2 t a W k us _ ai av (λj hj hpj=>by have:=Xn h.cl 9 i (T.c j) hp hpj;rw[q j hj]at this;simpa using this) z hF (λv hv=>ihf _ _ _ (h.next hT A H hp trivial (.inr hv)) ⟨k,us,hk,λj hj=>?_,⟨z.1,λj hj=>?_⟩,hF⟩ M)
     . have d:T.c j≠i:=λe=>t (by rw[<- e];exact Tj (y j hj));rw[Xb D,if_neg d];exact q j hj
     . have d:T.c j≠i:=λe=>t (by rw[<- e];exact Tj (y j (by omega)));rw[at_put_ne A (aa _ d (V j (by omega)))];exact z.2 j hj
  unfold wpOp
  simp only[Pm,A]
  split
  · rename_i hw
    rw[if_pos hw]at B
    exact .inl B
  . rename_i hw
    rw[if_neg hw]at B
    exact B
def chB (ops:List Oper)(ch:List Nat)(K:Nat):Bool:=(ch.all λj=>decide (j<N ops))&&decide ch.Nodup&&((Pg (N ch-1)).all λj=>XM ops 9 (ch.getD (j+1) 0) (ch.getD j 0))&&(decide (N ch<=K) || (K+1==N ch&&((Pg (N ops)).all λj=>j==ch.getD K 0 || XM ops 9 (ch.getD K 0) j)))
theorem ch_region {g nN:Nat}{ops:List Oper}(vs:List Vu)(ch:List Nat)(K:Nat)(F:Nat->List Vu->J->Prop){w:J}{a0:Act} (k:P.follows .mixedOrders=true) (b:okB ops nN=true) (f:chB ops ch K=true) (hN:a0.tmps.size=nN) (l:F 0 [] { w with drawn:=w.drawn+1 }) (hst:Qj P ⟨ops,nN,vs,ch,F,w,a0,K⟩ Qz0 0 ops) (hend:∀us a W,CT.Fin ⟨ops,nN,vs,ch,F,w,a0,K⟩ us a W->Qz0 .normal a W):(Code.region g ops.toArray true).wp P Qz0 a0 w:=by
 simp only[chB,Hy,Vk,beq_iff_eq,decide_eq_true_eq,Px,Ic]at f;obtain⟨⟨⟨p,o⟩,n⟩,m⟩:=f;refine wp_region_any k ?_;rw[Rv];refine ch_any (T:=⟨ops,nN,vs,ch,F,w,a0,K⟩) (ok_of (T:=CT.pt _) b (λi W W' v h _=>h) (λ_ _=>trivial)) (λj hj=>p _ ?_) o (λj hj=>n j (by show j<N ch-1;have:j+1<N ch:=hj;omega)) ?_ hst hend _ _ _ _ ?_ ?_ ?_
 . have c:j<N ch:=hj;show ch.getD j 0∈ch;simp[Ty,Kv c]
 . rcases m with d|⟨d,q⟩
   . exact .inl d
   refine .inr ⟨d,λj hj hne=>?_⟩;rcases q j hj with e|e
   . exact absurd e hne
   exact e
 . refine⟨hN,rfl,by show(Vj (N ops) false).size=N ops;simp,λi j hi _=>?_,trivial,λi _ hi=>?_,λs _=>rfl⟩
   . rw[rep_getD]at hi;cases hi
   rw[rep_getD]at hi;cases hi
 . exact⟨0,[],Hw _,λj hj=>by rw[rep_getD];simp,⟨rfl,λj hj=>by omega⟩,l⟩
 simp
section
variable {ops:List Oper}{nN:Nat}{vs:List Vu}{ch:List Nat}{F:Nat->List Vu->J->Prop}{w:J}{a0:Act}{K i:Nat}{a:Act}{W:J}
theorem cx_va (f:PT.Fx (CT.pt ⟨ops,nN,vs,ch,F,w,a0,K⟩) i a W)(k j s:Nat)(v:Vu)(hp:(XM ops k i j&&decide (j<N ops)&&!ch.contains j&&Qs ops j==some s)=true)(hv:vs[j]?=some v):a.tmps[s]?.getD undef=v:=by
 simp only[Hy,decide_eq_true_eq,beq_iff_eq,Dc]at hp;have h:=f.va k j hp.1.1.1 hp.1.1.2;rw[show Qs (CT.pt ⟨ops,nN,vs,ch,F,w,a0,K⟩).ops j=some s from hp.2]at h;rcases h with e|e
 . have:j∈ch:=e;have:=hp.1.2;simp_all
 rw[<- JJ];exact e.trans (by simp[Ty,hv])
theorem cx_us {k:Nat}(h:CT.Us ⟨ops,nN,vs,ch,F,w,a0,K⟩ k us a)(j s:Nat)(hp:Qs ops (ch.getD j 0)=some s)(b:j<k):a.tmps[s]?.getD undef=us.getD j undef:=by
 have:=h.2 j b;rw[show Qs (CT.mk ops nN vs ch F w a0 K).ops (CT.c (CT.mk ops nN vs ch F w a0 K) j)=some s from hp]at this;rw[<- JJ];exact this
theorem JQ (f:PT.Fx (CT.pt ⟨ops,nN,vs,ch,F,w,a0,K⟩) i a W)(s:Nat)(h:((Pg (N ops)).all λj=>!(Qs ops j==some s) || j==i || XN ops j i)=true):a.tmps[s]?.getD undef=a0.tmps[s]?.getD undef:=by
 rw[<- JJ,<- JJ];refine f.sm s (λj hj e=>?_);rw[Px]at h;have:=h j (List.mem_range.2 hj);rw[show Qs ops j=some s from e]at this;exact(by simpa using this:j=i\/XN ops j i=true)
variable {us:List Vu}
theorem cf_va (f:CT.Fin ⟨ops,nN,vs,ch,F,w,a0,K⟩ us a W)(j s:Nat)(v:Vu)(hp:(decide (j<N ops)&&!ch.contains j&&Qs ops j==some s)=true)(hv:vs[j]?=some v):a.eval (.tmp s)=v:=by
 simp only[Hy,decide_eq_true_eq,beq_iff_eq,Dc]at hp;have h:=f.va j hp.1.1 (by have:=hp.1.2;simpa using this);rw[show Qs (CT.mk ops nN vs ch F w a0 K).ops j=some s from hp.2]at h;exact(show a.eval (.tmp s)=vs.getD j undef from h).trans (by simp[Ty,hv])
theorem cf_us (f:CT.Fin ⟨ops,nN,vs,ch,F,w,a0,K⟩ us a W)(j s:Nat)(hp:(Qs ops (ch.getD j 0)==some s&&decide (j<N ch))=true):a.eval (.tmp s)=us.getD j undef:=by
 simp only[Hy,decide_eq_true_eq,beq_iff_eq]at hp;have:=f.hus.2 j hp.2;rw[show Qs (CT.mk ops nN vs ch F w a0 K).ops (CT.c (CT.mk ops nN vs ch F w a0 K) j)=some s from hp.1]at this;exact this
theorem cf_act (f:CT.Fin ⟨ops,nN,vs,ch,F,w,a0,K⟩ us a W)(ws:List Nat)(c:(ops.filterMap (·.dst))=ws)(hN:a0.tmps.size=nN):a=ws.foldl (λb s=>b.put (some s) (a.eval (.tmp s))) a0:=by
 subst c;refine act_puts _ a a0 (f.sz.trans hN.symm) f.df (λs hs=>f.sm s (λi hi e=>hs ?_));rw[List.mem_filterMap];refine⟨ops[i],List.getElem_mem hi,?_⟩;simpa[Qs,Kv hi]using e
def Fz (Sz0:J->Prop)(K:Nat)(Ps:List (List Vu->J->Prop))(k:Nat)(us:List Vu)(W:J):Prop:=(k<=K->Sz0 W)/\(Ps.getD k (λ_ _=>False)) us W
theorem QA {o:Oper}(v:Vu)(c:Hg o (yielded ops.toArray a.tmps)=true)(d:res o v=u)(b:(execOp a.eval o).run P W=.ok (.value v) W) (f:∀v,res o v=u->Kc (a.put o.dst v) W):if Hg o (yielded ops.toArray a.tmps)then o.wp P a W Kc Qz0 else Kc (a.put o.dst undef) W:=by
 rw[if_pos c];unfold Cv;rw[b,Ck];exact f v d
theorem cx_no {o:Oper}(b:Hg o (yielded ops.toArray a.tmps)=false)(c:res o undef=u) (d:∀v,res o v=u->Kc (a.put o.dst v) W):if Hg o (yielded ops.toArray a.tmps)then o.wp P a W Kc Qz0 else Kc (a.put o.dst undef) W:=by
 rw[if_neg (by rw[b];decide)];exact d undef c
theorem Jv {o:Oper}(v:Vu)(c:Hg o (yielded ops.toArray a.tmps)=true)(b:(execOp a.eval o).run P W=.ok (.value v) W')(f:Gz0 (res o v) W') (d:∀v W',Gz0 (res o v) W'->Kc (a.put o.dst v) W'):if Hg o (yielded ops.toArray a.tmps)then o.wp P a W Kc Qz0 else Kc (a.put o.dst undef) W:=by
 rw[if_pos c];unfold Cv;rw[b,Ck];exact d v W' f
theorem ch_sto {o:Oper}(c:Hg o (yielded ops.toArray a.tmps)=true)(b:(execOp a.eval o).run P W=.ok .skip W')(f:Gz0 (res o undef) W') (d:∀v W',Gz0 (res o v) W'->Kc (a.put o.dst v) W'):if Hg o (yielded ops.toArray a.tmps)then o.wp P a W Kc Qz0 else Kc (a.put o.dst undef) W:=by
 rw[if_pos c];unfold Cv;rw[b,Oper.upon_skip];exact d undef W' f
theorem ch_app {o:Oper}(d:o.guard=none)(k:o.dst.isNone=false)(s x:Operand)(t:TypeId)(g:o.op=.call { callee:=.builtin .append,args:=#[s,x],argTypes:=#[t,t] }) (base:Nat) (e:TypeId) (i:TypeInfo) (z:Vu) (size bytes:Nat) (ht:P.underlying t=some (.slice e)) (hi:P.info? e=some i) (hz:i.zero=some z) (hsize:i.size=size) (hby:i.bytes=bytes) (hzs:z.cells.size=size) (hsz:0<size) (v:Vu) (n:Nat) (xs:List Vu) (hs:a.eval s=v) (hown:W.ownsRow base e size v n xs) (ad:Ad) (m c:Nat) (news:List Vu) (hx:a.eval x=S (some ad) m c) (hl:N news=m*size) (hnews:∀j u,news[j]?=some u->W.cell? (ad.add j)=some u) (h1:∀u∈news,u.oneCell'=true) (h63:n+m<=maxLen) (hbytes:(n+m)*bytes<=140737488355328) (hbase:base<=W.heap.size) (h:∀b w',w'.ownsRow base e size b (n+m) (xs++news)->W.grownBy w' v.ownBlock->(b.ownBlock=v.ownBlock\/b.ownBlock=some W.heap.size)->Gz0 b w') (hK:∀v W',Gz0 (res o v) W'->Kc (a.put o.dst v) W'):if Hg o (yielded ops.toArray a.tmps)then o.wp P a W Kc Qz0 else Kc (a.put o.dst undef) W:=by
 rw[if_pos (Qd d)];obtain⟨b,w',f,q,p,r,l⟩:=run_append_own_at (P:=P) W base t o.type e i z size bytes ht hi hz hsize hby hzs hsz v n xs hown ad m c news hl hnews h1 h63 hbytes hbase;unfold Cv execOp;simp only[g,resolve,invoke,builtin,Sem.run_bind,Sem.run_pure,Result.andThen_ok,List.map_toArray,Mm,Rm,hs,hx,f];exact hK _ _ (by simp only[res,k];exact h b w' q p l)
theorem ch_call {o:Oper}{c:FuncId}{args:Array Vu}(d:Hg o (yielded ops.toArray a.tmps)=true)(b:(execOp a.eval o).run P W=.ok (.enter c args) W) (hc:Ec P c args W λe w'=>∃u,e=Z u/\Gz0 (res o u) w') (f:∀v W',Gz0 (res o v) W'->Kc (a.put o.dst v) W'):if Hg o (yielded ops.toArray a.tmps)then o.wp P a W Kc Qz0 else Kc (a.put o.dst undef) W:=by
 rw[if_pos d];unfold Cv;rw[b,Oper.upon_enter];refine hc.mono ?_;rintro e w' ⟨u,rfl,h⟩;exact f u w' h
end
open Go.RowKit
section
variable {P:Program}{Qz0:Exit->Act->J->Prop}{ops:List Oper}{nN:Nat}{vs:List Vu}{ch:List Nat}{F:Nat->List Vu->J->Prop}{w:J}{a0:Act}{K i:Nat}{o:Oper}{r:List Oper}
theorem o1 (j s:Nat)(hr:Qj P ⟨ops,nN,vs,ch,F,w,a0,K⟩ Qz0 (i+1) r)(hi:ch.contains i=false:=by kernel_rfl)(hp:(XM ops 9 i j&&decide (j<N ops)&&!ch.contains j&&Qs ops j==some s)=true:=by kernel_rfl)(hx:vs[j]?=some x:=by exact rfl)(hv:vs[i]?=some v:=by exact rfl)(hg:o.guard=none:=by exact rfl)(hd:∀v,res o v=v:=by intro v;exact rfl) (hrun:∀(e:Operand->Vu) (W:J),(∀c,e (.const c)=c)->e (.tmp s)=x->(execOp e o).run P W=.ok (.value v) W:=by intro e W b h;go_simp;try first|rfl|(intro hx;exfalso;omega)):Qj P ⟨ops,nN,vs,ch,F,w,a0,K⟩ Qz0 i (o::r):=by
 refine Qj.c hi (λa W kk us Kc f b hb hu hF hK=>?_) hr;refine QA v (Qd hg) (u:=vs.getD i undef) (by rw[hd,Lj,hv];rfl) (hrun _ _ (λ_=>rfl) ?_) hK;exact(JJ _ _).trans (cx_va f 9 j s x hp hx)
theorem o2 (j s b g:Nat){d:Vu}(hr:Qj P ⟨ops,nN,vs,ch,F,w,a0,K⟩ Qz0 (i+1) r)(hi:ch.contains i=false:=by kernel_rfl)(hp:(XM ops 9 i j&&decide (j<N ops)&&!ch.contains j&&Qs ops j==some s)=true:=by kernel_rfl)(hp':(XM ops 9 i b&&decide (b<N ops)&&!ch.contains b&&Qs ops b==some g)=true:=by kernel_rfl)(hx:vs[j]?=some x:=by exact rfl)(hx':vs[b]?=some d:=by exact rfl)(hv:vs[i]?=some v:=by exact rfl)(hg:o.guard=none:=by exact rfl)(hd:∀v,res o v=v:=by intro v;exact rfl) (hrun:∀(e:Operand->Vu) (W:J),(∀c,e (.const c)=c)->e (.tmp s)=x->e (.tmp g)=d->(execOp e o).run P W=.ok (.value v) W:=by intro e W k h l;go_simp;try first|rfl|(intro hx;exfalso;omega)):Qj P ⟨ops,nN,vs,ch,F,w,a0,K⟩ Qz0 i (o::r):=by
 refine Qj.c hi (λa W kk us Kc f k hb hu hF hK=>?_) hr;refine QA v (Qd hg) (u:=vs.getD i undef) (by rw[hd,Lj,hv];rfl) (hrun _ _ (λ_=>rfl) ?_ ?_) hK
 . exact(JJ _ _).trans (cx_va f 9 j s x hp hx)
 exact(JJ _ _).trans (cx_va f 9 b g d hp' hx')
theorem os (s:Nat)(x:Vu)(hr:Qj P ⟨ops,nN,vs,ch,F,w,a0,K⟩ Qz0 (i+1) r)(hi:ch.contains i=false:=by kernel_rfl)(hp:((Pg (N ops)).all λj=>!(Qs ops j==some s) || j==i || XN ops j i)=true:=by kernel_rfl)(hx:a0.tmps[s]?.getD undef=x:=by exact rfl)(hv:vs[i]?=some v:=by exact rfl)(hg:o.guard=none:=by exact rfl)(hd:∀v,res o v=v:=by intro v;exact rfl) (hrun:∀(e:Operand->Vu) (W:J),(∀c,e (.const c)=c)->e (.tmp s)=x->(execOp e o).run P W=.ok (.value v) W:=by intro e W b h;go_simp;try first|rfl|(intro hx;exfalso;omega)):Qj P ⟨ops,nN,vs,ch,F,w,a0,K⟩ Qz0 i (o::r):=by
 refine Qj.c hi (λa W kk us Kc f b hb hu hF hK=>?_) hr;refine QA v (Qd hg) (u:=vs.getD i undef) (by rw[hd,Lj,hv];rfl) (hrun _ _ (λ_=>rfl) ?_) hK;exact(JJ _ _).trans ((JQ f s hp).trans hx)
theorem l1 (j s:Nat){p:Ad}(hc:∀k us W,k<=K->F k us W->W.cell? p=some v)(hr:Qj P ⟨ops,nN,vs,ch,F,w,a0,K⟩ Qz0 (i+1) r)(hi:ch.contains i=false:=by kernel_rfl)(hp:(XM ops 9 i j&&decide (j<N ops)&&!ch.contains j&&Qs ops j==some s)=true:=by kernel_rfl)(hx:vs[j]?=some x:=by exact rfl){v':Vu}(hv:vs[i]?=some v':=by exact rfl)(hg:o.guard=none:=by exact rfl)(hd:∀v,res o v=v:=by intro v;exact rfl) (hrun:∀(e:Operand->Vu) (W:J),(∀c,e (.const c)=c)->e (.tmp s)=x->W.cell? p=some v->(execOp e o).run P W=.ok (.value v') W:=by intro e W b h hc;go_simp;try rfl):Qj P ⟨ops,nN,vs,ch,F,w,a0,K⟩ Qz0 i (o::r):=by
 refine Qj.c hi (λa W kk us Kc f b hb hu hF hK=>?_) hr;refine QA v' (Qd hg) (u:=vs.getD i undef) (by rw[hd,Lj,hv];rfl) (hrun _ _ (λ_=>rfl) ?_ (hc _ _ _ b hF)) hK;exact(JJ _ _).trans (cx_va f 9 j s x hp hx)
theorem ls (s:Nat)(x:Vu){p:Ad}(hc:∀k us W,k<=K->F k us W->W.cell? p=some v)(hr:Qj P ⟨ops,nN,vs,ch,F,w,a0,K⟩ Qz0 (i+1) r)(hi:ch.contains i=false:=by kernel_rfl)(hp:((Pg (N ops)).all λj=>!(Qs ops j==some s) || j==i || XN ops j i)=true:=by kernel_rfl)(hx:a0.tmps[s]?.getD undef=x:=by exact rfl){v':Vu}(hv:vs[i]?=some v':=by exact rfl)(hg:o.guard=none:=by exact rfl)(hd:∀v,res o v=v:=by intro v;exact rfl) (hrun:∀(e:Operand->Vu) (W:J),(∀c,e (.const c)=c)->e (.tmp s)=x->W.cell? p=some v->(execOp e o).run P W=.ok (.value v') W:=by intro e W b h hc;go_simp;try rfl):Qj P ⟨ops,nN,vs,ch,F,w,a0,K⟩ Qz0 i (o::r):=by
 refine Qj.c hi (λa W kk us Kc f b hb hu hF hK=>?_) hr;refine QA v' (Qd hg) (u:=vs.getD i undef) (by rw[hd,Lj,hv];rfl) (hrun _ _ (λ_=>rfl) ?_ (hc _ _ _ b hF)) hK;exact(JJ _ _).trans ((JQ f s hp).trans hx)
def Wt (ops:List Oper)(nN:Nat)(vs:List Vu)(ch:List Nat)(F:Nat->List Vu->J->Prop)(w:J)(a0:Act)(K i:Nat)(o:Oper)(y:Bool):Prop:=∀(a:Act) (W:J) (k:Nat) (us:List Vu),PT.Fx (CT.pt ⟨ops,nN,vs,ch,F,w,a0,K⟩) i a W->(∀j,j<N ch->XM ops 9 i (CT.c ⟨ops,nN,vs,ch,F,w,a0,K⟩ j)=true->j<k)->CT.Us ⟨ops,nN,vs,ch,F,w,a0,K⟩ k us a->F k us W->Hg o (yielded ops.toArray a.tmps)=y
theorem wc (c d:Nat){z:Bool}(m:∀k us W,F k us W->c<k->us.getD c undef=G b)(hg:o.guard=some (j,z):=by exact rfl)(hj:Qs ops j=some d:=by exact rfl)(hcj:Qs ops (ch.getD c 0)=some d:=by kernel_rfl)(hs:d<nN:=by decide)(hbd:(decide (c<N ch)&&XM ops 9 i (ch.getD c 0))=true:=by kernel_rfl)(hy:(b==z)=y:=by exact rfl):Wt ops nN vs ch F w a0 K i o y:=by
 intro a W k us f n l p;simp only[Hy,decide_eq_true_eq]at hbd;have g:=n c hbd.1 hbd.2;exact want_is hg hj (Ry hs f.sz.symm) ((cx_us l c d hcj g).trans (m _ _ _ p g)) hy
theorem wv (j s:Nat){z:Bool}(hg:o.guard=some (j,z):=by exact rfl)(hp:(XM ops 9 i j&&decide (j<N ops)&&!ch.contains j&&Qs ops j==some s)=true:=by kernel_rfl)(hx:vs[j]?=some (G b):=by exact rfl)(hs:s<nN:=by decide)(hy:(b==z)=y:=by exact rfl):Wt ops nN vs ch F w a0 K i o y:=by
 intro a W k us f g d l;have c:Qs ops j=some s:=by simp only[Hy,beq_iff_eq]at hp;exact hp.2
 exact want_is hg c (Ry hs f.sz.symm) (cx_va f 9 j s _ hp hx) hy
theorem gn (b:Wt ops nN vs ch F w a0 K i o false)(hr:Qj P ⟨ops,nN,vs,ch,F,w,a0,K⟩ Qz0 (i+1) r)(hi:ch.contains i=false:=by kernel_rfl)(hd:res o undef=vs.getD i undef:=by exact rfl):Qj P ⟨ops,nN,vs,ch,F,w,a0,K⟩ Qz0 i (o::r) :=
 Qj.c hi (λa W kk us Kc f hk hb hu hF hK=>cx_no (b _ _ _ _ f hb hu hF) hd hK) hr
theorem g1 (b:Wt ops nN vs ch F w a0 K i o true)(j s:Nat)(hr:Qj P ⟨ops,nN,vs,ch,F,w,a0,K⟩ Qz0 (i+1) r)(hi:ch.contains i=false:=by kernel_rfl)(hp:(XM ops 9 i j&&decide (j<N ops)&&!ch.contains j&&Qs ops j==some s)=true:=by kernel_rfl)(hx:vs[j]?=some x:=by exact rfl)(hv:vs[i]?=some v:=by exact rfl)(hd:∀v,res o v=v:=by intro v;exact rfl)(hrun:∀(e:Operand->Vu) (W:J),(∀c,e (.const c)=c)->e (.tmp s)=x->(execOp e o).run P W=.ok (.value v) W:=by intro e W d h;go_simp;try first|rfl|(intro hx;exfalso;omega)):Qj P ⟨ops,nN,vs,ch,F,w,a0,K⟩ Qz0 i (o::r):=by
 refine Qj.c hi (λa W kk us Kc f d hb hu hF hK=>?_) hr;refine QA v (b _ _ _ _ f hb hu hF) (u:=vs.getD i undef) (by rw[hd,Lj,hv];rfl) (hrun _ _ (λ_=>rfl) ?_) hK;exact(JJ _ _).trans (cx_va f 9 j s x hp hx)
theorem gs (b:Wt ops nN vs ch F w a0 K i o true)(s:Nat)(x:Vu)(hr:Qj P ⟨ops,nN,vs,ch,F,w,a0,K⟩ Qz0 (i+1) r)(hi:ch.contains i=false:=by kernel_rfl)(hp:((Pg (N ops)).all λj=>!(Qs ops j==some s) || j==i || XN ops j i)=true:=by kernel_rfl)(hx:a0.tmps[s]?.getD undef=x:=by exact rfl)(hv:vs[i]?=some v:=by exact rfl)(hd:∀v,res o v=v:=by intro v;exact rfl)(hrun:∀(e:Operand->Vu) (W:J),(∀c,e (.const c)=c)->e (.tmp s)=x->(execOp e o).run P W=.ok (.value v) W:=by intro e W d h;go_simp;try first|rfl|(intro hx;exfalso;omega)):Qj P ⟨ops,nN,vs,ch,F,w,a0,K⟩ Qz0 i (o::r):=by
 refine Qj.c hi (λa W kk us Kc f d hb hu hF hK=>?_) hr;refine QA v (b _ _ _ _ f hb hu hF) (u:=vs.getD i undef) (by rw[hd,Lj,hv];rfl) (hrun _ _ (λ_=>rfl) ?_) hK;exact(JJ _ _).trans ((JQ f s hp).trans hx)
theorem gl (d:Wt ops nN vs ch F w a0 K i o true)(j s:Nat){p:Ad}(hc:∀k us W,k<=K->F k us W->W.cell? p=some u)(hr:Qj P ⟨ops,nN,vs,ch,F,w,a0,K⟩ Qz0 (i+1) r)(hi:ch.contains i=false:=by kernel_rfl)(hp:(XM ops 9 i j&&decide (j<N ops)&&!ch.contains j&&Qs ops j==some s)=true:=by kernel_rfl)(hx:vs[j]?=some x:=by exact rfl)(hv:vs[i]?=some v:=by exact rfl)(hd:∀v,res o v=v:=by intro v;exact rfl)(hrun:∀(e:Operand->Vu) (W:J),(∀c,e (.const c)=c)->e (.tmp s)=x->W.cell? p=some u->(execOp e o).run P W=.ok (.value v) W:=by intro e W b h hc;go_simp;try rfl):Qj P ⟨ops,nN,vs,ch,F,w,a0,K⟩ Qz0 i (o::r):=by
 refine Qj.c hi (λa W kk us Kc f b hb hu hF hK=>?_) hr;refine QA v (d _ _ _ _ f hb hu hF) (u:=vs.getD i undef) (by rw[hd,Lj,hv];rfl) (hrun _ _ (λ_=>rfl) ?_ (hc _ _ _ b hF)) hK;exact(JJ _ _).trans (cx_va f 9 j s x hp hx)
theorem gt (d:Wt ops nN vs ch F w a0 K i o true)(s:Nat)(x:Vu){p:Ad}(hc:∀k us W,k<=K->F k us W->W.cell? p=some u)(hr:Qj P ⟨ops,nN,vs,ch,F,w,a0,K⟩ Qz0 (i+1) r)(hi:ch.contains i=false:=by kernel_rfl)(hp:((Pg (N ops)).all λj=>!(Qs ops j==some s) || j==i || XN ops j i)=true:=by kernel_rfl)(hx:a0.tmps[s]?.getD undef=x:=by exact rfl)(hv:vs[i]?=some v:=by exact rfl)(hd:∀v,res o v=v:=by intro v;exact rfl)(hrun:∀(e:Operand->Vu) (W:J),(∀c,e (.const c)=c)->e (.tmp s)=x->W.cell? p=some u->(execOp e o).run P W=.ok (.value v) W:=by intro e W b h hc;go_simp;try rfl):Qj P ⟨ops,nN,vs,ch,F,w,a0,K⟩ Qz0 i (o::r):=by
 refine Qj.c hi (λa W kk us Kc f b hb hu hF hK=>?_) hr;refine QA v (d _ _ _ _ f hb hu hF) (u:=vs.getD i undef) (by rw[hd,Lj,hv];rfl) (hrun _ _ (λ_=>rfl) ?_ (hc _ _ _ b hF)) hK;exact(JJ _ _).trans ((JQ f s hp).trans hx)
theorem hv (k:Nat)(h:∀(a:Act) (W:J) (us:List Vu),PT.Fx (CT.pt ⟨ops,nN,vs,ch,F,w,a0,K⟩) i a W->CT.Us ⟨ops,nN,vs,ch,F,w,a0,K⟩ k us a->F k us W->∃v W',(execOp a.eval o).run P W=.ok (.value v) W'/\F (k+1) (us++[v]) W')(hr:Qj P ⟨ops,nN,vs,ch,F,w,a0,K⟩ Qz0 (i+1) r)(b:(ch[k]?==some i&&decide (ch.Nodup))=true:=by kernel_rfl)(hg:o.guard=none:=by exact rfl)(hd:∀v,res o v=v:=by intro v;exact rfl):Qj P ⟨ops,nN,vs,ch,F,w,a0,K⟩ Qz0 i (o::r) :=
 Qj.h k b (fun a W us Kc f hu hF hK=>by
  obtain⟨v,W',d,c⟩:=h a W us f hu hF
  exact Jv (Gz0:=fun v W'=>F (k+1) (us++[v]) W') v (Qd hg) d (by rw[hd];exact c) (fun v W' g=>hK v W' (by rw[hd]at g⊢;exact g))) hr
theorem ht (k:Nat)(h:∀(a:Act) (W:J) (us:List Vu),PT.Fx (CT.pt ⟨ops,nN,vs,ch,F,w,a0,K⟩) i a W->CT.Us ⟨ops,nN,vs,ch,F,w,a0,K⟩ k us a->F k us W->∃W',(execOp a.eval o).run P W=.ok .skip W'/\F (k+1) (us++[undef]) W')(hr:Qj P ⟨ops,nN,vs,ch,F,w,a0,K⟩ Qz0 (i+1) r)(b:(ch[k]?==some i&&decide (ch.Nodup))=true:=by kernel_rfl)(hg:o.guard=none:=by exact rfl)(hd:∀v,res o v=undef:=by intro v;exact rfl):Qj P ⟨ops,nN,vs,ch,F,w,a0,K⟩ Qz0 i (o::r) :=
 Qj.h k b (fun a W us Kc f hu hF hK=>by
  obtain⟨W',d,c⟩:=h a W us f hu hF
  exact ch_sto (Gz0:=fun v W'=>F (k+1) (us++[v]) W') (Qd hg) d (by rw[hd];exact c) hK) hr
theorem hc (k:Nat)(h:∀(a:Act) (W:J) (us:List Vu),PT.Fx (CT.pt ⟨ops,nN,vs,ch,F,w,a0,K⟩) i a W->CT.Us ⟨ops,nN,vs,ch,F,w,a0,K⟩ k us a->F k us W->∃c b,(execOp a.eval o).run P W=.ok (.enter c b) W/\Ec P c b W λe w'=>∃u,e=Z u/\F (k+1) (us++[res o u]) w')(hr:Qj P ⟨ops,nN,vs,ch,F,w,a0,K⟩ Qz0 (i+1) r)(d:(ch[k]?==some i&&decide (ch.Nodup))=true:=by kernel_rfl)(hg:o.guard=none:=by exact rfl):Qj P ⟨ops,nN,vs,ch,F,w,a0,K⟩ Qz0 i (o::r) :=
 Qj.h k d (fun a W us Kc f hu hF hK=>by
  obtain⟨c,b,j,g⟩:=h a W us f hu hF
  exact ch_call (Gz0:=fun v W'=>F (k+1) (us++[v]) W') (Qd hg) j g hK) hr
theorem ha (k:Nat)(h:∀(a:Act) (W:J) (us:List Vu),PT.Fx (CT.pt ⟨ops,nN,vs,ch,F,w,a0,K⟩) i a W->CT.Us ⟨ops,nN,vs,ch,F,w,a0,K⟩ k us a->F k us W->∀Kc:Act->J->Prop,(∀v W',F (k+1) (us++[v]) W'->Kc (a.put o.dst v) W')->if Hg o (yielded ops.toArray a.tmps)then o.wp P a W Kc Qz0 else Kc (a.put o.dst undef) W)(hr:Qj P ⟨ops,nN,vs,ch,F,w,a0,K⟩ Qz0 (i+1) r)(b:(ch[k]?==some i&&decide (ch.Nodup))=true:=by kernel_rfl)(hg:o.guard=none:=by exact rfl)(hd:∀v,res o v=v:=by intro v;exact rfl):Qj P ⟨ops,nN,vs,ch,F,w,a0,K⟩ Qz0 i (o::r) :=
 Qj.h k b (λa W us Kc f hu hF hK=>h a W us f hu hF Kc λv W' g=>hK v W' (by rw[hd];exact g)) hr
theorem ap {x:Nat}{t e:TypeId}{base n m c size b:Nat}{z:Vu}{q news:List Vu}{C:Ad}(E:a.tmps[s]?.getD undef=v)(l:W.ownsRow base e size v n q)(hx:a.tmps[x]?.getD undef=S (some C) m c)(f:∀j u,news[j]?=some u->W.cell? (C.add j)=some u)(h1:∀u∈news,u.oneCell'=true)(p:(P.info? e).map (λi=>(i.zero,i.size,i.bytes))=some (some z,size,b))(B:n+m<=maxLen)(d:(n+m)*b<=140737488355328)(k:base<=W.heap.size) (h:∀v' w',w'.ownsRow base e size v' (n+m) (q++news)->W.grownBy w' v.ownBlock->(v'.ownBlock=v.ownBlock\/v'.ownBlock=some W.heap.size)->Gz0 v' w') (F:∀v W',Gz0 v W'->Kc (a.put o.dst v) W') (hg:o.guard=none:=by exact rfl) (hdn:o.dst.isNone=false:=by exact rfl) (hd:∀v,res o v=v:=by intro v;exact rfl) (ho:o.op=.call { callee:=.builtin .append,args:=#[.tmp s,.tmp x],argTypes:=#[t,t] }:=by exact rfl) (hty:P.underlying t=some (.slice e):=by kernel_rfl) (hzs:z.cells.size=size:=by exact rfl) (hsz:0<size:=by decide) (hl:N news=m*size:=by exact rfl):if Hg o (yielded ops.toArray a.tmps)then o.wp P a W Kc Qz0 else Kc (a.put o.dst undef) W:=by
 obtain⟨D,hi,A,y,r⟩:=info_parts p;exact ch_app (Gz0:=Gz0) hg hdn (.tmp s) (.tmp x) t ho base e D z size b hty hi A y r hzs hsz v n q ((JJ a s).trans E) l C m c news ((JJ a x).trans hx) hl f h1 B d k h (λv W' g=>F v W' (by rw[hd]at g;exact g))
theorem cv (f:CT.Fin ⟨ops,nN,vs,ch,F,w,a0,K⟩ us a W)(j s:Nat)(hp:(decide (j<N ops)&&!ch.contains j&&Qs ops j==some s)=true:=by kernel_rfl)(hv:vs[j]?=some v:=by exact rfl):a.eval (.tmp s)=v:=cf_va f j s v hp hv
theorem cu (f:CT.Fin ⟨ops,nN,vs,ch,F,w,a0,K⟩ us a W)(j s:Nat)(hp:(Qs ops (ch.getD j 0)==some s&&decide (j<N ch))=true:=by kernel_rfl):a.eval (.tmp s)=us.getD j undef:=cf_us f j s hp
theorem rg (vs:List Vu)(ch:List Nat)(K:Nat)(F:Nat->List Vu->J->Prop){w:J}{a0:Act}{b:Nat}(c:F 0 [] { w with drawn:=w.drawn+1 })(hst:Qj P ⟨ops,nN,vs,ch,F,w,a0,K⟩ Qz0 0 ops)(hend:∀us a W,CT.Fin ⟨ops,nN,vs,ch,F,w,a0,K⟩ us a W->Qz0 .normal a W)
    (hm:P.follows .mixedOrders=true:=by kernel_rfl) (hok:okB ops nN=true:=by kernel_rfl) (hd:chB ops ch K=true:=by kernel_rfl) (hN:a0.tmps.size=nN:=by exact rfl):(Code.region b ops.toArray true).wp P Qz0 a0 w:=ch_region vs ch K F hm hok hd hN c hst hend
theorem va (f:PT.Fx (CT.pt ⟨ops,nN,vs,ch,F,w,a0,K⟩) i a W)(j s:Nat)(hp:(XM ops 9 i j&&decide (j<N ops)&&!ch.contains j&&Qs ops j==some s)=true:=by kernel_rfl)(hv:vs[j]?=some v:=by exact rfl):a.tmps[s]?.getD undef=v:=cx_va f 9 j s v hp hv
theorem vu {k:Nat}(h:CT.Us ⟨ops,nN,vs,ch,F,w,a0,K⟩ k us a)(j s:Nat)(hp:Qs ops (ch.getD j 0)=some s:=by kernel_rfl)(hj:j<k:=by decide):a.tmps[s]?.getD undef=us.getD j undef:=cx_us h j s hp hj
theorem ca (f:CT.Fin ⟨ops,nN,vs,ch,F,w,a0,K⟩ us a W)(ws:List Nat)(c:(ops.filterMap (·.dst))=ws:=by kernel_rfl)(hN:a0.tmps.size=nN:=by exact rfl):a=ws.foldl (λb s=>b.put (some s) (a.eval (.tmp s))) a0:=cf_act f ws c hN
end
