import Derived.Test.YtejkdbnngphgaaaGreatDoorGac
import Derived.Test.YtejkdbnngphgaaaGreatDoorGab
import Derived.Test.YtejkdbnngphgaaaGreatDoorGae
set_option linter.all false
set_option maxHeartbeats 400000000
set_option maxRecDepth 100000
namespace Go.Proofs
open Value renaming int->U,slice->S,bool->G,string->Xs,agg->Ag
open IntKind renaming i64->O
open Ending renaming returned->Z
open Obj renaming cells->Fc
open Go renaming World->J,Calls->Ec,Value->Vu,Addr->Ad
open Go.RowKit renaming Below->Bw
open Tryz renaming prog->Q
open Tryz
open _root_.Array renaming getElem?_eq_getElem->Lx
open List renaming getD->Ty,getElem?_set_self->Ky,getElem?_set_ne->Kz,cons_append->Tv,perm_append_comm->Hp,length->N
open Bool renaming true_and->Dw,not_eq_true->Cz,false_and->Cb
namespace YtejkdbnngphgaaaGreatDoor
open Go.RowKit
variable {L:List (List Qb)}{m:Mod}{T i j:Nat}{α:Type}{u:Vu}
abbrev FQ (p r:Int):Prop:=(p<=-1/\r=-1)\/(0<=p/\p<=1/\r=0)\/(2<=p/\p<=4/\r=1)\/(5<=p/\p<=5/\r=0)\/(6<=p/\p<=10/\r=-1)\/(11<=p/\p<=11/\r=0)\/(12<=p/\p<=12/\r=2)\/(13<=p/\p<=13/\r=2)\/(14<=p/\p<=14/\r=3)\/(15<=p/\p<=15/\r=0)\/(16<=p/\p<=16/\r=2)\/(17<=p/\p<=17/\r=4)\/(18<=p/\p<=25/\r=-1)\/(26<=p/\p<=26/\r=0)\/(27<=p/\p<=27/\r=0)\/(28<=p/\p<=31/\r=-1)\/(32<=p/\p<=36/\r=2)\/(37<=p/\p<=39/\r=-1)\/(40<=p/\p<=62/\r=5)\/(63<=p/\p<=63/\r=6)\/(64<=p/\p<=64/\r=6)\/(65<=p/\p<=68/\r=7+p-65)\/(69<=p/\p<=191/\r=0)\/(192<=p/\r=-1)
theorem sform_x (p r:Int)(w:J)(h:FQ p r):Ec Q 77 #[U O p] w λe w'=>e=Z (U O r)/\w=w':=by
 rcases h with ⟨h,rfl⟩|⟨h,a,rfl⟩|⟨h,a,rfl⟩|⟨h,a,rfl⟩|⟨h,a,rfl⟩|⟨h,a,rfl⟩|⟨h,a,rfl⟩|⟨h,a,rfl⟩|⟨h,a,rfl⟩|⟨h,a,rfl⟩|⟨h,a,rfl⟩|⟨h,a,rfl⟩|⟨h,a,rfl⟩|⟨h,a,rfl⟩|⟨h,a,rfl⟩|⟨h,a,rfl⟩|⟨h,a,rfl⟩|⟨h,a,rfl⟩|⟨h,a,rfl⟩|⟨h,a,rfl⟩|⟨h,a,rfl⟩|⟨h,a,rfl⟩|⟨h,a,rfl⟩|⟨h,rfl⟩
 all_goals
  first|have v : p < 2 := by omega
        |have v:¬p<2:=by omega
  first|have u : p <= 4 := by omega
        |have u:¬p<=4:=by omega
  first|have t : (p == (12 : Int)) = false := by simp; omega
        |have t:(p==(12:Int))=true:=by simp;omega
  first|have s : (p == (13 : Int)) = false := by simp; omega
        |have s:(p==(13:Int))=true:=by simp;omega
  first|have q : (p == (16 : Int)) = false := by simp; omega
        |have q:(p==(16:Int))=true:=by simp;omega
  first|have o : p < 32 := by omega
        |have o:¬p<32:=by omega
  first|have n : p <= 36 := by omega
        |have n:¬p<=36:=by omega
  first|have m : (p == (14 : Int)) = false := by simp; omega
        |have m:(p==(14:Int))=true:=by simp;omega
  first|have l : (p == (17 : Int)) = false := by simp; omega
        |have l:(p==(17:Int))=true:=by simp;omega
  first|have k : p < 40 := by omega
        |have k:¬p<40:=by omega
  first|have g : p <= 62 := by omega
        |have g:¬p<=62:=by omega
  first|have f : (p == (63 : Int)) = false := by simp; omega
        |have f:(p==(63:Int))=true:=by simp;omega
  first|have d : (p == (64 : Int)) = false := by simp; omega
        |have d:(p==(64:Int))=true:=by simp;omega
  first|have c : p < 65 := by omega
        |have c:¬p<65:=by omega
  first|have b : p <= 68 := by omega
        |have b:¬p<=68:=by omega
  go_enter func77,ntmps77
  go_wp2_with (first|(refine(known_t _ _ (by omega)).mono ?_;rintro e j ⟨rfl,rfl⟩)|(refine(known_f _ _ (by omega)).mono ?_;rintro e j ⟨rfl,rfl⟩))
  go_ret
  exact⟨rfl,rfl⟩
set_option synthInstance.maxSize 4000 in
set_option synthInstance.maxHeartbeats 400000 in
theorem Xh (p:Int)(w:J):Ec Q 77 #[U O p] w λe w'=>e=Z (U O (QD (Qe p)))/\w=w':=by
 refine sform_x p _ w ?_;by_cases h:0<=p/\p<192
 . have e:=of_decide_eq_true (rng 0 192 (λi=>decide (FQ i (QD (tbl.getD i Z0)))) (by decide +kernel) p (by omega) (by omega));rw[Int.toNat_of_nonneg h.1]at e;simp only[Qe,h,and_self,if_true];exact e
 have e:QD (Qe p)=-1:=by simp only[Qe,h,if_false];rfl
 rw[e];by_cases a:p<0
 . exact .inl ⟨by omega,rfl⟩
 iterate 23 refine .inr ?_
 exact⟨by omega,rfl⟩
def frU (b1 o1 cap:Nat)(bs:List Int)(p:Nat)(u4 u5 u6:Vu)(a:Act):Prop:=∃(u2 u8 u9 u10 u11 u12 u13 u14 u15 u16 u17 u18 u19 u20 u21 u22 u23 u24 u25 u26 u27 u28 u29 u30 u31 u32 u33 u34 u35 u36 u37 u38 u39 u40 u41 u42 u43 u44 u45 u46 u47 u48 u49 u50 u51 u52 u53:Vu),a={ tmps:=#[S (some ⟨b1,o1,none⟩) (N bs) cap,undef,u2,U O p,u4,u5,u6,U O (N bs),u8,u9,u10,u11,u12,u13,u14,u15,u16,u17,u18,u19,u20,u21,u22,u23,u24,u25,u26,u27,u28,u29,u30,u31,u32,u33,u34,u35,u36,u37,u38,u39,u40,u41,u42,u43,u44,u45,u46,u47,u48,u49,u50,u51,u52,u53],defers:=[] }
theorem implUtf8_row (b1 o1:Nat)(m:Nat)(a:List Int)(w:J)(hl:N a<=1099511627776)(bd:∀i,i<N a->w.cell? ⟨b1,o1+i,none⟩=some (U .u8 (a.getD i 0)))(hB:AllB a):Ec Q 223 #[S (some ⟨b1,o1,none⟩) (N a) m] w λe f=>e=Z (U O (uf 0 0 0 0 a))/\w=f:=by
 obtain⟨R,hR⟩:∃R,R=uf 0 0 0 0 a:=⟨_,rfl⟩;have HR:Hid (uf 0 0 0 0 (a.drop 0)=R):=by rw[hR];rfl
 rw[<- hR];clear hR;have bf:Hid (∀i,i<N a->w.cell? ⟨b1,o1+i,none⟩=some (U .u8 (a.getD i 0))):=bd;clear bd;go_enter func223,ntmps223;go_wp2
 refine wp_scope_three
  (λd f=>w=f/\∃(p:Nat) (u4 E z:Vu),p<=N a/\frU b1 o1 m a p u4 E z d/\Hid (uf 0 0 0 p (a.drop p)=R))
  (λd f=>w=f/\∃(p l:Nat) (lo hi:Int),p<=N a/\l<=2/\frU b1 o1 m a p (U O ((l:Int)+1)) (U .u8 lo) (U .u8 hi) d/\Hid (uf (l+1) lo hi p (a.drop p)=R))
  (λd f=>w=f/\∃(p:Nat) (u4 E z:Vu),frU b1 o1 m a p u4 E z d/\Hid (R=p))
  (λd _=>2*(N a-(intOf (d.tmps.getD 3 undef)).toNat)+1)
  (λd _=>2*(N a-(intOf (d.tmps.getD 3 undef)).toNat)+1)
  (λd _=>2*(N a-(intOf (d.tmps.getD 3 undef)).toNat)) rfl rfl rfl ?_ ?_ ?_ ?_
 . intro h0;go_wp2;(go_step3);simp only[Exit.then];rename_i hK;refine hK _ _ (h0 _ _ ?_);exact⟨rfl,0,_,_,_,Nat.zero_le _,⟨_,_,_,_,_,_,_,_,_,_,_,_,_,_,_,_,_,_,_,_,_,_,_,_,_,_,_,_,_,_,_,_,_,_,_,_,_,_,_,_,_,_,_,_,_,_,_,rfl⟩,HR⟩
 . rintro d f ⟨rfl,p,u4,E,z,hp,⟨u2,u8,u9,bc,bb,ba,a9,a8,a7,a6,a5,a4,a3,a2,a1,a0,az,ay,ax,aw,av,au,ar,aq,ao,ak,aj,ai,ah,ag,af,ae,ad,ab,aa,Y,X,V,M,L,I,H,F,D,C,B,A,rfl⟩,j⟩ h1;by_cases b:p<N a
   . have d1:w.cell? ⟨b1,o1+p,none⟩=some (U .u8 (a.getD p 0)):=bf.o p b;(have bl:(p:Int)<(N a:Int):=by omega);obtain⟨c,k⟩:∃c,c=a.getD p 0:=⟨_,rfl⟩;rw[<- k]at d1;have HC:Hid (c=a.getD p 0):=k;have hb:=hB p;rw[<- k]at hb;obtain⟨u,t⟩:=hb;have hn:=ldN_bd c;clear k;have s:((p:Int)==(N a:Int))=false:=beq_eq_false_iff_ne.2 (by omega);have H1:=Hm h1;clear h1;by_cases n:ldN c<0
     . (have v:Hid (R=p):=by show _=_;rw[<- j.o,uf_bad b (by rw[<- HC.o];exact n)]);(go_wp2_with (go_at_call 244;refine(XZ _ _ u t).mono ?_;rintro e f ⟨rfl,rfl⟩));(go_step3);refine⟨⟨rfl,p,_,_,_,⟨_,_,_,_,_,_,_,_,_,_,_,_,_,_,_,_,_,_,_,_,_,_,_,_,_,_,_,_,_,_,_,_,_,_,_,_,_,_,_,_,_,_,_,_,_,_,_,rfl⟩,v⟩,?_⟩;simp[intOf]
     (have g:Hid (uf (ldN c).toNat (Jk c) (Jl c) (p+1) (a.drop (p+1))=R):=by have:=j.o;rw[uf_lead b (by rw[<- HC.o];exact n),<- HC.o]at this;exact this);by_cases hz:ldN c=0
     . have bk:(ldN c==0)=true:=beq_iff_eq.2 hz;have HZ:Hid (ldN c=0):=hz;clear hz;(go_wp2_with (go_at_call 244;refine(XZ _ _ u t).mono ?_;rintro e f ⟨rfl,rfl⟩));(go_step3);refine⟨⟨rfl,p+1,_,_,_,by omega,⟨_,_,_,_,_,_,_,_,_,_,_,_,_,_,_,_,_,_,_,_,_,_,_,_,_,_,_,_,_,_,_,_,_,_,_,_,_,_,_,_,_,_,_,_,_,_,_,rfl⟩,?_⟩,?_⟩
       . have:=g.o;rw[HZ.o]at this;exact(uf_any0 _ _ _).trans this
       simp[intOf];omega
     have bk:(ldN c==0)=false:=beq_eq_false_iff_ne.2 hz;(go_wp2_with (go_at_call 244;refine(XZ _ _ u t).mono ?_;rintro e f ⟨rfl,rfl⟩));(go_step3);simp only[Exit.then];rename_i hK;refine hK _ _ (H1.o _ _ ?_ ?_)
     . obtain⟨l,bo⟩:∃l,(ldN c).toNat=l+1:=⟨(ldN c).toNat-1,by omega⟩;have e:=g.o;rw[bo]at e;refine⟨rfl,p+1,l,Jk c,Jl c,by omega,by omega,?_,e⟩;rw[show(l:Int)+1=ldN c by omega];exact⟨_,_,_,_,_,_,_,_,_,_,_,_,_,_,_,_,_,_,_,_,_,_,_,_,_,_,_,_,_,_,_,_,_,_,_,_,_,_,_,_,_,_,_,_,_,_,_,rfl⟩
     simp[intOf];omega
   (have e:R=-1:=by rw[<- j.o,uf_end0 (by omega)]);subst e;have s:((p:Int)==(N a:Int))=true:=beq_iff_eq.2 (by omega);go_wp2;simp only[jumps];go_ret;exact⟨rfl,rfl⟩
 . rintro d f ⟨rfl,p,l,lo,hi,hp,b3,⟨u2,u8,u9,bc,bb,ba,a9,a8,a7,a6,a5,a4,a3,a2,a1,a0,az,ay,ax,aw,av,au,ar,aq,ao,ak,aj,ai,ah,ag,af,ae,ad,ab,aa,Y,X,V,M,L,I,H,F,D,C,B,A,rfl⟩,j⟩;by_cases b:p<N a
   . have d2:w.cell? ⟨b1,o1+p,none⟩=some (U .u8 (a.getD p 0)):=bf.o p b;obtain⟨q,r⟩:∃q,q=a.getD p 0:=⟨_,rfl⟩;rw[<- r]at d2;have y:Hid (q=a.getD p 0):=r;clear r;(have bl:(p:Int)<(N a:Int):=by omega);have s:((p:Int)==(N a:Int))=false:=beq_eq_false_iff_ne.2 (by omega);by_cases bn:q<lo
     . (have v:Hid (R=p):=by show _=_;rw[<- j.o,uf_out b (by rw[<- y.o];exact .inl bn)]);go_wp2;(go_step3);refine⟨⟨rfl,p,_,_,_,⟨_,_,_,_,_,_,_,_,_,_,_,_,_,_,_,_,_,_,_,_,_,_,_,_,_,_,_,_,_,_,_,_,_,_,_,_,_,_,_,_,_,_,_,_,_,_,_,rfl⟩,v⟩,?_⟩;simp[intOf]
     by_cases bm:hi<q
     . (have v:Hid (R=p):=by show _=_;rw[<- j.o,uf_out b (by rw[<- y.o];exact .inr bm)]);go_wp2;(go_step3);refine⟨⟨rfl,p,_,_,_,⟨_,_,_,_,_,_,_,_,_,_,_,_,_,_,_,_,_,_,_,_,_,_,_,_,_,_,_,_,_,_,_,_,_,_,_,_,_,_,_,_,_,_,_,_,_,_,_,rfl⟩,v⟩,?_⟩;simp[intOf]
     (have g:Hid (uf l 128 191 (p+1) (a.drop (p+1))=R):=by have:=j.o;rw[uf_next b (by rw[<- y.o];omega)]at this;exact this);cases l with
     |zero =>
      go_wp2
      go_step3
      refine⟨⟨rfl,p+1,_,_,_,by omega,⟨_,_,_,_,_,_,_,_,_,_,_,_,_,_,_,_,_,_,_,_,_,_,_,_,_,_,_,_,_,_,_,_,_,_,_,_,_,_,_,_,_,_,_,_,_,_,_,rfl⟩,?_⟩,?_⟩
      . exact(uf_any0 _ _ _).trans g.o
      . simp[intOf];omega
     |succ l =>
      go_wp2
      go_step3
      refine⟨⟨rfl,p+1,l,128,191,by omega,by omega,?_,g⟩,?_⟩
      . exact⟨_,_,_,_,_,_,_,_,_,_,_,_,_,_,_,_,_,_,_,_,_,_,_,_,_,_,_,_,_,_,_,_,_,_,_,_,_,_,_,_,_,_,_,_,_,_,_,rfl⟩
      . simp[intOf];omega
   (have v:Hid (R=p):=by show _=_;rw[<- j.o,uf_endl (by omega)]);have s:((p:Int)==(N a:Int))=true:=beq_iff_eq.2 (by omega);go_wp2;(go_step3);refine⟨⟨rfl,p,_,_,_,⟨_,_,_,_,_,_,_,_,_,_,_,_,_,_,_,_,_,_,_,_,_,_,_,_,_,_,_,_,_,_,_,_,_,_,_,_,_,_,_,_,_,_,_,_,_,_,_,rfl⟩,v⟩,?_⟩;simp[intOf]
 rintro d f ⟨rfl,p,u4,E,z,⟨u2,u8,u9,bc,bb,ba,a9,a8,a7,a6,a5,a4,a3,a2,a1,a0,az,ay,ax,aw,av,au,ar,aq,ao,ak,aj,ai,ah,ag,af,ae,ad,ab,aa,Y,X,V,M,L,I,H,F,D,C,B,A,rfl⟩,j⟩;have e:=j.o;subst e;go_wp2;simp only[jumps];go_ret;exact⟨rfl,rfl⟩
open Go.RowKit Go.Sort
def grpB (g:Grp):Bool:=u32B g.n&&tyB g.ty
def Q3 (s:ByteArray):List Int:=s.data.toList.map λb=>(b.toNat:Int)
def nameB (s:ByteArray):Bool:=decide (uf 0 0 0 0 (Q3 s)=-1)
theorem uf_ge (l:Nat)(lo hi:Int)(p:Nat)(cs:List Int):uf l lo hi p cs=-1\/0<=uf l lo hi p cs:=by
 induction cs generalizing l lo hi p with
 |nil=>cases l<;>simp[uf]
 |cons c cs ih =>
  cases l with
  |zero =>
   simp only[uf];split
   · right;omega
   . exact ih _ _ _ _
  |succ l =>
   simp only[uf];split
   · right;omega
   . exact ih _ _ _ _
theorem igrp_c (g:Grp)(w:J):Ec Q 195 #[Ag #[U O g.n,U O g.ty]] w λe w'=>e=Z (G (grpB g))/\Bw w.heap.size w w':=by
 go_enter func195,ntmps195;go_wp2_with (first|(go_at_call 196;refine(iu32_c _ _).mono ?_;rintro e a ⟨rfl,rfl⟩)|(go_at_call 224;refine(ity_c _ _).mono ?_;rintro e a ⟨rfl,rfl⟩))
 all_goals
  go_ret
  refine⟨?_,bFz.alloc lRz _⟩
  simp_all[grpB]
theorem bytes_len (s:ByteArray):(Q3 s).length=s.size:=by simp[Q3]
theorem bytes_at (s:ByteArray)(c i:Nat)(hi:i<(Q3 s).length):(bytesRow s c)[i]?=some (U .u8 ((Q3 s).getD i 0)):=by
 have a:i<s.data.size:=by simpa[Q3]using hi
 unfold bytesRow;rw[Array.getElem?_append_left (by simpa using a)];have e:s.data[i]?=some s.data[i]:=Lx a;simp[Q3,Ty,e]
theorem bytes_all (s:ByteArray):AllB (Q3 s):=by
 intro i;by_cases a:i<N s.data.toList
 . (have b:i<s.data.size:=by simpa using a);have e:s.data[i]?=some s.data[i]:=Lx b;(have:(Q3 s).getD i 0=((s.data.toList[i]'a).toNat:Int):=by simp[Q3,Ty,e]);rw[this];have:=(s.data.toList[i]'a).toNat_lt;omega
 have:(Q3 s).getD i 0=0:=by simp[Q3,Ty];rw[Array.getElem?_eq_none (by simpa using a)];rfl
 rw[this];omega
theorem bytesRow_cells (s:ByteArray)(c:Nat)(w:J)(e:TypeId)(f:Nat × Nat):∀i,i<(Q3 s).length->(w.drew.alloc (Fc (bytesRow s c) e f)).cell? ⟨w.heap.size,0+i,none⟩=some (U .u8 ((Q3 s).getD i 0)):=by
 intro i a;have h:(w.drew.alloc (Fc (bytesRow s c) e f)).heap[w.heap.size]?=some (Fc (bytesRow s c) e f):=heap_new w.drew _;rw[Nat.zero_add];simp only[World.cell?,h];exact bytes_at s c i a
theorem sname_ok (s:ByteArray)(w:J)(m:s.size<=1048576):Ec Q 183 #[Xs s] w λe w'=>e=Z (G (nameB s))/\Bw w.heap.size w w':=by
 have j:=λw=>run_bytes_of_string (P:=Q) w 9 22 5 s underlying9 underlying22 underlying5;have g:(Q3 s).length<=1099511627776:=by rw[bytes_len];omega
 have b:=Hm (λc f=>specUtf8_any (some ⟨w.heap.size,0,none⟩) c (Q3 s) (w.drew.alloc (Fc (bytesRow s c) 5 f)) g (.inr ⟨_,_,rfl,bytesRow_cells s c w 5 f⟩) (bytes_all s));rw[bytes_len]at b;generalize d:uf 0 0 0 0 (Q3 s)=u at b;have a:nameB s=(u==-1):=by simp only[nameB,d];by_cases h:u=-1<;>simp[h]
 rw[a];clear a d;go_enter func183,ntmps183;go_wp2_with fail
 refine(b.o _ _).mono ?_;rintro e l ⟨rfl,rfl⟩;go_wp2;go_ret;exact⟨rfl,⟨rfl,rfl,rfl,by simp,λk hk=>Jy w.drew _ k hk⟩⟩
theorem iname_ok (s:ByteArray)(w:J)(n:s.size<=1048576):Ec Q 193 #[Xs s] w λe w'=>e=Z (G (nameB s))/\Bw w.heap.size w w':=by
 have l:=λw=>run_bytes_of_string (P:=Q) w 9 22 5 s underlying9 underlying22 underlying5;have j:(Q3 s).length<=1099511627776:=by rw[bytes_len];omega
 have d:=Hm (λc f=>implUtf8_row w.heap.size 0 c (Q3 s) (w.drew.alloc (Fc (bytesRow s c) 5 f)) j (bytesRow_cells s c w 5 f) (bytes_all s));rw[bytes_len]at d;have a:=uf_ge 0 0 0 0 (Q3 s);generalize g:uf 0 0 0 0 (Q3 s)=u at d a;have b:nameB s=decide (u<0):=by simp only[nameB,g];rcases a with h|h<;>simp[h]<;>omega
 rw[b];clear b g a;go_enter func193,ntmps193;go_wp2_with fail
 refine(d.o _ _).mono ?_;rintro e m ⟨rfl,rfl⟩;go_wp2;go_ret;exact⟨rfl,⟨rfl,rfl,rfl,by simp,λk hk=>Jy w.drew _ k hk⟩⟩
def Jd {α:Type}(T sz:Nat)(Rep:α->List Vu->List Qb->Prop)(l:List α)(v:Option Vu)(r:Option (List Qb)):Prop:=∃v' c k,v=some v'/\r=some (⟨T,sz,N l,v',c⟩::k)/\LR Rep l c k
structure MRg (RD:Dat->List Vu->List Qb->Prop)(RC:Cus->List Vu->List Qb->Prop)(m:Mod)(cells:List Vu)(L:List (List Qb)):Prop where
 cl:13<=N cells
 ll:N L=11
 hs:cells[7]?=some (G m.gk)
 st:cells[8]?=some (U O m.start)
 types:Jd 137 2 RFT m.types cells[0]? L[0]?
 cj:Jd 143 9 RImp m.cj cells[1]? L[1]?
 jv:Jd 2 1 RInt m.jv cells[2]? L[2]?
 fk:Jd 120 3 RLim m.fk cells[3]? L[3]?
 jj:Jd 120 3 RLim m.jj cells[4]? L[4]?
 fq:Jd 76 3 RGlob m.fq cells[5]? L[5]?
 fj:Jd 157 3 RExp m.fj cells[6]? L[6]?
 fw:Jd 78 2 REle m.fw cells[9]? L[7]?
 gq:Jd 81 2 RCod m.gq cells[10]? L[8]?
 gj:Jd 83 2 RD m.gj cells[11]? L[9]?
 gx:Jd 131 3 RC m.gx cells[12]? L[10]?
abbrev MR (m:Mod)(cells:List Vu)(L:List (List Qb)):Prop:=MRg RDat RCus m cells L
theorem fl_at:∀(L:List (List α)) (i:Nat) (r:List α),L[i]?=some r->L.flatten.Perm (r++(L.eraseIdx i).flatten)
 |[],i,r,h=>by simp at h
 |a::L,0,r,h=>by simp at h;subst h;simp
 |a::L,i+1,r,h=>by
  have:=fl_at L i r (by simpa using h)
  simp only[List.flatten_cons,List.eraseIdx_cons_succ]
  exact(this.append_left a).trans (List.perm_append_comm_assoc a r _)
theorem fl_set (L:List (List α))(i:Nat)(r:List α)(h:i<N L):(L.set i r).flatten.Perm (r++(L.eraseIdx i).flatten):=by
 have:=fl_at (L.set i r) i r (Ky h);rwa [List.eraseIdx_set_eq]at this
theorem Jd.off {sz:Nat}{a:α->List Vu->List Qb->Prop}{l:List α}{cells:List Vu}{c b:Nat}{r:List Qb}(h:Jd T sz a l cells[i]? L[j]?)(hi:c≠i:=by decide)(hj:b≠j:=by decide):Jd T sz a l (cells.set c u)[i]? (L.set b r)[j]?:=by
 rw[Kz hi,Kz hj];exact h
theorem Jd.offc {sz:Nat}{a:α->List Vu->List Qb->Prop}{l:List α}{cells:List Vu}{b:Nat}{o:Option (List Qb)}(h:Jd T sz a l cells[i]? o)(hi:b≠i):Jd T sz a l (cells.set b u)[i]? o:=by
 rw[Kz hi];exact h
theorem Jd.new {sz:Nat}{a:α->List Vu->List Qb->Prop}{l:List α}{cells:List Vu}{c k}(hi:i<N cells)(b:j<N L)(h:LR a l c k):Jd T sz a l (cells.set i u)[i]? (L.set j (⟨T,sz,N l,u,c⟩::k))[j]? :=
 ⟨u,c,k,Ky hi,Ky b,h⟩
theorem Jd.at_ {sz:Nat}{a:α->List Vu->List Qb->Prop}{l:List α}{o:Option Vu}(h:Jd T sz a l o L[j]?):∃v c k,o=some v/\LR a l c k/\L.flatten.Perm (⟨T,sz,N l,v,c⟩::((L.eraseIdx j).flatten++k)):=by
 obtain⟨v,c,k,f,d,b⟩:=h;refine⟨v,c,k,f,b,(fl_at L j _ d).trans ?_⟩;rw[Tv];exact(Hp).cons _
theorem Jd.back {r:Qb}{k:List Qb}(a:j<N L):(r::((L.eraseIdx j).flatten++k)).Perm (L.set j (r::k)).flatten:=by
 refine List.Perm.trans ?_ (fl_set L j _ a).symm;rw[Tv];exact(Hp).cons _
section
variable {RD:Dat->List Vu->List Qb->Prop}{RC:Cus->List Vu->List Qb->Prop}
theorem MRg.set_types {cells:List Vu}(h:MRg RD RC m cells L){l:List QE}{c k}(hl:LR RFT l c k):MRg RD RC { m with types:=l } (cells.set 0 u) (L.set 0 (⟨137,2,N l,u,c⟩::k)) :=
 ⟨by have:=h.cl;simpa using this,by have:=h.ll;simpa using this,by rw[Kz (by decide)];exact h.hs,by rw[Kz (by decide)];exact h.st,Jd.new (by have:=h.cl;omega) (by have:=h.ll;omega) hl,h.cj.off,h.jv.off,h.fk.off,h.jj.off,h.fq.off,h.fj.off,h.fw.off,h.gq.off,h.gj.off,h.gx.off⟩
theorem MRg.set_imps {cells:List Vu}(h:MRg RD RC m cells L){l:List Imp}{c k}(hl:LR RImp l c k):MRg RD RC { m with cj:=l } (cells.set 1 u) (L.set 1 (⟨143,9,N l,u,c⟩::k)) :=
 ⟨by have:=h.cl;simpa using this,by have:=h.ll;simpa using this,by rw[Kz (by decide)];exact h.hs,by rw[Kz (by decide)];exact h.st,h.types.off,Jd.new (by have:=h.cl;omega) (by have:=h.ll;omega) hl,h.jv.off,h.fk.off,h.jj.off,h.fq.off,h.fj.off,h.fw.off,h.gq.off,h.gj.off,h.gx.off⟩
theorem MRg.set_funcs {cells:List Vu}(h:MRg RD RC m cells L){l}{c k}(hl:LR RInt l c k):MRg RD RC { m with jv:=l } (cells.set 2 u) (L.set 2 (⟨2,1,N l,u,c⟩::k)) :=
 ⟨by have:=h.cl;simpa using this,by have:=h.ll;simpa using this,by rw[Kz (by decide)];exact h.hs,by rw[Kz (by decide)];exact h.st,h.types.off,h.cj.off,Jd.new (by have:=h.cl;omega) (by have:=h.ll;omega) hl,h.fk.off,h.jj.off,h.fq.off,h.fj.off,h.fw.off,h.gq.off,h.gj.off,h.gx.off⟩
theorem MRg.set_tabs {cells:List Vu}(h:MRg RD RC m cells L){l:List Qp}{c k}(hl:LR RLim l c k):MRg RD RC { m with fk:=l } (cells.set 3 u) (L.set 3 (⟨120,3,N l,u,c⟩::k)) :=
 ⟨by have:=h.cl;simpa using this,by have:=h.ll;simpa using this,by rw[Kz (by decide)];exact h.hs,by rw[Kz (by decide)];exact h.st,h.types.off,h.cj.off,h.jv.off,Jd.new (by have:=h.cl;omega) (by have:=h.ll;omega) hl,h.jj.off,h.fq.off,h.fj.off,h.fw.off,h.gq.off,h.gj.off,h.gx.off⟩
theorem MRg.set_mems {cells:List Vu}(h:MRg RD RC m cells L){l:List Qp}{c k}(hl:LR RLim l c k):MRg RD RC { m with jj:=l } (cells.set 4 u) (L.set 4 (⟨120,3,N l,u,c⟩::k)) :=
 ⟨by have:=h.cl;simpa using this,by have:=h.ll;simpa using this,by rw[Kz (by decide)];exact h.hs,by rw[Kz (by decide)];exact h.st,h.types.off,h.cj.off,h.jv.off,h.fk.off,Jd.new (by have:=h.cl;omega) (by have:=h.ll;omega) hl,h.fq.off,h.fj.off,h.fw.off,h.gq.off,h.gj.off,h.gx.off⟩
theorem MRg.set_globs {cells:List Vu}(h:MRg RD RC m cells L){l:List Q6}{c k}(hl:LR RGlob l c k):MRg RD RC { m with fq:=l } (cells.set 5 u) (L.set 5 (⟨76,3,N l,u,c⟩::k)) :=
 ⟨by have:=h.cl;simpa using this,by have:=h.ll;simpa using this,by rw[Kz (by decide)];exact h.hs,by rw[Kz (by decide)];exact h.st,h.types.off,h.cj.off,h.jv.off,h.fk.off,h.jj.off,Jd.new (by have:=h.cl;omega) (by have:=h.ll;omega) hl,h.fj.off,h.fw.off,h.gq.off,h.gj.off,h.gx.off⟩
theorem MRg.set_exps {cells:List Vu}(h:MRg RD RC m cells L){l:List Exp}{c k}(hl:LR RExp l c k):MRg RD RC { m with fj:=l } (cells.set 6 u) (L.set 6 (⟨157,3,N l,u,c⟩::k)) :=
 ⟨by have:=h.cl;simpa using this,by have:=h.ll;simpa using this,by rw[Kz (by decide)];exact h.hs,by rw[Kz (by decide)];exact h.st,h.types.off,h.cj.off,h.jv.off,h.fk.off,h.jj.off,h.fq.off,Jd.new (by have:=h.cl;omega) (by have:=h.ll;omega) hl,h.fw.off,h.gq.off,h.gj.off,h.gx.off⟩
theorem MRg.set_elems {cells:List Vu}(h:MRg RD RC m cells L){l:List Ele}{c k}(hl:LR REle l c k):MRg RD RC { m with fw:=l } (cells.set 9 u) (L.set 7 (⟨78,2,N l,u,c⟩::k)) :=
 ⟨by have:=h.cl;simpa using this,by have:=h.ll;simpa using this,by rw[Kz (by decide)];exact h.hs,by rw[Kz (by decide)];exact h.st,h.types.off,h.cj.off,h.jv.off,h.fk.off,h.jj.off,h.fq.off,h.fj.off,Jd.new (by have:=h.cl;omega) (by have:=h.ll;omega) hl,h.gq.off,h.gj.off,h.gx.off⟩
theorem MRg.set_codes {cells:List Vu}(h:MRg RD RC m cells L){l:List Cod}{c k}(hl:LR RCod l c k):MRg RD RC { m with gq:=l } (cells.set 10 u) (L.set 8 (⟨81,2,N l,u,c⟩::k)) :=
 ⟨by have:=h.cl;simpa using this,by have:=h.ll;simpa using this,by rw[Kz (by decide)];exact h.hs,by rw[Kz (by decide)];exact h.st,h.types.off,h.cj.off,h.jv.off,h.fk.off,h.jj.off,h.fq.off,h.fj.off,h.fw.off,Jd.new (by have:=h.cl;omega) (by have:=h.ll;omega) hl,h.gj.off,h.gx.off⟩
theorem MRg.set_datas {cells:List Vu}(h:MRg RD RC m cells L){l:List Dat}{c k}(hl:LR RD l c k):MRg RD RC { m with gj:=l } (cells.set 11 u) (L.set 9 (⟨83,2,N l,u,c⟩::k)) :=
 ⟨by have:=h.cl;simpa using this,by have:=h.ll;simpa using this,by rw[Kz (by decide)];exact h.hs,by rw[Kz (by decide)];exact h.st,h.types.off,h.cj.off,h.jv.off,h.fk.off,h.jj.off,h.fq.off,h.fj.off,h.fw.off,h.gq.off,Jd.new (by have:=h.cl;omega) (by have:=h.ll;omega) hl,h.gx.off⟩
theorem MRg.set_customs {cells:List Vu}(h:MRg RD RC m cells L){l:List Cus}{c k}(hl:LR RC l c k):MRg RD RC { m with gx:=l } (cells.set 12 u) (L.set 10 (⟨131,3,N l,u,c⟩::k)) :=
 ⟨by have:=h.cl;simpa using this,by have:=h.ll;simpa using this,by rw[Kz (by decide)];exact h.hs,by rw[Kz (by decide)];exact h.st,h.types.off,h.cj.off,h.jv.off,h.fk.off,h.jj.off,h.fq.off,h.fj.off,h.fw.off,h.gq.off,h.gj.off,Jd.new (by have:=h.cl;omega) (by have:=h.ll;omega) hl⟩
theorem MRg.set_start {cells:List Vu}(h:MRg RD RC m cells L)(x:Int):MRg RD RC { m with gk:=true,start:=x } ((cells.set 7 (G true)).set 8 (U O x)) L :=
 ⟨by have:=h.cl;simpa using this,h.ll,by rw[Kz (by decide)];exact Ky (by have:=h.cl;omega),Ky (by have:=h.cl;simp;omega),(h.types.offc (by decide)).offc (by decide),(h.cj.offc (by decide)).offc (by decide),(h.jv.offc (by decide)).offc (by decide),(h.fk.offc (by decide)).offc (by decide),(h.jj.offc (by decide)).offc (by decide),(h.fq.offc (by decide)).offc (by decide),(h.fj.offc (by decide)).offc (by decide),(h.fw.offc (by decide)).offc (by decide),(h.gq.offc (by decide)).offc (by decide),(h.gj.offc (by decide)).offc (by decide),(h.gx.offc (by decide)).offc (by decide)⟩
theorem MRg.set_far {cells:List Vu}(h:MRg RD RC m cells L)(hi:13<=i)(u:Vu):MRg RD RC m (cells.set i u) L :=
 ⟨by have:=h.cl;simpa using this,h.ll,by rw[Kz (by omega)];exact h.hs,by rw[Kz (by omega)];exact h.st,h.types.offc (by have:=h.cl;omega),h.cj.offc (by have:=h.cl;omega),h.jv.offc (by have:=h.cl;omega),h.fk.offc (by have:=h.cl;omega),h.jj.offc (by have:=h.cl;omega),h.fq.offc (by have:=h.cl;omega),h.fj.offc (by have:=h.cl;omega),h.fw.offc (by have:=h.cl;omega),h.gq.offc (by have:=h.cl;omega),h.gj.offc (by have:=h.cl;omega),h.gx.offc (by have:=h.cl;omega)⟩
end
open Go.RowKit
theorem strNew (w:J)(L:List ByteArray)(t:TypeId):Bw w.heap.size w (w.alloc (Fc (L.map Value.string).toArray t))/\∀i s,L[i]?=some s->(w.alloc (Fc (L.map Value.string).toArray t)).cell? ⟨w.heap.size,i,none⟩=some (.string s) :=
 ⟨bFz.alloc lRz _,λi s h=>Qn rfl (by simp[h])⟩
def LNames:List ByteArray:=[⟨#[117,110,114,101,97,99,104,97,98,108,101]⟩,⟨#[110,111,112]⟩,⟨#[98,108,111,99,107]⟩,⟨#[108,111,111,112]⟩,⟨#[105,102]⟩,⟨#[101,108,115,101]⟩,⟨#[]⟩,⟨#[]⟩,⟨#[]⟩,⟨#[]⟩,⟨#[]⟩,⟨#[101,110,100]⟩,⟨#[98,114]⟩,⟨#[98,114,95,105,102]⟩,⟨#[98,114,95,116,97,98,108,101]⟩,⟨#[114,101,116,117,114,110]⟩,⟨#[99,97,108,108]⟩,⟨#[99,97,108,108,95,105,110,100,105,114,101,99,116]⟩,⟨#[]⟩,⟨#[]⟩,⟨#[]⟩,⟨#[]⟩,⟨#[]⟩,⟨#[]⟩,⟨#[]⟩,⟨#[]⟩,⟨#[100,114,111,112]⟩,⟨#[115,101,108,101,99,116]⟩,⟨#[]⟩,⟨#[]⟩,⟨#[]⟩,⟨#[]⟩,⟨#[108,111,99,97,108,46,103,101,116]⟩,⟨#[108,111,99,97,108,46,115,101,116]⟩,⟨#[108,111,99,97,108,46,116,101,101]⟩,⟨#[103,108,111,98,97,108,46,103,101,116]⟩,⟨#[103,108,111,98,97,108,46,115,101,116]⟩,⟨#[]⟩,⟨#[]⟩,⟨#[]⟩,⟨#[105,51,50,46,108,111,97,100]⟩,⟨#[105,54,52,46,108,111,97,100]⟩,⟨#[102,51,50,46,108,111,97,100]⟩,⟨#[102,54,52,46,108,111,97,100]⟩,⟨#[105,51,50,46,108,111,97,100,56,95,115]⟩,⟨#[105,51,50,46,108,111,97,100,56,95,117]⟩,⟨#[105,51,50,46,108,111,97,100,49,54,95,115]⟩,⟨#[105,51,50,46,108,111,97,100,49,54,95,117]⟩,⟨#[105,54,52,46,108,111,97,100,56,95,115]⟩,⟨#[105,54,52,46,108,111,97,100,56,95,117]⟩,⟨#[105,54,52,46,108,111,97,100,49,54,95,115]⟩,⟨#[105,54,52,46,108,111,97,100,49,54,95,117]⟩,⟨#[105,54,52,46,108,111,97,100,51,50,95,115]⟩,⟨#[105,54,52,46,108,111,97,100,51,50,95,117]⟩,⟨#[105,51,50,46,115,116,111,114,101]⟩,⟨#[105,54,52,46,115,116,111,114,101]⟩,⟨#[102,51,50,46,115,116,111,114,101]⟩,⟨#[102,54,52,46,115,116,111,114,101]⟩,⟨#[105,51,50,46,115,116,111,114,101,56]⟩,⟨#[105,51,50,46,115,116,111,114,101,49,54]⟩,⟨#[105,54,52,46,115,116,111,114,101,56]⟩,⟨#[105,54,52,46,115,116,111,114,101,49,54]⟩,⟨#[105,54,52,46,115,116,111,114,101,51,50]⟩,⟨#[109,101,109,111,114,121,46,115,105,122,101]⟩,⟨#[109,101,109,111,114,121,46,103,114,111,119]⟩,⟨#[105,51,50,46,99,111,110,115,116]⟩,⟨#[105,54,52,46,99,111,110,115,116]⟩,⟨#[102,51,50,46,99,111,110,115,116]⟩,⟨#[102,54,52,46,99,111,110,115,116]⟩]
theorem lNames_c (w:J):Ec Q 187 #[] w λe w'=>∃g,e=Z (S (some ⟨g,0,none⟩) 69 69)/\Bw w.heap.size w w'/\∀i s,LNames[i]?=some s->w'.cell? ⟨g,i,none⟩=some (.string s):=by
 go_enter func187,ntmps187;go_wp2;go_ret;exact⟨_,rfl,strNew w LNames 9⟩
def XR:List ByteArray:=[⟨#[101,113]⟩,⟨#[110,101]⟩,⟨#[108,116,95,115]⟩,⟨#[108,116,95,117]⟩,⟨#[103,116,95,115]⟩,⟨#[103,116,95,117]⟩,⟨#[108,101,95,115]⟩,⟨#[108,101,95,117]⟩,⟨#[103,101,95,115]⟩,⟨#[103,101,95,117]⟩]
theorem lTests_c (w:J):Ec Q 188 #[] w λe w'=>∃g,e=Z (S (some ⟨g,0,none⟩) 10 10)/\Bw w.heap.size w w'/\∀i s,XR[i]?=some s->w'.cell? ⟨g,i,none⟩=some (.string s):=by
 go_enter func188,ntmps188;go_wp2;go_ret;exact⟨_,rfl,strNew w XR 9⟩
def LInts:List ByteArray:=[⟨#[99,108,122]⟩,⟨#[99,116,122]⟩,⟨#[112,111,112,99,110,116]⟩,⟨#[97,100,100]⟩,⟨#[115,117,98]⟩,⟨#[109,117,108]⟩,⟨#[100,105,118,95,115]⟩,⟨#[100,105,118,95,117]⟩,⟨#[114,101,109,95,115]⟩,⟨#[114,101,109,95,117]⟩,⟨#[97,110,100]⟩,⟨#[111,114]⟩,⟨#[120,111,114]⟩,⟨#[115,104,108]⟩,⟨#[115,104,114,95,115]⟩,⟨#[115,104,114,95,117]⟩,⟨#[114,111,116,108]⟩,⟨#[114,111,116,114]⟩]
theorem lInts_c (w:J):Ec Q 189 #[] w λe w'=>∃g,e=Z (S (some ⟨g,0,none⟩) 18 18)/\Bw w.heap.size w w'/\∀i s,LInts[i]?=some s->w'.cell? ⟨g,i,none⟩=some (.string s):=by
 go_enter func189,ntmps189;go_wp2;go_ret;exact⟨_,rfl,strNew w LInts 9⟩
def Xl:List ByteArray:=[⟨#[97,98,115]⟩,⟨#[110,101,103]⟩,⟨#[99,101,105,108]⟩,⟨#[102,108,111,111,114]⟩,⟨#[116,114,117,110,99]⟩,⟨#[110,101,97,114,101,115,116]⟩,⟨#[115,113,114,116]⟩,⟨#[97,100,100]⟩,⟨#[115,117,98]⟩,⟨#[109,117,108]⟩,⟨#[100,105,118]⟩,⟨#[109,105,110]⟩,⟨#[109,97,120]⟩,⟨#[99,111,112,121,115,105,103,110]⟩]
theorem lFloats_c (w:J):Ec Q 190 #[] w λe w'=>∃g,e=Z (S (some ⟨g,0,none⟩) 14 14)/\Bw w.heap.size w w'/\∀i s,Xl[i]?=some s->w'.cell? ⟨g,i,none⟩=some (.string s):=by
 go_enter func190,ntmps190;go_wp2;go_ret;exact⟨_,rfl,strNew w Xl 9⟩
def LConv:List ByteArray:=[⟨#[105,51,50,46,119,114,97,112,95,105,54,52]⟩,⟨#[105,51,50,46,116,114,117,110,99,95,102,51,50,95,115]⟩,⟨#[105,51,50,46,116,114,117,110,99,95,102,51,50,95,117]⟩,⟨#[105,51,50,46,116,114,117,110,99,95,102,54,52,95,115]⟩,⟨#[105,51,50,46,116,114,117,110,99,95,102,54,52,95,117]⟩,⟨#[105,54,52,46,101,120,116,101,110,100,95,105,51,50,95,115]⟩,⟨#[105,54,52,46,101,120,116,101,110,100,95,105,51,50,95,117]⟩,⟨#[105,54,52,46,116,114,117,110,99,95,102,51,50,95,115]⟩,⟨#[105,54,52,46,116,114,117,110,99,95,102,51,50,95,117]⟩,⟨#[105,54,52,46,116,114,117,110,99,95,102,54,52,95,115]⟩,⟨#[105,54,52,46,116,114,117,110,99,95,102,54,52,95,117]⟩,⟨#[102,51,50,46,99,111,110,118,101,114,116,95,105,51,50,95,115]⟩,⟨#[102,51,50,46,99,111,110,118,101,114,116,95,105,51,50,95,117]⟩,⟨#[102,51,50,46,99,111,110,118,101,114,116,95,105,54,52,95,115]⟩,⟨#[102,51,50,46,99,111,110,118,101,114,116,95,105,54,52,95,117]⟩,⟨#[102,51,50,46,100,101,109,111,116,101,95,102,54,52]⟩,⟨#[102,54,52,46,99,111,110,118,101,114,116,95,105,51,50,95,115]⟩,⟨#[102,54,52,46,99,111,110,118,101,114,116,95,105,51,50,95,117]⟩,⟨#[102,54,52,46,99,111,110,118,101,114,116,95,105,54,52,95,115]⟩,⟨#[102,54,52,46,99,111,110,118,101,114,116,95,105,54,52,95,117]⟩,⟨#[102,54,52,46,112,114,111,109,111,116,101,95,102,51,50]⟩,⟨#[105,51,50,46,114,101,105,110,116,101,114,112,114,101,116,95,102,51,50]⟩,⟨#[105,54,52,46,114,101,105,110,116,101,114,112,114,101,116,95,102,54,52]⟩,⟨#[102,51,50,46,114,101,105,110,116,101,114,112,114,101,116,95,105,51,50]⟩,⟨#[102,54,52,46,114,101,105,110,116,101,114,112,114,101,116,95,105,54,52]⟩]
theorem lConv_c (w:J):Ec Q 191 #[] w λe w'=>∃g,e=Z (S (some ⟨g,0,none⟩) 25 25)/\Bw w.heap.size w w'/\∀i s,LConv[i]?=some s->w'.cell? ⟨g,i,none⟩=some (.string s):=by
 go_enter func191,ntmps191;go_wp2;go_ret;exact⟨_,rfl,strNew w LConv 9⟩
def LT6:List ByteArray:=[⟨#[101,113]⟩,⟨#[110,101]⟩,⟨#[108,116]⟩,⟨#[103,116]⟩,⟨#[108,101]⟩,⟨#[103,101]⟩]
open Go.RowKit Go.Sort
def J6:List Grp->Int->Bool
 |[],_=>true
 |g::gs,n=>grpB g&&u32B (n+g.n)&&J6 gs (n+g.n)
theorem same_below {P:Program}{f:FuncId}{args:Array Vu}{w:J}{v:Vu}(h:Ec P f args w λe w'=>e=Z v/\w=w'):Ec P f args w λe w'=>e=Z v/\Bw w.heap.size w w' :=
 h.mono λe w' ⟨a,b⟩=>⟨a,by subst b;exact bFz⟩
theorem locs_at (l:List Grp)(k:Nat)(n:Int)(h:k<N l):J6 (l.drop k) n=(grpB (l.getD k Grp.z)&&u32B (n+(l.getD k Grp.z).n)&&J6 (l.drop (k+1)) (n+(l.getD k Grp.z).n)):=by
 rw[List.drop_eq_getElem_cons h];simp[J6,Ty,List.getElem?_eq_getElem h]
theorem u32_r {n:Int}(h:u32B n=true):0<=n/\n<4294967296:=by
 simp[u32B]at h;omega
theorem igs_c (x:Cod)(E:Option Ad)(c1:Nat)(R:Option Ad)(w:J)(L:Cod.Is 0 w x E R)(hl:Cod.LB 1048576 x):Ec Q 164 #[S E (N x.gv) c1] w λe w'=>e=Z (G (J6 x.gv 0))/\Bw w.heap.size w w':=by
 obtain⟨⟨l0,_⟩,l1⟩:=hl;obtain⟨C,H⟩:=L;have V:=Hm C;clear C H l1;go_enter func164,ntmps164;go_wp2_with fail
 go_loopw [3,8] (λs i wr=>∃(k:Nat) (n:Int),k<=N x.gv/\i=U O k/\s=U O n/\0<=n/\n<4294967296/\J6 (x.gv.drop k) n=J6 x.gv 0/\Bw w.heap.size w wr) (λ_ i _=>N x.gv-(intOf i).toNat)
 case atStart=>exact⟨0,0,Nat.zero_le _,rfl,rfl,by omega,by omega,rfl,bFz⟩
 obtain⟨k,n,hk,rfl,rfl,n0,n1,A,d⟩:=hrel;by_cases j:k<N x.gv
 . (have I:(k:Int)<(N x.gv:Int):=by omega);rcases V.o.up (Qc d)with hx|⟨b,o,M,_,hc⟩
   . rw[hx]at j;simp at j
   have v:=hc k j;subst M;have f:=Hm (A.symm.trans (locs_at x.gv k n j));generalize x.gv.getD k Grp.z=g at v f;obtain⟨⟨g0,g1⟩,_⟩:=v;have q:=Hm d;clear A hc d;have D:Bw wr.heap.size wr (wr.alloc (Fc #[U O g.n,U O g.ty] 206)):=bFz.alloc lRz _;have t:=Hm D;clear D;have y:=Hm (igrp_c g (wr.alloc (Fc #[U O g.n,U O g.ty] 206)));by_cases l:grpB g=true
   . rw[l]at y;obtain⟨e0,e1⟩:=u32_r (by have:=l;simp[grpB]at this;exact this.1:u32B g.n=true);rw[l,Dw]at f;have u:=λW=>same_below (iu32_c (n+g.n) W);have u:=Hm u;by_cases m:u32B (n+g.n)=true
     . rw[m]at u;rw[m,Dw]at f;obtain⟨Y,X⟩:=u32_r m;clear l m;(go_wp2_with fail);refine y.o.mono ?_;rintro e B ⟨rfl,a⟩;have r:=Hm (t.o.trans (a.mono (by simp)));clear a;(go_wp2_with fail);refine(u.o _).mono ?_;rintro e F ⟨rfl,c⟩;have p:=r.o.trans (c.mono r.o.size);have d:=q.o.trans (p.mono q.o.size);clear r p c;go_wp2;(go_roundw);(case rel=>exact⟨k+1,n+g.n,by omega,by go_num,rfl,by omega,by omega,f.o.symm,d⟩);case measure=>simp[intOf];omega
     simp only[Cz]at m;rw[m]at u;rw[m,Cb]at f;clear l m;(go_wp2_with fail);refine y.o.mono ?_;rintro e B ⟨rfl,a⟩;have r:=Hm (t.o.trans (a.mono (by simp)));clear a;(go_wp2_with fail);refine(u.o _).mono ?_;rintro e F ⟨rfl,c⟩;have p:=r.o.trans (c.mono r.o.size);have d:=q.o.trans (p.mono q.o.size);clear r p c;go_wp2;go_ret;exact⟨by rw[f.o];rfl,d⟩
   simp only[Cz]at l;rw[l]at y;rw[l,Cb,Cb]at f;clear l;(go_wp2_with fail);refine y.o.mono ?_;rintro e B ⟨rfl,a⟩;have p:=t.o.trans (a.mono (by simp));have d:=q.o.trans (p.mono q.o.size);clear p a;go_wp2;go_ret;exact⟨by rw[f.o];rfl,d⟩
 have e:k=N x.gv:=by omega
 subst e;have f:Hid (J6 x.gv 0=true):=by show _=_;rw[<- A,List.drop_length];rfl
 have q:=Hm d;clear A d;go_wp2;go_ret;exact⟨by rw[f.o];rfl,q.o⟩
