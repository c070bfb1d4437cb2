import Derived.Test.YtaccbbndmmhenaaGreatDoorGac
import Derived.Test.YtaccbbndmmhenaaGreatDoorGad
import Derived.Test.YtaccbbndmmhenaaGreatDoorGae
import Derived.Test.YtaccbbndmmhenaaGreatDoorGaf
import Derived.Test.YtaccbbndmmhenaaGreatDoorGag
import Derived.Test.YtaccbbndmmhenaaGreatDoorGah
import Derived.Test.YtaccbbndmmhenaaGreatDoorGab
import Derived.Deep.RegionWith
import Derived.Deep.RegionHeld3
import Derived.ScopeJumps
import Derived.Laws.IdiomStrings
import Derived.Laws.AppendOwn
import Derived.Deep.RegionLaw
import Derived.Laws.StructEq
import Derived.Deep.Onto
import Derived.Sort.Grow
import Derived.LaidEql
import Derived.RangeFuncNested
import Derived.RangeFuncBound
import Derived.RangeFuncCalls
import Derived.RangeFuncLeaves
import Derived.Shelf.Abstract
import Derived.Shelf.RegionOpen
import Derived.OwnWalkIn
import Derived.TacticsInMore
import Derived.LoopNIn
import Derived.LoopIn
set_option linter.all false
set_option maxHeartbeats 400000000
set_option maxRecDepth 100000
namespace Go.Proofs
open Value renaming int->U,slice->S,bool->G,pointer->Yp,string->Xs,agg->Ag,nilIface->Nf,iface->If
open IntKind renaming i64->O,u64->Ou
open Ending renaming returned->Z
open Obj renaming cells->Fc
open Go renaming World->J,Calls->Ec,Value->Vu
open Tryz renaming prog->Q
open Tryz
open World renaming frozen?_alloc_new->Lw,ownsRow_lit->Mz,block_lt_of_cell?->Kk,frozen?_setCell->Tj
open RowKit.Below renaming setCell->Rh,alloc->Ew,heap_setCell->Mx
open List renaming replicate->Hh,drop_eq_getElem_cons->Td,take_succ_eq_append_getElem->Ix,getD->Kg,map_append->Lx,map_cons->Rk,append_assoc->Kw,cons_append->Ry,nil_append->Pg,map_nil->Iy,set_append_right->Rw,getElem?_eq_getElem->Kj,take_length->Pf,drop_of_length_le->Ld,append_nil->Iv,dropLast_concat_getLast->Mj,getElem?_eq_none->My,getElem?_append_right->Lq,perm_iff_count->Th,count_cons->Hd,length->N
open Nat renaming zero_le->Kz,lt_of_lt_of_le->Hw,lt_succ_self->If,zero_add->Hq,lt_or_ge->Iq,le_trans->Ky
open Value renaming ownBlock->Hg,slice->Tq
open Option renaming getD_some->Iz
open _root_.Array renaming getElem?_eq_getElem->Ij,getElem?_push_size->Px
open Region renaming wanted->Tf
open Act renaming eval->Lz,put->Lf
open Result renaming andThen_ok->Mf
open IntKind renaming wrap_i64->Kv
namespace YtaccbbndmmhenaaGreatDoor
open Go.RowKit
variable {Qz0:Exit->Act->J->Prop}{w w1 w' W W':J}{n:List Bool}{xs:List In}{B g b B' l k:Nat}{a a1 a2:Option Addr}{P:Program}
theorem up1 {o:Obj}(h:Below (w.alloc o).heap.size (w.alloc o) w1):Below w.heap.size w w1:=Below.trans (bFz.alloc lRz _) (h.mono (by simp))
theorem up2 {o a:Obj}(h:Below ((w.alloc o).alloc a).heap.size ((w.alloc o).alloc a) w1):Below w.heap.size w w1:=up1 (up1 h)
theorem rowNew (w w1:J)(r:Row)(t:TypeId)(h:Below (w.alloc (Fc (rowL r).toArray t)).heap.size (w.alloc (Fc (rowL r).toArray t)) w1):Below w.heap.size w w1/\w1.cell? ⟨w.heap.size,0,none⟩=some (Xs r.nm)/\w1.cell? ⟨w.heap.size,1,none⟩=some (U O r.f)/\w1.cell? ⟨w.heap.size,2,none⟩=some (U O r.a)/\w1.cell? ⟨w.heap.size,3,none⟩=some (U O r.b)/\w1.cell? ⟨w.heap.size,4,none⟩=some (U O r.g)/\(∀i,w1.frozen? ⟨w.heap.size,i,none⟩=false):=by
 have c:w.heap.size<(w.alloc (Fc (rowL r).toArray t)).heap.size:=by simp
 refine⟨up1 h,?_,?_,?_,?_,?_,?_⟩
 . rw[h.cell (p:=⟨w.heap.size,0,none⟩) c];exact Qf rfl rfl
 . rw[h.cell (p:=⟨w.heap.size,1,none⟩) c];exact Qf rfl rfl
 . rw[h.cell (p:=⟨w.heap.size,2,none⟩) c];exact Qf rfl rfl
 . rw[h.cell (p:=⟨w.heap.size,3,none⟩) c];exact Qf rfl rfl
 . rw[h.cell (p:=⟨w.heap.size,4,none⟩) c];exact Qf rfl rfl
 intro i;rw[h.frozen (p:=⟨w.heap.size,i,none⟩) c];exact Lw w _ t i
theorem set5 {w w1}(f d c b a:Vu)(b0:Below w.heap.size w w1):Below w.heap.size w (((((w1.setCell ⟨w.heap.size,0,none⟩ f).setCell ⟨w.heap.size,1,none⟩ d).setCell ⟨w.heap.size,2,none⟩ c).setCell ⟨w.heap.size,3,none⟩ b).setCell ⟨w.heap.size,4,none⟩ a) :=
 ((((b0.setCell (by simp) _).setCell (by simp) _).setCell (by simp) _).setCell (by simp) _).setCell (by simp) _
theorem find_o0 (p:Int)(w:J)(a:p<=-1):Ec Q 226 #[U O p] w λe w'=>e=Z (Xf Z0)/\Below w.heap.size w w':=by
 have b:p<0:=by omega
 go_enter func226,ntmps226;go_wp2;exact bodyPost_ret (v:=Xf Z0) (by simp[results,results226,go_sem,Z0]) rfl ⟨rfl,by repeat (first|exact bFz|assumption|refine Rh ?_ (by first|(simp;done)|(simp;omega)) _|refine Ew ?_ (by first|(simp;done)|(simp;omega)) _|apply Below.drew)⟩
theorem find_o1 (p:Int)(w:J)(a:192<=p):Ec Q 226 #[U O p] w λe w'=>e=Z (Xf Z0)/\Below w.heap.size w w':=by
 have b:¬p<0:=by omega
 go_enter func226,ntmps226;go_wp2;exact bodyPost_ret (v:=Xf Z0) (by simp[results,results226,go_sem,Z0]) rfl ⟨rfl,by repeat (first|exact bFz|assumption|refine Rh ?_ (by first|(simp;done)|(simp;omega)) _|refine Ew ?_ (by first|(simp;done)|(simp;omega)) _|apply Below.drew)⟩
theorem find_opControl (p:Nat)(w:J)(n:0<=p)(m:p<=39):Ec Q 226 #[U O p] w λe w'=>e=Z (Xf (Qb p))/\Below w.heap.size w w':=by
 have a:=Hm (opControl_c p (w.alloc (Fc (rowL Z0).toArray 341)) (by omega) (by omega));generalize k:Qb p=r at *;generalize l:(p:Int)=q at *;have u:¬q<0:=by omega
 have t:q<40:=by omega
 go_enter func226,ntmps226;go_wp2_with fail
 refine(a.o).mono ?_;rintro e w1 ⟨rfl,b⟩;obtain⟨b0,j,g,f,d,c,s⟩:=rowNew w w1 Z0 341 b;go_wp2;exact bodyPost_ret (v:=Xf r) (by simp[results,results226,go_sem,j,g,f,d,c]) rfl ⟨rfl,set5 _ _ _ _ _ b0⟩
theorem find_opMemory (p:Nat)(w:J)(n:40<=p)(m:p<=68):Ec Q 226 #[U O p] w λe w'=>e=Z (Xf (Qb p))/\Below w.heap.size w w':=by
 have a:=Hm (opMemory_c p (w.alloc (Fc (rowL Z0).toArray 341)) (by omega) (by omega));generalize k:Qb p=r at *;generalize l:(p:Int)=q at *;have y:¬q<0:=by omega
 have u:¬q<40:=by omega
 have t:q<69:=by omega
 go_enter func226,ntmps226;go_wp2_with fail
 refine(a.o).mono ?_;rintro e w1 ⟨rfl,b⟩;obtain⟨b0,j,g,f,d,c,s⟩:=rowNew w w1 Z0 341 b;go_wp2;exact bodyPost_ret (v:=Xf r) (by simp[results,results226,go_sem,j,g,f,d,c]) rfl ⟨rfl,set5 _ _ _ _ _ b0⟩
theorem find_opTests (p:Nat)(w:J)(n:69<=p)(m:p<=102):Ec Q 226 #[U O p] w λe w'=>e=Z (Xf (Qb p))/\Below w.heap.size w w':=by
 have a:=Hm (opTests_c p (w.alloc (Fc (rowL Z0).toArray 341)) (by omega) (by omega));generalize k:Qb p=r at *;generalize l:(p:Int)=q at *;have z:¬q<0:=by omega
 have y:¬q<40:=by omega
 have u:¬q<69:=by omega
 have t:q<103:=by omega
 go_enter func226,ntmps226;go_wp2_with fail
 refine(a.o).mono ?_;rintro e w1 ⟨rfl,b⟩;obtain⟨b0,j,g,f,d,c,s⟩:=rowNew w w1 Z0 341 b;go_wp2;exact bodyPost_ret (v:=Xf r) (by simp[results,results226,go_sem,j,g,f,d,c]) rfl ⟨rfl,set5 _ _ _ _ _ b0⟩
theorem find_opIntegers (p:Nat)(w:J)(n:103<=p)(m:p<=138):Ec Q 226 #[U O p] w λe w'=>e=Z (Xf (Qb p))/\Below w.heap.size w w':=by
 have a:=Hm (opIntegers_c p (w.alloc (Fc (rowL Z0).toArray 341)) (by omega) (by omega));generalize k:Qb p=r at *;generalize l:(p:Int)=q at *;have A:¬q<0:=by omega
 have z:¬q<40:=by omega
 have y:¬q<69:=by omega
 have u:¬q<103:=by omega
 have t:q<139:=by omega
 go_enter func226,ntmps226;go_wp2_with fail
 refine(a.o).mono ?_;rintro e w1 ⟨rfl,b⟩;obtain⟨b0,j,g,f,d,c,s⟩:=rowNew w w1 Z0 341 b;go_wp2;exact bodyPost_ret (v:=Xf r) (by simp[results,results226,go_sem,j,g,f,d,c]) rfl ⟨rfl,set5 _ _ _ _ _ b0⟩
theorem find_opFloats (p:Nat)(w:J)(n:139<=p)(m:p<=166):Ec Q 226 #[U O p] w λe w'=>e=Z (Xf (Qb p))/\Below w.heap.size w w':=by
 have a:=Hm (opFloats_c p (w.alloc (Fc (rowL Z0).toArray 341)) (by omega) (by omega));generalize k:Qb p=r at *;generalize l:(p:Int)=q at *;have B:¬q<0:=by omega
 have A:¬q<40:=by omega
 have z:¬q<69:=by omega
 have y:¬q<103:=by omega
 have u:¬q<139:=by omega
 have t:q<167:=by omega
 go_enter func226,ntmps226;go_wp2_with fail
 refine(a.o).mono ?_;rintro e w1 ⟨rfl,b⟩;obtain⟨b0,j,g,f,d,c,s⟩:=rowNew w w1 Z0 341 b;go_wp2;exact bodyPost_ret (v:=Xf r) (by simp[results,results226,go_sem,j,g,f,d,c]) rfl ⟨rfl,set5 _ _ _ _ _ b0⟩
theorem find_opConversions (p:Nat)(w:J)(n:167<=p)(m:p<=191):Ec Q 226 #[U O p] w λe w'=>e=Z (Xf (Qb p))/\Below w.heap.size w w':=by
 have a:=Hm (opConversions_c p (w.alloc (Fc (rowL Z0).toArray 341)) (by omega) (by omega));generalize k:Qb p=r at *;generalize l:(p:Int)=q at *;have B:¬q<0:=by omega
 have A:¬q<40:=by omega
 have z:¬q<69:=by omega
 have y:¬q<103:=by omega
 have u:¬q<139:=by omega
 have t:¬q<167:=by omega
 go_enter func226,ntmps226;go_wp2_with fail
 refine(a.o).mono ?_;rintro e w1 ⟨rfl,b⟩;obtain⟨b0,j,g,f,d,c,s⟩:=rowNew w w1 Z0 341 b;go_wp2;exact bodyPost_ret (v:=Xf r) (by simp[results,results226,go_sem,j,g,f,d,c]) rfl ⟨rfl,set5 _ _ _ _ _ b0⟩
theorem find_c (p:Int)(w:J):Ec Q 226 #[U O p] w λe w'=>e=Z (Xf (Qb p))/\Below w.heap.size w w':=by
 by_cases h:0<=p/\p<192
 . obtain⟨n,rfl⟩:=Int.eq_ofNat_of_zero_le h.1;(have a:(0<=n/\n<=39)\/(40<=n/\n<=68)\/(69<=n/\n<=102)\/(103<=n/\n<=138)\/(139<=n/\n<=166)\/(167<=n/\n<=191):=by omega);rcases a with h|h|h|h|h|h
   . exact find_opControl n w h.1 h.2
   . exact find_opMemory n w h.1 h.2
   . exact find_opTests n w h.1 h.2
   . exact find_opIntegers n w h.1 h.2
   . exact find_opFloats n w h.1 h.2
   exact find_opConversions n w h.1 h.2
 have e:Qb p=Z0:=by simp only[Qb,h,if_false]
 rw[e];rcases(by omega:p<=-1\/192<=p)with h|h
 . exact find_o0 p w h
 exact find_o1 p w h
theorem isE (a:ByteArray):a.toList.isEmpty=decide (a.size=0):=by
 rw[ByteArray.toList_eq];have:a.size=N a.data.toList:=rfl;rw[this];cases a.data.toList<;>simp
theorem belA {w w1}{o:Obj}(h:Below w.heap.size w w1):Below w.heap.size w (w1.alloc o):=h.alloc h.size o
theorem QK (p:Int)(w:J):Ec Q 215 #[U O p] w λe w'=>e=Z (U O (Qj (Qb p)))/\Below w.heap.size w w':=by
 have c:=Hm (find_c p w);generalize Qb p=r at *;by_cases a:r.nm.size=0
 . (have d:r.nm.toList.isEmpty=true:=by rw[isE];simpa using a);go_enter func215,ntmps215;(go_wp2_with fail);refine c.o.mono ?_;rintro e w1 ⟨rfl,b⟩;go_wp2;go_ret;exact⟨by simp[Qj,a],belA b⟩
 have d:r.nm.toList.isEmpty=false:=by rw[isE];simpa using a
 go_enter func215,ntmps215;go_wp2_with fail
 refine c.o.mono ?_;rintro e w1 ⟨rfl,b⟩;go_wp2;go_ret;exact⟨by simp[Qj,a],belA b⟩
theorem copy_step (k:Nat)(xs:List Int)(h:k<N xs):(I (xs.take k++(Hh (N xs) 0).drop k)).set k (U O (xs.getD k 0))=I (xs.take (k+1)++(Hh (N xs) 0).drop (k+1)):=by
 have hd:(Hh (N xs) (0:Int)).drop k=0::(Hh (N xs) (0:Int)).drop (k+1):=by rw[Td (by simpa using h)];simp
 have a:xs.take (k+1)=xs.take k++[xs.getD k 0]:=by rw[Ix h];simp[Kg,h]
 rw[hd,a];simp only[I,Lx,Rk,Kw,Ry,Pg,Iy];rw[Rw _ _ (by simp;omega)];simp[Nat.min_eq_left (Nat.le_of_lt h)]
theorem toI_c (a)(c:Nat)(xs:List Int)(w)(hn:N xs<=1048576)(t:Has w a xs):Ec Q 26 #[S a (N xs) c] w λe w'=>e=Z (S (some ⟨w.heap.size,0,none⟩) (N xs) (N xs))/\w'.ownsRow w.heap.size 2 1 (S (some ⟨w.heap.size,0,none⟩) (N xs) (N xs)) (N xs) (I xs)/\Below w.heap.size w w':=by
 have r:=run_make_row' (P:=Q) 24 2 (U O 0) 8 underlying24 info2 rfl O O (N xs) (by omega) (by omega);have y:=Hm t;clear t;have m:(w.alloc (Fc (madeCells #[U O 0] (N xs)) 2)).ownsRow w.heap.size 2 1 (S (some ⟨w.heap.size,0,none⟩) (N xs) (N xs)) (N xs) (I (xs.take 0++(Hh (N xs) 0).drop 0)):=by
  have:=Mz (base:=w.heap.size) (e:=2) (size:=1) w (madeCells #[U O 0] (N xs)) (N xs) lRz (by unfold maxLen;omega) (by simp[madeCells]);have e:(madeCells #[U O 0] (N xs)).toList=I (xs.take 0++(Hh (N xs) 0).drop 0):=by
   apply List.ext_getElem?;intro i;by_cases hi:i<N xs
   . simp[madeCells,hi,Nat.mod_one]
   simp[madeCells,hi]
  rw[e]at this;exact this
 have v:=Hm m;clear m;go_enter func26,ntmps26;go_wp2;go_loopw [4] (λi wr=>∃k:Nat,k<=N xs/\i=U O k/\wr.ownsRow w.heap.size 2 1 (S (some ⟨w.heap.size,0,none⟩) (N xs) (N xs)) (N xs) (I (xs.take k++(Hh (N xs) 0).drop k))/\Below w.heap.size w wr) (λi _=>N xs-(intOf i).toNat)
 case atStart=>exact⟨0,Kz _,rfl,v.o,bFz.alloc lRz _⟩
 obtain⟨k,E,rfl,l,n⟩:=hrel;clear v r;by_cases f:k<N xs
 . (have A:(k:Int)<(N xs:Int):=by omega);rcases y.o with j|⟨b,o,C,s⟩
   . subst j;simp at f
   have d:wr.cell? ⟨b,o+k,none⟩=some (U O (xs.getD k 0)):=(n.cell (p:=⟨b,o+k,none⟩) (Kk w _ (s k f))).trans (s k f);subst C;(have g:∃u,wr.cell? ⟨w.heap.size,k,none⟩=some u:=by rw[l.cellAt k (by omega)];exact⟨_,Kj (by simp;omega)⟩);obtain⟨u,D⟩:=g;have B:=l.frozenAt k;obtain⟨x,j⟩:∃x,x=xs.getD k 0:=⟨_,rfl⟩;obtain⟨q,z⟩:=l.stored k (U O x);rw[j,copy_step k xs f,<- j]at q;rw[<- j]at d;have R:=And.intro q (n.setCell (p:=⟨w.heap.size,k,none⟩) lRz (U O x));clear q z l n s j y;go_wp2;(go_roundw);(case rel=>exact⟨k+1,by omega,by go_num,R.1,R.2⟩);case measure=>simp[intOf];omega
 have e:k=N xs:=by omega
 subst e;rw[Pf,Ld (by simp),Iv]at l;go_wp2;go_ret;exact⟨rfl,l,n⟩
open Go.RowKit Go.Sort
theorem allAre_c (a)(c:Nat)(l:List Int)(w)(hn:N l<=1099511627776)(s:Has w a l):Ec Q 114 #[S a (N l) c,.func (.func 115) #[] #[]] w λe w'=>e=Z (G (l.all QB))/\w=w':=by
 have p:=Hm s;clear s;go_enter func114,ntmps114;go_wp2_with fail
 go_loop [9] (λi=>∃k:Nat,k<=N l/\i=U O k/\∀j,j<k->QB (l.getD j 0)=true) (λi=>N l-(intOf i).toNat)
 case atStart=>exact⟨0,Kz _,rfl,λj h=>by omega⟩
 obtain⟨k,C,rfl,b⟩:=hrel;by_cases g:k<N l
 . (have v:(k:Int)<(N l:Int):=by omega);rcases p.o with u|⟨D,B,A,q⟩
   . subst u;simp at g
   have d:=q k g;subst A;have t:=Hm (XR (l.getD k 0));generalize n:l.getD k 0=y at *;generalize m:QB y=z at *;cases z
   . have f:=Hm (all_f l k g (by rw[n];exact m));clear b q n m p;(go_wp2_with (refine(t.o _).mono ?_;rintro e w1 ⟨rfl,rfl⟩));go_ret;exact⟨by rw[f.o];rfl,rfl⟩
   have r:Hid (∀j,j<k+1->QB (l.getD j 0)=true):=λj hj=>by
    rcases(by omega:j<k\/j=k)with h|h
    . exact b j h
    subst h;rw[n];exact m
   clear b q n m p;(go_wp2_with (refine(t.o _).mono ?_;rintro e w1 ⟨rfl,rfl⟩));(go_round);(case rel=>exact⟨k+1,by omega,by go_num,r.o⟩);case measure=>simp[intOf];omega
 have e:k=N l:=by omega
 subst e;have f:=Hm (all_t l b);clear b p;go_wp2;go_ret;exact⟨by rw[f.o];rfl,rfl⟩
theorem ibt_c (x:Int)(w:J):Ec Q 216 #[U O x] w λe w'=>e=Z (G (decide (x=64) || tyB x))/\w=w':=by
 have H:=Hm (ity_c x);by_cases h:x=64
 . subst h;go_enter func216,ntmps216;go_wp2;go_ret;exact⟨rfl,rfl⟩
 have f:(x==(64:Int))=false:=by simpa using h
 have a:=Hm h;clear h;go_enter func216,ntmps216;go_wp2_with (refine(H.o _).mono ?_;rintro e w1 ⟨rfl,rfl⟩)
 go_ret;exact⟨by simp[a.o],rfl⟩
theorem Gf {c0 c1 c2 c3 c4:Vu}(h:Below (((w.alloc (Fc #[c0,c1,c2,c3,c4] 204)).alloc (Fc #[c0,c1,c2,c3,c4] 204)).drew).heap.size (((w.alloc (Fc #[c0,c1,c2,c3,c4] 204)).alloc (Fc #[c0,c1,c2,c3,c4] 204)).drew) w1):C5 w1 w.heap.size 0 c0 c1 c2 c3 c4/\C5 w1 (w.heap.size+1) 0 c0 c1 c2 c3 c4/\Below w.heap.size w w1:=by
 have f:Below ((w.alloc (Fc #[c0,c1,c2,c3,c4] 204)).alloc (Fc #[c0,c1,c2,c3,c4] 204)).heap.size ((w.alloc (Fc #[c0,c1,c2,c3,c4] 204)).alloc (Fc #[c0,c1,c2,c3,c4] 204)) w1:=⟨h.os,h.tape,h.output,h.size,h.block⟩;refine⟨(C5.new.past).keep f,?_,up2 f⟩;have:=(C5.new (w:=w.alloc (Fc #[c0,c1,c2,c3,c4] 204)) (a:=c0) (b:=c1) (c:=c2) (d:=c3) (e:=c4) (t:=204)).keep f;simpa using this
theorem bset {w w1}{o:Nat}{v:Vu}(h:Below w.heap.size w w1):Below w.heap.size w (w1.setCell ⟨w.heap.size+1,o,none⟩ v):=h.setCell (by show w.heap.size<=w.heap.size+1;omega) _
theorem igood_0 (op a b v:Int)(l:List Int)(k:Option Addr)(j:Nat)(w:J)(f:Qj (Qb op)=0)(hv:0<=v):Ec Q 193 #[inV ⟨op,a,b,v,l⟩ k j] w λe w'=>e=Z (G (Qs (0) ⟨op,a,b,v,l⟩))/\Below w.heap.size w w':=by
 have m:=XU l;have d:=Hm (QK op);rw[f]at d;clear f;go_enter func193,ntmps193;go_wp2_with fail
 go_region
 go_wp2_with fail
 refine(d.o _).mono ?_;rintro e w1 ⟨rfl,g⟩;obtain⟨⟨⟨C,B,A,z,y⟩,u⟩,⟨⟨t,s,r,q,p⟩,n⟩,c⟩:=Gf g;clear g d;go_wp2
 all_goals
  go_ret
  refine⟨?_,by repeat (first|exact c|refine bset ?_)⟩
  first|(simp_all[Qs,Qm];done)|(simp_all[Qs,Qm];intros;omega)
theorem igood_6 (op a b v:Int)(l:List Int)(k:Option Addr)(j:Nat)(w:J)(f:Qj (Qb op)=6)(hv:0<=v):Ec Q 193 #[inV ⟨op,a,b,v,l⟩ k j] w λe w'=>e=Z (G (Qs (6) ⟨op,a,b,v,l⟩))/\Below w.heap.size w w':=by
 have m:=XU l;have d:=Hm (QK op);rw[f]at d;clear f;go_enter func193,ntmps193;go_wp2_with fail
 go_region
 go_wp2_with fail
 refine(d.o _).mono ?_;rintro e w1 ⟨rfl,g⟩;obtain⟨⟨⟨C,B,A,z,y⟩,u⟩,⟨⟨t,s,r,q,p⟩,n⟩,c⟩:=Gf g;clear g d;go_wp2
 all_goals
  go_ret
  refine⟨?_,by repeat (first|exact c|refine bset ?_)⟩
  first|(simp_all[Qs,Qm];done)|(simp_all[Qs,Qm];intros;omega)
theorem igood_8 (op a b v:Int)(l:List Int)(k:Option Addr)(j:Nat)(w:J)(f:Qj (Qb op)=8)(hv:0<=v):Ec Q 193 #[inV ⟨op,a,b,v,l⟩ k j] w λe w'=>e=Z (G (Qs (8) ⟨op,a,b,v,l⟩))/\Below w.heap.size w w':=by
 have m:=XU l;have d:=Hm (QK op);rw[f]at d;clear f;go_enter func193,ntmps193;go_wp2_with fail
 go_region
 go_wp2_with fail
 refine(d.o _).mono ?_;rintro e w1 ⟨rfl,g⟩;obtain⟨⟨⟨C,B,A,z,y⟩,u⟩,⟨⟨t,s,r,q,p⟩,n⟩,c⟩:=Gf g;clear g d;go_wp2
 all_goals
  go_ret
  refine⟨?_,by repeat (first|exact c|refine bset ?_)⟩
  first|(simp_all[Qs,Qm];done)|(simp_all[Qs,Qm];intros;omega)
theorem igood_10 (op a b v:Int)(l:List Int)(k:Option Addr)(j:Nat)(w:J)(f:Qj (Qb op)=10)(hv:0<=v):Ec Q 193 #[inV ⟨op,a,b,v,l⟩ k j] w λe w'=>e=Z (G (Qs (10) ⟨op,a,b,v,l⟩))/\Below w.heap.size w w':=by
 have m:=XU l;have d:=Hm (QK op);rw[f]at d;clear f;go_enter func193,ntmps193;go_wp2_with fail
 go_region
 go_wp2_with fail
 refine(d.o _).mono ?_;rintro e w1 ⟨rfl,g⟩;obtain⟨⟨⟨C,B,A,z,y⟩,u⟩,⟨⟨t,s,r,q,p⟩,n⟩,c⟩:=Gf g;clear g d;go_wp2
 all_goals
  go_ret
  refine⟨?_,by repeat (first|exact c|refine bset ?_)⟩
  first|(simp_all[Qs,Qm];done)|(simp_all[Qs,Qm];intros;omega)
theorem igood_1 (op a b v:Int)(l:List Int)(k:Option Addr)(j:Nat)(w:J)(f:Qj (Qb op)=1)(hv:0<=v):Ec Q 193 #[inV ⟨op,a,b,v,l⟩ k j] w λe w'=>e=Z (G (Qs (1) ⟨op,a,b,v,l⟩))/\Below w.heap.size w w':=by
 have m:=XU l;have d:=Hm (QK op);rw[f]at d;clear f;go_enter func193,ntmps193;go_wp2_with fail
 go_region
 go_wp2_with fail
 refine(d.o _).mono ?_;rintro e w1 ⟨rfl,g⟩;obtain⟨⟨⟨D,C,B,A,z⟩,y⟩,⟨⟨u,t,s,r,q⟩,p⟩,c⟩:=Gf g;clear g d;go_wp2_with (go_at_call 216;refine(ibt_c _ _).mono ?_;rintro e n ⟨rfl,rfl⟩)
 all_goals
  go_ret
  refine⟨?_,by repeat (first|exact c|refine bset ?_)⟩
  first|(simp_all[Qs,Qm];done)|(simp_all[Qs,Qm];intros;omega)
theorem igood_2 (op a b v:Int)(l:List Int)(k:Option Addr)(j:Nat)(w:J)(f:Qj (Qb op)=2)(hv:0<=v):Ec Q 193 #[inV ⟨op,a,b,v,l⟩ k j] w λe w'=>e=Z (G (Qs (2) ⟨op,a,b,v,l⟩))/\Below w.heap.size w w':=by
 have m:=XU l;have d:=Hm (QK op);rw[f]at d;clear f;go_enter func193,ntmps193;go_wp2_with fail
 go_region
 go_wp2_with fail
 refine(d.o _).mono ?_;rintro e w1 ⟨rfl,g⟩;obtain⟨⟨⟨D,C,B,A,z⟩,y⟩,⟨⟨u,t,s,r,q⟩,p⟩,c⟩:=Gf g;clear g d;go_wp2_with (go_at_call 115;refine(XR _ _).mono ?_;rintro e n ⟨rfl,rfl⟩)
 all_goals
  go_ret
  refine⟨?_,by repeat (first|exact c|refine bset ?_)⟩
  first|(simp_all[Qs,Qm];done)|(simp_all[Qs,Qm];intros;omega)
theorem igood_4 (op a b v:Int)(l:List Int)(k:Option Addr)(j:Nat)(w:J)(f:Qj (Qb op)=4)(hv:0<=v):Ec Q 193 #[inV ⟨op,a,b,v,l⟩ k j] w λe w'=>e=Z (G (Qs (4) ⟨op,a,b,v,l⟩))/\Below w.heap.size w w':=by
 have m:=XU l;have d:=Hm (QK op);rw[f]at d;clear f;go_enter func193,ntmps193;go_wp2_with fail
 go_region
 go_wp2_with fail
 refine(d.o _).mono ?_;rintro e w1 ⟨rfl,g⟩;obtain⟨⟨⟨D,C,B,A,z⟩,y⟩,⟨⟨u,t,s,r,q⟩,p⟩,c⟩:=Gf g;clear g d;go_wp2_with (go_at_call 115;refine(XR _ _).mono ?_;rintro e n ⟨rfl,rfl⟩)
 all_goals
  go_ret
  refine⟨?_,by repeat (first|exact c|refine bset ?_)⟩
  first|(simp_all[Qs,Qm];done)|(simp_all[Qs,Qm];intros;omega)
theorem igood_m1 (op a b v:Int)(l:List Int)(k:Option Addr)(j:Nat)(w:J)(f:Qj (Qb op)=-1)(hv:0<=v):Ec Q 193 #[inV ⟨op,a,b,v,l⟩ k j] w λe w'=>e=Z (G (Qs (-1) ⟨op,a,b,v,l⟩))/\Below w.heap.size w w':=by
 have d:=Hm (QK op);rw[f]at d;clear f;go_enter func193,ntmps193;go_wp2_with fail
 go_region
 go_wp2_with fail
 refine(d.o _).mono ?_;rintro e w1 ⟨rfl,g⟩;obtain⟨⟨⟨B,A,z,y,u⟩,t⟩,⟨⟨s,r,q,p,n⟩,m⟩,c⟩:=Gf g;clear g d;go_wp2
 all_goals
  go_ret
  refine⟨?_,by repeat (first|exact c|refine bset ?_)⟩
  first|(simp_all[Qs,Qm];done)|(simp_all[Qs,Qm];intros;omega)
theorem igood_5 (op a b v:Int)(l:List Int)(k:Option Addr)(j:Nat)(w:J)(f:Qj (Qb op)=5)(hv:0<=v):Ec Q 193 #[inV ⟨op,a,b,v,l⟩ k j] w λe w'=>e=Z (G (Qs (5) ⟨op,a,b,v,l⟩))/\Below w.heap.size w w':=by
 have m:=XU l;have d:=Hm (QK op);rw[f]at d;clear f;go_enter func193,ntmps193;go_wp2_with fail
 go_region
 go_wp2_with fail
 refine(d.o _).mono ?_;rintro e w1 ⟨rfl,g⟩;obtain⟨⟨⟨D,C,B,A,z⟩,y⟩,⟨⟨u,t,s,r,q⟩,p⟩,c⟩:=Gf g;clear g d;go_wp2_with (go_at_call 115;refine(XR _ _).mono ?_;rintro e n ⟨rfl,rfl⟩)
 all_goals
  go_ret
  refine⟨?_,by repeat (first|exact c|refine bset ?_)⟩
  first|(simp_all[Qs,Qm];done)|(simp_all[Qs,Qm];intros;omega)
theorem igood_7 (op a b v:Int)(l:List Int)(k:Option Addr)(j:Nat)(w:J)(f:Qj (Qb op)=7)(hv:0<=v):Ec Q 193 #[inV ⟨op,a,b,v,l⟩ k j] w λe w'=>e=Z (G (Qs (7) ⟨op,a,b,v,l⟩))/\Below w.heap.size w w':=by
 have m:=XU l;have d:=Hm (QK op);rw[f]at d;clear f;go_enter func193,ntmps193;go_wp2_with fail
 go_region
 go_wp2_with fail
 refine(d.o _).mono ?_;rintro e w1 ⟨rfl,g⟩;obtain⟨⟨⟨C,B,A,z,y⟩,u⟩,⟨⟨t,s,r,q,p⟩,n⟩,c⟩:=Gf g;clear g d;go_wp2
 all_goals
  go_ret
  refine⟨?_,by repeat (first|exact c|refine bset ?_)⟩
  first|(simp_all[Qs,Qm];done)|(simp_all[Qs,Qm];intros;omega)
theorem igood_9 (op a b v:Int)(l:List Int)(k:Option Addr)(j:Nat)(w:J)(f:Qj (Qb op)=9)(hv:0<=v):Ec Q 193 #[inV ⟨op,a,b,v,l⟩ k j] w λe w'=>e=Z (G (Qs (9) ⟨op,a,b,v,l⟩))/\Below w.heap.size w w':=by
 have m:=XU l;have d:=Hm (QK op);rw[f]at d;clear f;go_enter func193,ntmps193;go_wp2_with fail
 go_region
 go_wp2_with fail
 refine(d.o _).mono ?_;rintro e w1 ⟨rfl,g⟩;obtain⟨⟨⟨C,B,A,z,y⟩,u⟩,⟨⟨t,s,r,q,p⟩,n⟩,c⟩:=Gf g;clear g d;go_wp2
 all_goals
  go_ret
  refine⟨?_,by repeat (first|exact c|refine bset ?_)⟩
  first|(simp_all[Qs,Qm];done)|(simp_all[Qs,Qm];intros;omega)
theorem igood_3 (op a b v:Int)(l:List Int)(la)(k:Nat)(w)(m:Qj (Qb op)=3)(hv:0<=v)(f:N l<=1099511627776)(p:Has w la l):Ec Q 193 #[inV ⟨op,a,b,v,l⟩ la k] w λe w'=>e=Z (G (Qs (3) ⟨op,a,b,v,l⟩))/\Below w.heap.size w w':=by
 have g:=Hm (QK op);rw[m]at g;clear m;go_enter func193,ntmps193;go_wp2_with fail
 go_region
 go_wp2_with fail
 refine(g.o _).mono ?_;rintro e w1 ⟨rfl,n⟩;obtain⟨⟨⟨H,F,E,D,C⟩,B⟩,⟨⟨A,z,y,u,t⟩,s⟩,d⟩:=Gf n;clear n g;have q:=Hm (allAre_c la k l w1 f (p.keep d));generalize c:l.all QB=al at q;have j:=Hm c;clear p c;go_wp2_with (first|(go_at_call 115;refine(XR _ _).mono ?_;rintro e r ⟨rfl,rfl⟩)|(go_at_call 114;refine(q.o).mono ?_;rintro e r ⟨rfl,rfl⟩))
 all_goals
  go_ret
  refine⟨?_,by repeat (first|exact d|refine bset ?_)⟩
  simp[Qs,j.o]
  try simp_all
def gd (x:In):Bool:=Qs (Qj (Qb x.op)) x
theorem form_range (op:Int):Qj (Qb op)=-1\/Qj (Qb op)=0\/Qj (Qb op)=1\/Qj (Qb op)=2\/Qj (Qb op)=3\/Qj (Qb op)=4\/Qj (Qb op)=5\/Qj (Qb op)=6\/Qj (Qb op)=7\/Qj (Qb op)=8\/Qj (Qb op)=9\/Qj (Qb op)=10:=by
 by_cases h:0<=op/\op<192
 . have e:=of_decide_eq_true (rng 0 192 (λi=>decide (-1<=Qj (tbl.getD i Z0)/\Qj (tbl.getD i Z0)<=10)) (by decide +kernel) op (by omega) (by omega));(have er:Qb op=tbl.getD op.toNat Z0:=by simp only[Qb,h,and_self,if_true]);rw[<- er]at e;omega
 have er:Qb op=Z0:=by simp only[Qb,h,if_false]
 rw[er];left;decide
theorem isIns_c (x:In)(la)(d:Nat)(w)(hv:0<=x.v)(f:N x.l<=1099511627776)(g:Has w la x.l):Ec Q 193 #[inV x la d] w λe w'=>e=Z (G (gd x))/\Below w.heap.size w w':=by
 obtain⟨c,a,b,v,l⟩:=x;rcases form_range c with h|h|h|h|h|h|h|h|h|h|h|h
 . have:=igood_m1 c a b v l la d w h hv;simp only[gd,h];exact this
 . have:=igood_0 c a b v l la d w h hv;simp only[gd,h];exact this
 . have:=igood_1 c a b v l la d w h hv;simp only[gd,h];exact this
 . have:=igood_2 c a b v l la d w h hv;simp only[gd,h];exact this
 . have:=igood_3 c a b v l la d w h hv f g;simp only[gd,h];exact this
 . have:=igood_4 c a b v l la d w h hv;simp only[gd,h];exact this
 . have:=igood_5 c a b v l la d w h hv;simp only[gd,h];exact this
 . have:=igood_6 c a b v l la d w h hv;simp only[gd,h];exact this
 . have:=igood_7 c a b v l la d w h hv;simp only[gd,h];exact this
 . have:=igood_8 c a b v l la d w h hv;simp only[gd,h];exact this
 . have:=igood_9 c a b v l la d w h hv;simp only[gd,h];exact this
 have:=igood_10 c a b v l la d w h hv;simp only[gd,h];exact this
def goM:List Bool->List In->Bool
 |n,[]=>n.isEmpty
 |n,x::xs=>if gd x then(match QJ n x.op with|none=>false|some n'=>goM n' xs)else false
def QF (xs:List In):Bool:=goM [false] xs
theorem stepM_len {a:List Bool}{op:Int}(h:QJ n op=some a):N a<=N n+1:=by
 unfold QJ at h;split at h
 . cases h
 split at h
 . cases h;simp
 split at h
 . cases h;simp
 split at h
 . split at h
   . cases h;simp
   cases h
 split at h
 . cases h;simp;omega
 cases h;omega
theorem Xv (xs:List In)(k:Nat)(h:k<N xs):xs.drop k=xs.getD k I0::xs.drop (k+1):=by
 rw[Td h];simp[Kg,Kj h]
theorem Ne.keep {v:Vu}(h:Ne B g v n w)(a:Below w.heap.size w w1):Ne B g v n w1:=by
 refine⟨(a.cell (p:=⟨g,0,none⟩) h.lt).trans h.cell,(a.frozen (p:=⟨g,0,none⟩) h.lt).trans h.froz,?_,h.ne,h.ge,Hw h.lt a.size⟩;refine⟨h.own.1,?_⟩;rcases h.own.2 with l|⟨f,c,b,j,k,d,r⟩
 . exact .inl l
 exact .inr ⟨f,c,b,j,k,(a.block f (Array.getElem?_eq_some_iff.1 d).1).trans d,r⟩
theorem nestNew_c (w:J):Ec Q 192 #[] w λe w'=>e=Z (S (some ⟨w.heap.size,0,none⟩) 1 1)/\w'=w.alloc (Fc #[G false] 4):=by
 go_enter func192,ntmps192;go_wp2;go_ret;exact⟨rfl,rfl⟩
theorem ne_start (w:J):Ne w.heap.size (w.heap.size+1) (S (some ⟨w.heap.size,0,none⟩) 1 1) [false] ((w.alloc (Fc #[G false] 4)).alloc (Fc #[S (some ⟨w.heap.size,0,none⟩) 1 1] 314)):=by
 have e:(w.alloc (Fc #[G false] 4)).heap.size=w.heap.size+1:=by simp
 refine⟨Qf e.symm rfl,by rw[<- e];exact Lw _ _ _ _,?_,by simp[Hg],by omega,by simp⟩;exact(Mz (base:=w.heap.size) (e:=4) (size:=1) w #[G false] 1 lRz (by unfold maxLen;omega) rfl).alloc _
theorem iclosed_c (a:Option Addr)(c:Nat)(xs:List In)(w:J)(hn:N xs<=1048576)(hl:∀i,i<N xs->(xs.getD i I0).l.length<=1048576)(hv:∀i,0<=(xs.getD i I0).v)(hL:Lst w a xs):Ec Q 161 #[S a (N xs) c] w λe w'=>e=Z (G (QF xs))/\Below w.heap.size w w':=by
 have Y:=Hm hL;have V:=Hm hl;have R:=Hm hv;clear hL hl hv;have HS:=Hm (ne_start w);have H0:=Hm (nestNew_c w);go_enter func161,ntmps161;go_wp2_with fail
 refine H0.o.mono ?_;rintro e w1 ⟨rfl,rfl⟩;go_wp2_with fail
 go_loopw [9] (λi wr=>∃(k:Nat) (n:List Bool) (v:Vu),k<=N xs/\i=U O k/\Ne w.heap.size (w.heap.size+1) v n wr/\Below w.heap.size w wr/\QF xs=goM n (xs.drop k)/\N n<=k+1) (λi _=>N xs-(intOf i).toNat)
 case atStart=>exact⟨0,[false],_,Kz _,rfl,HS.o,(bFz.alloc lRz _).alloc (by simp) _,rfl,by simp⟩
 obtain⟨k,n,v,hk,rfl,ne,C,s,au⟩:=hrel;clear HS H0;by_cases m:k<N xs
 . (have av:(k:Int)<(N xs:Int):=by omega);rcases Y.o.keep C with B|⟨b,o,ea,hc⟩
   . subst B;simp at m
   obtain⟨la,lc,c0,c1,c2,c3,c4,L⟩:=hc k m;subst ea;rw[Xv xs k m]at s;have H:=V.o k m;have u:=R.o k;obtain⟨x,B⟩:∃x,x=xs.getD k I0:=⟨_,rfl⟩;rw[<- B]at c0 c1 c2 c3 c4 L s H u;have M:Below wr.heap.size wr (wr.alloc (Fc #[U O x.op,U O x.a,U O x.b,U Ou x.v,S la (N x.l) lc] 204)):=bFz.alloc lRz _;have HI:=Hm (isIns_c x la lc _ u (by omega) (L.keep M));have NE:=Hm ne;have E:=Hm C;have t:=Hm s;have z:=Hm M;clear B hc L ne C s M Y V R;generalize I:gd x=gx at *;cases gx
   . (go_wp2_with fail);refine HI.o.mono ?_;rintro e q ⟨rfl,d⟩;have g:Below w.heap.size w q:=E.o.trans ((z.o.trans (d.mono (by simp))).mono E.o.size);clear d;go_wp2;go_ret;exact⟨by rw[t.o];simp[goM,I],g⟩
   (go_wp2_with fail);refine HI.o.mono ?_;rintro e q ⟨rfl,d⟩;have g:Below wr.heap.size wr q:=z.o.trans (d.mono (by simp));have y:Below w.heap.size w q:=E.o.trans (g.mono E.o.size);(have d0:q.cell? ⟨wr.heap.size,0,none⟩=some (U O x.op):=by rw[d.cell (p:=⟨wr.heap.size,0,none⟩) (by simp)];exact Qf rfl rfl);have D:=Hm (step_c _ _ v n x.op q (NE.o.keep g) (by omega));have A:=Hm y;clear d g y HI NE;cases hst:QJ n x.op with
   |none =>
    rw[hst]at D
    go_wp2_with fail
    refine D.o.mono ?_
    rintro e w3 ⟨v',rfl,j,f⟩;have r:=A.o.trans (f.mono lRz);clear j f
    go_wp2
    go_ret
    exact⟨by rw[t.o];simp[goM,I,hst],r⟩
   |some n' =>
    rw[hst]at D;have ad:=stepM_len hst
    go_wp2_with fail
    refine D.o.mono ?_
    rintro e w3 ⟨v',rfl,j,f⟩;have r:=Hm (A.o.trans (f.mono lRz));have F:=Hm (j n' rfl)
    have X:Hid (QF xs=goM n' (xs.drop (k+1))):=by
     show QF xs=_
     rw[t.o];simp[goM,I,hst]
    clear j f hst
    go_wp2
    go_roundw
    case rel=>exact⟨k+1,n',v',by omega,by go_num,F.o,r.o,X.o,by omega⟩
    case measure=>simp[intOf];omega
 have e:k=N xs:=by omega
 subst e;obtain⟨va,vc,rfl⟩:=QG ne.own;have c0:=ne.cell;have HC:=Hm (Ge va (N n) vc);have t:Hid (QF xs=decide (N n=0)):=by show QF xs=_;rw[s,Ld lRz];cases n<;>simp[goM]
 clear s ne Y V R;generalize decide (N n=0)=dd at HC t;go_wp2_with fail
 refine(HC.o _).mono ?_;rintro e q ⟨rfl,rfl⟩;go_wp2;go_ret;exact⟨by rw[t.o];rfl,C⟩
theorem good_c (x:In)(la)(a:Nat)(w)(hv:0<=x.v)(b:N x.l<=1099511627776)(c:Has w la x.l):Ec Q 98 #[inV x la a] w λe w'=>e=Z (G (gd x))/\Below w.heap.size w w':=by
 rcases form_range x.op with h|h|h|h|h|h|h|h|h|h|h|h
 . simp only[gd,h];exact sgood_m1 x la a w h hv
 . simp only[gd,h];exact sgood_0 x la a w h hv
 . simp only[gd,h];exact sgood_1 x la a w h hv
 . simp only[gd,h];exact sgood_2 x la a w h hv
 . simp only[gd,h];exact sgood_3 x la a w h hv b c
 . simp only[gd,h];exact sgood_4 x la a w h hv
 . simp only[gd,h];exact sgood_5 x la a w h hv
 . simp only[gd,h];exact sgood_6 x la a w h hv
 . simp only[gd,h];exact sgood_7 x la a w h hv
 . simp only[gd,h];exact sgood_8 x la a w h hv
 . simp only[gd,h];exact sgood_9 x la a w h hv
 simp only[gd,h];exact sgood_10 x la a w h hv
theorem stepM_e (n m:List Bool)(z:Bool)(h:n=m++[z]):QJ n 5=if z then some (m++[false])else none:=by
 subst h;cases z<;>simp[QJ]
theorem stepM_x (n m:List Bool)(z:Bool)(h:n=m++[z]):QJ n 11=some m:=by
 subst h;simp[QJ]
def bi (b:Bool):Int:=if b then 1 else 0
def Ga (n:List Bool):List Int:=n.tail.map bi
def hdF (n:List Bool):Prop:=n=[]\/∃m,n=false::m
theorem ksOf_cons (m:List Bool):Ga (false::m)=m.map bi:=rfl
theorem sl {n:Nat}{v:Vu}{b:List Vu}(h:w.ownsRow B 2 1 v n b):∃va vn vc,v=S va vn vc:=by
 obtain⟨a,c,e⟩:=QG h;exact⟨a,_,c,e⟩
def Ans (n:List Bool)(op:Int)(kv':Vu)(dn bd:Bool)(B:Nat)(w':J):Prop:=(QJ n op=none/\bd=true)\/∃n',QJ n op=some n'/\hdF n'/\bd=false/\dn=n'.isEmpty/\w'.ownsRow B 2 1 kv' (Ga n').length (I (Ga n'))
theorem next_c (B:Nat)(kv:Vu)(n:List Bool)(op:Int)(w:J)(f:B<=w.heap.size)(s:N n<=4194304)(hd:hdF n)(h:w.ownsRow B 2 1 kv (Ga n).length (I (Ga n))):Ec Q 99 #[opV kv n.isEmpty false,U O op] w λe w'=>∃va vn vc dn bd,e=Z (opV (S va vn vc) dn bd)/\Ans n op (S va vn vc) dn bd B w'/\Below B w w':=by
 refine Calls.mono (R:=λe w'=>∃kv' dn bd,e=Z (opV kv' dn bd)/\(∃va vn vc,kv'=S va vn vc)/\Ans n op kv' dn bd B w'/\Below B w w') ?_ (λe w' ⟨kv',dn,bd,p,⟨va,vn,vc,o⟩,l,k⟩=>by subst o;exact⟨va,vn,vc,dn,bd,p,l,k⟩);rcases hd with rfl|⟨m,rfl⟩
 . exact(next_done B kv _ op w f h).mono λe w' ⟨va,vn,vc,a,b⟩=>⟨_,_,_,a,⟨va,vn,vc,rfl⟩,.inl ⟨by simp[QJ],rfl⟩,b⟩
 have d:N m<=4194304:=by simp at s;omega
 rw[ksOf_cons]at h;show Ec Q 99 #[opV kv false false,U O op] w _;by_cases p:op=2\/op=3
 . (have e:QJ (false::m) op=some (false::(m++[false])):=by simp[QJ,p]);(have j:∀kv' (w':J),w'.ownsRow B 2 1 kv' (m.map bi++[0]).length (I (m.map bi++[0]))->w'.ownsRow B 2 1 kv' (Ga (false::(m++[false]))).length (I (Ga (false::(m++[false])))):=λkv' w' q=>by(have:Ga (false::(m++[false]))=m.map bi++[0]:=by simp[Ga,bi]);rw[this];exact q);rcases p with rfl|rfl
   . exact(next_2 B kv _ w f (by simpa using d) h).mono λe' w' ⟨kv',a,b,c⟩=>⟨kv',_,_,a,sl b,.inr ⟨_,e,.inr ⟨_,rfl⟩,rfl,rfl,j kv' w' b⟩,c⟩
   exact(next_3 B kv _ w f (by simpa using d) h).mono λe' w' ⟨kv',a,b,c⟩=>⟨kv',_,_,a,sl b,.inr ⟨_,e,.inr ⟨_,rfl⟩,rfl,rfl,j kv' w' b⟩,c⟩
 by_cases o:op=4
 . subst o;(have e:QJ (false::m) 4=some (false::(m++[true])):=by simp[QJ]);refine(next_4 B kv _ w f (by simpa using d) h).mono λe' w' ⟨kv',a,b,c⟩=>⟨kv',_,_,a,sl b,.inr ⟨_,e,.inr ⟨_,rfl⟩,rfl,rfl,?_⟩,c⟩;(have:Ga (false::(m++[true]))=m.map bi++[1]:=by simp[Ga,bi]);rw[this];exact b
 by_cases l:op=5
 . subst l;by_cases g:m=[]
   . subst g;exact(next_5n B kv w f h).mono λe' w' ⟨va,vn,vc,a,b⟩=>⟨_,_,_,a,⟨va,vn,vc,rfl⟩,.inl ⟨by simp[QJ],rfl⟩,b⟩
   obtain⟨q,z,rfl⟩:∃q z,m=q++[z]:=⟨m.dropLast,m.getLast g,(Mj g).symm⟩;(have r:N q<=4194304:=by simp at d;omega);rw[Lx,Rk,Iy]at h;cases z
   . exact(next_5z B kv _ _ w f (by simpa using r) rfl h).mono λe' w' ⟨va,vn,vc,a,b⟩=>⟨_,_,_,a,⟨va,vn,vc,rfl⟩,.inl ⟨stepM_e _ (false::q) false rfl,rfl⟩,b⟩
   have e:QJ (false::(q++[true])) 5=some (false::(q++[false])):=stepM_e _ (false::q) true rfl;refine(next_5 B kv _ _ w f (by simpa using r) (by decide) h).mono λe' w' ⟨kv',a,b,c⟩=>⟨kv',_,_,a,sl b,.inr ⟨_,e,.inr ⟨_,rfl⟩,rfl,rfl,?_⟩,c⟩;(have:Ga (false::(q++[false]))=q.map bi++[0]:=by simp[Ga,bi]);rw[this];exact b
 by_cases k:op=11
 . subst k;by_cases g:m=[]
   . subst g;(have e:QJ [false] 11=some []:=by simp[QJ]);exact(next_11n B kv w f h).mono λe' w' ⟨kv',a,b,c⟩=>⟨kv',_,_,a,sl b,.inr ⟨_,e,.inl rfl,rfl,rfl,b⟩,c⟩
   obtain⟨q,z,rfl⟩:∃q z,m=q++[z]:=⟨m.dropLast,m.getLast g,(Mj g).symm⟩;(have r:N q<=4194304:=by simp at d;omega);rw[Lx,Rk,Iy]at h;have e:QJ (false::(q++[z])) 11=some (false::q):=stepM_x _ (false::q) z rfl;exact(next_11 B kv _ _ w f (by simpa using r) h).mono λe' w' ⟨kv',a,b,c⟩=>⟨kv',_,_,a,sl b,.inr ⟨_,e,.inr ⟨_,rfl⟩,rfl,rfl,b⟩,c⟩
 have e:QJ (false::m) op=some (false::m):=by simp only[QJ,p,o,l,k,if_false];simp
 exact(next_same B kv _ op w f (by omega) (by omega) o l k h).mono λe' w' ⟨kv',a,b,c⟩=>⟨kv',_,_,a,sl b,.inr ⟨_,e,.inr ⟨_,rfl⟩,rfl,rfl,b⟩,c⟩
structure So (g:Nat)(kv:Vu)(n:List Bool)(w:J):Prop where
 c0:w.cell? ⟨g,0,none⟩=some kv
 c1:w.cell? ⟨g,1,none⟩=some (G n.isEmpty)
 c2:w.cell? ⟨g,2,none⟩=some (G false)
 fz:∀i,w.frozen? ⟨g,i,none⟩=false
 own:w.ownsRow (g+1) 2 1 kv (Ga n).length (I (Ga n))
 lt:g<w.heap.size
theorem So.keep {kv:Vu}(h:So g kv n w)(a:Below w.heap.size w w1):So g kv n w1 :=
 ⟨(a.cell (p:=⟨g,0,none⟩) h.lt).trans h.c0,(a.cell (p:=⟨g,1,none⟩) h.lt).trans h.c1,(a.cell (p:=⟨g,2,none⟩) h.lt).trans h.c2,λi=>(a.frozen (p:=⟨g,i,none⟩) h.lt).trans (h.fz i),own_keep h.own a (own_lt h.own),Hw h.lt a.size⟩
theorem So.drew {kv:Vu}(h:So g kv n w):So g kv n w.drew:=⟨h.c0,h.c1,h.c2,h.fz,h.own,h.lt⟩
theorem So.set {kv a:Vu}{d:List Bool}{b:J}{m l k:Vu}(j:b.cell? ⟨g,0,none⟩=some m)(p:b.cell? ⟨g,1,none⟩=some l)(o:b.cell? ⟨g,2,none⟩=some k)(n:∀i,b.frozen? ⟨g,i,none⟩=false)(f:b.ownsRow (g+1) 2 1 a (Ga d).length (I (Ga d))):So g a d (((b.setCell ⟨g,0,none⟩ a).setCell ⟨g,1,none⟩ (G d.isEmpty)).setCell ⟨g,2,none⟩ (G false)):=by
 have c:a.ownBlock≠some g:=λe=>by have:=(f.lt g e).1;omega
 refine⟨QE (QE (QY j) (by omega)) (by omega),QE (QY (QE p (by omega))) (by omega),QY (QE (QE o (by omega)) (by omega)),λi=>by simp only[Tj];exact n i,Jf (Jf (Jf f c) c) c,?_⟩;have:=Kk b _ j;simpa using this
theorem so_start (w:J):So w.heap.size (S none 0 0) [false] (w.alloc (Fc #[S none 0 0,G false,G false] 200)) :=
 ⟨Qf rfl rfl,Qf rfl rfl,Qf rfl rfl,λi=>Lw _ _ _ _,World.ownsRow_nil _ _ _ _,by simp⟩
theorem sclosed_c (a:Option Addr)(c:Nat)(xs:List In)(w:J)(hn:N xs<=1048576)(hl:∀i,i<N xs->(xs.getD i I0).l.length<=1048576)(hv:∀i,0<=(xs.getD i I0).v)(hL:Lst w a xs):Ec Q 57 #[S a (N xs) c] w λe w'=>e=Z (G (QF xs))/\Below w.heap.size w w':=by
 have HL:=Hm hL;have Hl:=Hm hl;have Hv:=Hm hv;clear hL hl hv;have HS:=Hm (so_start w);go_enter func57,ntmps57;go_wp2_with fail
 go_loopw [4] (λi wr=>∃(k:Nat) (n:List Bool) (kv:Vu),k<=N xs/\i=U O k/\So w.heap.size kv n wr/\hdF n/\Below w.heap.size w wr/\QF xs=goM n (xs.drop k)/\N n<=k+1) (λi _=>N xs-(intOf i).toNat)
 case atStart=>exact⟨0,[false],_,Kz _,rfl,HS.o,.inr ⟨_,rfl⟩,bFz.alloc lRz _,rfl,by simp⟩
 obtain⟨k,n,kv,hk,rfl,E,hd,H,u,a9⟩:=hrel;clear HS;by_cases j:k<N xs
 . (have ba:(k:Int)<(N xs:Int):=by omega);rcases HL.o with F|⟨b,o,ea,hc⟩
   . subst F;simp at j
   (have a5:b<w.heap.size:=by obtain⟨la,lc,y,_⟩:=hc k j;exact Kk w _ y);obtain⟨la,lc,y,c1,c2,c3,c4,c5⟩:=(hc k j).keep H;have ae:=Kk wr _ y;subst ea;rw[Xv xs k j]at u;have V:=Hl.o k j;have A:=Hv.o k;obtain⟨x,F⟩:∃x,x=xs.getD k I0:=⟨_,rfl⟩;rw[<- F]at y c1 c2 c3 c4 c5 u V A;have HI:=Hm (good_c x la lc wr A (by omega) c5);have SO:=Hm E;have L:=Hm H;have D:=Hm u;have HD:=Hm hd;clear F hc c5 E H u hd HL Hl Hv;generalize X:gd x=gx at *;cases gx
   . (go_wp2_with fail);refine HI.o.mono ?_;rintro e z ⟨rfl,f⟩;have ab:Below w.heap.size w z:=L.o.trans (f.mono L.o.size);clear f;go_wp2;go_ret;exact⟨by rw[D.o];simp[goM,X],ab⟩
   (go_wp2_with fail);refine HI.o.mono ?_;rintro e z ⟨rfl,f⟩;have d:=SO.o.keep f;have C:Below w.heap.size w z:=L.o.trans (f.mono L.o.size);have d0:z.cell? ⟨b,o+k*5,none⟩=some (U O x.op):=(f.cell (p:=⟨b,o+k*5,none⟩) ae).trans y;have f0:=d.c0;have f1:=d.c1;have f2:=d.c2;have ff:=d.fz;obtain⟨R,M,rfl⟩:=QG d.own;have NS:=Hm (λ(W:J) (hw:So w.heap.size (S R (Ga n).length M) n W)=>next_c (w.heap.size+1) (S R (Ga n).length M) n x.op W hw.lt (by omega) HD.o hw.own);have q:=Hm d;have s:=Hm C;clear f HI SO y c1 c2 c3 c4 d C;go_wp2;go_region_with (refine(NS.o _ (by first|exact q.o|exact q.o.drew|exact q.o.drew.drew)).mono ?_;rintro e t ⟨va,vn,vc,dn,bd,rfl,af,m⟩;have g0:t.cell? ⟨w.heap.size,0,none⟩=some (S R (Ga n).length M):=(m.cell (p:=⟨w.heap.size,0,none⟩) (If _)).trans f0;have g1:t.cell? ⟨w.heap.size,1,none⟩=some (G n.isEmpty):=(m.cell (p:=⟨w.heap.size,1,none⟩) (If _)).trans f1;have g2:t.cell? ⟨w.heap.size,2,none⟩=some (G false):=(m.cell (p:=⟨w.heap.size,2,none⟩) (If _)).trans f2;have gf:∀i,t.frozen? ⟨w.heap.size,i,none⟩=false:=λi=>(m.frozen (p:=⟨w.heap.size,i,none⟩) (If _)).trans (ff i))
   all_goals
    have I:Below w.heap.size w (((t.setCell ⟨w.heap.size,0,none⟩ (S va vn vc)).setCell ⟨w.heap.size,1,none⟩ (G dn)).setCell ⟨w.heap.size,2,none⟩ (G bd)):=((((s.o.trans (⟨m.os,m.tape,m.output,m.size,λk hk=>m.block k (by omega)⟩:Below w.heap.size z t))).setCell lRz _).setCell lRz _).setCell lRz _
    rcases af with ⟨g,r⟩|⟨n',g,B,r,Y,ho⟩
    . subst r;have B5:=Hm I;clear m I NS q s
      go_wp2
      go_ret
      exact⟨by rw[D.o];simp[goM,X,g],B5.o⟩
    . subst r Y;have S3:=Hm (So.set (kv:=S va vn vc) g0 g1 g2 gf ho);have B5:=Hm I;have ao:=Hm B;have az:=stepM_len g
      have aj:Hid (QF xs=goM n' (xs.drop (k+1))):=by
       show QF xs=_
       rw[D.o];simp[goM,X,g]
      clear m I NS q s ho B HD g
      go_wp2
      go_roundw
      case rel=>exact⟨k+1,n',_,by omega,by go_num,S3.o,ao.o,B5.o,aj.o,by omega⟩
      case measure=>simp[intOf];omega
 have e:k=N xs:=by omega
 subst e;have c1:=E.c1;have D:Hid (QF xs=n.isEmpty):=by show QF xs=_;rw[u,Ld lRz];cases n<;>simp[goM]
 clear u E HL Hl Hv;generalize n.isEmpty=dd at *;go_wp2;go_ret;exact⟨by rw[D.o];rfl,H⟩
def Up (B:Nat)(w w':J):Prop:=∀k,B<=k->k<w.heap.size->w'.heap[k]?=w.heap[k]?
theorem Up.cell {o:Nat}{w w'}{v:Vu}(u:Up B w w')(a:B<=b)(h:w.cell? ⟨b,o,none⟩=some v):w'.cell? ⟨b,o,none⟩=some v :=
 (World.cell?_of_block (u b a (Kk w _ h))).trans h
theorem Qa {w w'}(h:Below w.heap.size w w'):Up B w w':=λk _ hk=>h.block k hk
theorem Q5 {o:Nat}{v:Vu}(h:g<B):Up B w (w.setCell ⟨g,o,none⟩ v):=λk hk _=>Mx _ _ _ _ (λe=>by simp at e;omega)
theorem Up.size_trans {B w w' w''}(h:Up B w w')(k:Up B w' w'')(a:w.heap.size<=w'.heap.size):Up B w w'':=λj hj hl=>(k j hj (by omega)).trans (h j hj hl)
def HI (k:IntKind)(B:Nat)(w:J)(a:Option Addr)(xs:List Int):Prop:=xs=[]\/∃b off,a=some ⟨b,off,none⟩/\B<=b/\∀i,i<N xs->w.cell? ⟨b,off+i,none⟩=some (U k (xs.getD i 0))
theorem HI.up {k:IntKind}{B w w' a xs}(h:HI k B w a xs)(u:Up B w w'):HI k B w' a xs:=by
 rcases h with h|⟨b,o,e,c,d⟩
 . exact .inl h
 exact .inr ⟨b,o,e,c,λi hi=>u.cell c (d i hi)⟩
theorem HI.mono {k:IntKind}{w a xs}(h:HI k B w a xs)(f:B'<=B):HI k B' w a xs:=by
 rcases h with h|⟨b,o,e,d,c⟩
 . exact .inl h
 exact .inr ⟨b,o,e,by omega,c⟩
theorem HI.has {B w a xs}(h:HI O B w a xs):Has w a xs:=by
 rcases h with h|⟨b,o,e,d,c⟩
 . exact .inl h
 exact .inr ⟨b,o,e,c⟩
structure Qg where
 min:Int
 max:Int
 has:Bool
variable {x:Qg}
def Qg.z:Qg:=⟨0,0,false⟩
def Qg.Is (B:Nat)(w:J)(x:Qg):Prop:=True
def Qg.At (B:Nat)(w:J)(b o:Nat)(x:Qg):Prop:=(w.cell? ⟨b,o,none⟩=some (U O x.min)/\w.cell? ⟨b,o+1,none⟩=some (U O x.max)/\w.cell? ⟨b,o+2,none⟩=some (G x.has))/\Qg.Is B w x
def Qg.Ls (B:Nat)(w:J)(a:Option Addr)(xs:List Qg):Prop:=xs=[]\/∃b off,a=some ⟨b,off,none⟩/\B<=b/\∀i,i<N xs->Qg.At B w b (off+i*3) (xs.getD i Qg.z)
theorem Qg.Is.up (h:Qg.Is B w x)(u:Up B w w'):Qg.Is B w' x:=h
theorem Qg.Is.mono (h:Qg.Is B w x)(a:B'<=B):Qg.Is B' w x:=h
theorem Qg.At.up {o:Nat}(h:Qg.At B w b o x)(u:Up B w w')(a:B<=b):Qg.At B w' b o x:=by
 obtain⟨⟨f,d,c⟩,hi⟩:=h;exact⟨⟨u.cell a f,u.cell a d,u.cell a c⟩,hi.up u⟩
theorem Qg.At.mono {o:Nat}(h:Qg.At B w b o x)(c:B'<=B):Qg.At B' w b o x:=by
 obtain⟨a,hi⟩:=h;exact⟨a,hi.mono c⟩
theorem Qg.Ls.up {xs:List Qg}(h:Qg.Ls B w a xs)(u:Up B w w'):Qg.Ls B w' a xs:=by
 rcases h with h|⟨b,o,e,c,d⟩
 . exact .inl h
 exact .inr ⟨b,o,e,c,λi hi=>(d i hi).up u c⟩
theorem Qg.Ls.mono {xs:List Qg}(h:Qg.Ls B w a xs)(d:B'<=B):Qg.Ls B' w a xs:=by
 rcases h with h|⟨b,o,e,f,c⟩
 . exact .inl h
 exact .inr ⟨b,o,e,by omega,λi hi=>(c i hi).mono d⟩
def Qg.LB (Nz0:Nat)(x:Qg):Prop:=True
structure Qx where
 ty:Int
 mu:Bool
def Qx.z:Qx:=⟨0,false⟩
def Qx.Is (B:Nat)(w:J)(x:Qx):Prop:=True
def Qx.LB (Nz0:Nat)(x:Qx):Prop:=True
structure Qe where
 ps:List Int
 rs:List Int
def Qe.z:Qe:=⟨[],[]⟩
def Qe.Is (B:Nat)(w:J)(x:Qe)(a1:Option Addr)(a2:Option Addr):Prop:=HI O B w a1 x.ps/\HI O B w a2 x.rs
def Qe.At (B:Nat)(w:J)(b o:Nat)(x:Qe):Prop:=∃a1 c1 a2 c2,(w.cell? ⟨b,o,none⟩=some (S a1 (N x.ps) c1)/\w.cell? ⟨b,o+1,none⟩=some (S a2 (N x.rs) c2))/\Qe.Is B w x a1 a2
def Qe.Ls (B:Nat)(w:J)(a:Option Addr)(xs:List Qe):Prop:=xs=[]\/∃b off,a=some ⟨b,off,none⟩/\B<=b/\∀i,i<N xs->Qe.At B w b (off+i*2) (xs.getD i Qe.z)
theorem Qe.Is.up {x:Qe}(h:Qe.Is B w x a1 a2)(u:Up B w w'):Qe.Is B w' x a1 a2:=by
 obtain⟨b,a⟩:=h;exact⟨b.up u,a.up u⟩
theorem Qe.Is.mono {x:Qe}(h:Qe.Is B w x a1 a2)(a:B'<=B):Qe.Is B' w x a1 a2:=by
 obtain⟨c,b⟩:=h;exact⟨c.mono a,b.mono a⟩
theorem Qe.At.up {o:Nat}{x:Qe}(h:Qe.At B w b o x)(u:Up B w w')(a:B<=b):Qe.At B w' b o x:=by
 obtain⟨a1,g,a2,f,⟨d,c⟩,hi⟩:=h;exact⟨a1,g,a2,f,⟨u.cell a d,u.cell a c⟩,hi.up u⟩
theorem Qe.At.mono {o:Nat}{x:Qe}(h:Qe.At B w b o x)(c:B'<=B):Qe.At B' w b o x:=by
 obtain⟨a1,f,a2,d,a,hi⟩:=h;exact⟨a1,f,a2,d,a,hi.mono c⟩
theorem Qe.Ls.up {xs:List Qe}(h:Qe.Ls B w a xs)(u:Up B w w'):Qe.Ls B w' a xs:=by
 rcases h with h|⟨b,o,e,c,d⟩
 . exact .inl h
 exact .inr ⟨b,o,e,c,λi hi=>(d i hi).up u c⟩
theorem Qe.Ls.mono {xs:List Qe}(h:Qe.Ls B w a xs)(d:B'<=B):Qe.Ls B' w a xs:=by
 rcases h with h|⟨b,o,e,f,c⟩
 . exact .inl h
 exact .inr ⟨b,o,e,by omega,λi hi=>(c i hi).mono d⟩
def Qe.LB (Nz0:Nat)(x:Qe):Prop:=N x.ps<=Nz0/\N x.rs<=Nz0
def In.Is (B:Nat)(w:J)(x:In)(a1:Option Addr):Prop:=HI O B w a1 x.l
def In.At (B:Nat)(w:J)(b o:Nat)(x:In):Prop:=∃a1 c1,(w.cell? ⟨b,o,none⟩=some (U O x.op)/\w.cell? ⟨b,o+1,none⟩=some (U O x.a)/\w.cell? ⟨b,o+2,none⟩=some (U O x.b)/\w.cell? ⟨b,o+3,none⟩=some (U Ou x.v)/\w.cell? ⟨b,o+4,none⟩=some (S a1 (N x.l) c1))/\In.Is B w x a1
def In.Ls (B:Nat)(w:J)(a:Option Addr)(xs:List In):Prop:=xs=[]\/∃b off,a=some ⟨b,off,none⟩/\B<=b/\∀i,i<N xs->In.At B w b (off+i*5) (xs.getD i I0)
theorem In.Is.up {x:In}(h:In.Is B w x a1)(u:Up B w w'):In.Is B w' x a1:=by
 have a:=h;exact HI.up a u
theorem In.Is.mono {x:In}(h:In.Is B w x a1)(a:B'<=B):In.Is B' w x a1:=by
 have b:=h;exact HI.mono b a
theorem In.At.up {o:Nat}{x:In}(h:In.At B w b o x)(u:Up B w w')(a:B<=b):In.At B w' b o x:=by
 obtain⟨a1,k,⟨j,g,f,d,c⟩,hi⟩:=h;exact⟨a1,k,⟨u.cell a j,u.cell a g,u.cell a f,u.cell a d,u.cell a c⟩,hi.up u⟩
theorem In.At.mono {o:Nat}{x:In}(h:In.At B w b o x)(c:B'<=B):In.At B' w b o x:=by
 obtain⟨a1,d,a,hi⟩:=h;exact⟨a1,d,a,hi.mono c⟩
theorem In.Ls.up (h:In.Ls B w a xs)(u:Up B w w'):In.Ls B w' a xs:=by
 rcases h with h|⟨b,o,e,c,d⟩
 . exact .inl h
 exact .inr ⟨b,o,e,c,λi hi=>(d i hi).up u c⟩
theorem In.Ls.mono (h:In.Ls B w a xs)(d:B'<=B):In.Ls B' w a xs:=by
 rcases h with h|⟨b,o,e,f,c⟩
 . exact .inl h
 exact .inr ⟨b,o,e,by omega,λi hi=>(c i hi).mono d⟩
def In.LB (Nz0:Nat)(x:In):Prop:=N x.l<=Nz0
structure Imp where
 mod:ByteArray
 nm:ByteArray
 kind:Int
 ty:Int
 lim:Qg
 gl:Qx
def Imp.z:Imp:=⟨⟨#[]⟩,⟨#[]⟩,0,0,Qg.z,Qx.z⟩
def Imp.Is (B:Nat)(w:J)(x:Imp):Prop:=True
def Imp.At (B:Nat)(w:J)(b o:Nat)(x:Imp):Prop:=(w.cell? ⟨b,o,none⟩=some (Xs x.mod)/\w.cell? ⟨b,o+1,none⟩=some (Xs x.nm)/\w.cell? ⟨b,o+2,none⟩=some (U O x.kind)/\w.cell? ⟨b,o+3,none⟩=some (U O x.ty)/\w.cell? ⟨b,o+4,none⟩=some (U O x.lim.min)/\w.cell? ⟨b,o+5,none⟩=some (U O x.lim.max)/\w.cell? ⟨b,o+6,none⟩=some (G x.lim.has)/\w.cell? ⟨b,o+7,none⟩=some (U O x.gl.ty)/\w.cell? ⟨b,o+8,none⟩=some (G x.gl.mu))/\Imp.Is B w x
def Imp.Ls (B:Nat)(w:J)(a:Option Addr)(xs:List Imp):Prop:=xs=[]\/∃b off,a=some ⟨b,off,none⟩/\B<=b/\∀i,i<N xs->Imp.At B w b (off+i*9) (xs.getD i Imp.z)
theorem Imp.Is.up {x:Imp}(h:Imp.Is B w x)(u:Up B w w'):Imp.Is B w' x:=h
theorem Imp.Is.mono {x:Imp}(h:Imp.Is B w x)(a:B'<=B):Imp.Is B' w x:=h
theorem Imp.At.up {o:Nat}{x:Imp}(h:Imp.At B w b o x)(u:Up B w w')(a:B<=b):Imp.At B w' b o x:=by
 obtain⟨⟨n,m,l,k,j,g,f,d,c⟩,hi⟩:=h;exact⟨⟨u.cell a n,u.cell a m,u.cell a l,u.cell a k,u.cell a j,u.cell a g,u.cell a f,u.cell a d,u.cell a c⟩,hi.up u⟩
theorem Imp.At.mono {o:Nat}{x:Imp}(h:Imp.At B w b o x)(c:B'<=B):Imp.At B' w b o x:=by
 obtain⟨a,hi⟩:=h;exact⟨a,hi.mono c⟩
theorem Imp.Ls.up {xs:List Imp}(h:Imp.Ls B w a xs)(u:Up B w w'):Imp.Ls B w' a xs:=by
 rcases h with h|⟨b,o,e,c,d⟩
 . exact .inl h
 exact .inr ⟨b,o,e,c,λi hi=>(d i hi).up u c⟩
theorem Imp.Ls.mono {xs:List Imp}(h:Imp.Ls B w a xs)(d:B'<=B):Imp.Ls B' w a xs:=by
 rcases h with h|⟨b,o,e,f,c⟩
 . exact .inl h
 exact .inr ⟨b,o,e,by omega,λi hi=>(c i hi).mono d⟩
def Imp.LB (Nz0:Nat)(x:Imp):Prop:=x.mod.size<=Nz0/\x.nm.size<=Nz0
structure Qn where
 ty:Qx
 ini:List In
def Qn.z:Qn:=⟨Qx.z,[]⟩
def Qn.Is (B:Nat)(w:J)(x:Qn)(a1:Option Addr):Prop:=In.Ls B w a1 x.ini
def Qn.At (B:Nat)(w:J)(b o:Nat)(x:Qn):Prop:=∃a1 c1,(w.cell? ⟨b,o,none⟩=some (U O x.ty.ty)/\w.cell? ⟨b,o+1,none⟩=some (G x.ty.mu)/\w.cell? ⟨b,o+2,none⟩=some (S a1 (N x.ini) c1))/\Qn.Is B w x a1
def Qn.Ls (B:Nat)(w:J)(a:Option Addr)(xs:List Qn):Prop:=xs=[]\/∃b off,a=some ⟨b,off,none⟩/\B<=b/\∀i,i<N xs->Qn.At B w b (off+i*3) (xs.getD i Qn.z)
theorem Qn.Is.up {x:Qn}(h:Qn.Is B w x a1)(u:Up B w w'):Qn.Is B w' x a1:=by
 have a:=h;exact In.Ls.up a u
theorem Qn.Is.mono {x:Qn}(h:Qn.Is B w x a1)(a:B'<=B):Qn.Is B' w x a1:=by
 have b:=h;exact In.Ls.mono b a
theorem Qn.At.up {o:Nat}{x:Qn}(h:Qn.At B w b o x)(u:Up B w w')(a:B<=b):Qn.At B w' b o x:=by
 obtain⟨a1,g,⟨f,d,c⟩,hi⟩:=h;exact⟨a1,g,⟨u.cell a f,u.cell a d,u.cell a c⟩,hi.up u⟩
theorem Qn.At.mono {o:Nat}{x:Qn}(h:Qn.At B w b o x)(c:B'<=B):Qn.At B' w b o x:=by
 obtain⟨a1,d,a,hi⟩:=h;exact⟨a1,d,a,hi.mono c⟩
theorem Qn.Ls.up {xs:List Qn}(h:Qn.Ls B w a xs)(u:Up B w w'):Qn.Ls B w' a xs:=by
 rcases h with h|⟨b,o,e,c,d⟩
 . exact .inl h
 exact .inr ⟨b,o,e,c,λi hi=>(d i hi).up u c⟩
theorem Qn.Ls.mono {xs:List Qn}(h:Qn.Ls B w a xs)(d:B'<=B):Qn.Ls B' w a xs:=by
 rcases h with h|⟨b,o,e,f,c⟩
 . exact .inl h
 exact .inr ⟨b,o,e,by omega,λi hi=>(c i hi).mono d⟩
def Qn.LB (Nz0:Nat)(x:Qn):Prop:=(N x.ini<=Nz0/\∀i,i<N x.ini->In.LB Nz0 (x.ini.getD i I0))
structure Exp where
 nm:ByteArray
 kind:Int
 ix:Int
def Exp.z:Exp:=⟨⟨#[]⟩,0,0⟩
def Exp.Is (B:Nat)(w:J)(x:Exp):Prop:=True
def Exp.At (B:Nat)(w:J)(b o:Nat)(x:Exp):Prop:=(w.cell? ⟨b,o,none⟩=some (Xs x.nm)/\w.cell? ⟨b,o+1,none⟩=some (U O x.kind)/\w.cell? ⟨b,o+2,none⟩=some (U O x.ix))/\Exp.Is B w x
def Exp.Ls (B:Nat)(w:J)(a:Option Addr)(xs:List Exp):Prop:=xs=[]\/∃b off,a=some ⟨b,off,none⟩/\B<=b/\∀i,i<N xs->Exp.At B w b (off+i*3) (xs.getD i Exp.z)
theorem Exp.Is.up {x:Exp}(h:Exp.Is B w x)(u:Up B w w'):Exp.Is B w' x:=h
theorem Exp.Is.mono {x:Exp}(h:Exp.Is B w x)(a:B'<=B):Exp.Is B' w x:=h
theorem Exp.At.up {o:Nat}{x:Exp}(h:Exp.At B w b o x)(u:Up B w w')(a:B<=b):Exp.At B w' b o x:=by
 obtain⟨⟨f,d,c⟩,hi⟩:=h;exact⟨⟨u.cell a f,u.cell a d,u.cell a c⟩,hi.up u⟩
theorem Exp.At.mono {o:Nat}{x:Exp}(h:Exp.At B w b o x)(c:B'<=B):Exp.At B' w b o x:=by
 obtain⟨a,hi⟩:=h;exact⟨a,hi.mono c⟩
theorem Exp.Ls.up {xs:List Exp}(h:Exp.Ls B w a xs)(u:Up B w w'):Exp.Ls B w' a xs:=by
 rcases h with h|⟨b,o,e,c,d⟩
 . exact .inl h
 exact .inr ⟨b,o,e,c,λi hi=>(d i hi).up u c⟩
theorem Exp.Ls.mono {xs:List Exp}(h:Exp.Ls B w a xs)(d:B'<=B):Exp.Ls B' w a xs:=by
 rcases h with h|⟨b,o,e,f,c⟩
 . exact .inl h
 exact .inr ⟨b,o,e,by omega,λi hi=>(c i hi).mono d⟩
def Exp.LB (Nz0:Nat)(x:Exp):Prop:=x.nm.size<=Nz0
structure Ele where
 off:List In
 fs:List Int
def Ele.z:Ele:=⟨[],[]⟩
def Ele.Is (B:Nat)(w:J)(x:Ele)(a1:Option Addr)(a2:Option Addr):Prop:=In.Ls B w a1 x.off/\HI O B w a2 x.fs
def Ele.At (B:Nat)(w:J)(b o:Nat)(x:Ele):Prop:=∃a1 c1 a2 c2,(w.cell? ⟨b,o,none⟩=some (S a1 (N x.off) c1)/\w.cell? ⟨b,o+1,none⟩=some (S a2 (N x.fs) c2))/\Ele.Is B w x a1 a2
def Ele.Ls (B:Nat)(w:J)(a:Option Addr)(xs:List Ele):Prop:=xs=[]\/∃b off,a=some ⟨b,off,none⟩/\B<=b/\∀i,i<N xs->Ele.At B w b (off+i*2) (xs.getD i Ele.z)
theorem Ele.Is.up {x:Ele}(h:Ele.Is B w x a1 a2)(u:Up B w w'):Ele.Is B w' x a1 a2:=by
 obtain⟨b,a⟩:=h;exact⟨b.up u,a.up u⟩
theorem Ele.Is.mono {x:Ele}(h:Ele.Is B w x a1 a2)(a:B'<=B):Ele.Is B' w x a1 a2:=by
 obtain⟨c,b⟩:=h;exact⟨c.mono a,b.mono a⟩
theorem Ele.At.up {o:Nat}{x:Ele}(h:Ele.At B w b o x)(u:Up B w w')(a:B<=b):Ele.At B w' b o x:=by
 obtain⟨a1,g,a2,f,⟨d,c⟩,hi⟩:=h;exact⟨a1,g,a2,f,⟨u.cell a d,u.cell a c⟩,hi.up u⟩
theorem Ele.At.mono {o:Nat}{x:Ele}(h:Ele.At B w b o x)(c:B'<=B):Ele.At B' w b o x:=by
 obtain⟨a1,f,a2,d,a,hi⟩:=h;exact⟨a1,f,a2,d,a,hi.mono c⟩
theorem Ele.Ls.up {xs:List Ele}(h:Ele.Ls B w a xs)(u:Up B w w'):Ele.Ls B w' a xs:=by
 rcases h with h|⟨b,o,e,c,d⟩
 . exact .inl h
 exact .inr ⟨b,o,e,c,λi hi=>(d i hi).up u c⟩
theorem Ele.Ls.mono {xs:List Ele}(h:Ele.Ls B w a xs)(d:B'<=B):Ele.Ls B' w a xs:=by
 rcases h with h|⟨b,o,e,f,c⟩
 . exact .inl h
 exact .inr ⟨b,o,e,by omega,λi hi=>(c i hi).mono d⟩
def Ele.LB (Nz0:Nat)(x:Ele):Prop:=(N x.off<=Nz0/\∀i,i<N x.off->In.LB Nz0 (x.off.getD i I0))/\N x.fs<=Nz0
structure Grp where
 n:Int
 ty:Int
def Grp.z:Grp:=⟨0,0⟩
def Grp.Is (B:Nat)(w:J)(x:Grp):Prop:=True
def Grp.At (B:Nat)(w:J)(b o:Nat)(x:Grp):Prop:=(w.cell? ⟨b,o,none⟩=some (U O x.n)/\w.cell? ⟨b,o+1,none⟩=some (U O x.ty))/\Grp.Is B w x
def Grp.Ls (B:Nat)(w:J)(a:Option Addr)(xs:List Grp):Prop:=xs=[]\/∃b off,a=some ⟨b,off,none⟩/\B<=b/\∀i,i<N xs->Grp.At B w b (off+i*2) (xs.getD i Grp.z)
theorem Grp.Is.up {x:Grp}(h:Grp.Is B w x)(u:Up B w w'):Grp.Is B w' x:=h
theorem Grp.Is.mono {x:Grp}(h:Grp.Is B w x)(a:B'<=B):Grp.Is B' w x:=h
theorem Grp.At.up {o:Nat}{x:Grp}(h:Grp.At B w b o x)(u:Up B w w')(a:B<=b):Grp.At B w' b o x:=by
 obtain⟨⟨d,c⟩,hi⟩:=h;exact⟨⟨u.cell a d,u.cell a c⟩,hi.up u⟩
theorem Grp.At.mono {o:Nat}{x:Grp}(h:Grp.At B w b o x)(c:B'<=B):Grp.At B' w b o x:=by
 obtain⟨a,hi⟩:=h;exact⟨a,hi.mono c⟩
theorem Grp.Ls.up {xs:List Grp}(h:Grp.Ls B w a xs)(u:Up B w w'):Grp.Ls B w' a xs:=by
 rcases h with h|⟨b,o,e,c,d⟩
 . exact .inl h
 exact .inr ⟨b,o,e,c,λi hi=>(d i hi).up u c⟩
theorem Grp.Ls.mono {xs:List Grp}(h:Grp.Ls B w a xs)(d:B'<=B):Grp.Ls B' w a xs:=by
 rcases h with h|⟨b,o,e,f,c⟩
 . exact .inl h
 exact .inr ⟨b,o,e,by omega,λi hi=>(c i hi).mono d⟩
def Grp.LB (Nz0:Nat)(x:Grp):Prop:=True
structure Cod where
 locs:List Grp
 body:List In
def Cod.z:Cod:=⟨[],[]⟩
def Cod.Is (B:Nat)(w:J)(x:Cod)(a1:Option Addr)(a2:Option Addr):Prop:=Grp.Ls B w a1 x.locs/\In.Ls B w a2 x.body
def Cod.At (B:Nat)(w:J)(b o:Nat)(x:Cod):Prop:=∃a1 c1 a2 c2,(w.cell? ⟨b,o,none⟩=some (S a1 (N x.locs) c1)/\w.cell? ⟨b,o+1,none⟩=some (S a2 (N x.body) c2))/\Cod.Is B w x a1 a2
def Cod.Ls (B:Nat)(w:J)(a:Option Addr)(xs:List Cod):Prop:=xs=[]\/∃b off,a=some ⟨b,off,none⟩/\B<=b/\∀i,i<N xs->Cod.At B w b (off+i*2) (xs.getD i Cod.z)
theorem Cod.Is.up {x:Cod}(h:Cod.Is B w x a1 a2)(u:Up B w w'):Cod.Is B w' x a1 a2:=by
 obtain⟨b,a⟩:=h;exact⟨b.up u,a.up u⟩
theorem Cod.Is.mono {x:Cod}(h:Cod.Is B w x a1 a2)(a:B'<=B):Cod.Is B' w x a1 a2:=by
 obtain⟨c,b⟩:=h;exact⟨c.mono a,b.mono a⟩
theorem Cod.At.up {o:Nat}{x:Cod}(h:Cod.At B w b o x)(u:Up B w w')(a:B<=b):Cod.At B w' b o x:=by
 obtain⟨a1,g,a2,f,⟨d,c⟩,hi⟩:=h;exact⟨a1,g,a2,f,⟨u.cell a d,u.cell a c⟩,hi.up u⟩
theorem Cod.At.mono {o:Nat}{x:Cod}(h:Cod.At B w b o x)(c:B'<=B):Cod.At B' w b o x:=by
 obtain⟨a1,f,a2,d,a,hi⟩:=h;exact⟨a1,f,a2,d,a,hi.mono c⟩
theorem Cod.Ls.up {xs:List Cod}(h:Cod.Ls B w a xs)(u:Up B w w'):Cod.Ls B w' a xs:=by
 rcases h with h|⟨b,o,e,c,d⟩
 . exact .inl h
 exact .inr ⟨b,o,e,c,λi hi=>(d i hi).up u c⟩
theorem Cod.Ls.mono {xs:List Cod}(h:Cod.Ls B w a xs)(d:B'<=B):Cod.Ls B' w a xs:=by
 rcases h with h|⟨b,o,e,f,c⟩
 . exact .inl h
 exact .inr ⟨b,o,e,by omega,λi hi=>(c i hi).mono d⟩
def Cod.LB (Nz0:Nat)(x:Cod):Prop:=(N x.locs<=Nz0/\∀i,i<N x.locs->Grp.LB Nz0 (x.locs.getD i Grp.z))/\(N x.body<=Nz0/\∀i,i<N x.body->In.LB Nz0 (x.body.getD i I0))
structure Dat where
 off:List In
 bs:List Int
def Dat.z:Dat:=⟨[],[]⟩
def Dat.Is (B:Nat)(w:J)(x:Dat)(a1:Option Addr)(a2:Option Addr):Prop:=In.Ls B w a1 x.off/\HI .u8 B w a2 x.bs
def Dat.At (B:Nat)(w:J)(b o:Nat)(x:Dat):Prop:=∃a1 c1 a2 c2,(w.cell? ⟨b,o,none⟩=some (S a1 (N x.off) c1)/\w.cell? ⟨b,o+1,none⟩=some (S a2 (N x.bs) c2))/\Dat.Is B w x a1 a2
def Dat.Ls (B:Nat)(w:J)(a:Option Addr)(xs:List Dat):Prop:=xs=[]\/∃b off,a=some ⟨b,off,none⟩/\B<=b/\∀i,i<N xs->Dat.At B w b (off+i*2) (xs.getD i Dat.z)
theorem Dat.Is.up {x:Dat}(h:Dat.Is B w x a1 a2)(u:Up B w w'):Dat.Is B w' x a1 a2:=by
 obtain⟨b,a⟩:=h;exact⟨b.up u,a.up u⟩
theorem Dat.Is.mono {x:Dat}(h:Dat.Is B w x a1 a2)(a:B'<=B):Dat.Is B' w x a1 a2:=by
 obtain⟨c,b⟩:=h;exact⟨c.mono a,b.mono a⟩
theorem Dat.At.up {o:Nat}{x:Dat}(h:Dat.At B w b o x)(u:Up B w w')(a:B<=b):Dat.At B w' b o x:=by
 obtain⟨a1,g,a2,f,⟨d,c⟩,hi⟩:=h;exact⟨a1,g,a2,f,⟨u.cell a d,u.cell a c⟩,hi.up u⟩
theorem Dat.At.mono {o:Nat}{x:Dat}(h:Dat.At B w b o x)(c:B'<=B):Dat.At B' w b o x:=by
 obtain⟨a1,f,a2,d,a,hi⟩:=h;exact⟨a1,f,a2,d,a,hi.mono c⟩
theorem Dat.Ls.up {xs:List Dat}(h:Dat.Ls B w a xs)(u:Up B w w'):Dat.Ls B w' a xs:=by
 rcases h with h|⟨b,o,e,c,d⟩
 . exact .inl h
 exact .inr ⟨b,o,e,c,λi hi=>(d i hi).up u c⟩
theorem Dat.Ls.mono {xs:List Dat}(h:Dat.Ls B w a xs)(d:B'<=B):Dat.Ls B' w a xs:=by
 rcases h with h|⟨b,o,e,f,c⟩
 . exact .inl h
 exact .inr ⟨b,o,e,by omega,λi hi=>(c i hi).mono d⟩
def Dat.LB (Nz0:Nat)(x:Dat):Prop:=(N x.off<=Nz0/\∀i,i<N x.off->In.LB Nz0 (x.off.getD i I0))/\N x.bs<=Nz0
structure Cus where
 aft:Int
 nm:ByteArray
 bs:List Int
def Cus.z:Cus:=⟨0,⟨#[]⟩,[]⟩
def Cus.Is (B:Nat)(w:J)(x:Cus)(a1:Option Addr):Prop:=HI .u8 B w a1 x.bs
def Cus.At (B:Nat)(w:J)(b o:Nat)(x:Cus):Prop:=∃a1 c1,(w.cell? ⟨b,o,none⟩=some (U O x.aft)/\w.cell? ⟨b,o+1,none⟩=some (Xs x.nm)/\w.cell? ⟨b,o+2,none⟩=some (S a1 (N x.bs) c1))/\Cus.Is B w x a1
def Cus.Ls (B:Nat)(w:J)(a:Option Addr)(xs:List Cus):Prop:=xs=[]\/∃b off,a=some ⟨b,off,none⟩/\B<=b/\∀i,i<N xs->Cus.At B w b (off+i*3) (xs.getD i Cus.z)
theorem Cus.Is.up {x:Cus}(h:Cus.Is B w x a1)(u:Up B w w'):Cus.Is B w' x a1:=by
 have a:=h;exact HI.up a u
theorem Cus.Is.mono {x:Cus}(h:Cus.Is B w x a1)(a:B'<=B):Cus.Is B' w x a1:=by
 have b:=h;exact HI.mono b a
theorem Cus.At.up {o:Nat}{x:Cus}(h:Cus.At B w b o x)(u:Up B w w')(a:B<=b):Cus.At B w' b o x:=by
 obtain⟨a1,g,⟨f,d,c⟩,hi⟩:=h;exact⟨a1,g,⟨u.cell a f,u.cell a d,u.cell a c⟩,hi.up u⟩
theorem Cus.At.mono {o:Nat}{x:Cus}(h:Cus.At B w b o x)(c:B'<=B):Cus.At B' w b o x:=by
 obtain⟨a1,d,a,hi⟩:=h;exact⟨a1,d,a,hi.mono c⟩
theorem Cus.Ls.up {xs:List Cus}(h:Cus.Ls B w a xs)(u:Up B w w'):Cus.Ls B w' a xs:=by
 rcases h with h|⟨b,o,e,c,d⟩
 . exact .inl h
 exact .inr ⟨b,o,e,c,λi hi=>(d i hi).up u c⟩
theorem Cus.Ls.mono {xs:List Cus}(h:Cus.Ls B w a xs)(d:B'<=B):Cus.Ls B' w a xs:=by
 rcases h with h|⟨b,o,e,f,c⟩
 . exact .inl h
 exact .inr ⟨b,o,e,by omega,λi hi=>(c i hi).mono d⟩
def Cus.LB (Nz0:Nat)(x:Cus):Prop:=x.nm.size<=Nz0/\N x.bs<=Nz0
structure Mod where
 types:List Qe
 imps:List Imp
 funcs:List Int
 tabs:List Qg
 mems:List Qg
 globs:List Qn
 exps:List Exp
 hasS:Bool
 start:Int
 elems:List Ele
 codes:List Cod
 datas:List Dat
 customs:List Cus
def Mod.Is (B:Nat)(w:J)(x:Mod)(a1:Option Addr)(a2:Option Addr)(a3:Option Addr)(a4:Option Addr)(a5:Option Addr)(a6:Option Addr)(a7:Option Addr)(a8:Option Addr)(a9:Option Addr)(a10:Option Addr)(a11:Option Addr):Prop:=Qe.Ls B w a1 x.types/\Imp.Ls B w a2 x.imps/\HI O B w a3 x.funcs/\Qg.Ls B w a4 x.tabs/\Qg.Ls B w a5 x.mems/\Qn.Ls B w a6 x.globs/\Exp.Ls B w a7 x.exps/\Ele.Ls B w a8 x.elems/\Cod.Ls B w a9 x.codes/\Dat.Ls B w a10 x.datas/\Cus.Ls B w a11 x.customs
def Mod.At (B:Nat)(w:J)(b o:Nat)(x:Mod):Prop:=∃a1 c1 a2 c2 a3 c3 a4 c4 a5 c5 a6 c6 a7 c7 a8 c8 a9 c9 a10 c10 a11 c11,(w.cell? ⟨b,o,none⟩=some (S a1 (N x.types) c1)/\w.cell? ⟨b,o+1,none⟩=some (S a2 (N x.imps) c2)/\w.cell? ⟨b,o+2,none⟩=some (S a3 (N x.funcs) c3)/\w.cell? ⟨b,o+3,none⟩=some (S a4 (N x.tabs) c4)/\w.cell? ⟨b,o+4,none⟩=some (S a5 (N x.mems) c5)/\w.cell? ⟨b,o+5,none⟩=some (S a6 (N x.globs) c6)/\w.cell? ⟨b,o+6,none⟩=some (S a7 (N x.exps) c7)/\w.cell? ⟨b,o+7,none⟩=some (G x.hasS)/\w.cell? ⟨b,o+8,none⟩=some (U O x.start)/\w.cell? ⟨b,o+9,none⟩=some (S a8 (N x.elems) c8)/\w.cell? ⟨b,o+10,none⟩=some (S a9 (N x.codes) c9)/\w.cell? ⟨b,o+11,none⟩=some (S a10 (N x.datas) c10)/\w.cell? ⟨b,o+12,none⟩=some (S a11 (N x.customs) c11))/\Mod.Is B w x a1 a2 a3 a4 a5 a6 a7 a8 a9 a10 a11
theorem Mod.Is.up {x:Mod}{n:Option Addr}{m:Option Addr}{l:Option Addr}{k:Option Addr}{j:Option Addr}{g:Option Addr}{f:Option Addr}{b:Option Addr}{a:Option Addr}(h:Mod.Is B w x a1 a2 n m l k j g f b a)(u:Up B w w'):Mod.Is B w' x a1 a2 n m l k j g f b a:=by
 obtain⟨z,y,v,t,s,r,q,p,o,d,c⟩:=h;exact⟨z.up u,y.up u,v.up u,t.up u,s.up u,r.up u,q.up u,p.up u,o.up u,d.up u,c.up u⟩
theorem Mod.Is.mono {x:Mod}{o:Option Addr}{n:Option Addr}{m:Option Addr}{l:Option Addr}{k:Option Addr}{j:Option Addr}{g:Option Addr}{c:Option Addr}{b:Option Addr}(h:Mod.Is B w x a1 a2 o n m l k j g c b)(a:B'<=B):Mod.Is B' w x a1 a2 o n m l k j g c b:=by
 obtain⟨z,y,v,u,t,s,r,q,p,f,d⟩:=h;exact⟨z.mono a,y.mono a,v.mono a,u.mono a,t.mono a,s.mono a,r.mono a,q.mono a,p.mono a,f.mono a,d.mono a⟩
def Mod.LB (Nz0:Nat)(x:Mod):Prop:=(N x.types<=Nz0/\∀i,i<N x.types->Qe.LB Nz0 (x.types.getD i Qe.z))/\(N x.imps<=Nz0/\∀i,i<N x.imps->Imp.LB Nz0 (x.imps.getD i Imp.z))/\N x.funcs<=Nz0/\(N x.tabs<=Nz0/\∀i,i<N x.tabs->Qg.LB Nz0 (x.tabs.getD i Qg.z))/\(N x.mems<=Nz0/\∀i,i<N x.mems->Qg.LB Nz0 (x.mems.getD i Qg.z))/\(N x.globs<=Nz0/\∀i,i<N x.globs->Qn.LB Nz0 (x.globs.getD i Qn.z))/\(N x.exps<=Nz0/\∀i,i<N x.exps->Exp.LB Nz0 (x.exps.getD i Exp.z))/\(N x.elems<=Nz0/\∀i,i<N x.elems->Ele.LB Nz0 (x.elems.getD i Ele.z))/\(N x.codes<=Nz0/\∀i,i<N x.codes->Cod.LB Nz0 (x.codes.getD i Cod.z))/\(N x.datas<=Nz0/\∀i,i<N x.datas->Dat.LB Nz0 (x.datas.getD i Dat.z))/\(N x.customs<=Nz0/\∀i,i<N x.customs->Cus.LB Nz0 (x.customs.getD i Cus.z))
theorem In.Ls.lst (h:In.Ls B w a xs):Lst w a xs:=by
 rcases h with h|⟨b,o,e,m,k⟩
 . exact .inl h
 refine .inr ⟨b,o,e,λi hi=>?_⟩;obtain⟨a1,l,⟨j,g,f,d,c⟩,hi⟩:=k i hi;exact⟨a1,l,j,g,f,d,c,HI.has hi⟩
abbrev U8 (xs:List Int):List Vu:=xs.map λx=>Value.int .u8 x
theorem info5:(Q.info? 5).map (λi=>(i.zero,i.size,i.bytes))=some (some (U .u8 0),1,1):=by kernel_rfl
theorem copyB_step (k:Nat)(xs:List Int)(h:k<N xs):(U8 (xs.take k++(Hh (N xs) 0).drop k)).set k (U .u8 (xs.getD k 0))=U8 (xs.take (k+1)++(Hh (N xs) 0).drop (k+1)):=by
 have hd:(Hh (N xs) (0:Int)).drop k=0::(Hh (N xs) (0:Int)).drop (k+1):=by rw[Td (by simpa using h)];simp
 have a:xs.take (k+1)=xs.take k++[xs.getD k 0]:=by rw[Ix h];simp[Kg,h]
 rw[hd,a];simp only[U8,Lx,Rk,Kw,Ry,Pg,Iy];rw[Rw _ _ (by simp;omega)];simp[Nat.min_eq_left (Nat.le_of_lt h)]
theorem toB_c (a)(c:Nat)(xs:List Int)(w)(hn:N xs<=1048576)(t:HI .u8 0 w a xs):Ec Q 109 #[S a (N xs) c] w λe w'=>e=Z (S (some ⟨w.heap.size,0,none⟩) (N xs) (N xs))/\w'.ownsRow w.heap.size 5 1 (S (some ⟨w.heap.size,0,none⟩) (N xs) (N xs)) (N xs) (U8 xs)/\Below w.heap.size w w':=by
 have r:=run_make_row' (P:=Q) 123 5 (U .u8 0) 1 underlying123 info5 rfl O O (N xs) (by omega) (by omega);have y:=Hm t;clear t;have m:(w.alloc (Fc (madeCells #[U .u8 0] (N xs)) 5)).ownsRow w.heap.size 5 1 (S (some ⟨w.heap.size,0,none⟩) (N xs) (N xs)) (N xs) (U8 (xs.take 0++(Hh (N xs) 0).drop 0)):=by
  have:=Mz (base:=w.heap.size) (e:=5) (size:=1) w (madeCells #[U .u8 0] (N xs)) (N xs) lRz (by unfold maxLen;omega) (by simp[madeCells]);have e:(madeCells #[U .u8 0] (N xs)).toList=U8 (xs.take 0++(Hh (N xs) 0).drop 0):=by
   apply List.ext_getElem?;intro i;by_cases hi:i<N xs
   . simp[madeCells,hi,Nat.mod_one]
   simp[madeCells,hi]
  rw[e]at this;exact this
 have v:=Hm m;clear m;go_enter func109,ntmps109;go_wp2;go_loopw [4] (λi wr=>∃k:Nat,k<=N xs/\i=U O k/\wr.ownsRow w.heap.size 5 1 (S (some ⟨w.heap.size,0,none⟩) (N xs) (N xs)) (N xs) (U8 (xs.take k++(Hh (N xs) 0).drop k))/\Below w.heap.size w wr) (λi _=>N xs-(intOf i).toNat)
 case atStart=>exact⟨0,Kz _,rfl,v.o,bFz.alloc lRz _⟩
 obtain⟨k,E,rfl,l,n⟩:=hrel;clear v r;by_cases f:k<N xs
 . (have A:(k:Int)<(N xs:Int):=by omega);rcases y.o with j|⟨b,o,C,_,s⟩
   . subst j;simp at f
   have d:wr.cell? ⟨b,o+k,none⟩=some (U .u8 (xs.getD k 0)):=(n.cell (p:=⟨b,o+k,none⟩) (Kk w _ (s k f))).trans (s k f);subst C;(have g:∃u,wr.cell? ⟨w.heap.size,k,none⟩=some u:=by rw[l.cellAt k (by omega)];exact⟨_,Kj (by simp;omega)⟩);obtain⟨u,D⟩:=g;have B:=l.frozenAt k;obtain⟨x,j⟩:∃x,x=xs.getD k 0:=⟨_,rfl⟩;obtain⟨q,z⟩:=l.stored k (U .u8 x);rw[j,copyB_step k xs f,<- j]at q;rw[<- j]at d;have R:=And.intro q (n.setCell (p:=⟨w.heap.size,k,none⟩) lRz (U .u8 x));clear q z l n s j y;go_wp2;(go_roundw);(case rel=>exact⟨k+1,by omega,by go_num,R.1,R.2⟩);case measure=>simp[intOf];omega
 have e:k=N xs:=by omega
 subst e;rw[Pf,Ld (by simp),Iv]at l;go_wp2;go_ret;exact⟨rfl,l,n⟩
theorem rtInts_c (a)(c:Nat)(xs:List Int)(w)(hn:N xs<=1048576)(b:HI O 0 w a xs) :
    Ec Q 26 #[S a (N xs) c] w λe w'=>e=Z (S (some ⟨w.heap.size,0,none⟩) (N xs) (N xs))/\HI O w.heap.size w' (some ⟨w.heap.size,0,none⟩) xs/\Below w.heap.size w w' :=
 (toI_c a c xs w hn b.has).mono λe w' ⟨h1,h2,h3⟩=>⟨h1,.inr ⟨_,_,rfl,lRz,λi hi=>by rw[Hq,h2.cellAt i (by omega)];simp[Kg,hi]⟩,h3⟩
theorem rtBytes_c (a)(c:Nat)(xs:List Int)(w)(hn:N xs<=1048576)(b:HI .u8 0 w a xs) :
    Ec Q 109 #[S a (N xs) c] w λe w'=>e=Z (S (some ⟨w.heap.size,0,none⟩) (N xs) (N xs))/\HI .u8 w.heap.size w' (some ⟨w.heap.size,0,none⟩) xs/\Below w.heap.size w w' :=
 (toB_c a c xs w hn b).mono λe w' ⟨h1,h2,h3⟩=>⟨h1,.inr ⟨_,_,rfl,lRz,λi hi=>by rw[Hq,h2.cellAt i (by omega)];simp[Kg,hi]⟩,h3⟩
def Bk (W:J)(g:Nat)(cs:List Vu):Prop:=g<W.heap.size/\(∀j v,cs[j]?=some v->W.cell? ⟨g,j,none⟩=some v)/\∀j,W.frozen? ⟨g,j,none⟩=false
theorem Bk.keep {W W' g cs}(h:Bk W g cs)(a:Below W.heap.size W W'):Bk W' g cs :=
 ⟨Hw h.1 a.size,λj v hj=>(a.cell (p:=⟨g,j,none⟩) h.1).trans (h.2.1 j v hj),λj=>(a.frozen (p:=⟨g,j,none⟩) h.1).trans (h.2.2 j)⟩
theorem Bk.new {cs:List Vu}{t:TypeId}:Bk (w.alloc (Fc cs.toArray t)) w.heap.size cs :=
 ⟨by simp,λj v hj=>Qf rfl (by simpa using hj),λj=>Lw _ _ _ _⟩
theorem Bk.past {w g cs}{o:Obj}(h:Bk w g cs):Bk (w.alloc o) g cs:=h.keep (bFz.alloc lRz _)
theorem Bk.other {W}{b o:Nat}{v:Vu}{cs}(h:Bk W g cs)(a:b≠g):Bk (W.setCell ⟨b,o,none⟩ v) g cs :=
 ⟨by simpa using h.1,λj u hj=>by rw[World.cell?_setCell_other _ _ _ _ (λe=>a (congrArg Addr.block e))];exact h.2.1 j u hj,λj=>by rw[Tj];exact h.2.2 j⟩
theorem Bk.set {W}{j:Nat}{v:Vu}{cs}(h:Bk W g cs):Bk (W.setCell ⟨g,j,none⟩ v) g (cs.set j v):=by
 refine⟨by simpa using h.1,λi u hi=>?_,λi=>by rw[Tj];exact h.2.2 i⟩;by_cases e:j=i
 . subst e;have b:j<N cs:=by
    rcases Iq j (N cs)with a|a
    . exact a
    rw[My (by simpa using a)]at hi;cases hi
   rw[List.getElem?_set_self b]at hi;cases hi;exact QY (h.2.1 j _ (Kj b))
 rw[List.getElem?_set_ne e]at hi;exact QE (h.2.1 i u hi) e
theorem three (w:J)(b z c:List Vu)(t d a:TypeId):Bk (((w.alloc (Fc b.toArray t)).alloc (Fc z.toArray d)).alloc (Fc c.toArray a)) w.heap.size b/\Bk (((w.alloc (Fc b.toArray t)).alloc (Fc z.toArray d)).alloc (Fc c.toArray a)) (w.heap.size+1) z/\Bk (((w.alloc (Fc b.toArray t)).alloc (Fc z.toArray d)).alloc (Fc c.toArray a)) (w.heap.size+2) c/\Below w.heap.size w (((w.alloc (Fc b.toArray t)).alloc (Fc z.toArray d)).alloc (Fc c.toArray a)):=by
 refine⟨Bk.new.past.past,?_,?_,((bFz.alloc lRz _).alloc (by simp) _).alloc (by simp;omega) _⟩
 . have:=(Bk.new (w:=w.alloc (Fc b.toArray t)) (cs:=z) (t:=d)).past (o:=Fc c.toArray a);simpa using this
 have:=(Bk.new (w:=(w.alloc (Fc b.toArray t)).alloc (Fc z.toArray d)) (cs:=c) (t:=a));simpa using this
open Go.RowKit
def HasB (w:J)(a:Option Addr)(xs:List Int):Prop:=xs=[]\/∃b off,a=some ⟨b,off,none⟩/\∀i,i<N xs->w.cell? ⟨b,off+i,none⟩=some (U .u8 (xs.getD i 0))
def ldN (c:Int):Int:=if c<128 then 0 else if c<194 then -1 else if c<224 then 1 else if c<240 then 2 else if c<245 then 3 else -1
def Ji (c:Int):Int:=if c<194 then 0 else if c<224 then 128 else if c<225 then 160 else if c<240 then 128 else if c<241 then 144 else if c<245 then 128 else 0
def Jj (c:Int):Int:=if c<194 then 0 else if c<237 then 191 else if c<238 then 159 else if c<244 then 191 else if c<245 then 143 else 0
theorem ldN_bd (c:Int):-1<=ldN c/\ldN c<=3:=by unfold ldN;omega
def uf:Nat->Int->Int->Nat->List Int->Int
 |0,_,_,_,[]=>-1
 |0,_,_,p,c::cs=>if ldN c<0 then p else uf (ldN c).toNat (Ji c) (Jj c) (p+1) cs
 |_+1,_,_,p,[]=>p
 |l+1,lo,hi,p,c::cs=>if c<lo\/hi<c then p else uf l 128 191 (p+1) cs
section
variable {bs:List Int}{p:Nat}{lo hi:Int}
theorem uf_any0 (a b:Int)(cs:List Int):uf 0 lo hi p cs=uf 0 a b p cs:=by cases cs<;>simp[uf]
theorem uf_end0 (h:p=N bs):uf 0 lo hi p (bs.drop p)=-1:=by subst h;simp[uf]
theorem uf_endl (h:p=N bs):uf (l+1) lo hi p (bs.drop p)=p:=by subst h;simp[uf]
theorem uf_bad (h:p<N bs)(hn:ldN (bs.getD p 0)<0):uf 0 lo hi p (bs.drop p)=p:=by
 rw[Td h];simp only[Kg,Kj h,Iz]at hn;simp[uf,hn]
theorem uf_lead (h:p<N bs)(hn:¬ldN (bs.getD p 0)<0):uf 0 lo hi p (bs.drop p)=uf (ldN (bs.getD p 0)).toNat (Ji (bs.getD p 0)) (Jj (bs.getD p 0)) (p+1) (bs.drop (p+1)):=by
 rw[Td h];simp only[Kg,Kj h,Iz]at hn⊢;simp[uf,hn]
theorem uf_out (h:p<N bs)(hn:bs.getD p 0<lo\/hi<bs.getD p 0):uf (l+1) lo hi p (bs.drop p)=p:=by
 rw[Td h];simp only[Kg,Kj h,Iz]at hn;simp[uf,hn]
theorem uf_next (h:p<N bs)(hn:¬(bs.getD p 0<lo\/hi<bs.getD p 0)):uf (l+1) lo hi p (bs.drop p)=uf l 128 191 (p+1) (bs.drop (p+1)):=by
 rw[Td h];simp only[Kg,Kj h,Iz]at hn;simp only[uf];rw[if_neg hn]
end
theorem follow_any (c:Int)(w:J)(d:0<=c)(b:c<=255):Ec Q 142 #[U .u8 c] w λe w'=>e=Z (.tuple #[U O (ldN c),U .u8 (Ji c),U .u8 (Jj c)])/\w=w':=by
 rcases(show c<128\/(128<=c/\c<194)\/(194<=c/\c<224)\/c=224\/(225<=c/\c<237)\/c=237\/(238<=c/\c<240)\/c=240\/(241<=c/\c<244)\/c=244\/244<c by omega)with h|⟨h,a⟩|⟨h,a⟩|rfl|⟨h,a⟩|rfl|⟨h,a⟩|rfl|⟨h,a⟩|rfl|h
 . rw[show ldN c=0 by unfold ldN;omega,show Ji c=0 by unfold Ji;omega,show Jj c=0 by unfold Jj;omega];go_enter func142,ntmps142;go_wp2;(go_ret3);exact⟨rfl,rfl⟩
 . rw[show ldN c=-1 by unfold ldN;omega,show Ji c=0 by unfold Ji;omega,show Jj c=0 by unfold Jj;omega];go_enter func142,ntmps142;go_wp2;(go_ret3);exact⟨rfl,rfl⟩
 . rw[show ldN c=1 by unfold ldN;omega,show Ji c=128 by unfold Ji;omega,show Jj c=191 by unfold Jj;omega];go_enter func142,ntmps142;go_wp2;(go_ret3);exact⟨rfl,rfl⟩
 . rw[show ldN 224=2 by decide,show Ji 224=160 by decide,show Jj 224=191 by decide];go_enter func142,ntmps142;go_wp2;(go_ret3);exact⟨rfl,rfl⟩
 . rw[show ldN c=2 by unfold ldN;omega,show Ji c=128 by unfold Ji;omega,show Jj c=191 by unfold Jj;omega];go_enter func142,ntmps142;go_wp2;(go_ret3);exact⟨rfl,rfl⟩
 . rw[show ldN 237=2 by decide,show Ji 237=128 by decide,show Jj 237=159 by decide];go_enter func142,ntmps142;go_wp2;(go_ret3);exact⟨rfl,rfl⟩
 . rw[show ldN c=2 by unfold ldN;omega,show Ji c=128 by unfold Ji;omega,show Jj c=191 by unfold Jj;omega];go_enter func142,ntmps142;go_wp2;(go_ret3);exact⟨rfl,rfl⟩
 . rw[show ldN 240=3 by decide,show Ji 240=144 by decide,show Jj 240=191 by decide];go_enter func142,ntmps142;go_wp2;(go_ret3);exact⟨rfl,rfl⟩
 . rw[show ldN c=3 by unfold ldN;omega,show Ji c=128 by unfold Ji;omega,show Jj c=191 by unfold Jj;omega];go_enter func142,ntmps142;go_wp2;(go_ret3);exact⟨rfl,rfl⟩
 . rw[show ldN 244=3 by decide,show Ji 244=128 by decide,show Jj 244=143 by decide];go_enter func142,ntmps142;go_wp2;(go_ret3);exact⟨rfl,rfl⟩
 rw[show ldN c=-1 by unfold ldN;omega,show Ji c=0 by unfold Ji;omega,show Jj c=0 by unfold Jj;omega];go_enter func142,ntmps142;go_wp2;go_ret3
 exact⟨rfl,rfl⟩
def AllB (xs:List Int):Prop:=∀i,0<=xs.getD i 0/\xs.getD i 0<=255
theorem specUtf8_any (a:Option Addr)(E:Nat)(bs:List Int)(w:J)(hl:N bs<=1099511627776)(ha:HasB w a bs)(Y:AllB bs):Ec Q 100 #[S a (N bs) E] w λe w'=>e=Z (U O (uf 0 0 0 0 bs))/\w=w':=by
 obtain⟨R,D⟩:∃R,R=uf 0 0 0 0 bs:=⟨_,rfl⟩;have H:Hid (uf 0 0 0 0 (bs.drop 0)=R):=by rw[D];rfl
 rw[<- D];clear D;rcases ha with hx|⟨F,v,rfl,n⟩
 . subst hx;(have e:R=-1:=by rw[<- H.o];rfl);subst e;clear H Y hl;go_enter func100,ntmps100;go_wp2;refine wp_loop_rounds 1 ?_;rw[rounds_succ];go_wp2;go_ret;exact⟨rfl,rfl⟩
 have u:Hid (∀i,i<N bs->w.cell? ⟨F,v+i,none⟩=some (U .u8 (bs.getD i 0))):=n;clear n;go_enter func100,ntmps100;go_wp2;go_loop [4] (λi=>∃p:Nat,p<=N bs/\i=U O p/\Hid (uf 0 0 0 p (bs.drop p)=R)) (λi=>N bs-(intOf i).toNat)
 case atStart=>exact⟨0,Kz _,rfl,H⟩
 obtain⟨p,hp,rfl,L⟩:=hrel;by_cases j:p<N bs
 . have d1:w.cell? ⟨F,v+p,none⟩=some (U .u8 (bs.getD p 0)):=u.o p j;(have ac:(p:Int)<(N bs:Int):=by omega);obtain⟨c,d⟩:∃c,c=bs.getD p 0:=⟨_,rfl⟩;rw[<- d]at d1;have V:Hid (c=bs.getD p 0):=d;have X:=Y p;rw[<- d]at X;obtain⟨s,r⟩:=X;have hn:=ldN_bd c;clear d;by_cases f:ldN c<0
   . (have e:R=p:=by rw[<- L.o,uf_bad j (by rw[<- V.o];exact f)]);subst e;(go_wp2_with (go_at_call 142;refine(follow_any _ _ s r).mono ?_;rintro e w' ⟨rfl,rfl⟩));go_ret;exact⟨rfl,rfl⟩
   (have I:Hid (uf (ldN c).toNat (Ji c) (Jj c) (p+1) (bs.drop (p+1))=R):=by have:=L.o;rw[uf_lead j (by rw[<- V.o];exact f),<- V.o]at this;exact this);(go_wp2_with (go_at_call 142;refine(follow_any _ _ s r).mono ?_;rintro e w' ⟨rfl,rfl⟩));(go_loop [6,7,8] (λlv hv kv=>∃(k l:Nat) (lo hi:Int),(k:Int)+l=ldN c+1/\1<=k/\p+k<=N bs/\kv=U O k/\lv=U .u8 lo/\hv=U .u8 hi/\Hid (uf l lo hi (p+k) (bs.drop (p+k))=R)) (λ_ _ kv=>5-(intOf kv).toNat));(case atStart=>exact⟨1,(ldN c).toNat,_,_,by omega,by omega,by omega,rfl,rfl,rfl,I⟩);obtain⟨k,l,lo,hi,ae,af,y,rfl,rfl,rfl,t⟩:=hrel;clear d1;cases l with
   |zero =>
    have B:ldN c<(k:Int):=by omega
    go_wp2
    go_round
    case rel=>exact⟨p+k,y,by rw[show((p+k:Nat):Int)=(p:Int)+1+ldN c by omega],(uf_any0 lo hi _).trans t.o⟩
    case measure=>simp[intOf];omega
   |succ l =>
    have B:(k:Int)<=ldN c:=by omega
    by_cases b:p+k<N bs
    . have d2:w.cell? ⟨F,v+(p+k),none⟩=some (U .u8 (bs.getD (p+k) 0)):=u.o (p+k) b;obtain⟨q,g⟩:∃q,q=bs.getD (p+k) 0:=⟨_,rfl⟩;rw[<- g]at d2;have m:Hid (q=bs.getD (p+k) 0):=g;clear g;have C:(p:Int)+k<(N bs:Int):=by omega
      by_cases A:q<lo
      . have e:R=((p+k:Nat):Int):=by rw[<- t.o,uf_out b (by rw[<- m.o];exact .inl A)]
        subst e
        go_wp2
        go_ret
        exact⟨rfl,rfl⟩
      . by_cases z:hi<q
        . have e:R=((p+k:Nat):Int):=by rw[<- t.o,uf_out b (by rw[<- m.o];exact .inr z)]
          subst e
          go_wp2
          go_ret
          exact⟨rfl,rfl⟩
        . have M:Hid (uf l 128 191 (p+k+1) (bs.drop (p+k+1))=R):=by
            have:=t.o
            rw[uf_next b (by rw[<- m.o];omega)]at this
            exact this
          go_wp2
          go_round
          case rel=>exact⟨k+1,l,128,191,by omega,by omega,by omega,by go_num,rfl,rfl,M⟩
          case measure=>simp[intOf];omega
    . have e:R=(N bs:Int):=by rw[<- t.o,uf_endl (by omega)];omega
      subst e;have C:(N bs:Int)<=(p:Int)+k:=by omega
      go_wp2
      go_ret
      exact⟨rfl,rfl⟩
 have e:R=-1:=by rw[<- L.o,uf_end0 (by omega)]
 subst e;go_wp2;go_ret;exact⟨rfl,rfl⟩
theorem Gh (c:Int)(w:J)(d:0<=c)(b:c<=255):Ec Q 214 #[U .u8 c] w λe w'=>e=Z (.tuple #[U O (ldN c),U .u8 (Ji c),U .u8 (Jj c)])/\w=w':=by
 rcases(show c<128\/(128<=c/\c<194)\/(194<=c/\c<224)\/c=224\/(225<=c/\c<237)\/c=237\/(238<=c/\c<240)\/c=240\/(241<=c/\c<244)\/c=244\/244<c by omega)with h|⟨h,a⟩|⟨h,a⟩|rfl|⟨h,a⟩|rfl|⟨h,a⟩|rfl|⟨h,a⟩|rfl|h
 . rw[show ldN c=0 by unfold ldN;omega,show Ji c=0 by unfold Ji;omega,show Jj c=0 by unfold Jj;omega];go_enter func214,ntmps214;go_wp2;(go_ret3);exact⟨rfl,rfl⟩
 . rw[show ldN c=-1 by unfold ldN;omega,show Ji c=0 by unfold Ji;omega,show Jj c=0 by unfold Jj;omega];go_enter func214,ntmps214;go_wp2;(go_ret3);exact⟨rfl,rfl⟩
 . rw[show ldN c=1 by unfold ldN;omega,show Ji c=128 by unfold Ji;omega,show Jj c=191 by unfold Jj;omega];go_enter func214,ntmps214;go_wp2;(go_ret3);exact⟨rfl,rfl⟩
 . rw[show ldN 224=2 by decide,show Ji 224=160 by decide,show Jj 224=191 by decide];go_enter func214,ntmps214;go_wp2;(go_ret3);exact⟨rfl,rfl⟩
 . rw[show ldN c=2 by unfold ldN;omega,show Ji c=128 by unfold Ji;omega,show Jj c=191 by unfold Jj;omega];go_enter func214,ntmps214;go_wp2;(go_ret3);exact⟨rfl,rfl⟩
 . rw[show ldN 237=2 by decide,show Ji 237=128 by decide,show Jj 237=159 by decide];go_enter func214,ntmps214;go_wp2;(go_ret3);exact⟨rfl,rfl⟩
 . rw[show ldN c=2 by unfold ldN;omega,show Ji c=128 by unfold Ji;omega,show Jj c=191 by unfold Jj;omega];go_enter func214,ntmps214;go_wp2;(go_ret3);exact⟨rfl,rfl⟩
 . rw[show ldN 240=3 by decide,show Ji 240=144 by decide,show Jj 240=191 by decide];go_enter func214,ntmps214;go_wp2;(go_ret3);exact⟨rfl,rfl⟩
 . rw[show ldN c=3 by unfold ldN;omega,show Ji c=128 by unfold Ji;omega,show Jj c=191 by unfold Jj;omega];go_enter func214,ntmps214;go_wp2;(go_ret3);exact⟨rfl,rfl⟩
 . rw[show ldN 244=3 by decide,show Ji 244=128 by decide,show Jj 244=143 by decide];go_enter func214,ntmps214;go_wp2;(go_ret3);exact⟨rfl,rfl⟩
 rw[show ldN c=-1 by unfold ldN;omega,show Ji c=0 by unfold Ji;omega,show Jj c=0 by unfold Jj;omega];go_enter func214,ntmps214;go_wp2;go_ret3
 exact⟨rfl,rfl⟩
def jumps (Jz0:Nat->Act->J->Prop)(Qz0:Exit->Act->J->Prop):Exit->Act->J->Prop
 |.goto l,a,w=>Jz0 l a w
 |e,a,w=>Qz0 e a w
theorem wp_scope_many {a:Act}{c:Code}(s:Nat->Act->J->Prop)(μ:Nat->Act->J->Nat) (first:c.wp P (jumps s Qz0) a w) (q:∀l a w,s l a w->∃f,findLabel c l=some f/\f.wp P (jumps (λl' a' w'=>s l' a' w'/\μ l' a' w'<μ l a w) Qz0) a w):(Code.scope c).wp P Qz0 a w:=by
 intro b k cs;have E:∀l f,findLabel c l=some f->gotoIn l (.inScope c::k)=some (.code f::.inScope c::k):=λl f B=>by simp[gotoIn,B]
 have A:∀n l a w f,μ l a w=n->s l a w->findLabel c l=some f->∃e a' w',Qz0 e a' w'/\Arrives P (lone (b.at a (.code f::.inScope c::k)) cs w) b k cs e a' w':=by
  intro n;induction n using Nat.strongRecOn with
  |_ n ih =>
   intro l a w f L I B
   obtain⟨z,u,F⟩:=q l a w I;rw[B]at u;obtain rfl:=Option.some.inj u;obtain⟨e,o,j,p,d⟩:=F b (.inScope c::k) cs
   cases e with
   |normal=>exact⟨.normal,o,j,p,Steps.trans d (.one step_inScope)⟩
   |exit id=>exact⟨.exit id,o,j,p,λk' hk=>d k' (by simp[exitTo,hk])⟩
   |goto l' =>
    obtain⟨v,H⟩:=p;obtain⟨g,r,_⟩:=q l' o j v;obtain⟨C,D,y,t,m⟩:=ih _ (by omega) l' o j g rfl v r
    exact⟨C,D,y,t,.of_steps (d _ (E l' g r)) m⟩
   |ret=>exact⟨_,o,j,p,d⟩
   |panic ch=>exact⟨_,o,j,p,d⟩
   |outgrown=>exact⟨_,o,j,p,d⟩
 obtain⟨e,o,j,p,d⟩:=first b (.inScope c::k) cs
 cases e with
 |normal=>exact⟨.normal,o,j,p,.head step_scope (Steps.trans d (.one step_inScope))⟩
 |exit id=>exact⟨.exit id,o,j,p,λk' hk=>.head step_scope (d k' (by simp[exitTo,hk]))⟩
 |goto l' =>
  obtain⟨g,r,_⟩:=q l' o j p;obtain⟨C,D,y,t,m⟩:=A _ l' o j g rfl p r
  exact⟨C,D,y,t,.of_steps (.head step_scope (d _ (E l' g r))) m⟩
 |ret=>exact⟨_,o,j,p,.of_steps (.one step_scope) d⟩
 |panic ch=>exact⟨_,o,j,p,.of_steps (.one step_scope) d⟩
 |outgrown=>exact⟨_,o,j,p,.of_steps (.one step_scope) d⟩
theorem wp_skip_seq {a:Act}{r:Code}(h:r.wp P Qz0 a w):(Code.skip.seq r).wp P Qz0 a w:=wp_seq (wp_skip h)
theorem wp_scope_three {a:Act}{c k m n:Code}(f g j:Act->J->Prop)(μ0 μ1 μ2:Act->J->Nat) (u:findLabel c 0=some (Code.skip.seq k)) (t:findLabel c 2=some (Code.skip.seq m)) (s:findLabel c 1=some (Code.skip.seq n)) (first:(∀a w,f a w->k.wp P (jumps (fun|0,a,w=>f a w|1,a,w=>j a w|2,a,w=>g a w|_,_,_=>False) Qz0) a w)->c.wp P (jumps (fun|0,a,w=>f a w|1,a,w=>j a w|2,a,w=>g a w|_,_,_=>False) Qz0) a w) (r:∀a w,f a w->(∀a' w',g a' w'->μ1 a' w'<μ0 a w->m.wp P (jumps (fun | 0,b,v=>f b v/\μ0 b v<μ0 a w | 1,b,v=>j b v/\μ2 b v<μ0 a w | 2,b,v=>g b v/\μ1 b v<μ0 a w | _,_,_=>False) Qz0) a' w') -> k.wp P (jumps (fun | 0,b,v=>f b v/\μ0 b v<μ0 a w | 1,b,v=>j b v/\μ2 b v<μ0 a w | 2,b,v=>g b v/\μ1 b v<μ0 a w | _,_,_=>False) Qz0) a w) (p:∀a w,g a w->m.wp P (jumps (fun|0,b,v=>f b v/\μ0 b v<μ1 a w|1,b,v=>j b v/\μ2 b v<μ1 a w|2,b,v=>g b v/\μ1 b v<μ1 a w|_,_,_=>False) Qz0) a w) (q:∀a w,j a w->n.wp P (jumps (λ_ _ _=>False) Qz0) a w):(Code.scope c).wp P Qz0 a w:=by
 have o:∀a w,f a w->k.wp P (jumps (fun|0,b,v=>f b v/\μ0 b v<μ0 a w|1,b,v=>j b v/\μ2 b v<μ0 a w|2,b,v=>g b v/\μ1 b v<μ0 a w|_,_,_=>False) Qz0) a w:=by
  intro a w h;refine r a w h λa' w' h' hlt=>Code.wp_mono ?_ (p a' w' h');intro e b v d;cases e with
  |goto l =>
   match l with
   |0=>exact⟨d.1,Nat.lt_trans d.2 hlt⟩
   |1=>exact⟨d.1,Nat.lt_trans d.2 hlt⟩
   |2=>exact⟨d.1,Nat.lt_trans d.2 hlt⟩
   |_+3=>exact d
  |normal=>exact d
  |exit _=>exact d
  |ret=>exact d
  |panic _=>exact d
  |outgrown=>exact d
 refine wp_scope_many (fun|0,a,w=>f a w|1,a,w=>j a w|2,a,w=>g a w|_,_,_=>False) (fun|0,a,w=>μ0 a w|1,a,w=>μ2 a w|_,a,w=>μ1 a w) (first ?_) ?_
 . intro a w h;refine Code.wp_mono ?_ (o a w h);intro e b v d;cases e with
   |goto l =>
    match l with
    |0=>exact d.1
    |1=>exact d.1
    |2=>exact d.1
    |_+3=>exact d
   |normal=>exact d
   |exit _=>exact d
   |ret=>exact d
   |panic _=>exact d
   |outgrown=>exact d
 intro l a w h;match l with
 |0 =>
  refine⟨_,u,wp_skip_seq (Code.wp_mono ?_ (o a w h))⟩
  intro e b v d
  cases e with
  |goto l =>
   match l with
   |0=>exact d
   |1=>exact d
   |2=>exact d
   |_+3=>exact d.elim
  |normal=>exact d
  |exit _=>exact d
  |ret=>exact d
  |panic _=>exact d
  |outgrown=>exact d
 |2 =>
  refine⟨_,t,wp_skip_seq (Code.wp_mono ?_ (p a w h))⟩
  intro e b v d
  cases e with
  |goto l =>
   match l with
   |0=>exact d
   |1=>exact d
   |2=>exact d
   |_+3=>exact d.elim
  |normal=>exact d
  |exit _=>exact d
  |ret=>exact d
  |panic _=>exact d
  |outgrown=>exact d
 |1 =>
  refine⟨_,s,wp_skip_seq (Code.wp_mono ?_ (q a w h))⟩
  intro e b v d
  cases e with
  |goto l=>exact d.elim
  |normal=>exact d
  |exit _=>exact d
  |ret=>exact d
  |panic _=>exact d
  |outgrown=>exact d
 |_+3=>exact h.elim
def frU (b1 o1 cap:Nat)(bs:List Int)(p:Nat)(u4 u5 u6:Vu)(a:Act):Prop:=∃(u2 u8 u9 u10 u11 u12 u13 u14 u15 u16 u17 u18 u19 u20 u21 u22 u23 u24 u25 u26 u27 u28 u29 u30 u31 u32 u33 u34 u35 u36 u37 u38 u39 u40 u41 u42 u43 u44 u45 u46 u47 u48 u49 u50 u51 u52 u53:Vu),a={ tmps:=#[S (some ⟨b1,o1,none⟩) (N bs) cap,undef,u2,U O p,u4,u5,u6,U O (N bs),u8,u9,u10,u11,u12,u13,u14,u15,u16,u17,u18,u19,u20,u21,u22,u23,u24,u25,u26,u27,u28,u29,u30,u31,u32,u33,u34,u35,u36,u37,u38,u39,u40,u41,u42,u43,u44,u45,u46,u47,u48,u49,u50,u51,u52,u53],defers:=[] }
theorem implUtf8_row (n k:Nat)(j:Nat)(bs:List Int)(w:J)(hl:N bs<=1099511627776)(bc:∀i,i<N bs->w.cell? ⟨n,k+i,none⟩=some (U .u8 (bs.getD i 0)))(hB:AllB bs):Ec Q 191 #[S (some ⟨n,k,none⟩) (N bs) j] w λe w'=>e=Z (U O (uf 0 0 0 0 bs))/\w=w':=by
 obtain⟨R,hR⟩:∃R,R=uf 0 0 0 0 bs:=⟨_,rfl⟩;have HR:Hid (uf 0 0 0 0 (bs.drop 0)=R):=by rw[hR];rfl
 rw[<- hR];clear hR;have bd:Hid (∀i,i<N bs->w.cell? ⟨n,k+i,none⟩=some (U .u8 (bs.getD i 0))):=bc;clear bc;go_enter func191,ntmps191;go_wp2
 refine wp_scope_three
  (λb w'=>w=w'/\∃(p:Nat) (u4 E z:Vu),p<=N bs/\frU n k j bs p u4 E z b/\Hid (uf 0 0 0 p (bs.drop p)=R))
  (λb w'=>w=w'/\∃(p l:Nat) (lo hi:Int),p<=N bs/\l<=2/\frU n k j bs p (U O ((l:Int)+1)) (U .u8 lo) (U .u8 hi) b/\Hid (uf (l+1) lo hi p (bs.drop p)=R))
  (λb w'=>w=w'/\∃(p:Nat) (u4 E z:Vu),frU n k j bs p u4 E z b/\Hid (R=p))
  (λb _=>2*(N bs-(intOf (b.tmps.getD 3 undef)).toNat)+1)
  (λb _=>2*(N bs-(intOf (b.tmps.getD 3 undef)).toNat)+1)
  (λb _=>2*(N bs-(intOf (b.tmps.getD 3 undef)).toNat)) rfl rfl rfl ?_ ?_ ?_ ?_
 . intro h0;go_wp2;(go_step3);simp only[Exit.then];rename_i hK;refine hK _ _ (h0 _ _ ?_);exact⟨rfl,0,_,_,_,Kz _,⟨_,_,_,_,_,_,_,_,_,_,_,_,_,_,_,_,_,_,_,_,_,_,_,_,_,_,_,_,_,_,_,_,_,_,_,_,_,_,_,_,_,_,_,_,_,_,_,rfl⟩,HR⟩
 . rintro b w' ⟨rfl,p,u4,E,z,hp,⟨u2,u8,u9,bb,ba,a9,a8,a7,a6,a5,a4,a3,a2,a1,a0,az,ay,ax,aw,av,au,ar,aq,ap,ao,ak,aj,ai,ah,ag,af,ae,ad,ab,aa,Y,X,V,M,L,I,H,F,D,C,B,A,rfl⟩,f⟩ h1;by_cases a:p<N bs
   . have d1:w.cell? ⟨n,k+p,none⟩=some (U .u8 (bs.getD p 0)):=bd.o p a;(have bh:(p:Int)<(N bs:Int):=by omega);obtain⟨c,g⟩:∃c,c=bs.getD p 0:=⟨_,rfl⟩;rw[<- g]at d1;have HC:Hid (c=bs.getD p 0):=g;have hb:=hB p;rw[<- g]at hb;obtain⟨u,t⟩:=hb;have hn:=ldN_bd c;clear g;have s:((p:Int)==(N bs:Int))=false:=beq_eq_false_iff_ne.2 (by omega);have H1:=Hm h1;clear h1;by_cases m:ldN c<0
     . (have v:Hid (R=p):=by show _=_;rw[<- f.o,uf_bad a (by rw[<- HC.o];exact m)]);(go_wp2_with (go_at_call 214;refine(Gh _ _ u t).mono ?_;rintro e w' ⟨rfl,rfl⟩));(go_step3);refine⟨⟨rfl,p,_,_,_,⟨_,_,_,_,_,_,_,_,_,_,_,_,_,_,_,_,_,_,_,_,_,_,_,_,_,_,_,_,_,_,_,_,_,_,_,_,_,_,_,_,_,_,_,_,_,_,_,rfl⟩,v⟩,?_⟩;simp[intOf]
     (have d:Hid (uf (ldN c).toNat (Ji c) (Jj c) (p+1) (bs.drop (p+1))=R):=by have:=f.o;rw[uf_lead a (by rw[<- HC.o];exact m),<- HC.o]at this;exact this);by_cases hz:ldN c=0
     . have bg:(ldN c==0)=true:=beq_iff_eq.2 hz;have HZ:Hid (ldN c=0):=hz;clear hz;(go_wp2_with (go_at_call 214;refine(Gh _ _ u t).mono ?_;rintro e w' ⟨rfl,rfl⟩));(go_step3);refine⟨⟨rfl,p+1,_,_,_,by omega,⟨_,_,_,_,_,_,_,_,_,_,_,_,_,_,_,_,_,_,_,_,_,_,_,_,_,_,_,_,_,_,_,_,_,_,_,_,_,_,_,_,_,_,_,_,_,_,_,rfl⟩,?_⟩,?_⟩
       . have:=d.o;rw[HZ.o]at this;exact(uf_any0 _ _ _).trans this
       simp[intOf];omega
     have bg:(ldN c==0)=false:=beq_eq_false_iff_ne.2 hz;(go_wp2_with (go_at_call 214;refine(Gh _ _ u t).mono ?_;rintro e w' ⟨rfl,rfl⟩));(go_step3);simp only[Exit.then];rename_i hK;refine hK _ _ (H1.o _ _ ?_ ?_)
     . obtain⟨l,bm⟩:∃l,(ldN c).toNat=l+1:=⟨(ldN c).toNat-1,by omega⟩;have e:=d.o;rw[bm]at e;refine⟨rfl,p+1,l,Ji c,Jj c,by omega,by omega,?_,e⟩;rw[show(l:Int)+1=ldN c by omega];exact⟨_,_,_,_,_,_,_,_,_,_,_,_,_,_,_,_,_,_,_,_,_,_,_,_,_,_,_,_,_,_,_,_,_,_,_,_,_,_,_,_,_,_,_,_,_,_,_,rfl⟩
     simp[intOf];omega
   (have e:R=-1:=by rw[<- f.o,uf_end0 (by omega)]);subst e;have s:((p:Int)==(N bs:Int))=true:=beq_iff_eq.2 (by omega);go_wp2;simp only[jumps];go_ret;exact⟨rfl,rfl⟩
 . rintro b w' ⟨rfl,p,l,lo,hi,hp,bz,⟨u2,u8,u9,bb,ba,a9,a8,a7,a6,a5,a4,a3,a2,a1,a0,az,ay,ax,aw,av,au,ar,aq,ap,ao,ak,aj,ai,ah,ag,af,ae,ad,ab,aa,Y,X,V,M,L,I,H,F,D,C,B,A,rfl⟩,f⟩;by_cases a:p<N bs
   . have d2:w.cell? ⟨n,k+p,none⟩=some (U .u8 (bs.getD p 0)):=bd.o p a;obtain⟨q,r⟩:∃q,q=bs.getD p 0:=⟨_,rfl⟩;rw[<- r]at d2;have y:Hid (q=bs.getD p 0):=r;clear r;(have bh:(p:Int)<(N bs:Int):=by omega);have s:((p:Int)==(N bs:Int))=false:=beq_eq_false_iff_ne.2 (by omega);by_cases bl:q<lo
     . (have v:Hid (R=p):=by show _=_;rw[<- f.o,uf_out a (by rw[<- y.o];exact .inl bl)]);go_wp2;(go_step3);refine⟨⟨rfl,p,_,_,_,⟨_,_,_,_,_,_,_,_,_,_,_,_,_,_,_,_,_,_,_,_,_,_,_,_,_,_,_,_,_,_,_,_,_,_,_,_,_,_,_,_,_,_,_,_,_,_,_,rfl⟩,v⟩,?_⟩;simp[intOf]
     by_cases bj:hi<q
     . (have v:Hid (R=p):=by show _=_;rw[<- f.o,uf_out a (by rw[<- y.o];exact .inr bj)]);go_wp2;(go_step3);refine⟨⟨rfl,p,_,_,_,⟨_,_,_,_,_,_,_,_,_,_,_,_,_,_,_,_,_,_,_,_,_,_,_,_,_,_,_,_,_,_,_,_,_,_,_,_,_,_,_,_,_,_,_,_,_,_,_,rfl⟩,v⟩,?_⟩;simp[intOf]
     (have d:Hid (uf l 128 191 (p+1) (bs.drop (p+1))=R):=by have:=f.o;rw[uf_next a (by rw[<- y.o];omega)]at this;exact this);cases l with
     |zero =>
      go_wp2
      go_step3
      refine⟨⟨rfl,p+1,_,_,_,by omega,⟨_,_,_,_,_,_,_,_,_,_,_,_,_,_,_,_,_,_,_,_,_,_,_,_,_,_,_,_,_,_,_,_,_,_,_,_,_,_,_,_,_,_,_,_,_,_,_,rfl⟩,?_⟩,?_⟩
      . exact(uf_any0 _ _ _).trans d.o
      . simp[intOf];omega
     |succ l =>
      go_wp2
      go_step3
      refine⟨⟨rfl,p+1,l,128,191,by omega,by omega,?_,d⟩,?_⟩
      . exact⟨_,_,_,_,_,_,_,_,_,_,_,_,_,_,_,_,_,_,_,_,_,_,_,_,_,_,_,_,_,_,_,_,_,_,_,_,_,_,_,_,_,_,_,_,_,_,_,rfl⟩
      . simp[intOf];omega
   (have v:Hid (R=p):=by show _=_;rw[<- f.o,uf_endl (by omega)]);have s:((p:Int)==(N bs:Int))=true:=beq_iff_eq.2 (by omega);go_wp2;(go_step3);refine⟨⟨rfl,p,_,_,_,⟨_,_,_,_,_,_,_,_,_,_,_,_,_,_,_,_,_,_,_,_,_,_,_,_,_,_,_,_,_,_,_,_,_,_,_,_,_,_,_,_,_,_,_,_,_,_,_,rfl⟩,v⟩,?_⟩;simp[intOf]
 rintro b w' ⟨rfl,p,u4,E,z,⟨u2,u8,u9,bb,ba,a9,a8,a7,a6,a5,a4,a3,a2,a1,a0,az,ay,ax,aw,av,au,ar,aq,ap,ao,ak,aj,ai,ah,ag,af,ae,ad,ab,aa,Y,X,V,M,L,I,H,F,D,C,B,A,rfl⟩,f⟩;have e:=f.o;subst e;go_wp2;simp only[jumps];go_ret;exact⟨rfl,rfl⟩
open Go.RowKit Go.Sort
def Jl (l:Qg):Bool:=QB l.min&&QB l.max&&(l.has || l.max==0)
def kindB (k:Int):Bool:=decide (0<=k/\k<=3)
def grpB (g:Grp):Bool:=QB g.n&&tyB g.ty
def stB (has:Bool)(start:Int):Bool:=QB start&&(has || start==0)
def QX (s:ByteArray):List Int:=s.data.toList.map λb=>(b.toNat:Int)
def Q2 (s:ByteArray):Bool:=decide (uf 0 0 0 0 (QX s)=-1)
theorem uf_ge (l:Nat)(lo hi:Int)(p:Nat)(cs:List Int):uf l lo hi p cs=-1\/0<=uf l lo hi p cs:=by
 induction cs generalizing l lo hi p with
 |nil=>cases l<;>simp[uf]
 |cons c cs ih =>
  cases l with
  |zero =>
   simp only[uf];split
   · right;omega
   . exact ih _ _ _ _
  |succ l =>
   simp only[uf];split
   · right;omega
   . exact ih _ _ _ _
theorem ilim_c (l:Qg)(w:J):Ec Q 117 #[Ag #[U O l.min,U O l.max,G l.has]] w λe w'=>e=Z (G (Jl l))/\Below w.heap.size w w':=by
 obtain⟨a,b,h⟩:=l;cases h
 all_goals
  go_enter func117,ntmps117
  go_wp2_with (go_at_call 115;refine(XR _ _).mono ?_;rintro e w1 ⟨rfl,rfl⟩)
  all_goals
   go_ret
   refine⟨?_,bFz.alloc lRz _⟩
   simp_all[Jl]
theorem slim_c (l:Qg)(w:J):Ec Q 96 #[Ag #[U O l.min,U O l.max,G l.has]] w λe w'=>e=Z (G (Jl l))/\Below w.heap.size w w':=by
 obtain⟨a,b,h⟩:=l;cases h
 all_goals
  go_enter func96,ntmps96
  go_wp2_with (go_at_call 56;refine(X7 _ _).mono ?_;rintro e w1 ⟨rfl,rfl⟩)
  all_goals
   go_ret
   refine⟨?_,bFz.alloc lRz _⟩
   simp_all[Jl]
theorem igt_c (g:Qx)(w:J):Ec Q 159 #[Ag #[U O g.ty,G g.mu]] w λe w'=>e=Z (G (tyB g.ty))/\Below w.heap.size w w':=by
 go_enter func159,ntmps159;go_wp2_with (go_at_call 158;refine(ity_c _ _).mono ?_;rintro e w1 ⟨rfl,rfl⟩)
 go_ret;exact⟨rfl,bFz.alloc lRz _⟩
theorem ikind_c (x:Int)(w:J):Ec Q 162 #[U O x] w λe w'=>e=Z (G (kindB x))/\w=w':=by
 go_enter func162,ntmps162;go_wp2
 all_goals
  go_ret
  refine⟨?_,rfl⟩
  simp[kindB, *]
  try omega
theorem igrp_c (g:Grp)(w:J):Ec Q 196 #[Ag #[U O g.n,U O g.ty]] w λe w'=>e=Z (G (grpB g))/\Below w.heap.size w w':=by
 go_enter func196,ntmps196;go_wp2_with (first|(go_at_call 115;refine(XR _ _).mono ?_;rintro e w1 ⟨rfl,rfl⟩)|(go_at_call 158;refine(ity_c _ _).mono ?_;rintro e w1 ⟨rfl,rfl⟩))
 all_goals
  go_ret
  refine⟨?_,bFz.alloc lRz _⟩
  simp_all[grpB]
theorem istart_c (has:Bool)(x:Int)(w:J):Ec Q 122 #[G has,U O x] w λe w'=>e=Z (G (stB has x))/\w=w':=by
 cases has
 all_goals
  go_enter func122,ntmps122
  go_wp2_with (go_at_call 115;refine(XR _ _).mono ?_;rintro e w1 ⟨rfl,rfl⟩)
  all_goals
   go_ret
   refine⟨?_,rfl⟩
   simp_all[stB]
theorem bytes_len (s:ByteArray):(QX s).length=s.size:=by simp[QX]
theorem bytes_at (s:ByteArray)(c i:Nat)(hi:i<(QX s).length):(bytesRow s c)[i]?=some (U .u8 ((QX s).getD i 0)):=by
 have a:i<s.data.size:=by simpa[QX]using hi
 unfold bytesRow;rw[Array.getElem?_append_left (by simpa using a)];have e:s.data[i]?=some s.data[i]:=Ij a;simp[QX,Kg,e]
theorem bytes_all (s:ByteArray):AllB (QX s):=by
 intro i;by_cases hi:i<N s.data.toList
 . (have a:i<s.data.size:=by simpa using hi);have e:s.data[i]?=some s.data[i]:=Ij a;(have:(QX s).getD i 0=((s.data.toList[i]'hi).toNat:Int):=by simp[QX,Kg,e]);rw[this];have:=(s.data.toList[i]'hi).toNat_lt;omega
 have:(QX s).getD i 0=0:=by simp[QX,Kg];rw[Array.getElem?_eq_none (by simpa using hi)];rfl
 rw[this];omega
theorem bytesRow_cells (s:ByteArray)(c:Nat)(w:J)(e:TypeId)(f:Nat × Nat):∀i,i<(QX s).length->(w.drew.alloc (Fc (bytesRow s c) e f)).cell? ⟨w.heap.size,0+i,none⟩=some (U .u8 ((QX s).getD i 0)):=by
 intro i hi;have h:(w.drew.alloc (Fc (bytesRow s c) e f)).heap[w.heap.size]?=some (Fc (bytesRow s c) e f):=heap_new w.drew _;rw[Hq];simp only[World.cell?,h];exact bytes_at s c i hi
theorem sname_ok (s:ByteArray)(w:J)(hn:s.size<=1048576):Ec Q 60 #[Xs s] w λe w'=>e=Z (G (Q2 s))/\Below w.heap.size w w':=by
 have j:=λw=>run_bytes_of_string (P:=Q) w 9 123 5 s underlying9 underlying123 underlying5;have g:(QX s).length<=1099511627776:=by rw[bytes_len];omega
 have b:=Hm (λc f=>specUtf8_any (some ⟨w.heap.size,0,none⟩) c (QX s) (w.drew.alloc (Fc (bytesRow s c) 5 f)) g (.inr ⟨_,_,rfl,bytesRow_cells s c w 5 f⟩) (bytes_all s));rw[bytes_len]at b;generalize d:uf 0 0 0 0 (QX s)=u at b;have a:Q2 s=(u==-1):=by simp only[Q2,d];by_cases h:u=-1<;>simp[h]
 rw[a];clear a d;go_enter func60,ntmps60;go_wp2_with fail
 refine(b.o _ _).mono ?_;rintro e w1 ⟨rfl,rfl⟩;go_wp2;go_ret;exact⟨rfl,⟨rfl,rfl,rfl,by simp,λk hk=>QM w.drew _ k hk⟩⟩
theorem JI (s:ByteArray)(w:J)(hn:s.size<=1048576):Ec Q 160 #[Xs s] w λe w'=>e=Z (G (Q2 s))/\Below w.heap.size w w':=by
 have l:=λw=>run_bytes_of_string (P:=Q) w 9 123 5 s underlying9 underlying123 underlying5;have j:(QX s).length<=1099511627776:=by rw[bytes_len];omega
 have d:=Hm (λc f=>implUtf8_row w.heap.size 0 c (QX s) (w.drew.alloc (Fc (bytesRow s c) 5 f)) j (bytesRow_cells s c w 5 f) (bytes_all s));rw[bytes_len]at d;have a:=uf_ge 0 0 0 0 (QX s);generalize g:uf 0 0 0 0 (QX s)=u at d a;have b:Q2 s=decide (u<0):=by simp only[Q2,g];rcases a with h|h<;>simp[h]<;>omega
 rw[b];clear b g a;go_enter func160,ntmps160;go_wp2_with fail
 refine(d.o _ _).mono ?_;rintro e w1 ⟨rfl,rfl⟩;go_wp2;go_ret;exact⟨rfl,⟨rfl,rfl,rfl,by simp,λk hk=>QM w.drew _ k hk⟩⟩
theorem JA {R:Type}(B:R->Bool)(xs:List R)(z:R)(h:∀j,j<N xs->B (xs.getD j z)=true):xs.all B=true:=by
 rw[List.all_eq_true];intro x a;obtain⟨i,hi,rfl⟩:=List.getElem_of_mem a;have:=h i hi;simpa[Kg,Kj hi]using this
theorem Jb {R:Type}(B:R->Bool)(xs:List R)(z:R)(k:Nat)(a:k<N xs)(h:B (xs.getD k z)=false):xs.all B=false:=by
 rw[List.all_eq_false];refine⟨xs[k],List.getElem_mem a,?_⟩;have:xs.getD k z=xs[k]:=by simp[Kg,Kj a]
 rw[this]at h;simp[h]
theorem allT_t (l:List Int)(h:∀i,i<N l->tyB (l.getD i 0)=true):l.all tyB=true:=JA tyB l 0 h
theorem allT_f (l:List Int)(i:Nat)(hi:i<N l)(h:tyB (l.getD i 0)=false):l.all tyB=false:=Jb tyB l 0 i hi h
theorem allAreT_c (a)(c:Nat)(l:List Int)(w)(hn:N l<=1099511627776)(s:Has w a l):Ec Q 114 #[S a (N l) c,.func (.func 158) #[] #[]] w λe w'=>e=Z (G (l.all tyB))/\w=w':=by
 have p:=Hm s;clear s;go_enter func114,ntmps114;go_wp2_with fail
 go_loop [9] (λi=>∃k:Nat,k<=N l/\i=U O k/\∀j,j<k->tyB (l.getD j 0)=true) (λi=>N l-(intOf i).toNat)
 case atStart=>exact⟨0,Kz _,rfl,λj h=>by omega⟩
 obtain⟨k,C,rfl,b⟩:=hrel;by_cases g:k<N l
 . (have v:(k:Int)<(N l:Int):=by omega);rcases p.o with u|⟨D,B,A,q⟩
   . subst u;simp at g
   have d:=q k g;subst A;have t:=Hm (ity_c (l.getD k 0));generalize n:l.getD k 0=y at *;generalize m:tyB y=z at *;cases z
   . have f:=Hm (allT_f l k g (by rw[n];exact m));clear b q n m p;(go_wp2_with (refine(t.o _).mono ?_;rintro e w1 ⟨rfl,rfl⟩));go_ret;exact⟨by rw[f.o];rfl,rfl⟩
   have r:Hid (∀j,j<k+1->tyB (l.getD j 0)=true):=λj hj=>by
    rcases(by omega:j<k\/j=k)with h|h
    . exact b j h
    subst h;rw[n];exact m
   clear b q n m p;(go_wp2_with (refine(t.o _).mono ?_;rintro e w1 ⟨rfl,rfl⟩));(go_round);(case rel=>exact⟨k+1,by omega,by go_num,r.o⟩);case measure=>simp[intOf];omega
 have e:k=N l:=by omega
 subst e;have f:=Hm (allT_t l b);clear b p;go_wp2;go_ret;exact⟨by rw[f.o];rfl,rfl⟩
def ftB (t:Qe):Bool:=t.ps.all tyB&&t.rs.all tyB&&decide (N t.rs<=1)
def QW (g:Qn):Bool:=tyB g.ty.ty&&QF g.ini
def Jr (x:Exp):Bool:=Q2 x.nm&&kindB x.kind&&QB x.ix
def JC (e:Ele):Bool:=QF e.off&&e.fs.all QB
def JK (d:Dat):Bool:=QF d.off
def QT (xs:List In):Prop:=∀i,0<=(xs.getD i I0).v
theorem Jw {f:FuncId}{args:Array Vu}{v:Vu}(h:Ec P f args w λe w'=>e=Z v/\w=w'):Ec P f args w λe w'=>e=Z v/\Below w.heap.size w w' :=
 h.mono λe w' ⟨a,b⟩=>⟨a,by subst b;exact bFz⟩
theorem clo (a:Option Addr)(c:Nat)(xs:List In)(w:J)(b:N xs<=1048576/\∀i,i<N xs->In.LB 1048576 (xs.getD i I0))(hv:QT xs)(d:In.Ls 0 w a xs):Ec Q 161 #[S a (N xs) c] w λe w'=>e=Z (G (QF xs))/\Below w.heap.size w w' :=
 iclosed_c a c xs w b.1 b.2 hv d.lst
theorem sclo (a:Option Addr)(c:Nat)(xs:List In)(w:J)(b:N xs<=1048576/\∀i,i<N xs->In.LB 1048576 (xs.getD i I0))(hv:QT xs)(d:In.Ls 0 w a xs):Ec Q 57 #[S a (N xs) c] w λe w'=>e=Z (G (QF xs))/\Below w.heap.size w w' :=
 sclosed_c a c xs w b.1 b.2 hv d.lst
theorem ift_c (x:Qe)(a1:Option Addr)(c1:Nat)(a2:Option Addr)(c2:Nat)(w:J)(s:Qe.Is 0 w x a1 a2)(r:Qe.LB 1048576 x):Ec Q 111 #[Ag #[S a1 (N x.ps) c1,S a2 (N x.rs) c2]] w λe w'=>e=Z (G (ftB x))/\Below w.heap.size w w':=by
 obtain⟨z,y⟩:=r;obtain⟨m,l⟩:=s;have v:=Hm m;have u:=Hm l;clear m l;go_enter func111,ntmps111;go_upto_region 1 with fail
 refine Qp (λW=>Bk W w.heap.size [S a1 (N x.ps) c1,S a2 (N x.rs) c2]/\Below w.heap.size w W) ⟨Bk.new,bFz.alloc lRz _⟩ ?_;rintro W ⟨d,a⟩;have p:=d.2.1 0 _ rfl;have n:=d.2.1 1 _ rfl;have g:=Hm (Jw (allAreT_c a1 c1 x.ps W (by omega) (v.o.up (Qa a)).has));generalize j:x.ps.all tyB=t0 at g;cases t0
 . (go_wp2_with fail);refine g.o.mono ?_;rintro e q ⟨rfl,c⟩;have a:=a.trans (c.mono a.size);clear c d;go_wp2;go_ret;exact⟨by simp[ftB,j],a⟩
 go_wp2_with fail
 refine g.o.mono ?_;rintro e q ⟨rfl,c⟩;have d:=d.keep c;have a:=a.trans (c.mono a.size);clear c g;have p:=d.2.1 0 _ rfl;have n:=d.2.1 1 _ rfl;have f:=Hm (Jw (allAreT_c a2 c2 x.rs q (by omega) (u.o.up (Qa a)).has));generalize k:x.rs.all tyB=t1 at f;cases t1
 . (go_wp2_with fail);refine f.o.mono ?_;rintro e t ⟨rfl,b⟩;have a:=a.trans (b.mono a.size);clear b d;go_wp2;go_ret;exact⟨by simp[ftB,j,k],a⟩
 go_wp2_with fail
 refine f.o.mono ?_;rintro e t ⟨rfl,b⟩;have d:=d.keep b;have a:=a.trans (b.mono a.size);clear b f;have p:=d.2.1 0 _ rfl;have n:=d.2.1 1 _ rfl;clear d;go_wp2
 all_goals
  go_ret
  refine⟨?_,a⟩
  simp[ftB,j,k]
  try omega
theorem iglob_c (x:Qn)(a1:Option Addr)(c1:Nat)(w:J)(m:Qn.Is 0 w x a1)(t:Qn.LB 1048576 x)(hp:QT x.ini):Ec Q 119 #[Ag #[U O x.ty.ty,G x.ty.mu,S a1 (N x.ini) c1]] w λe w'=>e=Z (G (QW x))/\Below w.heap.size w w':=by
 have s:=t;have l:=m;clear m;have u:=Hm l;clear l;go_enter func119,ntmps119;go_upto_region 1 with fail
 refine Qp (λW=>Bk W w.heap.size [U O x.ty.ty,G x.ty.mu,S a1 (N x.ini) c1]/\Below w.heap.size w W) ⟨Bk.new,bFz.alloc lRz _⟩ ?_;rintro W ⟨c,b⟩;have r:=c.2.1 0 _ rfl;have q:=c.2.1 1 _ rfl;have p:=c.2.1 2 _ rfl;have d:=Hm (igt_c x.ty W);generalize f:tyB x.ty.ty=t0 at d;cases t0
 . (go_wp2_with fail);refine d.o.mono ?_;rintro e n ⟨rfl,a⟩;have b:=b.trans (a.mono b.size);clear a c;go_wp2;go_ret;exact⟨by simp[QW,f],b⟩
 go_wp2_with fail
 refine d.o.mono ?_;rintro e n ⟨rfl,a⟩;have c:=c.keep a;have b:=b.trans (a.mono b.size);clear a d;have r:=c.2.1 0 _ rfl;have q:=c.2.1 1 _ rfl;have p:=c.2.1 2 _ rfl;have j:=Hm (clo a1 c1 x.ini n s hp (u.o.up (Qa b)));generalize k:QF x.ini=t1 at j;go_wp2_with fail
 refine j.o.mono ?_;rintro e v ⟨rfl,g⟩;have b:=b.trans (g.mono b.size);clear g c;go_wp2
 all_goals
  go_ret
  refine⟨?_,b⟩
  simp[QW,f,k]
theorem iexp_c (x:Exp)(w:J)(y:Exp.Is 0 w x)(v:Exp.LB 1048576 x):Ec Q 121 #[Ag #[Xs x.nm,U O x.kind,U O x.ix]] w λe w'=>e=Z (G (Jr x))/\Below w.heap.size w w':=by
 have u:x.nm.size<=1048576:=v;go_enter func121,ntmps121;go_upto_region 1 with fail
 refine Qp (λW=>Bk W w.heap.size [Xs x.nm,U O x.kind,U O x.ix]/\Below w.heap.size w W) ⟨Bk.new,bFz.alloc lRz _⟩ ?_;rintro W ⟨b,a⟩;have r:=b.2.1 0 _ rfl;have q:=b.2.1 1 _ rfl;have p:=b.2.1 2 _ rfl;have g:=Hm (JI x.nm W u);generalize j:Q2 x.nm=t0 at g;cases t0
 . (go_wp2_with fail);refine g.o.mono ?_;rintro e t ⟨rfl,d⟩;have a:=a.trans (d.mono a.size);clear d b;go_wp2;go_ret;exact⟨by simp[Jr,j],a⟩
 go_wp2_with fail
 refine g.o.mono ?_;rintro e t ⟨rfl,d⟩;have b:=b.keep d;have a:=a.trans (d.mono a.size);clear d g;have r:=b.2.1 0 _ rfl;have q:=b.2.1 1 _ rfl;have p:=b.2.1 2 _ rfl;have f:=Hm (Jw (ikind_c x.kind t));generalize k:kindB x.kind=t1 at f;cases t1
 . (go_wp2_with fail);refine f.o.mono ?_;rintro e s ⟨rfl,c⟩;have a:=a.trans (c.mono a.size);clear c b;go_wp2;go_ret;exact⟨by simp[Jr,j,k],a⟩
 go_wp2_with fail
 refine f.o.mono ?_;rintro e s ⟨rfl,c⟩;have b:=b.keep c;have a:=a.trans (c.mono a.size);clear c f;have r:=b.2.1 0 _ rfl;have q:=b.2.1 1 _ rfl;have p:=b.2.1 2 _ rfl;have m:=Hm (Jw (XR x.ix s));generalize n:QB x.ix=t2 at m;go_wp2_with fail
 refine m.o.mono ?_;rintro e z ⟨rfl,l⟩;have a:=a.trans (l.mono a.size);clear l b;go_wp2
 all_goals
  go_ret
  refine⟨?_,a⟩
  simp[Jr,j,k,n]
theorem iele_c (x:Ele)(a1:Option Addr)(c1:Nat)(a2:Option Addr)(c2:Nat)(w:J)(t:Ele.Is 0 w x a1 a2)(s:Ele.LB 1048576 x)(hp:QT x.off):Ec Q 124 #[Ag #[S a1 (N x.off) c1,S a2 (N x.fs) c2]] w λe w'=>e=Z (G (JC x))/\Below w.heap.size w w':=by
 obtain⟨r,y⟩:=s;obtain⟨m,l⟩:=t;have v:=Hm m;have u:=Hm l;clear m l;go_enter func124,ntmps124;go_upto_region 1 with fail
 refine Qp (λW=>Bk W w.heap.size [S a1 (N x.off) c1,S a2 (N x.fs) c2]/\Below w.heap.size w W) ⟨Bk.new,bFz.alloc lRz _⟩ ?_;rintro W ⟨d,b⟩;have q:=d.2.1 0 _ rfl;have p:=d.2.1 1 _ rfl;have c:=Hm (clo a1 c1 x.off W r hp (v.o.up (Qa b)));generalize f:QF x.off=t0 at c;cases t0
 . (go_wp2_with fail);refine c.o.mono ?_;rintro e n ⟨rfl,a⟩;have b:=b.trans (a.mono b.size);clear a d;go_wp2;go_ret;exact⟨by simp[JC,f],b⟩
 go_wp2_with fail
 refine c.o.mono ?_;rintro e n ⟨rfl,a⟩;have d:=d.keep a;have b:=b.trans (a.mono b.size);clear a c;have q:=d.2.1 0 _ rfl;have p:=d.2.1 1 _ rfl;have j:=Hm (Jw (allAre_c a2 c2 x.fs n (by omega) (u.o.up (Qa b)).has));generalize k:x.fs.all QB=t1 at j;go_wp2_with fail
 refine j.o.mono ?_;rintro e z ⟨rfl,g⟩;have b:=b.trans (g.mono b.size);clear g d;go_wp2
 all_goals
  go_ret
  refine⟨?_,b⟩
  simp[JC,f,k]
theorem idat_c (x:Dat)(a1:Option Addr)(c1:Nat)(a2:Option Addr)(c2:Nat)(w:J)(m:Dat.Is 0 w x a1 a2)(l:Dat.LB 1048576 x)(hp:QT x.off):Ec Q 128 #[Ag #[S a1 (N x.off) c1,S a2 (N x.bs) c2]] w λe w'=>e=Z (G (JK x))/\Below w.heap.size w w':=by
 obtain⟨k,q⟩:=l;obtain⟨f,j⟩:=m;have n:=Hm f;clear f j;go_enter func128,ntmps128;go_upto_region 1 with fail
 refine Qp (λW=>Bk W w.heap.size [S a1 (N x.off) c1,S a2 (N x.bs) c2]/\Below w.heap.size w W) ⟨Bk.new,bFz.alloc lRz _⟩ ?_;rintro W ⟨g,b⟩;have p:=g.2.1 0 _ rfl;have c:=Hm (clo a1 c1 x.off W k hp (n.o.up (Qa b)));generalize d:QF x.off=t0 at c;go_wp2_with fail
 refine c.o.mono ?_;rintro e r ⟨rfl,a⟩;have b:=b.trans (a.mono b.size);clear a g;go_wp2
 all_goals
  go_ret
  refine⟨?_,b⟩
  simp[JK,d]
def SrcC (w:J)(a0:Option Addr)(cs:List Vu):Prop:=(a0=none/\cs=[])\/∃ad,a0=some ad/\∀j u,cs[j]?=some u->w.cell? (ad.add j)=some u
theorem SrcC.on {a:Option Addr}{cs:List Vu}(h:SrcC W a cs)(b:Below W.heap.size W w1):SrcC w1 a cs:=by
 rcases h with h|⟨c,e,h⟩
 . exact .inl h
 refine .inr ⟨c,e,λj u hu=>?_⟩;have:=h j u hu;rw[b.cell (Kk W _ this)];exact this
theorem JR (base:Nat)(t ty e:TypeId)(i:TypeInfo)(size:Nat)(d:P.underlying t=some (.slice e))(hi:P.info? e=some i) (v:Vu) (n:Nat) (xs:List Vu) (a:w.ownsRow base e size v n xs) (c:Nat):(Builtin.append_ #[t,t] ty #[v,S none 0 c]).run P w=.ok v w:=by
 rcases a.2 with ⟨rfl,rfl⟩|⟨g,j,f,rfl,_,_,b,_⟩
 . simp[Builtin.append_,run_underlying d,sizeOf,typeInfo,hi,Builtin.lenOf,Builtin.firstCells]
 simp[Builtin.append_,run_underlying d,sizeOf,typeInfo,hi,Builtin.lenOf,Builtin.firstCells,b,storeCells]
theorem JU {d:Array Oper}{o:Oper}{a:Act}{K:Act->J->Prop}{E:Prop}(g:o.guard=none)(s x:Operand)(t:TypeId) (j:o.op=.call { callee:=.builtin .append,args:=#[s,x],argTypes:=#[t,t] }) (base:Nat) (e:TypeId) (i:TypeInfo) (z:Vu) (size bytes:Nat) (ht:P.underlying t=some (.slice e)) (hi:P.info? e=some i) (hz:i.zero=some z) (hsize:i.size=size) (hby:i.bytes=bytes) (hzs:z.cells.size=size) (hsz:0<size) (v:Vu) (n:Nat) (xs:List Vu) (hs:a.eval s=v) (hown:w.ownsRow base e size v n xs) (a0:Option Addr) (m c:Nat) (news:List Vu) (hx:a.eval x=S a0 m c) (hl:N news=m*size) (hnews:SrcC w a0 news) (h1:∀u∈news,u.oneCell'=true) (h63:n+m<=maxLen) (hbytes:(n+m)*bytes<=140737488355328) (hbase:base<=w.heap.size) (h:∀v' w',w'.ownsRow base e size v' (n+m) (xs++news)->w.grownBy w' v.ownBlock->K (a.put o.dst v') w'):if Tf o (yielded d a.tmps)=true then Oper.wp P o a w K Qz0 else E:=by
 have k:Tf o (yielded d a.tmps)=true:=by simp[Tf,g]
 rw[if_pos k];rcases hnews with ⟨rfl,rfl⟩|⟨q,rfl,l⟩
 . have p:m=0:=by
    rcases Nat.mul_eq_zero.1 hl.symm with h|h
    . exact h
    omega
   subst p;have f:=JR (P:=P) (w:=w) base t o.type e i size ht hi v n xs hown c;have:=h v w (by simpa using hown) (World.grownBy.refl _ _);unfold Oper.wp;simp[execOp,j,resolve,invoke,builtin,hs,hx,f,Result.andThen];exact this
 exact wp_append_own w s x t j base e i z size bytes ht hi hz hsize hby hzs hsz v n xs hs hown q m c news hx hl l h1 h63 hbytes hbase λv' w' a b _=>h v' w' a b
theorem HI.src {B w a0 xs}(h:HI O B w a0 xs):SrcC w a0 (I xs):=by
 rcases h with h|⟨b,o,rfl,_,d⟩
 . subst h;cases a0 with
   |none=>exact .inl ⟨rfl,rfl⟩
   |some ad=>exact .inr ⟨ad,rfl,λj u hu=>by simp[I]at hu⟩
 refine .inr ⟨_,rfl,λj u hu=>?_⟩;have c:j<N xs:=by
  rcases Iq j (N xs)with h|h
  . exact h
  simp[I,My h]at hu
 have a:(⟨b,o,none⟩:Addr).add j=⟨b,o+j,none⟩:=by unfold Addr.add;split<;>simp_all
 rw[a,d j c];simp[I,c,Kg]at hu⊢;exact hu
theorem own_zero (W:J):((W.alloc (Fc #[] 2)).drew).ownsRow W.heap.size 2 1 (S (some ⟨W.heap.size,0,none⟩) 0 0) 0 []:=by
 refine⟨rfl,.inr ⟨W.heap.size,0,#[],rfl,lRz,?_,lRz,by decide,rfl,rfl⟩⟩;exact Px
theorem one_I (xs:List Int):∀u∈I xs,u.oneCell'=true:=by
 intro u a;simp only[I,List.mem_map]at a;obtain⟨y,_,rfl⟩:=a;rfl
theorem own_ge {base:Nat}{e:TypeId}{size:Nat}{v:Vu}{n:Nat}{xs:List Vu}(h:w.ownsRow base e size v n xs):∀k,v.ownBlock=some k->base<=k:=by
 intro k a;rcases h.2 with ⟨rfl,_⟩|⟨g,c,b,rfl,d,_⟩
 . simp[Hg]at a
 simp[Hg]at a;omega
theorem own_two {v:Vu}{b rs:List Int}(h:w.ownsRow B 2 1 v (0+N b+N rs) (([]++I b)++I rs)):∃a c,v=S a (b++rs).length c/\Has w a (b++rs):=by
 have e:([]++I b)++I rs=I (b++rs):=by simp[I]
 have d:0+N b+N rs=(b++rs).length:=by simp
 rw[e,d]at h;exact XN h
theorem sft_c (x:Qe)(a1:Option Addr)(c1:Nat)(a2:Option Addr)(c2:Nat)(w:J)(hI:Qe.Is 0 w x a1 a2)(hl:Qe.LB 1048576 x):Ec Q 94 #[Ag #[S a1 (N x.ps) c1,S a2 (N x.rs) c2]] w λe w'=>e=Z (G (ftB x))/\Below w.heap.size w w':=by
 obtain⟨l0,l1⟩:=hl;obtain⟨r1,r2⟩:=hI;have R1:=Hm r1;have R2:=Hm r2;clear r1 r2;obtain⟨i0,hi,r,q,p⟩:=info_parts info2;go_enter func94,ntmps94;go_upto_region 1 with fail
 refine Qp (λW=>Bk W w.heap.size [S a1 (N x.ps) c1,S a2 (N x.rs) c2]/\Below w.heap.size w W) ⟨Bk.new,bFz.alloc lRz _⟩ ?_;rintro W ⟨n,u⟩;have q0:=n.2.1 0 _ rfl;have q1:=n.2.1 1 _ rfl;have E:=Hm (own_zero W);have bd:Bk (W.alloc (Fc #[] 2)) w.heap.size [S a1 (N x.ps) c1,S a2 (N x.rs) c2]:=n.past;have s0:=bd.2.1 0 _ rfl;have s1:=bd.2.1 1 _ rfl;clear bd;have b0:Below W.heap.size W ((W.alloc (Fc #[] 2)).drew):=((Below.refl _ W).alloc lRz _).drew;have N1:=Hm ((R1.o.up (Qa u)).src.on b0);have N2:=Hm ((R2.o.up (Qa u)).src);have B0:=Hm b0;have BB:=Hm n;have A:=Hm u;clear b0 n u R1 R2;go_cut [3]from 5 (λs V=>∃a c,s=S a (x.ps++x.rs).length c/\Has V a (x.ps++x.rs)/\Bk V w.heap.size [S a1 (N x.ps) c1,S a2 (N x.rs) c2]/\Below w.heap.size w V)
 case first=>
  go_region_law (first
   | (
    refine JU rfl (.tmp 5) (.tmp 7) 24 rfl W.heap.size 2 i0 (U O 0) 1 8 underlying24 hi r q p rfl (by decide) (S (some ⟨W.heap.size,0,none⟩) 0 0) 0 [] (by simp[Lz,Lf]) E.o a1 (N x.ps) c1 (I x.ps) (by simp[Lz,Lf]) (by simp[I]) N1.o (one_I _) (by simp[maxLen];omega) (by omega) (by simp) ?_
    intro v1 w1 m D
    have B:=Hm (B0.o.grown D (by simp) (fun k hk=>by simp[Hg]at hk;omega));have t1:w1.cell? ⟨w.heap.size,1,none⟩=some (S a2 (N x.rs) c2):=(BB.o.keep B.o).2.1 1 _ rfl;have O1:=Hm m;clear m D)
   | (
    refine JU rfl (.tmp 8) (.tmp 10) 24 rfl W.heap.size 2 i0 (U O 0) 1 8 underlying24 hi r q p rfl (by decide) v1 (0+N x.ps) ([]++I x.ps) (by simp[Lz,Lf]) O1.o a2 (N x.rs) c2 (I x.rs) (by simp[Lz,Lf]) (by simp[I]) (N2.o.on B.o) (one_I _) (by simp[maxLen];omega) (by omega) B.o.size ?_
    intro v2 w2 g C
    have b2:=Hm (B.o.grown C B.o.size (own_ge O1.o));have O2:=Hm g;clear g C))
  all_goals
   go_wp2_with fail
   go_meet
   obtain⟨a,c,e,L⟩:=own_two O2.o
   exact⟨a,c,e,L,BB.o.keep b2.o,A.o.trans (b2.o.mono A.o.size)⟩
 obtain⟨a,c,rfl,L,n,u⟩:=hcut;have a3:(x.ps++x.rs).length<=2097152:=by simp;omega
 have X:Hid (ftB x=((x.ps++x.rs).all tyB&&decide (N x.rs<=1))):=by show _=_;simp[ftB,List.all_append]
 clear E N1 N2 B0 BB A s0 s1 q0 q1 hi r q p;generalize x.ps++x.rs=l at *;have q1:=n.2.1 1 _ rfl;have A:=Hm u;have R:=Hm L;clear n u L;go_wp2_with fail
 go_loop [4] (λi=>∃k:Nat,k<=N l/\i=U O k/\∀j,j<k->tyB (l.getD j 0)=true) (λi=>N l-(intOf i).toNat)
 case atStart=>exact⟨0,Kz _,rfl,λj h=>by omega⟩
 obtain⟨k,hk,rfl,f⟩:=hrel;by_cases t:k<N l
 . (have a5:(k:Int)<(N l:Int):=by omega);rcases R.o with hx|⟨B,o1,ea,Y⟩
   . subst hx;simp at t
   have d:=Y k t;subst ea;have HK:=Hm (ty_c (l.getD k 0));generalize H:l.getD k 0=y at *;generalize F:tyB y=z at *;cases z
   . (have b:Hid (ftB x=false):=by show _=_;rw[X.o,Jb tyB l 0 k t (by rw[H];exact F)];rfl);clear f Y H F R X;(go_wp2_with (refine(HK.o _).mono ?_;rintro e w1 ⟨rfl,rfl⟩));go_ret;exact⟨by rw[b.o];rfl,A.o⟩
   have ac:Hid (∀j,j<k+1->tyB (l.getD j 0)=true):=λj hj=>by
    rcases(by omega:j<k\/j=k)with h|h
    . exact f j h
    subst h;rw[H];exact F
   clear f Y H F R;(go_wp2_with (refine(HK.o _).mono ?_;rintro e w1 ⟨rfl,rfl⟩));(go_round);(case rel=>exact⟨k+1,by omega,by go_num,ac.o⟩);case measure=>simp[intOf];omega
 have e:k=N l:=by omega
 subst e;have b:Hid (ftB x=decide (N x.rs<=1)):=by show _=_;rw[X.o,JA tyB l 0 f,Bool.true_and]
 clear f R X;by_cases M:N x.rs<=1
 . (have v:(N x.rs:Int)<=1:=by omega);(have HF:Hid (ftB x=true):=by show _=_;rw[b.o];simp[M]);clear b M;go_wp2;go_ret;exact⟨by rw[HF.o];simp[v],A.o⟩
 have v:¬(N x.rs:Int)<=1:=by omega
 have HF:Hid (ftB x=false):=by show _=_;rw[b.o];simp[M]
 clear b M;go_wp2;go_ret;exact⟨by rw[HF.o];simp[v],A.o⟩
theorem eqLim (w:J)(a:Int)(b:Int)(h:Bool):(binOp .eql 144 (Ag #[U O a,U O b,G h]) (Ag #[U O 0,U O 0,G false])).run Q w=.ok (G (a==0&&(b==0&&h==false))) w:=by
 have j:(Q.fieldsOf 144).toList.map (λf=>(f.type,f.offset,decide (f.name= "_")))=[(2,0,false),(2,1,false),(4,2,false)]:=by kernel_rfl
 rw[run_eql_struct,show(10000:Nat)=9998+1+1 from rfl,run_equalIn_struct w (9998+1) _ _ _ (by kernel_rfl) (by kernel_rfl)];generalize(Q.fieldsOf 144).toList=fs at j;obtain⟨R,I,rfl,m,E⟩:=List.map_eq_cons_iff.1 j;obtain⟨M,H,rfl,l,D⟩:=List.map_eq_cons_iff.1 E;obtain⟨L,F,rfl,k,C⟩:=List.map_eq_cons_iff.1 D;obtain rfl:=List.map_eq_nil_iff.1 C;simp only[Prod.mk.injEq,decide_eq_false_iff_not]at m l k;obtain⟨p,s,v⟩:=m;obtain⟨o,r,u⟩:=l;obtain⟨n,q,t⟩:=k;simp only[Op.eqFields,ne_eq,v,u,t,not_false_eq_true,if_true,p,s,o,r,n,q,Sem.run_bind];have g:∀(x y z:Vu),(part 2 #[x,y,z] 0).run Q w=.ok x w:=λx y z=>by simp[part,isAgg,run_underlying underlying2]
 have d:∀(x y z:Vu),(part 2 #[x,y,z] 1).run Q w=.ok y w:=λx y z=>by simp[part,isAgg,run_underlying underlying2]
 have c:∀(x y z:Vu),(part 4 #[x,y,z] 2).run Q w=.ok z w:=λx y z=>by simp[part,isAgg,run_underlying underlying4]
 simp only[g,d,c,Mf,run_equalIn_int w 9998 2 O O _ _ underlying2,run_equalIn_bool' w 9998 4 _ _ underlying4];by_cases B:a=0<;>by_cases A:b=0<;>cases h<;>simp[Sem.run_bind,g,d,c,run_equalIn_int w 9998 2 O O _ _ underlying2,run_equalIn_bool' w 9998 4 _ _ underlying4,B,A]
theorem eqGty (w:J)(a:Int)(h:Bool):(binOp .eql 145 (Ag #[U O a,G h]) (Ag #[U O 0,G false])).run Q w=.ok (G (a==0&&h==false)) w:=by
 have d:(Q.fieldsOf 145).toList.map (λf=>(f.type,f.offset,decide (f.name= "_")))=[(2,0,false),(4,1,false)]:=by kernel_rfl
 rw[run_eql_struct,show(10000:Nat)=9998+1+1 from rfl,run_equalIn_struct w (9998+1) _ _ _ (by kernel_rfl) (by kernel_rfl)];generalize(Q.fieldsOf 145).toList=fs at d;obtain⟨z,u,rfl,j,s⟩:=List.map_eq_cons_iff.1 d;obtain⟨v,t,rfl,g,r⟩:=List.map_eq_cons_iff.1 s;obtain rfl:=List.map_eq_nil_iff.1 r;simp only[Prod.mk.injEq,decide_eq_false_iff_not]at j g;obtain⟨l,n,p⟩:=j;obtain⟨k,m,o⟩:=g;simp only[Op.eqFields,ne_eq,p,o,not_false_eq_true,if_true,l,n,k,m,Sem.run_bind];have c:∀(x y:Vu),(part 2 #[x,y] 0).run Q w=.ok x w:=λx y=>by simp[part,isAgg,run_underlying underlying2]
 have b:∀(x y:Vu),(part 4 #[x,y] 1).run Q w=.ok y w:=λx y=>by simp[part,isAgg,run_underlying underlying4]
 simp only[c,b,Mf,run_equalIn_int w 9998 2 O O _ _ underlying2,run_equalIn_bool' w 9998 4 _ _ underlying4];by_cases q:a=0<;>cases h<;>simp[Sem.run_bind,c,b,run_equalIn_int w 9998 2 O O _ _ underlying2,run_equalIn_bool' w 9998 4 _ _ underlying4,q]
structure Qc where
 e:Nat
 sz:Nat
 n:Nat
 v:Vu
 cs:List Vu
variable {rs:List Qc}{r:Qc}
def Qc.Ok (B:Nat)(W:J)(r:Qc):Prop:=W.ownsRow B r.e r.sz r.v r.n r.cs
def blk (rs:List Qc):List Nat:=rs.filterMap (·.v.ownBlock)
structure Own (B:Nat)(W:J)(rs:List Qc):Prop where
 all:∀r∈rs,r.Ok B W
 nd:(blk rs).Nodup
theorem blk_app (a b:List Qc):blk (a++b)=blk a++blk b:=by simp[blk]
theorem Jg:k∈blk rs ↔ ∃r∈rs,r.v.ownBlock=some k:=by simp[blk]
theorem Own.lt {B W rs}(h:Own B W rs)(b:k∈blk rs):B<=k/\k<W.heap.size:=by
 obtain⟨r,a,e⟩:=Jg.1 b;exact World.ownsRow.lt (h.all r a) k e
theorem Own.nil (B:Nat)(W:J):Own B W []:=⟨λr hr=>(by cases hr),by simp[blk]⟩
theorem Qc.Ok.blocks (h:r.Ok B W)(j:∀k,r.v.ownBlock=some k->W'.heap[k]?=W.heap[k]?):r.Ok B W':=by
 refine⟨h.1,?_⟩;rcases h.2 with m|⟨g,b,a,c,l,f,d⟩
 . exact .inl m
 exact .inr ⟨g,b,a,c,l,(j g (by rw[c];rfl)).trans f,d⟩
theorem Own.blocks {B}{rs}(h:Own B W rs)(a:∀k,k∈blk rs->W'.heap[k]?=W.heap[k]?):Own B W' rs :=
 ⟨λr hr=>Qc.Ok.blocks (h.all r hr) (λk hk=>a k (Jg.2 ⟨r,hr,hk⟩)),h.nd⟩
theorem Own.keep {B W W' rs}(h:Own B W rs)(a:Below W.heap.size W W'):Own B W' rs:=h.blocks (λk hk=>a.block k (h.lt hk).2)
theorem Own.grown {B}{rs}{r:Option Nat}(h:Own B W rs)(a:W.grownBy W' r)(hr:∀k,r=some k->k∉blk rs):Own B W' rs :=
 h.blocks (λk hk=>a.block k (h.lt hk).2 (λe=>hr k e.symm hk))
theorem Own.mono {W rs}(h:Own B W rs)(a:B'<=B):Own B' W rs:=⟨λr hr=>World.ownsRow.mono (h.all r hr) a,h.nd⟩
theorem Own.app {B W a b}(d:Own B W a)(c:Own B W b)(hd:∀k,k∈blk a->k∉blk b):Own B W (a++b):=by
 refine⟨λr hr=>?_,?_⟩
 . rcases List.mem_append.1 hr with h|h
   . exact d.all r h
   exact c.all r h
 rw[blk_app,List.nodup_append];exact⟨d.nd,c.nd,λx hx y hy e=>hd x hx (e ▸ hy)⟩
theorem Own.right {B W}{a b:List Qc}(h:Own B W (a++b)):Own B W b :=
 ⟨λr hr=>h.all r (mR hr),by have:=h.nd;rw[blk_app,List.nodup_append]at this;exact this.2.1⟩
theorem Own.disj {B W}{a b:List Qc}(h:Own B W (a++b))(c:k∈blk a):k∉blk b:=λhb=>by
 have:=h.nd
 rw[blk_app,List.nodup_append]at this
 exact this.2.2 k c k hb rfl
theorem Own.perm {B W}{a b:List Qc}(h:Own B W a)(p:a.Perm b):Own B W b :=
 ⟨λr hr=>h.all r (p.mem_iff.2 hr),(p.filterMap _).nodup_iff.1 h.nd⟩
theorem Own.comm {B W}{a b:List Qc}(h:Own B W (a++b)):Own B W (b++a):=h.perm List.perm_append_comm
theorem Own.new {B W W' a b}(f:Own B W a)(c:Own B W' a)(d:Own W.heap.size W' b)(g:B<=W.heap.size):Own B W' (a++b) :=
 c.app (d.mono g) (λk hk hk'=>by have:=(f.lt hk).2;have:=(d.lt hk').1;omega)
theorem Own.frame {B}{pre L L' post:List Qc}(h:Own B W (pre++L++post))(n:W.heap.size<=W'.heap.size)(g:∀k,k<W.heap.size->k∉blk L->k∈blk (pre++post)->W'.heap[k]?=W.heap[k]?)(m:Own B W' L')(l:∀k,k∈blk L'->k∈blk L\/W.heap.size<=k):Own B W' (pre++L'++post):=by
 have d:(pre++L++post).Perm (L++(pre++post)):=by rw[Kw];exact(List.perm_append_comm_assoc pre L post)
 have c:(L'++(pre++post)).Perm (pre++L'++post):=by rw[Kw];exact(List.perm_append_comm_assoc L' pre post)
 have a:=h.perm d;have f:Own B W' (pre++post):=a.right.blocks (λk hk'=>g k (a.right.lt hk').2 (λb=>a.disj b hk') hk');refine(m.app f (λk hkL hkR=>?_)).perm c;rcases l k hkL with b|j
 . exact a.disj b hkR
 have:=(a.right.lt hkR).2;omega
theorem Own.one (h:r.Ok B W):Own B W [r]:=by
 refine⟨λx hx=>by simp at hx;subst hx;exact h,?_⟩;cases hv:r.v.ownBlock<;>simp[blk,hv]
theorem Own.head {B W}(h:Own B W (r::rs)):r.Ok B W:=h.all r (by simp)
theorem Own.tail {B W}(h:Own B W (r::rs)):Own B W rs:=Own.right (a:=[r]) h
theorem Own.push {B}{r':Qc}(h:Own B W (r::rs))(c:W.grownBy W' r.v.ownBlock)(d:r'.Ok B W')(a:r'.v.ownBlock=r.v.ownBlock\/r'.v.ownBlock=some W.heap.size):Own B W' (r'::rs):=by
 refine Own.frame (pre:=[]) (L:=[r]) (L':=[r']) (post:=rs) h c.size (λk hk hn _=>c.block k hk (λe=>hn (Jg.2 ⟨r,by simp,e.symm⟩))) (Own.one d) (λk hk=>?_);obtain⟨x,b,e⟩:=Jg.1 hk;simp at b;subst b;rcases a with a|a
 . exact .inl (Jg.2 ⟨r,by simp,by rw[<- a];exact e⟩)
 rw[a]at e;cases e;exact .inr lRz
end YtaccbbndmmhenaaGreatDoor
namespace YtaccbbndmmhenaaGreatDoor.Va
open Go.RowKit Go.Sort
variable {want t:Int}{w w0 V:J}{xs:List Int}{ks:List Qc}{cs:List Vu}{T sz n g c D p:Nat}{sa:Option Addr}{r:Qc}{u sp:Vu}
structure Blk where
 op:Int
 takes:List Int
 results:List Int
 height:Nat
 dead:Bool
variable {b:Blk}{bs:List Blk}
structure Ctx where
 types:List Qe
 funcs:List Qe
 globals:List Qx
 imports:Nat
 tables:Nat
 mems:Nat
structure Fn where
 ps:List Int
 locs:List Grp
 stack:List Int
 blocks:List Blk
variable {s s':Fn}
abbrev R:=Except Int
def top (s:Fn):Blk:=s.blocks.getLastD ⟨0,[],[],0,false⟩
def pop (s:Fn)(want:Int):R (Int × Fn) :=
 if(N s.stack)<=(top s).height then(if(top s).dead then .ok (want,s)else .error 6)else
  let t:=s.stack.getLastD 0
  let s':={ s with stack:=s.stack.dropLast }
  if t=0 then .ok (want,s')else if want≠0/\want≠t then .error 6 else .ok (t,s')
def Q4 (s:Fn)(want:Int):R Fn:=(pop s want).map (·.2)
def XJ (s:Fn):List Int->R Fn
 |[]=>.ok s
 |t::ts=>(Q4 s t).bind λs'=>XJ s' ts
def Xm (s:Fn)(ts:List Int):R Fn:=XJ s ts.reverse
def push (s:Fn)(ts:List Int):Fn:={ s with stack:=s.stack++ts }
def QI (s:Fn)(op:Int)(rs:List Int):Fn:={ s with blocks:=s.blocks++[⟨op,if op=3 then []else rs,rs,N s.stack,false⟩] }
def die (s:Fn):Fn:={ s with stack:=s.stack.take (top s).height,blocks:=s.blocks.dropLast++[{ top s with dead:=true }] }
def JB (s:Fn)(ts:List Int):R Fn:=(Xm s ts).map die
def Qi (a:Int):List Int:=if a=64 then []else [a]
def label (s:Fn)(n:Int):Blk:=s.blocks.getD (N s.blocks-1-n.toNat) ⟨0,[],[],0,false⟩
def Qw (s:Fn):R (Blk × Fn):=(Xm s (top s).results).bind λs'=>if(N s'.stack)≠(top s).height then .error 6 else .ok (top s,{ s' with blocks:=s'.blocks.dropLast })
def X3 (s:Fn):Int:=N s.ps+(s.locs.map (·.n)).sum
def XQ:List Grp->Int->Int
 |[],_=>0
 |g::gs,i=>if i<g.n then g.ty else XQ gs (i-g.n)
def loc (s:Fn)(i:Int):Int:=if i<N s.ps then s.ps.getD i.toNat 0 else XQ s.locs (i-N s.ps)
def Jk (op:Int):Int:=if op∈[44,45,48,49,58,60]then 0 else if op∈[46,47,50,51,59,61]then 1 else if op∈[41,43,55,57]then 3 else 2
def Qk (x:Ctx)(frm:Int->Int)(s:Fn)(y:In):Bool :=
 if frm y.op=5\/frm y.op=6 then decide (0<x.mems)else
 if y.op=12\/y.op=13 then decide (y.a<N s.blocks)else
 if y.op=14 then y.l.all (λi=>decide (i<N s.blocks))&&decide (y.a<N s.blocks)else
 if y.op=16 then decide (y.a<N x.funcs)else
 if y.op=17 then decide (0<x.tables)&&decide (y.a<N x.types)else
 if y.op=32\/y.op=33\/y.op=34 then decide (y.a<X3 s)else
 if y.op=35\/y.op=36 then decide (y.a<N x.globals)else true
def Q3 (x:Ctx)(i:Int):Qx:=x.globals.getD i.toNat Qx.z
def apply (s:Fn)(t:Qe):R Fn:=(Xm s t.ps).map (push · t.rs)
def QU (x:Ctx)(oty:Int->Qe)(s:Fn)(y:In):Qe :=
 if y.op=13 then⟨(label s y.a).takes++[127],(label s y.a).takes⟩else
 if y.op=16 then x.funcs.getD y.a.toNat Qe.z else
 if y.op=17 then⟨(x.types.getD y.a.toNat Qe.z).ps++[127],(x.types.getD y.a.toNat Qe.z).rs⟩else
 if y.op=32 then⟨[],[loc s y.a]⟩else if y.op=33 then⟨[loc s y.a],[]⟩else if y.op=34 then⟨[loc s y.a],[loc s y.a]⟩else
 if y.op=35 then⟨[],[(Q3 x y.a).ty]⟩else if y.op=36 then⟨[(Q3 x y.a).ty],[]⟩else oty y.op
def JO (x:Ctx)(oty:Int->Qe)(s:Fn)(y:In):R Fn :=
 if y.op=0 then JB s []else
 if y.op=2\/y.op=3 then .ok (QI s y.op (Qi y.a))else
 if y.op=4 then(Q4 s 127).map (QI · 4 (Qi y.a))else
 if y.op=5 then(Qw s).map λp=>QI p.2 5 p.1.results else
 if y.op=11 then(Qw s).bind λp=>if p.1.op=4/\p.1.results≠[]then .error 6 else .ok (push p.2 p.1.results)else
 if y.op=12 then JB s (label s y.a).takes else
 if y.op=14 then(Q4 s 127).bind λs'=>if y.l.all (λi=>decide ((label s' i).takes=(label s' y.a).takes))then JB s' (label s' y.a).takes else .error 6 else
 if y.op=15 then JB s (s.blocks.headD ⟨0,[],[],0,false⟩).results else
 if y.op=26 then Q4 s 0 else
 if y.op=27 then(Q4 s 127).bind λs1=>(pop s1 0).bind λp=>(pop p.2 p.1).map λq=>push q.2 [q.1]else
 apply s (QU x oty s y)
def step (x:Ctx)(frm:Int->Int)(oty:Int->Qe)(s:Fn)(y:In):R Fn :=
 if Qk x frm s y=false then .error 2 else
 if frm y.op=5/\Jk y.op<y.a then .error 8 else
 if y.op=36/\(Q3 x y.a).mu=false then .error 9 else JO x oty s y
def JQ (x:Ctx)(frm:Int->Int)(oty:Int->Qe):Fn->Nat->List In->Except (Int × Nat) Fn
 |s,_,[]=>.ok s
 |s,k,y::ys=>match step x frm oty s y with
  |.error e=>.error (e,k)
  |.ok s'=>JQ x frm oty s' (k+1) ys
def fn0 (t:Qe)(locs:List Grp):Fn:=⟨t.ps,locs,[],[⟨2,t.rs,t.rs,0,false⟩]⟩
theorem Xu (V:J)(g j:Nat)(u:Vu):V.grownBy (V.setCell ⟨g,j,none⟩ u) (some g) :=
 ⟨rfl,rfl,rfl,by simp,λi hi hne=>Mx _ _ _ _ (λe=>hne (by simp at e;rw[e]))⟩
structure Mo (D:Nat)(w0:J)(rs:List Qc)(V:J):Prop where
 own:Own D V rs
 b:Below D w0 V
 le:D<=V.heap.size
abbrev box (t n g:Nat)(cs:List Vu):Qc:=⟨t,n,1,S (some ⟨g,0,none⟩) 1 1,cs⟩
section
variable {D:Nat}{w0 V W:J}{rs rs':List Qc}
theorem Mo.perm (h:Mo D w0 rs V)(p:rs.Perm rs'):Mo D w0 rs' V:=⟨h.own.perm p,h.b,h.le⟩
theorem Mo.keep (h:Mo D w0 rs V)(a:Below V.heap.size V W):Mo D w0 rs W:=⟨h.own.keep a,h.b.trans (a.mono h.le),Ky h.le a.size⟩
theorem Mo.drewN (h:Mo D w0 rs V)(n:Nat):Mo D w0 rs (V.drewN n):=h.keep ⟨rfl,rfl,rfl,lRz,λ_ _=>rfl⟩
theorem Mo.row (h:Mo D w0 rs V)(hr:r∈rs):r.Ok D V:=h.own.all r hr
theorem Mo.tail (h:Mo D w0 (r::rs) V):Mo D w0 rs V:=⟨h.own.tail,h.b,h.le⟩
theorem Mo.right {ns:List Qc}(h:Mo D w0 (ns++rs) V):Mo D w0 rs V:=⟨h.own.right,h.b,h.le⟩
theorem Mo.set (h:Mo D w0 (⟨T,sz,n,S (some ⟨g,0,none⟩) n c,cs⟩::rs) V)(j:Nat)(u:Vu):Mo D w0 (⟨T,sz,n,S (some ⟨g,0,none⟩) n c,cs.set j u⟩::rs) (V.setCell ⟨g,j,none⟩ u):=by
 have f:V.ownsRow D T sz (S (some ⟨g,0,none⟩) n c) n cs:=h.own.head;have a:=(World.ownsRow.stored f j u).1;have d:=Xu V g j u;have k:=World.ownsRow.lt f g rfl;refine⟨h.own.push (r':=⟨T,sz,n,S (some ⟨g,0,none⟩) n c,cs.set j u⟩) d a (.inl rfl),h.b.setCell k.1 _,by simpa using h.le⟩
theorem Mo.cell {v:Vu}(h:Mo D w0 rs V)(d:(⟨T,sz,n,v,cs⟩:Qc)∈rs)(hv:v=S (some ⟨g,0,none⟩) n c){j:Nat}(f:j<n*sz)(b:cs[j]?=some u):V.cell? ⟨g,j,none⟩=some u/\V.frozen? ⟨g,j,none⟩=false:=by
 subst hv;have a:V.ownsRow D T sz (S (some ⟨g,0,none⟩) n c) n cs:=h.own.all _ d;exact⟨(World.ownsRow.cellAt a j f).trans b,World.ownsRow.frozenAt a j⟩
theorem Mo.bx {t:Nat}(h:Mo D w0 rs V)(a:box t n g cs∈rs)(j:Nat)(b:j<n:=by omega)(hu:cs[j]?=some u:=by exact rfl):V.cell? ⟨g,j,none⟩=some u/\V.frozen? ⟨g,j,none⟩=false:=h.cell a rfl (by omega) hu
theorem Mo.b0 {t:Nat}(h:Mo D w0 (box t n g cs::rs) V)(j:Nat)(a:j<n:=by omega)(hu:cs[j]?=some u:=by exact rfl):V.cell? ⟨g,j,none⟩=some u/\V.frozen? ⟨g,j,none⟩=false:=h.bx (t:=t) (n:=n) (cs:=cs) (by simp) j a hu
theorem Mo.lt (h:Mo D w0 rs V)(a:(⟨T,sz,n,S (some ⟨g,0,none⟩) n c,cs⟩:Qc)∈rs):D<=g/\g<V.heap.size:=World.ownsRow.lt (h.own.all _ a) g rfl
theorem Mo.new {ns}(h:Mo D w0 rs V)(a:Below V.heap.size V W)(hn:Own V.heap.size W ns):Mo D w0 (ns++rs) W:=by
 refine⟨(Own.new h.own (h.own.keep a) hn h.le).comm,h.b.trans (a.mono h.le),Ky h.le a.size⟩
theorem Mo.box {cur:Array Vu}(h:Mo D w0 rs V)(e n:Nat)(hn:cur.size=n):Mo D w0 (Va.box e n V.heap.size cur.toList::rs) (V.alloc (Fc cur e)):=by
 have a:Below V.heap.size V (V.alloc (Fc cur e)):=bFz.alloc lRz _;refine h.new (ns:=[Va.box e n V.heap.size cur.toList]) a (Own.one ?_);subst hn;refine⟨by simp,.inr ⟨V.heap.size,1,cur,rfl,lRz,?_,lRz,by decide,by simp,?_⟩⟩
 . show(V.heap.push _)[V.heap.size]?=_;exact Px
 show cur.toList.take (1*cur.size)=cur.toList;rw[List.take_of_length_le (by simp)]
theorem Mo.swap {r':Qc}(h:Mo D w0 (r::rs) V)(c:r'.Ok D V)(a:r'.v.ownBlock=r.v.ownBlock):Mo D w0 (r'::rs) V :=
 ⟨h.own.push (World.grownBy.refl _ _) c (.inl a),h.b,h.le⟩
theorem Mo.push {r':Qc}{V1}(h:Mo D w0 (r::rs) V)(f:Below V.heap.size V V1)(d:V1.grownBy W r.v.ownBlock)(own:r'.Ok D W)(c:r'.v.ownBlock=r.v.ownBlock\/r'.v.ownBlock=some V1.heap.size):Mo D w0 (r'::rs) W:=by
 have a:=h.keep f;exact⟨a.own.push d own c,a.b.grown d a.le (λk hk=>(a.own.lt (Jg.2 ⟨r,by simp,hk⟩)).1),Ky a.le d.size⟩
end
theorem own_take {B e:Nat}{a:Option Addr}{l:List Vu}(h:w.ownsRow B e sz (S a n c) n l){m:Nat}(q:m<=n):w.ownsRow B e sz (S a m c) m (l.take (m*sz)):=by
 rcases h.2 with ⟨d,t⟩|⟨u,o,k,d,s,r,p,j,g,b⟩
 . subst t;(have:m=0:=by omega);subst this;refine⟨by simp,.inl ⟨d,rfl⟩⟩
 simp only[Value.slice.injEq,true_and]at d;obtain⟨rfl,rfl⟩:=d;have v:=h.1;have f:m*sz<=n*sz:=Nat.mul_le_mul_right _ q;refine⟨by simp;omega,.inr ⟨u,c,k,rfl,s,r,by omega,j,g,?_⟩⟩;rw[<- b,List.take_take,Nat.min_eq_left f]
def Ty (D:Nat)(w0:J)(ks:List Qc)(v:Vu)(xs:List Int):Prop:=(∃a c,v=S a (N xs) c/\(xs=[]\/∃b off,a=some ⟨b,off,none⟩/\b<D/\∀i,i<N xs->w0.cell? ⟨b,off+i,none⟩=some (U O (xs.getD i 0))))\/(⟨2,1,N xs,v,I xs⟩:Qc)∈ks
theorem Ty.sub {ks':List Qc}{v:Vu}(h:Ty D w0 ks v xs)(a:∀r∈ks,r∈ks'):Ty D w0 ks' v xs:=h.imp id (a _)
theorem Ty.nil (D:Nat)(w0:J)(ks:List Qc)(a:Option Addr)(c:Nat):Ty D w0 ks (S a 0 c) []:=.inl ⟨a,c,rfl,.inl rfl⟩
theorem Ty.shape {rs:List Qc}{v:Vu}(h:Ty D w0 ks v xs)(d:Mo D w0 rs V)(f:∀r∈ks,r∈rs):∃a c,v=S a (N xs) c/\Has V a xs:=by
 rcases h with ⟨a,c,rfl,h⟩|h
 . refine⟨a,c,rfl,?_⟩;rcases h with h|⟨b,off,rfl,j,g⟩
   . exact .inl h
   exact .inr ⟨b,off,rfl,λi hi=>(d.b.cell (p:=⟨b,off+i,none⟩) j).trans (g i hi)⟩
 exact XN (d.row (f _ h))
theorem Has.src {w a0 xs}(h:Has w a0 xs):SrcC w a0 (I xs):=by
 have:HI O 0 w a0 xs:=by
  rcases h with h|⟨b,o,e,a⟩
  . exact .inl h
  exact .inr ⟨b,o,e,Kz _,a⟩
 exact this.src
def Fl (Rp:Blk->List Vu->Prop):List Blk->List Vu->Prop
 |[],cs=>cs=[]
 |b::bs,cs=>∃c1 c2,cs=c1++c2/\Rp b c1/\Fl Rp bs c2
section
variable {Rp Rq:Blk->List Vu->Prop}
theorem Fl.mono (hr:∀b c,Rp b c->Rq b c):∀{bs:List Blk} {cs:List Vu},Fl Rp bs cs->Fl Rq bs cs
 |[],_,h=>h
 |b::bs,_,⟨c1,c2,e,h1,h2⟩=>⟨c1,c2,e,hr _ _ h1,Fl.mono hr h2⟩
theorem Fl.app:∀{bs c:List Blk} {cs a:List Vu},Fl Rp bs cs->Fl Rp c a->Fl Rp (bs++c) (cs++a)
 |[],_,_,_,h,k=>by cases h;simpa using k
 |b::bs,_,_,_,⟨c1,c2,e,h1,h2⟩,k=>⟨c1,c2++_,by rw[e,Kw],h1,Fl.app h2 k⟩
theorem Fl.one {c:List Vu}(h:Rp b c):Fl Rp [b] c:=⟨c,[],by simp,h,rfl⟩
theorem Fl.split:∀{bs a:List Blk} {cs:List Vu},Fl Rp (bs++a) cs->∃c1 c2,cs=c1++c2/\Fl Rp bs c1/\Fl Rp a c2
 |[],_,cs,h=>⟨[],cs,rfl,rfl,h⟩
 |b::bs,_,_,⟨c1,c2,e,h1,h2⟩=>by
  obtain⟨c,j,g,f,d⟩:=Fl.split h2
  exact⟨c1++c,j,by rw[e,g,Kw],⟨c1,c,rfl,h1,f⟩,d⟩
theorem Fl.un {c:List Vu}(h:Fl Rp [b] c):Rp b c:=by
 obtain⟨g,f,e,d,a⟩:=h;cases a;rw[e];simpa using d
theorem Fl.len {z:Nat}(a:∀b c,Rp b c->N c=z):∀{bs:List Blk} {cs:List Vu},Fl Rp bs cs->N cs=N bs*z
 |[],_,h=>by cases h;simp
 |b::bs,_,⟨c1,c2,e,h1,h2⟩=>by rw[e];simp[a _ _ h1,Fl.len a h2,Nat.add_mul];omega
theorem Fl.at {z:Nat}(f:∀b c,Rp b c->N c=z)(h:Fl Rp bs cs){i:Nat}(d:bs[i]?=some b):∃c,Rp b c/\∀j u,c[j]?=some u->cs[i*z+j]?=some u:=by
 have hi:i<N bs:=(List.getElem?_eq_some_iff.1 d).1;have e:bs=bs.take i++(b::bs.drop (i+1)):=by
  conv=>lhs;rw[<- List.take_append_drop i bs]
  rw[Td hi];rw[Kj hi]at d;cases d;rfl
 rw[e]at h;obtain⟨n,q,rfl,m,c,p,rfl,l,o⟩:=Fl.split h;refine⟨c,l,λj u hu=>?_⟩;have g:=Fl.len f m;have a:(bs.take i).length=i:=by simp;omega
 rw[a]at g;have k:j<N c:=(List.getElem?_eq_some_iff.1 hu).1;rw[Lq (by omega),show i*z+j-N n=j by omega,List.getElem?_append_left k];exact hu
end
theorem XM {P:Program}{f:Array Oper}{rest:List Oper}{o:Oper}{a:Act}{Qz0:Exit->Act->J->Prop}(j:o.guard=none)(s x:Operand)(t:TypeId) (k:o.op=.call { callee:=.builtin .append,args:=#[s,x],argTypes:=#[t,t] }) (base:Nat) (e:TypeId) (i:TypeInfo) (z:Vu) (size bytes:Nat) (ht:P.underlying t=some (.slice e)) (hi:P.info? e=some i) (hz:i.zero=some z) (hsize:i.size=size) (hby:i.bytes=bytes) (hzs:z.cells.size=size) (hsz:0<size) (v:Vu) (n:Nat) (xs:List Vu) (hs:a.eval s=v) (hown:w.ownsRow base e size v n xs) (a0:Option Addr) (m c:Nat) (news:List Vu) (hx:a.eval x=S a0 m c) (hl:N news=m*size) (hnews:SrcC w a0 news) (h1:∀u∈news,u.oneCell'=true) (h63:n+m<=maxLen) (hbytes:(n+m)*bytes<=140737488355328) (hbase:base<=w.heap.size) (h:∀v' w',w'.ownsRow base e size v' (n+m) (xs++news)->w.grownBy w' v.ownBlock->(v'.ownBlock=v.ownBlock\/v'.ownBlock=some w.heap.size)->wpList P f Qz0 rest (a.put o.dst v') w'):wpList P f Qz0 (o::rest) a w:=by
 rcases hnews with ⟨rfl,rfl⟩|⟨r,rfl,l⟩
 . have p:m=0:=by
    rcases Nat.mul_eq_zero.1 hl.symm with h|h
    . exact h
    omega
   subst p;have g:=JR (P:=P) (w:=w) base t o.type e i size ht hi v n xs hown c;have q:=h v w (by simpa using hown) (World.grownBy.refl _ _) (.inl rfl);refine wpList_plain j λK hK=>?_;unfold Oper.wp execOp;simp only[k,resolve,invoke,builtin,Sem.run_bind,Sem.run_pure,Mf,List.map_toArray,Rk,Iy,hs,hx,g];exact hK _ _ q
 exact wpList_append_own_at _ j s x t k base e i z size bytes ht hi hz hsize hby hzs hsz v n xs hs hown r m c news hx hl l h1 h63 hbytes hbase λv' w' a b _ d=>h v' w' a b d
theorem Qt {P:Program}{d:Array Oper}{o:Oper}{a:Act}{K:Act->J->Prop}{Qz0:Exit->Act->J->Prop}{E:Prop}(f:o.guard=none)(s x:Operand)(t:TypeId) (l:o.op=.call { callee:=.builtin .append,args:=#[s,x],argTypes:=#[t,t] }) (base:Nat) (e:TypeId) (i:TypeInfo) (z:Vu) (size bytes:Nat) (ht:P.underlying t=some (.slice e)) (hi:P.info? e=some i) (hz:i.zero=some z) (hsize:i.size=size) (hby:i.bytes=bytes) (hzs:z.cells.size=size) (hsz:0<size) (v:Vu) (n:Nat) (xs:List Vu) (hs:a.eval s=v) (hown:w.ownsRow base e size v n xs) (ad:Addr) (m c:Nat) (news:List Vu) (hx:a.eval x=S (some ad) m c) (hl:N news=m*size) (hn:∀j u,news[j]?=some u->w.cell? (ad.add j)=some u) (h1:∀u∈news,u.oneCell'=true) (h63:n+m<=maxLen) (hbytes:(n+m)*bytes<=140737488355328) (hbase:base<=w.heap.size) (h:∀b w',w'.ownsRow base e size b (n+m) (xs++news)->w.grownBy w' v.ownBlock->(b.ownBlock=v.ownBlock\/b.ownBlock=some w.heap.size)->K (a.put o.dst b) w'):if Tf o (yielded d a.tmps)=true then Oper.wp P o a w K Qz0 else E:=by
 have g:Tf o (yielded d a.tmps)=true:=by simp[Tf,f]
 rw[if_pos g];obtain⟨b,w',k,r,q,y,p⟩:=run_append_own_at (P:=P) w base t o.type e i z size bytes ht hi hz hsize hby hzs hsz v n xs hown ad m c news hl hn h1 h63 hbytes hbase;unfold Oper.wp execOp;simp only[l,resolve,invoke,builtin,Sem.run_bind,Sem.run_pure,Mf,List.map_toArray,Rk,Iy,hs,hx,k];exact h b w' r q p
theorem Jn (w:J)(cs:List Vu)(t:TypeId):∀j u,cs[j]?=some u->(w.alloc (Fc cs.toArray t)).cell? ((⟨w.heap.size,0,none⟩:Addr).add j)=some u:=by
 intro j u a;have k:Bk (w.alloc (Fc cs.toArray t)) w.heap.size cs:=Bk.new;rw[Addr.add_lit,Hq];exact k.2.1 j u a
structure Lo where
 pv:Vu
 gv:Vu
 ev:Vu
variable {l:Lo}
abbrev ib (sp:Vu)(l:Lo)(s b:Vu):List Vu:=[sp,l.pv,l.gv,l.ev,s,b]
def IRep (D:Nat)(w0:J)(ks:List Qc)(b:Blk)(cs:List Vu):Prop:=∃tv rv,cs=[tv,U O b.height,U O b.op,rv,G b.dead]/\Ty D w0 ks tv b.takes/\Ty D w0 ks rv b.results
theorem irep_len (b:Blk)(c:List Vu)(h:IRep D w0 ks b c):N c=5:=by obtain⟨a,d,rfl,_⟩:=h;rfl
abbrev bxR (p:Nat)(sp:Vu)(l:Lo)(sv bv:Vu):Qc:=box 337 6 p (ib sp l sv bv)
abbrev stR (s:Fn)(sv:Vu):Qc:=⟨2,1,N s.stack,sv,I s.stack⟩
abbrev blR (n:Nat)(bv:Vu)(cs:List Vu):Qc:=⟨350,5,n,bv,cs⟩
def ISt (D:Nat)(w0:J)(p:Nat)(sp:Vu)(l:Lo)(ks:List Qc)(s:Fn)(V:J):Prop:=∃sv bv bcs,Mo D w0 (bxR p sp l sv bv::stR s sv::blR (N s.blocks) bv bcs::ks) V/\Fl (IRep D w0 ks) s.blocks bcs
section
variable {D:Nat}{w0:J}{p:Nat}{sp:Vu}{l:Lo}{ks:List Qc}{s:Fn}{V W:J}
theorem ISt.keep (h:ISt D w0 p sp l ks s V)(c:Below V.heap.size V W):ISt D w0 p sp l ks s W:=by
 obtain⟨b,g,a,f,d⟩:=h;exact⟨b,g,a,f.keep c,d⟩
theorem ISt.mo (h:ISt D w0 p sp l ks s V):Mo D w0 ks V:=by
 obtain⟨c,f,b,a,d⟩:=h;exact a.tail.tail.tail
theorem ISt.new {ns}(h:ISt D w0 p sp l ks s V)(g:Below V.heap.size V W)(hn:Own V.heap.size W ns):ISt D w0 p sp l (ns++ks) s W:=by
 obtain⟨f,m,d,k,j⟩:=h;refine⟨f,m,d,(k.new g hn).perm ?_,j.mono λb c ⟨tv,rv,e,a,b⟩=>⟨tv,rv,e,a.sub λr hr=>mR hr,b.sub λr hr=>mR hr⟩⟩;classical
 rw[Th];intro a;simp[Hd,List.count_append];omega
theorem Ty.st {v:Vu}(t:Ty D w0 ks v xs)(h:ISt D w0 p sp l ks s V):∃a c,v=S a (N xs) c/\Has V a xs:=t.shape h.mo λr hr=>hr
theorem ISt.opn (h:ISt D w0 p sp l ks s V)(v:s.blocks=bs++[b]):∃sa sc g c d f j,Mo D w0 (bxR p sp l (S sa (N s.stack) sc) (S (some ⟨g,0,none⟩) (N bs+1) c)::stR s (S sa (N s.stack) sc)::blR (N bs+1) (S (some ⟨g,0,none⟩) (N bs+1) c) (d++[f,U O b.height,U O b.op,j,G b.dead])::ks) V /\ (N bs)+1<=c/\Fl (IRep D w0 ks) bs d/\N d=N bs*5/\Ty D w0 ks f b.takes/\Ty D w0 ks j b.results:=by
 obtain⟨n,u,M,m,z⟩:=h;rw[v]at z;have H:N s.blocks=N bs+1:=by rw[v];simp
 rw[H]at m;obtain⟨d,R,rfl,y,L⟩:=Fl.split z;obtain⟨f,j,rfl,C,B⟩:=Fl.un L;have F:V.ownsRow D 2 1 n (N s.stack) (I s.stack):=m.row (r:=stR s n) (by simp);have E:V.ownsRow D 350 5 u (N bs+1) (d++[f,U O b.height,U O b.op,j,G b.dead]):=m.row (r:=blR _ u _) (by simp);obtain⟨sa,sc,rfl⟩:∃a c,n=S a (N s.stack) c:=by
  rcases F.2 with ⟨e,A⟩|⟨g,k,t,o,_⟩
  . rw[A];exact⟨_,_,e⟩
  exact⟨_,_,o⟩
 obtain⟨g,c,rfl,q⟩:∃g c,u=S (some ⟨g,0,none⟩) (N bs+1) c/\N bs+1<=c:=by
  rcases E.2 with ⟨_,A⟩|⟨g,k,t,o,_,_,q,_⟩
  . omega
  exact⟨g,k,o,q⟩
 exact⟨sa,sc,g,c,d,f,j,m,q,y,Fl.len irep_len y,C,B⟩
end
theorem opn_cells {D w0 V}{sc k:Nat}{c1:List Vu}{tv rv x1 x2 a:Vu}(h:Mo D w0 (bxR p sp l (S sa (N s.stack) sc) (S (some ⟨g,0,none⟩) (k+1) c)::stR s (S sa (N s.stack) sc)::blR (k+1) (S (some ⟨g,0,none⟩) (k+1) c) (c1++[tv,x1,x2,rv,a])::ks) V)(b:N c1=k*5):V.cell? ⟨p,0,none⟩=some sp/\V.cell? ⟨p,4,none⟩=some (S sa (N s.stack) sc)/\V.cell? ⟨p,5,none⟩=some (S (some ⟨g,0,none⟩) (k+1) c)/\V.frozen? ⟨p,4,none⟩=false/\V.frozen? ⟨p,5,none⟩=false /\ V.cell? ⟨g,k*5,none⟩=some tv/\V.cell? ⟨g,k*5+1,none⟩=some x1/\V.cell? ⟨g,k*5+2,none⟩=some x2/\V.cell? ⟨g,k*5+3,none⟩=some rv/\V.cell? ⟨g,k*5+4,none⟩=some a/\V.frozen? ⟨g,k*5+4,none⟩=false:=by
 have B:=λ(j:Nat) (u:Vu) (hj:j<6) (hu:(ib sp l (S sa (N s.stack) sc) (S (some ⟨g,0,none⟩) (k+1) c))[j]?=some u)=>h.bx (t:=337) (g:=p) (by simp) j hj hu;have E:=λ(j:Nat) (u:Vu) (hj:j<5) (hu:[tv,x1,x2,rv,a][j]?=some u)=>h.cell (T:=350) (sz:=5) (n:=k+1) (g:=g) (c:=c) (cs:=c1++[tv,x1,x2,rv,a]) (by simp) rfl (j:=k*5+j) (u:=u) (by omega) (by rw[Lq (by omega),show k*5+j-N c1=j by omega];exact hu);exact⟨(B 0 _ (by omega) rfl).1,(B 4 _ (by omega) rfl).1,(B 5 _ (by omega) rfl).1,(B 4 _ (by omega) rfl).2,(B 5 _ (by omega) rfl).2,(E 0 _ (by omega) rfl).1,(E 1 _ (by omega) rfl).1,(E 2 _ (by omega) rfl).1,(E 3 _ (by omega) rfl).1,(E 4 _ (by omega) rfl).1,(E 4 _ (by omega) rfl).2⟩
theorem ilast_c (p g k c:Nat)(w:J)(d:w.cell? ⟨p,5,none⟩=some (S (some ⟨g,0,none⟩) (k+1) c))(b:k<=1099511627776):Ec Q 252 #[Yp (some ⟨p,0,none⟩)] w λe w'=>e=Z (Yp (some ⟨g,k*5,none⟩))/\∃n,w'=w.drewN n:=by
 have a:IntKind.i64.wrap (((k+1:Nat):Int)-1)=k:=by rw[Kv];omega
 go_enter func252,ntmps252;go_wp2;go_quiet (fail)
 go_wp2;go_ret;exact⟨rfl,_,rfl⟩
section
variable (D:Nat) (w0:J) (p:Nat) (sp:Vu) (l:Lo) (ks:List Qc)
abbrev flt (f:Int):Vu:=If 169 (U O f)
def PopP (r:R (Int × Fn))(e:Ending)(w':J):Prop :=
 match r with
 |.error f=>e=Z (.tuple #[U O 0,flt f])/\Mo D w0 ks w'
 |.ok (t,s')=>e=Z (.tuple #[U O t,Nf])/\ISt D w0 p sp l ks s' w'
def FnP (r:R Fn)(e:Ending)(w':J):Prop :=
 match r with
 |.error f=>e=Z (flt f)/\Mo D w0 ks w'
 |.ok s'=>e=Z Nf/\ISt D w0 p sp l ks s' w'
end
section
variable {D:Nat}{w0:J}{p:Nat}{sp:Vu}{l:Lo}{ks:List Qc}{s:Fn}{V W:J}
theorem Xc (V:J)(n:Nat)(r:Option Nat):V.grownBy (V.drewN n) r:=⟨rfl,rfl,rfl,lRz,λ_ _ _=>rfl⟩
theorem perm3 {a b c:Qc}:(a::b::c::ks).Perm (b::a::c::ks):=List.Perm.swap _ _ _
theorem XE {a b c:Qc}:(a::b::c::ks).Perm (c::a::b::ks):=by
 classical
 rw[Th];intro x;simp[Hd];omega
theorem ISt.cut {sc m:Nat}{bv:Vu}{bcs:List Vu}(h:Mo D w0 (bxR p sp l (S sa (N s.stack) sc) bv::stR s (S sa (N s.stack) sc)::blR (N s.blocks) bv bcs::ks) V)(d:Fl (IRep D w0 ks) s.blocks bcs)(b:m<=N s.stack):ISt D w0 p sp l ks { s with stack:=s.stack.take m } (V.setCell ⟨p,4,none⟩ (S sa m sc)):=by
 have a:=(h.set 4 (S sa m sc)).perm perm3;have n:V.ownsRow D 2 1 (S sa (N s.stack) sc) (N s.stack) (I s.stack):=h.row (r:=stR s _) (by simp);have k:=a.row (r:=stR s (S sa (N s.stack) sc)) (by simp);have j:=own_take k b;have c:(s.stack.take m).length=m:=by simp;omega
 have g:=a.swap (r':=⟨2,1,m,S sa m sc,I (s.stack.take m)⟩) (by
  show(V.setCell ⟨p,4,none⟩ (S sa m sc)).ownsRow D 2 1 (S sa m sc) m (I (s.stack.take m))
  have e:(I s.stack).take (m*1)=I (s.stack.take m):=by simp[I,List.map_take]
  rw[<- e];exact j) (by cases sa <;> rfl)
 have f:=g.perm perm3;refine⟨S sa m sc,bv,bcs,?_,d⟩;simpa[stR,c]using f
end
theorem ipop_c (want:Int)(h:ISt D w0 p sp l ks s V)(R:s.blocks≠[])(B:N s.blocks<=1048577)(F:N s.stack<=1099511627776):Ec Q 239 #[Yp (some ⟨p,0,none⟩),U O want] V λe w'=>PopP D w0 p sp l ks (pop s want) e w'/\V.grownBy w' (some p):=by
 obtain⟨bs,b,f⟩:∃bs b,s.blocks=bs++[b]:=⟨_,_,(Mj R).symm⟩;have d:top s=b:=by simp[top,f]
 obtain⟨sa,sc,g,c,c1,tv,rv,q,hc,C,hl,t1,t2⟩:=h.opn f;have av:N bs<=1048577:=by rw[f]at B;simp at B;omega
 obtain⟨q0,q4,q5,f4,f5,e0,e1,e2,e3,e4,f6⟩:=opn_cells q hl;have y:=Hm (λw=>ilast_c p g (N bs) c w);have hH:=Hm h;have hw:IntKind.i64.wrap ((N s.stack:Int)-1)=(N s.stack:Int)-1:=by rw[Kv];omega
 by_cases v:N s.stack<=b.height
 . (have d0:(N s.stack:Int)-1<(b.height:Int):=by omega);cases hd:b.dead
   . (have M:pop s want=.error 6:=by simp[pop,d,v,hd]);rw[M];rw[hd]at e4;clear q C h;go_enter func239,ntmps239;(go_wp2_with fail);refine(y.o _ (by assumption) (by omega)).mono ?_;rintro e w1 ⟨rfl,n,rfl⟩;go_wp2;(go_ret2);exact⟨⟨rfl,hH.o.mo.drewN n⟩,Xc V n _⟩
   (have M:pop s want=.ok (want,s):=by simp[pop,d,v,hd]);rw[M];rw[hd]at e4;clear q C h;go_enter func239,ntmps239;(go_wp2_with fail);refine(y.o _ (by assumption) (by omega)).mono ?_;rintro e w1 ⟨rfl,n,rfl⟩;go_wp2;(go_ret2);exact⟨⟨rfl,hH.o.keep ⟨rfl,rfl,rfl,lRz,λ_ _=>rfl⟩⟩,Xc V n _⟩
 have d0:¬((N s.stack:Int)-1<(b.height:Int)):=by omega
 have L:V.ownsRow D 2 1 (S sa (N s.stack) sc) (N s.stack) (I s.stack):=q.row (r:=stR s _) (by simp);obtain⟨u,H,X⟩:∃u,sa=some ⟨u,0,none⟩/\N s.stack<=sc:=by
  rcases L.2 with ⟨_,h0⟩|⟨u,ay,ax,hv,_,_,m,_⟩
  . omega
  cases hv;exact⟨u,rfl,m⟩
 subst H;obtain⟨xs,t,m⟩:∃xs t,s.stack=xs++[t]:=by
  have:s.stack≠[]:=λe=>by rw[e]at v;simp at v
  exact⟨_,_,(Mj this).symm⟩
 have hn:N s.stack=N xs+1:=by rw[m];simp
 have Y:V.cell? ⟨u,N xs,none⟩=some (U O t):=by rw[World.ownsRow.cellAt L (N xs) (by omega),m];simp[I]
 have E:Hid (∀n,ISt D w0 p sp l ks { s with stack:=s.stack.dropLast } (((V.drewN n)).setCell ⟨p,4,none⟩ (S (some ⟨u,0,none⟩) (N xs) sc))):=λn=>by
  have e:s.stack.dropLast=s.stack.take (N xs):=by rw[m];simp
  rw[e];have A:N s.blocks=N bs+1:=by rw[f];simp
  refine ISt.cut (s:=s) (bv:=S (some ⟨g,0,none⟩) (N bs+1) c) (by rw[A];exact q.drewN n) ?_ (by omega);rw[f];exact C.app (Fl.one ⟨tv,rv,rfl,t1,t2⟩)
 have hg:s.stack.getLastD 0=t:=by rw[m];simp
 have a:pop s want=if t=0 then .ok (want,{ s with stack:=s.stack.dropLast })else if want≠0/\want≠t then .error 6 else .ok (t,{ s with stack:=s.stack.dropLast }):=by simp only[pop,d,v,if_false,hg]
 have ap:IntKind.i64.wrap (((N xs+1:Nat):Int)-1)=N xs:=by rw[Kv];omega
 have i3:(N xs:Int)<=(sc:Int):=by omega
 rw[hn]at q4 d0 F;have d1:¬((N xs:Int)<(b.height:Int)):=by omega
 clear q C h L m hn hw v d0 X;by_cases k:t=0
 . (have k1:(t==0)=true:=by simp[k]);rw[a,if_pos k];clear a k;go_enter func239,ntmps239;(go_wp2_with fail);refine(y.o _ (by assumption) (by omega)).mono ?_;rintro e w1 ⟨rfl,n,rfl⟩;go_wp2;(go_ret2);exact⟨⟨rfl,E.o n⟩,X0 (Xc V n _) (Xu _ _ _ _)⟩
 have k1:(t==0)=false:=by simp[k]
 rw[a,if_neg k];by_cases j:want≠0/\want≠t
 . rw[if_pos j];(have k3:(want != 0)=true:=by simp[j.1]);(have k4:(want != t)=true:=by simp[j.2]);clear a k j;go_enter func239,ntmps239;(go_wp2_with fail);refine(y.o _ (by assumption) (by omega)).mono ?_;rintro e w1 ⟨rfl,n,rfl⟩;go_wp2;(go_ret2);exact⟨⟨rfl,(E.o n).mo⟩,X0 (Xc V n _) (Xu _ _ _ _)⟩
 rw[if_neg j];by_cases z:want=0
 . (have k3:(want != 0)=false:=by simp[z]);clear a k j z;go_enter func239,ntmps239;(go_wp2_with fail);refine(y.o _ (by assumption) (by omega)).mono ?_;rintro e w1 ⟨rfl,n,rfl⟩;go_wp2;(go_ret2);exact⟨⟨rfl,E.o n⟩,X0 (Xc V n _) (Xu _ _ _ _)⟩
 have k3:(want != 0)=true:=by simp[z]
 have k4:(want != t)=false:=by
  by_cases e:want=t
  . simp[e]
  exact absurd ⟨z,e⟩ j
 clear a k j z;go_enter func239,ntmps239;go_wp2_with fail
 refine(y.o _ (by assumption) (by omega)).mono ?_;rintro e w1 ⟨rfl,n,rfl⟩;go_wp2;go_ret2
 exact⟨⟨rfl,E.o n⟩,X0 (Xc V n _) (Xu _ _ _ _)⟩
structure Inv (s:Fn):Prop where
 tk:∀b∈s.blocks,b.takes=if b.op=3 then []else b.results
 so:(s.blocks.map (·.height)).Pairwise (·<=·)
 ht:s.blocks≠[]->(top s).height<=N s.stack
theorem top_snoc (h:s.blocks=bs++[b]):top s=b:=by simp[top,h]
theorem JL (h:s.blocks≠[]):∃bs,s.blocks=bs++[top s]:=by
 refine⟨s.blocks.dropLast,?_⟩;have:=Mj h;rw[top,List.getLastD_eq_getLast?,List.getLast?_eq_some_getLast h];exact this.symm
theorem Inv.all (h:Inv s):∀b∈s.blocks,b.height<=N s.stack:=by
 intro b a;have c:s.blocks≠[]:=λe=>by rw[e]at a;cases a
 obtain⟨bs,e⟩:=JL c;have f:=h.ht c;have d:=h.so;rw[e,Lx,List.pairwise_append]at d;rw[e]at a;rcases List.mem_append.1 a with a|a
 . have:=d.2.2 b.height (List.mem_map_of_mem a) (top s).height (by simp);omega
 simp at a;subst a;exact f
theorem Jo (h:pop s want=.ok (t,s')):s'.blocks=s.blocks/\s'.ps=s.ps/\s'.locs=s.locs/\(s'=s\/((top s).height<N s.stack/\s'.stack=s.stack.dropLast)):=by
 unfold pop at h;split at h
 . split at h
   . cases h;exact⟨rfl,rfl,rfl,.inl rfl⟩
   cases h
 dsimp only at h;split at h
 . cases h;exact⟨rfl,rfl,rfl,.inr ⟨by omega,rfl⟩⟩
 split at h
 . cases h
 cases h;exact⟨rfl,rfl,rfl,.inr ⟨by omega,rfl⟩⟩
theorem top_eq (h:s'.blocks=s.blocks):top s'=top s:=by simp[top,h]
theorem XX (h:pop s want=.ok (t,s'))(i:Inv s):Inv s':=by
 obtain⟨e,_,_,b⟩:=Jo h;refine⟨by rw[e];exact i.tk,by rw[e];exact i.so,λhne=>?_⟩;rw[top_eq e];rcases b with rfl|⟨c,a⟩
 . exact i.ht hne
 rw[a];simp;omega
theorem JV (h:pop s want=.ok (t,s')):N s'.stack<=N s.stack:=by
 obtain⟨_,_,_,rfl|⟨_,e⟩⟩:=Jo h
 . omega
 rw[e];simp
theorem pop1_of (h:Q4 s want=.ok s'):∃t,pop s want=.ok (t,s'):=by
 unfold Q4 at h;cases hp:pop s want with
 |error f=>rw[hp]at h;cases h
 |ok r=>rw[hp]at h;cases h;exact⟨r.1,rfl⟩
theorem popR_spec:∀{b:List Int} {s s':Fn},XJ s b=.ok s'->Inv s->s'.blocks=s.blocks/\s'.ps=s.ps/\s'.locs=s.locs/\N s'.stack<=N s.stack/\Inv s'
 |[],s,s',h,i=>by cases h;exact⟨rfl,rfl,rfl,lRz,i⟩
 |t::b,s,s',h,i=>by
  rw[XJ]at h
  cases hp:Q4 s t with
  |error f=>rw[hp]at h;cases h
  |ok s1 =>
   rw[hp]at h;obtain⟨u,a⟩:=pop1_of hp;obtain⟨a1,a2,k,m⟩:=Jo a;obtain⟨j,g,d,l,c⟩:=popR_spec h (XX a i)
   have:=JV a
   exact⟨j.trans a1,g.trans a2,d.trans k,by omega,c⟩
theorem Jt {a:List Int}(h:Xm s a=.ok s')(i:Inv s):s'.blocks=s.blocks/\s'.ps=s.ps/\s'.locs=s.locs/\N s'.stack<=N s.stack/\Inv s':=popR_spec h i
section
variable {D:Nat}{w0:J}{p:Nat}{sp:Vu}{l:Lo}{ks:List Qc}{s:Fn}{V W V1:J}
theorem ISt.pushed {sc:Nat}{bv v':Vu}{bcs:List Vu}(h:Mo D w0 (bxR p sp l (S sa (N s.stack) sc) bv::stR s (S sa (N s.stack) sc)::blR (N s.blocks) bv bcs::ks) V)(f:Fl (IRep D w0 ks) s.blocks bcs)(g:Below V.heap.size V V1) (a:W.ownsRow D 2 1 v' (N s.stack+N xs) (I s.stack++I xs)) (d:V1.grownBy W (Tq sa (N s.stack) sc).ownBlock) (b:v'.ownBlock=(Tq sa (N s.stack) sc).ownBlock\/v'.ownBlock=some V1.heap.size):ISt D w0 p sp l ks (push s xs) (W.setCell ⟨p,4,none⟩ v')/\W.cell? ⟨p,4,none⟩=some (S sa (N s.stack) sc)/\W.frozen? ⟨p,4,none⟩=false:=by
 have m:=(h.perm perm3).push (r':=⟨2,1,N s.stack+N xs,v',I s.stack++I xs⟩) g d a b;have c:=m.perm (List.Perm.swap _ _ _);have k:=c.set 4 v';have j:=c.b0 4 (u:=S sa (N s.stack) sc);refine⟨⟨v',bv,bcs,?_,f⟩,j⟩;have e:stR (push s xs) v'=⟨2,1,N s.stack+N xs,v',I s.stack++I xs⟩:=by simp[stR,push]
 rw[e];exact k
theorem ISt.opnS (h:ISt D w0 p sp l ks s V):∃sa sc d b,Mo D w0 (bxR p sp l (S sa (N s.stack) sc) d::stR s (S sa (N s.stack) sc)::blR (N s.blocks) d b::ks) V/\Fl (IRep D w0 ks) s.blocks b/\V.cell? ⟨p,4,none⟩=some (S sa (N s.stack) sc)/\V.cell? ⟨p,5,none⟩=some d/\V.frozen? ⟨p,4,none⟩=false/\V.frozen? ⟨p,5,none⟩=false:=by
 obtain⟨j,d,b,f,q⟩:=h;have n:V.ownsRow D 2 1 j (N s.stack) (I s.stack):=f.row (r:=stR s j) (by simp);obtain⟨sa,sc,rfl⟩:∃a c,j=S a (N s.stack) c:=by
  rcases n.2 with ⟨e,t⟩|⟨g,y,v,o,_⟩
  . rw[t];exact⟨_,_,e⟩
  exact⟨_,_,o⟩
 have m:=f.b0 4 (u:=S sa (N s.stack) sc);have k:=f.b0 5 (u:=d);exact⟨sa,sc,d,b,f,q,m.1,k.1,m.2,k.2⟩
end
theorem info350:(Q.info? 350).map (λi=>(i.zero,i.size,i.bytes))=some (some (Ag #[S none 0 0,U O 0,U O 0,S none 0 0,G false]),5,72):=by kernel_rfl
theorem ipush_c (a)(c:Nat)(xs)(h:ISt D w0 p sp l ks s V)(t:Has V a xs)(A:N xs<=1048577)(B:N s.stack<=2199023255552):Ec Q 254 #[Yp (some ⟨p,0,none⟩),S a (N xs) c] V λe w'=>e=Z (.tuple #[])/\ISt D w0 p sp l ks (push s xs) w':=by
 obtain⟨z,hi,m,k,j⟩:=info_parts info2;obtain⟨sa,sc,bv,C,g,v,X,R,f4,Y⟩:=h.opnS;have u:V.ownsRow D 2 1 (S sa (N s.stack) sc) (N s.stack) (I s.stack):=g.row (r:=stR s _) (by simp);have H:=Hm (λW v'=>ISt.pushed (W:=W) (v':=v') (xs:=xs) g v bFz);have n:=g.le;have E:=Hm u;have F:=Hm (λW (hb:Below V.heap.size V W)=>SrcC.on (Has.src t) hb);clear g v h u t;go_enter func254,ntmps254;go_wp2_with (at_builtin;refine XM rfl _ _ 24 rfl D 2 z (U O 0) 1 8 underlying24 hi m k j rfl (by decide) _ _ _ rfl E.o a (N xs) c (I xs) rfl (by simp) (F.o _ bFz) (one_I xs) (by unfold maxLen;omega) (by omega) n ?_;intro v' y b d f;have q:=Hm (H.o y v' b d f);have d4:=q.o.2.1;have df:=q.o.2.2;obtain⟨M,L,rfl⟩:=QG b;clear b d f)
 go_end0;exact⟨rfl,q.o.1⟩
theorem isn1_c (x:Int)(w:J):Ec Q 263 #[U O x] w λe w'=>e=Z (G false)/\w=w':=by
 go_enter func263,ntmps263;go_wp2;go_ret;exact⟨by simp,rfl⟩
theorem isn2_c (x:Int)(w:J):Ec Q 266 #[U O x] w λe w'=>e=Z (G false)/\w=w':=by
 go_enter func266,ntmps266;go_wp2;go_ret;exact⟨by simp,rfl⟩
theorem less_c (x y:Int)(w:J):Ec Q 262 #[U O x,U O y] w λe w'=>e=Z (G (decide (x<y)))/\w=w':=by
 go_enter func262,ntmps262;go_wp2_with (go_at_call 266;refine(isn2_c _ _).mono ?_;rintro e w1 ⟨rfl,rfl⟩)
 go_ret;exact⟨by simp,rfl⟩
def BsP (xs:List Int)(t:Int)(w:J)(e:Ending)(w':J):Prop:=∃(i:Nat) (b:Bool),e=Z (.tuple #[U O i,G b])/\i<=N xs/\(∀k,k<i->xs.getD k 0<t)/\(∀k,i<=k->k<N xs->t<=xs.getD k 0)/\∃m,w'=w.drewN m
theorem bs_c (a)(c:Nat)(xs:List Int)(t:Int)(w)(hl:N xs<=1099511627776)(M:Has w a xs)(L:∀i j,i<=j->j<N xs->xs.getD i 0<=xs.getD j 0):Ec Q 259 #[S a (N xs) c,U O t] w (BsP xs t w):=by
 have v:=Hm M;have V:=Hm L;have X:=Hm less_c;have HN:=Hm isn1_c;clear M L;go_enter func259,ntmps259;go_wp2;go_loopw [7,8] (λi j wr=>∃(i' j':Nat),i=U O i'/\j=U O j'/\i'<=j'/\j'<=N xs/\(∀k,k<i'->xs.getD k 0<t)/\(∀k,j'<=k->k<N xs->t<=xs.getD k 0)/\∃m,wr=w.drewN m) (λi j _=>(intOf j).toNat-(intOf i).toNat)
 case atStart=>exact⟨0,N xs,rfl,rfl,Kz _,lRz,λk h=>by omega,λk D C=>by omega,0,rfl⟩
 obtain⟨i,j,rfl,rfl,s,z,D,C,m,rfl⟩:=hrel;have I:=Hm D;have H:=Hm C;clear D C;by_cases Y:i<j
 . (have p:(i:Int)<(j:Int):=by omega);(have g:i<=(i+j) / 2/\(i+j) / 2<j:=by omega);rcases v.o with B|⟨F,A,E,u⟩
   . subst B;simp at z;omega
   subst E;have d:(w.drewN m).cell? ⟨F,A+(i+j) / 2,none⟩=some (U O (xs.getD ((i+j) / 2) 0)):=u ((i+j) / 2) (by omega);obtain⟨y,n⟩:∃y,y=xs.getD ((i+j) / 2) 0:=⟨_,rfl⟩;rw[<- n]at d;have R:=Hm n;have b:=Hm g;clear n g v u;by_cases f:y<t
   . (have hd:decide (y<t)=true:=by simp[f]);have l:=Hm f;clear f;(go_wp2_with (go_at_call 262;refine(X.o _ _ _).mono ?_;rw[hd];rintro e w1 ⟨rfl,rfl⟩));go_roundw
     case rel=>
      refine⟨(i+j) / 2+1,j,?_,rfl,by have:=b.o;omega,z,λk hk=>?_,H.o,m,rfl⟩
      . first|rfl|(congr 1;omega)
      have h5:=V.o k ((i+j) / 2) (by omega) (by have:=b.o;omega);have:=l.o;rw[R.o]at this;omega
     case measure=>have:=b.o;simp[intOf];omega
   (have hd:decide (y<t)=false:=by simp;omega);have l:=Hm f;clear f;(go_wp2_with (go_at_call 262;refine(X.o _ _ _).mono ?_;rw[hd];rintro e w1 ⟨rfl,rfl⟩));go_roundw
   case rel=>
    refine⟨i,(i+j) / 2,rfl,?_,by have:=b.o;omega,by have:=b.o;omega,I.o,λk hk hk2=>?_,m,rfl⟩
    . first|rfl|(congr 1;omega)
    have h5:=V.o ((i+j) / 2) k (by omega) hk2;have:=l.o;rw[R.o]at this;omega
   case measure=>have:=b.o;simp[intOf];omega
 obtain rfl:i=j:=by omega
 have p:¬((i:Int)<(i:Int)):=by omega
 by_cases r:i<N xs
 . (have q:(i:Int)<(N xs:Int):=by omega);rcases v.o with B|⟨F,A,E,u⟩
   . subst B;simp at r
   subst E;have d:(w.drewN m).cell? ⟨F,A+i,none⟩=some (U O (xs.getD i 0)):=u i r;obtain⟨y,n⟩:∃y,y=xs.getD i 0:=⟨_,rfl⟩;rw[<- n]at d;clear n v u s;go_wp2_with (go_at_call 263;refine(HN.o _ _).mono ?_;rintro e w1 ⟨rfl,rfl⟩)
   all_goals
    go_ret2
    exact⟨i,_,rfl,z,I.o,H.o,m,rfl⟩
 have q:¬((i:Int)<(N xs:Int)):=by omega
 clear v s;go_wp2;go_ret2
 exact⟨i,_,rfl,z,I.o,H.o,m,rfl⟩
