import Derived.Test.YtedcmcdbejjgcaaGreatGaa
import Derived.Test.YtedcmcdbejjgcaaGreatGay
import Derived.Test.YtedcmcdbejjgcaaGreatGbf
import Derived.Test.YtedcmcdbejjgcaaGreatGbc
import Derived.Test.YtedcmcdbejjgcaaGreatGbg
set_option linter.all false
set_option maxHeartbeats 400000000
set_option maxRecDepth 100000
namespace Go.Proofs.YtedcmcdbejjgcaaGreat
open Go.RowKit Go.Sort
theorem se_x:(∀ (B:Nat) (r:World) (q:Nat) (s:Option Addr) (bc:Bf) (bs:List Int) (p:Nat) (m:Mod) (L:List (List Qc)) (f:Int) (w:World) (h:Sm B r q s bc bs p L.flatten w) (D:MR m bc.rest L) (b:MB m p) (H:Qm bs) (hl:bs.length<=1099511627776) (O:bc.E<=9223372036854775807),Calls Tryz.prog 151 #[.pointer (some ⟨q,0,none⟩)] w (SeP (Jk 1 f m bs bc.E p) B r q s bc bs))/\(∀ (B:Nat) (r:World) (q:Nat) (s:Option Addr) (bc:Bf) (bs:List Int) (p:Nat) (m:Mod) (L:List (List Qc)) (f:Int) (w:World) (h:Sm B r q s bc bs p L.flatten w) (D:MR m bc.rest L) (b:MB m p) (H:Qm bs) (hl:bs.length<=1099511627776) (O:bc.E<=9223372036854775807),Calls Tryz.prog 152 #[.pointer (some ⟨q,0,none⟩)] w (SeP (Jk 2 f m bs bc.E p) B r q s bc bs))/\(∀ (B:Nat) (r:World) (q:Nat) (s:Option Addr) (bc:Bf) (bs:List Int) (p:Nat) (m:Mod) (L:List (List Qc)) (f:Int) (w:World) (h:Sm B r q s bc bs p L.flatten w) (D:MR m bc.rest L) (b:MB m p) (H:Qm bs) (hl:bs.length<=1099511627776) (O:bc.E<=9223372036854775807),Calls Tryz.prog 153 #[.pointer (some ⟨q,0,none⟩)] w (SeP (Jk 3 f m bs bc.E p) B r q s bc bs))/\(∀ (B:Nat) (r:World) (q:Nat) (s:Option Addr) (bc:Bf) (bs:List Int) (p:Nat) (m:Mod) (L:List (List Qc)) (f:Int) (w:World) (h:Sm B r q s bc bs p L.flatten w) (D:MR m bc.rest L) (b:MB m p) (H:Qm bs) (hl:bs.length<=1099511627776) (O:bc.E<=9223372036854775807),Calls Tryz.prog 154 #[.pointer (some ⟨q,0,none⟩)] w (SeP (Jk 4 f m bs bc.E p) B r q s bc bs))/\(∀ (B:Nat) (r:World) (q:Nat) (s:Option Addr) (bc:Bf) (bs:List Int) (p:Nat) (m:Mod) (L:List (List Qc)) (f:Int) (w:World) (h:Sm B r q s bc bs p L.flatten w) (D:MR m bc.rest L) (b:MB m p) (H:Qm bs) (hl:bs.length<=1099511627776) (O:bc.E<=9223372036854775807),Calls Tryz.prog 155 #[.pointer (some ⟨q,0,none⟩)] w (SeP (Jk 5 f m bs bc.E p) B r q s bc bs))/\(∀ (B:Nat) (r:World) (q:Nat) (s:Option Addr) (bc:Bf) (bs:List Int) (p:Nat) (m:Mod) (L:List (List Qc)) (f:Int) (w:World) (h:Sm B r q s bc bs p L.flatten w) (D:MR m bc.rest L) (b:MB m p) (H:Qm bs) (hl:bs.length<=1099511627776) (O:bc.E<=9223372036854775807),Calls Tryz.prog 156 #[.pointer (some ⟨q,0,none⟩)] w (SeP (Jk 6 f m bs bc.E p) B r q s bc bs))/\(∀ (B:Nat) (r:World) (q:Nat) (s:Option Addr) (bc:Bf) (bs:List Int) (p:Nat) (m:Mod) (L:List (List Qc)) (f:Int) (w:World) (h:Sm B r q s bc bs p L.flatten w) (D:MR m bc.rest L) (b:MB m p) (H:Qm bs) (hl:bs.length<=1099511627776) (O:bc.E<=9223372036854775807),Calls Tryz.prog 157 #[.pointer (some ⟨q,0,none⟩)] w (SeP (Jk 7 f m bs bc.E p) B r q s bc bs)):=by
 refine ⟨?c0,?c1,?c2,?c3,?c4,?c5,?c6⟩
 case' c0=>have C:=0
 case' c1=>have A:=0
 case' c2=>have z:=0
 case' c3=>have y:=0
 case' c4=>have u:=0
 case' c5=>have t:=0
 case' c6=>have t6:=0
 all_goals
  intro B r q s bc bs p m L f w h D b H hl O
  have F:B<=w.heap.size:=h.sz
  first|(replace C:=C;obtain ⟨v,c,k,M,j,R⟩:=D.types.at_)|(replace A:=A;obtain ⟨v,c,k,M,j,R⟩:=D.imps.at_)|(replace z:=z;obtain ⟨v,c,k,M,j,R⟩:=D.funcs.at_)|(replace y:=y;obtain ⟨v,c,k,M,j,R⟩:=D.tabs.at_)|(replace u:=u;obtain ⟨v,c,k,M,j,R⟩:=D.mems.at_)|(replace t:=t;obtain ⟨v,c,k,M,j,R⟩:=D.globs.at_)|(obtain ⟨v,c,k,M,j,R⟩:=D.exps.at_)
  have G:=h.perm R
  first|(replace C:=C;obtain ⟨va,J,rfl⟩:∃ a c,v=.slice a m.types.length c:=Qc.Ok.slice G.o.head)|(replace A:=A;obtain ⟨va,J,rfl⟩:∃ a c,v=.slice a m.imps.length c:=Qc.Ok.slice G.o.head)|(replace z:=z;obtain ⟨va,J,rfl⟩:∃ a c,v=.slice a m.funcs.length c:=Qc.Ok.slice G.o.head)|(replace y:=y;obtain ⟨va,J,rfl⟩:∃ a c,v=.slice a m.tabs.length c:=Qc.Ok.slice G.o.head)|(replace u:=u;obtain ⟨va,J,rfl⟩:∃ a c,v=.slice a m.mems.length c:=Qc.Ok.slice G.o.head)|(replace t:=t;obtain ⟨va,J,rfl⟩:∃ a c,v=.slice a m.globs.length c:=Qc.Ok.slice G.o.head)|(obtain ⟨va,J,rfl⟩:∃ a c,v=.slice a m.exps.length c:=Qc.Ok.slice G.o.head)
  first|(replace C:=C;have K:=Hm (bsFT_c B r q s bc bs p m.types va J c k _ w G F j H hl M b.types))|(replace A:=A;have K:=Hm (bsIm_c B r q s bc bs p m.imps va J c k _ w G F j H hl M b.imps O))|(replace z:=z;have K:=Hm (bsFu_c B r q s bc bs p m.funcs va J c k _ w G F j H hl M b.funcs))|(replace y:=y;have K:=Hm (bsTa_c B r q s bc bs p m.tabs va J c k _ w G F j H hl M b.tabs))|(replace u:=u;have K:=Hm (bsMe_c B r q s bc bs p m.mems va J c k _ w G F j H hl M b.mems))|(replace t:=t;have K:=Hm (bsGl_c B r q s bc bs p m.globs va J c k _ w G F j H hl M b.globs))|(have K:=Hm (bsEx_c B r q s bc bs p m.exps va J c k _ w G F j H hl M b.exps O))
  first|(replace C:=C;have V:Hid (Jk 1 f m bs bc.E p=(Jj (λp_=>ftM bs p_) bs p).bind λl g=>.ok { m with types:=m.types++l } g):=rfl)|(replace A:=A;have V:Hid (Jk 2 f m bs bc.E p=(Jj (λp_=>XK bs bc.E p_) bs p).bind λl g=>.ok { m with imps:=m.imps++l } g):=rfl)|(replace z:=z;have V:Hid (Jk 3 f m bs bc.E p=(Jj (λp_=>QK bs p_) bs p).bind λl g=>.ok { m with funcs:=m.funcs++l } g):=rfl)|(replace y:=y;have V:Hid (Jk 4 f m bs bc.E p=(Jj (λp_=>GC bs p_) bs p).bind λl g=>.ok { m with tabs:=m.tabs++l } g):=rfl)|(replace u:=u;have V:Hid (Jk 5 f m bs bc.E p=(Jj (λp_=>XR bs p_) bs p).bind λl g=>.ok { m with mems:=m.mems++l } g):=rfl)|(replace t:=t;have V:Hid (Jk 6 f m bs bc.E p=(Jj (λp_=>XH bs p_) bs p).bind λl g=>.ok { m with globs:=m.globs++l } g):=rfl)|(have V:Hid (Jk 7 f m bs bc.E p=(Jj (λp_=>expM bs bc.E p_) bs p).bind λl g=>.ok { m with exps:=m.exps++l } g):=rfl)
  have I:=Hm D;clear h G R j
  first|(replace C:=C;go_enter Tryz.func151,Tryz.ntmps151)|(replace A:=A;go_enter Tryz.func152,Tryz.ntmps152)|(replace z:=z;go_enter Tryz.func153,Tryz.ntmps153)|(replace y:=y;go_enter Tryz.func154,Tryz.ntmps154)|(replace u:=u;go_enter Tryz.func155,Tryz.ntmps155)|(replace t:=t;go_enter Tryz.func156,Tryz.ntmps156)|(go_enter Tryz.func157,Tryz.ntmps157)
  go_wp2_with fail
  refine (K.o).mono ?_
  rintro e w1 hm
  first|(replace C:=C;rcases hX:Jj (λp_=>ftM bs p_) bs p with ⟨er,at_⟩|⟨l,g⟩)|(replace A:=A;rcases hX:Jj (λp_=>XK bs bc.E p_) bs p with ⟨er,at_⟩|⟨l,g⟩)|(replace z:=z;rcases hX:Jj (λp_=>QK bs p_) bs p with ⟨er,at_⟩|⟨l,g⟩)|(replace y:=y;rcases hX:Jj (λp_=>GC bs p_) bs p with ⟨er,at_⟩|⟨l,g⟩)|(replace u:=u;rcases hX:Jj (λp_=>XR bs p_) bs p with ⟨er,at_⟩|⟨l,g⟩)|(replace t:=t;rcases hX:Jj (λp_=>XH bs p_) bs p with ⟨er,at_⟩|⟨l,g⟩)|(rcases hX:Jj (λp_=>expM bs bc.E p_) bs p with ⟨er,at_⟩|⟨l,g⟩)
  . rw [hX] at hm;obtain ⟨rfl,hb⟩:=hm
    refine ⟨rfl,?_⟩
    rw [V.o,hX]
    exact ⟨rfl,hb⟩
  . rw [hX] at hm;obtain ⟨v',c',k',rfl,S,Z,n⟩:=hm;have X:=Hm Z;have Y:=Hm S;have U:=Hm hX;clear Z S hX
    go_wp2_with fail
    go_end0
    rw [V.o,U.o]
    first|(replace C:=C;have d:p<=g:=by have:=JA (λp=>(nx_ft bs p).up) bs p l g U.o;omega)|(replace A:=A;have d:p<=g:=by have:=JA (λp=>(Og bs bc.E p).up) bs p l g U.o;omega)|(replace z:=z;have d:p<=g:=by have:=JA (λp=>(JC bs p).up) bs p l g U.o;omega)|(replace y:=y;have d:p<=g:=by have:=JA (λp=>(nx_tab bs p).up) bs p l g U.o;omega)|(replace u:=u;have d:p<=g:=by have:=JA (λp=>(nx_lim bs p).up) bs p l g U.o;omega)|(replace t:=t;have d:p<=g:=by have:=JA (λp=>(nx_glob bs p).up) bs p l g U.o;omega)|(have d:p<=g:=by have:=JA (λp=>(nx_exp bs bc.E p).up) bs p l g U.o;omega)
    first|(replace C:=C;exact ⟨_,_,rfl,I.o.set_types Y.o,by rw [List.getElem?_set_ne (by decide)],by rw [List.getElem?_set_ne (by decide)],⟨by first|exact n|(simpa using n),Nat.le_trans b.imps d,Nat.le_trans b.funcs d,Nat.le_trans b.tabs d,Nat.le_trans b.mems d,Nat.le_trans b.globs d,Nat.le_trans b.exps d,Nat.le_trans b.elems d,Nat.le_trans b.codes d,Nat.le_trans b.datas d,Nat.le_trans b.customs d⟩,X.o.perm (JO.back (by rw [I.o.ll];decide))⟩)|(replace A:=A;exact ⟨_,_,rfl,I.o.set_imps Y.o,by rw [List.getElem?_set_ne (by decide)],by rw [List.getElem?_set_ne (by decide)],⟨Nat.le_trans b.types d,by first|exact n|(simpa using n),Nat.le_trans b.funcs d,Nat.le_trans b.tabs d,Nat.le_trans b.mems d,Nat.le_trans b.globs d,Nat.le_trans b.exps d,Nat.le_trans b.elems d,Nat.le_trans b.codes d,Nat.le_trans b.datas d,Nat.le_trans b.customs d⟩,X.o.perm (JO.back (by rw [I.o.ll];decide))⟩)|(replace z:=z;exact ⟨_,_,rfl,I.o.set_funcs Y.o,by rw [List.getElem?_set_ne (by decide)],by rw [List.getElem?_set_ne (by decide)],⟨Nat.le_trans b.types d,Nat.le_trans b.imps d,by first|exact n|(simpa using n),Nat.le_trans b.tabs d,Nat.le_trans b.mems d,Nat.le_trans b.globs d,Nat.le_trans b.exps d,Nat.le_trans b.elems d,Nat.le_trans b.codes d,Nat.le_trans b.datas d,Nat.le_trans b.customs d⟩,X.o.perm (JO.back (by rw [I.o.ll];decide))⟩)|(replace y:=y;exact ⟨_,_,rfl,I.o.set_tabs Y.o,by rw [List.getElem?_set_ne (by decide)],by rw [List.getElem?_set_ne (by decide)],⟨Nat.le_trans b.types d,Nat.le_trans b.imps d,Nat.le_trans b.funcs d,by first|exact n|(simpa using n),Nat.le_trans b.mems d,Nat.le_trans b.globs d,Nat.le_trans b.exps d,Nat.le_trans b.elems d,Nat.le_trans b.codes d,Nat.le_trans b.datas d,Nat.le_trans b.customs d⟩,X.o.perm (JO.back (by rw [I.o.ll];decide))⟩)|(replace u:=u;exact ⟨_,_,rfl,I.o.set_mems Y.o,by rw [List.getElem?_set_ne (by decide)],by rw [List.getElem?_set_ne (by decide)],⟨Nat.le_trans b.types d,Nat.le_trans b.imps d,Nat.le_trans b.funcs d,Nat.le_trans b.tabs d,by first|exact n|(simpa using n),Nat.le_trans b.globs d,Nat.le_trans b.exps d,Nat.le_trans b.elems d,Nat.le_trans b.codes d,Nat.le_trans b.datas d,Nat.le_trans b.customs d⟩,X.o.perm (JO.back (by rw [I.o.ll];decide))⟩)|(replace t:=t;exact ⟨_,_,rfl,I.o.set_globs Y.o,by rw [List.getElem?_set_ne (by decide)],by rw [List.getElem?_set_ne (by decide)],⟨Nat.le_trans b.types d,Nat.le_trans b.imps d,Nat.le_trans b.funcs d,Nat.le_trans b.tabs d,Nat.le_trans b.mems d,by first|exact n|(simpa using n),Nat.le_trans b.exps d,Nat.le_trans b.elems d,Nat.le_trans b.codes d,Nat.le_trans b.datas d,Nat.le_trans b.customs d⟩,X.o.perm (JO.back (by rw [I.o.ll];decide))⟩)|(exact ⟨_,_,rfl,I.o.set_exps Y.o,by rw [List.getElem?_set_ne (by decide)],by rw [List.getElem?_set_ne (by decide)],⟨Nat.le_trans b.types d,Nat.le_trans b.imps d,Nat.le_trans b.funcs d,Nat.le_trans b.tabs d,Nat.le_trans b.mems d,Nat.le_trans b.globs d,by first|exact n|(simpa using n),Nat.le_trans b.elems d,Nat.le_trans b.codes d,Nat.le_trans b.datas d,Nat.le_trans b.customs d⟩,X.o.perm (JO.back (by rw [I.o.ll];decide))⟩)
def types_c:=se_x.1
def imports_c:=se_x.2.1
def funcs_c:=se_x.2.2.1
def tables_c:=se_x.2.2.2.1
def mems_c:=se_x.2.2.2.2.1
def globals_c:=se_x.2.2.2.2.2.1
def exports_c:=se_x.2.2.2.2.2.2
theorem Sm.put2 {B w0 q ba bc bs p p'}{L:List (List Qc)}{r k:List Qc}{row:Qc}{V V':World}{i j:Nat}(h:Sm B w0 q ba bc bs p L.flatten V)(a:L[j]?=some r)(hg:V.grownBy V' (some q))(hr:Rd V' q ba bc bs p')(c:Own V.heap.size V' (row::k))(d:i<15) :
    Sm B w0 q ba { bc with rest:=bc.rest.set i row.v } bs p' (L.set j (row::k)).flatten (V'.setCell ⟨q,3+i,none⟩ row.v):=by
 have b:Sm B w0 q ba bc bs p (L.eraseIdx j).flatten V:=(h.perm (fl_at L j r a)).drop;have f:=(b.rows b.lt hg hr c).setc i d row.v
 exact f.perm (List.perm_append_comm.trans (fl_set L j _ (List.getElem?_eq_some_iff.1 a).1).symm)
theorem JO.some {α:Type}{T sz:Nat}{a:α->List Value->List Qc->Prop}{l:List α}{o:Option Value}{b:Option (List Qc)}(h:JO T sz a l o b):∃ v r,o=some v/\b=some r:=by
 obtain ⟨v,c,k,f,d,_⟩:=h;exact ⟨v,_,f,d⟩
theorem start_c (B w0 q ba bc bs p m)(L:List (List Qc))(f:Int)(w)(h:Sm B w0 q ba bc bs p L.flatten w)(k:MR m bc.rest L)(b:MB m p)(A:Qm bs)(hl:bs.length<=1099511627776)(H:bc.E<=9223372036854775807) :
    Calls Tryz.prog 158 #[.pointer (some ⟨q,0,none⟩)] w (SeP (Jk 8 f m bs bc.E p) B w0 q ba bc bs):=by
 have K:=Hm (JR q ba bc bs p w h.r A hl);have z:Hid (Jk 8 f m bs bc.E p=(QK bs p).bind λx g=>.ok { m with hasS:=true,start:=x } g):=rfl;have n:=Hm h;have D:=Hm k;have v:=k.hs;have u:=k.st;clear h k
 go_enter Tryz.func158,Tryz.ntmps158
 go_wp2_with fail
 refine (K.o).mono ?_
 rintro e t ⟨l,j⟩
 rcases hX:Qy false 32 bs p with ⟨er,at_⟩|⟨x,g⟩
 . rw [hX] at j;subst j
   refine ⟨rfl,?_⟩
   rw [z.o,QK,hX]
   exact ⟨rfl,n.o.bl l⟩
 rw [hX] at j;obtain ⟨rfl,c⟩:=j;have C:=Hm hX;have a:p<=g:=by have:=Xo (by omega) hX;omega
 have O:t.cell? ⟨q,10,none⟩=some (.bool m.hasS):=c.rst 7 _ v;have M:t.cell? ⟨q,11,none⟩=some (.int .i64 m.start):=c.rst 8 _ u;have J:=c.fz 10;have I:=c.fz 11;have s:=Hm (((n.o.step l c n.o.lt).setc 7 (by decide) (.bool true)).setc 8 (by decide) (.int .i64 x));have y:=Hm (X6 q ba _ bs g 3 8 _ s.o.r);clear l c hX v u
 go_wp2_with fail
 refine (y.o).mono ?_
 rintro e G ⟨rfl,d⟩;have F:=Hm (s.o.keep d s.o.lt);clear d y
 go_wp2_with fail
 go_end0
 rw [z.o,QK,C.o]
 exact ⟨_,L,rfl,D.o.set_start x,by rw [List.getElem?_set_ne (by decide),List.getElem?_set_ne (by decide)],by rw [List.getElem?_set_ne (by decide),List.getElem?_set_ne (by decide)],⟨Nat.le_trans b.types a,Nat.le_trans b.imps a,Nat.le_trans b.funcs a,Nat.le_trans b.tabs a,Nat.le_trans b.mems a,Nat.le_trans b.globs a,Nat.le_trans b.exps a,Nat.le_trans b.elems a,Nat.le_trans b.codes a,Nat.le_trans b.datas a,Nat.le_trans b.customs a⟩,F.o⟩
theorem elems_c (B w0 q ba bc bs p m)(L:List (List Qc))(s:Int)(w)(h:Sm B w0 q ba bc bs p L.flatten w)(C:MR m bc.rest L)(d:MB m p)(I:Qm bs)(hl:bs.length<=1099511627776)(V:bc.E<=9223372036854775807) :
    Calls Tryz.prog 159 #[.pointer (some ⟨q,0,none⟩)] w (SeP (Jk 9 s m bs bc.E p) B w0 q ba bc bs):=by
 have K:=Hm (vecEl_c q ba bc bs p w h.r I hl);have G:Hid (Jk 9 s m bs bc.E p=(Jj (λp_=>Xk bs p_) bs p).bind λl t=>.ok { m with elems:=l } t):=rfl;have F:=Hm h;have M:=Hm C;obtain ⟨v0,U,g,j⟩:=C.elems.some;have D:=Hm j;clear h C j
 go_enter Tryz.func159,Tryz.ntmps159
 go_wp2_with fail
 refine (K.o).mono ?_
 rintro e H ⟨A,y⟩
 rcases hX:Jj (λp_=>Xk bs p_) bs p with ⟨er,at_⟩|⟨l,t⟩
 . rw [hX] at y;subst y
   refine ⟨rfl,?_⟩
   rw [G.o,hX]
   exact ⟨rfl,F.o.bl A⟩
 rw [hX] at y;obtain ⟨v,c,k,rfl,n,f,u,z⟩:=y;have J:=Hm hX;have b:p<=t:=by have:=JA (λp=>(nx_ele bs p).up) bs p l t hX;omega
 have Y:H.cell? ⟨q,12,none⟩=some v0:=u.rst 9 _ g;have X:=u.fz 12;obtain ⟨va,S,rfl⟩:∃ a c,v=.slice a l.length c:=Qc.Ok.slice f.head;have R:=Hm (F.o.put2 (i:=9) D.o A u f (by decide));have O:=Hm n;clear A u hX f n g
 go_wp2_with fail
 go_end0
 rw [G.o,J.o]
 exact ⟨_,_,rfl,M.o.set_elems O.o,by rw [List.getElem?_set_ne (by decide)],by rw [List.getElem?_set_ne (by decide)],⟨Nat.le_trans d.types b,Nat.le_trans d.imps b,Nat.le_trans d.funcs b,Nat.le_trans d.tabs b,Nat.le_trans d.mems b,Nat.le_trans d.globs b,Nat.le_trans d.exps b,z,Nat.le_trans d.codes b,Nat.le_trans d.datas b,Nat.le_trans d.customs b⟩,R.o⟩
theorem datas_c (B w0 q ba bc bs p m)(L:List (List Qc))(s:Int)(w)(h:Sm B w0 q ba bc bs p L.flatten w)(C:MR m bc.rest L)(d:MB m p)(J:Qm bs)(hl:bs.length<=1099511627776)(I:bc.E<=9223372036854775807) :
    Calls Tryz.prog 161 #[.pointer (some ⟨q,0,none⟩)] w (SeP (Jk 11 s m bs bc.E p) B w0 q ba bc bs):=by
 have K:=Hm (vecDa_c q ba bc bs p w h.r J hl I);have G:Hid (Jk 11 s m bs bc.E p=(Jj (λp_=>Xq bs bc.E p_) bs p).bind λl t=>.ok { m with datas:=l } t):=rfl;have F:=Hm h;have O:=Hm C;obtain ⟨v0,V,g,j⟩:=C.datas.some;have D:=Hm j;clear h C j
 go_enter Tryz.func161,Tryz.ntmps161
 go_wp2_with fail
 refine (K.o).mono ?_
 rintro e H ⟨A,y⟩
 rcases hX:Jj (λp_=>Xq bs bc.E p_) bs p with ⟨er,at_⟩|⟨l,t⟩
 . rw [hX] at y;subst y
   refine ⟨rfl,?_⟩
   rw [G.o,hX]
   exact ⟨rfl,F.o.bl A⟩
 rw [hX] at y;obtain ⟨v,c,k,rfl,n,f,u,z⟩:=y;have M:=Hm hX;have b:p<=t:=by have:=JA (λp=>(nx_dat bs bc.E p).up) bs p l t hX;omega
 have Y:H.cell? ⟨q,14,none⟩=some v0:=u.rst 11 _ g;have X:=u.fz 14;obtain ⟨va,U,rfl⟩:∃ a c,v=.slice a l.length c:=Qc.Ok.slice f.head;have S:=Hm (F.o.put2 (i:=11) D.o A u f (by decide));have R:=Hm n;clear A u hX f n g
 go_wp2_with fail
 go_end0
 rw [G.o,M.o]
 exact ⟨_,_,rfl,O.o.set_datas R.o,by rw [List.getElem?_set_ne (by decide)],by rw [List.getElem?_set_ne (by decide)],⟨Nat.le_trans d.types b,Nat.le_trans d.imps b,Nat.le_trans d.funcs b,Nat.le_trans d.tabs b,Nat.le_trans d.mems b,Nat.le_trans d.globs b,Nat.le_trans d.exps b,Nat.le_trans d.elems b,Nat.le_trans d.codes b,z,Nat.le_trans d.customs b⟩,S.o⟩
theorem codes_c (B w0 q ba bc bs p m)(L:List (List Qc))(F:Int)(w)(h:Sm B w0 q ba bc bs p L.flatten w)(H:MR m bc.rest L)(d:MB m p)(X:Qm bs)(hl:bs.length<=1099511627776)(hE:bc.E<=9223372036854775807) :
    Calls Tryz.prog 160 #[.pointer (some ⟨q,0,none⟩)] w (SeP (Jk 10 F m bs bc.E p) B w0 q ba bc bs):=by
 have K:=Hm (JR q ba bc bs p w h.r X hl);have M:Hid (Jk 10 F m bs bc.E p=(QK bs p).bind λn s=>if n=(m.funcs.length:Int) then (Q7 (λp_=>Xw bs bc.E p_) n.toNat [] s).bind λl G=>.ok { m with codes:=l } G else .bad 11 s):=rfl;have I:=Hm h;have HR:=Hm H;have HA:=Hm X;obtain ⟨v0,r0,y,z⟩:=H.codes.some;have Z:=Hm z;obtain ⟨vf,cf,kf,R,_,A⟩:=H.funcs.at_;obtain ⟨fa,fc,rfl⟩:∃ a c,vf=.slice a m.funcs.length c:=Qc.Ok.slice (h.perm A).o.head;clear h H z X A
 go_enter Tryz.func160,Tryz.ntmps160
 go_wp2_with fail
 refine (K.o).mono ?_
 rintro e O ⟨u,j⟩
 rcases hX:Qy false 32 bs p with ⟨er,at_⟩|⟨n,s⟩
 . rw [hX] at j;subst j
   refine ⟨rfl,?_⟩
   rw [M.o,QK,hX]
   exact ⟨rfl,I.o.bl u⟩
 rw [hX] at j;obtain ⟨rfl,g⟩:=j;have Y:=Hm hX;have D:=Jq HA.o hX;have ac:p+1<=s:=Xo (by omega) hX;have c2:O.cell? ⟨q,5,none⟩=some (.slice fa m.funcs.length fc):=g.rst 2 _ R;have H1:=Hm (I.o.step u g I.o.lt);have KF:=Hm (JE q 11 s O g.c1);have KC:=Hm (entCo_c q ba bc bs s n O g HA.o hl D.1 D.2 hE);have aa:=Hm (I.o.bl u);clear u g hX K
 by_cases t:n=(m.funcs.length:Int)
 . have U:(n==(m.funcs.length:Int))=true:=by simpa using t
   have S:(n != (m.funcs.length:Int))=false:=by simpa using t
   have J:=Hm t;clear t
   go_wp2_with fail
   refine (KC.o).mono ?_
   rintro e w2 ⟨u,j⟩
   rcases hY:Q7 (λp_=>Xw bs bc.E p_) n.toNat [] s with ⟨er,at_⟩|⟨l,G⟩
   . rw [hY] at j;subst j
     refine ⟨rfl,?_⟩
     simp only [M.o,QK,Y.o,Rs.bind,if_pos J.o,hY]
     exact ⟨rfl,H1.o.bl u⟩
   rw [hY] at j;obtain ⟨v,c,k,rfl,C,f,g,V⟩:=j;have HY:=Hm hY;have b:p<=G:=by have:=up_repG (λp=>(nx_cod bs bc.E p).up) n.toNat [] s l G hY;omega
   have c7:w2.cell? ⟨q,13,none⟩=some v0:=g.rst 10 _ y;have f7:=g.fz 13;obtain ⟨va,vc,rfl⟩:∃ a c,v=.slice a l.length c:=Qc.Ok.slice f.head;have H2:=Hm (H1.o.put2 (i:=10) Z.o u g f (by decide));have HL:=Hm C;clear u g hY f C y
   go_wp2_with fail
   go_end0
   simp only [M.o,QK,Y.o,Rs.bind,if_pos J.o,HY.o]
   exact ⟨_,_,rfl,HR.o.set_codes HL.o,by rw [List.getElem?_set_ne (by decide)],by rw [List.getElem?_set_ne (by decide)],⟨Nat.le_trans d.types b,Nat.le_trans d.imps b,Nat.le_trans d.funcs b,Nat.le_trans d.tabs b,Nat.le_trans d.mems b,Nat.le_trans d.globs b,Nat.le_trans d.exps b,Nat.le_trans d.elems b,V,Nat.le_trans d.datas b,Nat.le_trans d.customs b⟩,H2.o⟩
 . have U:(n==(m.funcs.length:Int))=false:=by simpa using t
   have S:(n != (m.funcs.length:Int))=true:=by simpa using t
   have J:=Hm t;clear t
   go_wp2_with fail
   refine (KF.o).mono ?_
   rintro e w2 ⟨rfl,rfl⟩
   refine ⟨rfl,?_⟩
   simp only [M.o,QK,Y.o,Rs.bind,if_neg J.o]
   exact ⟨rfl,aa.o⟩
def psR (k:Int)(m:Mod)(rest:List Value):List Value:=if k=0 then rest else if Gi m k then (rest.set 13 (.int .i64 k)).set 14 (.int .i64 k) else rest.set 13 (.int .i64 k)
theorem passed_c (k:Int)(B w0 q ba bc bs p m)(L:List (List Qc))(last z:Int)(w)(h:Sm B w0 q ba bc bs p L.flatten w)(b:MR m bc.rest L)(R:m.Ln)(t:bc.rest[13]?=some (.int .i64 last))(s:bc.rest[14]?=some (.int .i64 z)) :
    Calls Tryz.prog 83 #[.pointer (some ⟨q,0,none⟩),.int .i64 k] w λe w'=>e=.returned (.tuple #[])/\Sm B w0 q ba { bc with rest:=psR k m bc.rest } bs p L.flatten w':=by
 by_cases F:k=0
 . subst F;have H:=Hm h;clear h
   go_enter Tryz.func83,Tryz.ntmps83
   go_wp2_with fail
   go_returns
   exact ⟨rfl,H.o⟩
 have bx:(k==0)=false:=by simpa using F
 obtain ⟨v0,x0,y0,e0,_,p0⟩:=b.types.at_;obtain ⟨a0,n0,rfl⟩:∃ a c,v0=.slice a m.types.length c:=Qc.Ok.slice (h.perm p0).o.head;have c0:w.cell? ⟨q,3,none⟩=some (.slice a0 m.types.length n0):=h.r.rst 0 _ e0;clear e0 p0;obtain ⟨v1,x1,y1,e1,_,p1⟩:=b.imps.at_;obtain ⟨a1,n1,rfl⟩:∃ a c,v1=.slice a m.imps.length c:=Qc.Ok.slice (h.perm p1).o.head;have c1:w.cell? ⟨q,4,none⟩=some (.slice a1 m.imps.length n1):=h.r.rst 1 _ e1;clear e1 p1;obtain ⟨v2,x2,y2,e2,_,p2⟩:=b.funcs.at_;obtain ⟨a2,n2,rfl⟩:∃ a c,v2=.slice a m.funcs.length c:=Qc.Ok.slice (h.perm p2).o.head;have c2:w.cell? ⟨q,5,none⟩=some (.slice a2 m.funcs.length n2):=h.r.rst 2 _ e2;clear e2 p2;obtain ⟨v3,x3,y3,e3,_,p3⟩:=b.tabs.at_;obtain ⟨a3,n3,rfl⟩:∃ a c,v3=.slice a m.tabs.length c:=Qc.Ok.slice (h.perm p3).o.head;have c3:w.cell? ⟨q,6,none⟩=some (.slice a3 m.tabs.length n3):=h.r.rst 3 _ e3;clear e3 p3;obtain ⟨v4,x4,y4,e4,_,Z⟩:=b.mems.at_;obtain ⟨a4,n4,rfl⟩:∃ a c,v4=.slice a m.mems.length c:=Qc.Ok.slice (h.perm Z).o.head;have c4:w.cell? ⟨q,7,none⟩=some (.slice a4 m.mems.length n4):=h.r.rst 4 _ e4;clear e4 Z;obtain ⟨v5,x5,y5,e5,_,Y⟩:=b.globs.at_;obtain ⟨a5,n5,rfl⟩:∃ a c,v5=.slice a m.globs.length c:=Qc.Ok.slice (h.perm Y).o.head;have c5:w.cell? ⟨q,8,none⟩=some (.slice a5 m.globs.length n5):=h.r.rst 5 _ e5;clear e5 Y;obtain ⟨v6,x6,y6,e6,_,X⟩:=b.exps.at_;obtain ⟨a6,n6,rfl⟩:∃ a c,v6=.slice a m.exps.length c:=Qc.Ok.slice (h.perm X).o.head;have c6:w.cell? ⟨q,9,none⟩=some (.slice a6 m.exps.length n6):=h.r.rst 6 _ e6;clear e6 X;obtain ⟨v9,x9,y9,e9,_,U⟩:=b.elems.at_;obtain ⟨a9,n9,rfl⟩:∃ a c,v9=.slice a m.elems.length c:=Qc.Ok.slice (h.perm U).o.head;have c9:w.cell? ⟨q,12,none⟩=some (.slice a9 m.elems.length n9):=h.r.rst 9 _ e9;clear e9 U;obtain ⟨M,bp,bm,y,_,g⟩:=b.codes.at_
 obtain ⟨D,n,rfl⟩:∃ a c,M=.slice a m.codes.length c:=Qc.Ok.slice (h.perm g).o.head;have b4:w.cell? ⟨q,13,none⟩=some (.slice D m.codes.length n):=h.r.rst 10 _ y;clear y g;obtain ⟨J,bo,bk,v,_,f⟩:=b.datas.at_;obtain ⟨C,l,rfl⟩:∃ a c,J=.slice a m.datas.length c:=Qc.Ok.slice (h.perm f).o.head;have b3:w.cell? ⟨q,14,none⟩=some (.slice C m.datas.length l):=h.r.rst 11 _ v;clear v f;obtain ⟨I,bn,bj,u,_,d⟩:=b.customs.at_;obtain ⟨A,j,rfl⟩:∃ a c,I=.slice a m.customs.length c:=Qc.Ok.slice (h.perm d).o.head;have b2:w.cell? ⟨q,15,none⟩=some (.slice A m.customs.length j):=h.r.rst 12 _ u;clear u d;have c7:w.cell? ⟨q,10,none⟩=some (.bool m.hasS):=h.r.rst 7 _ b.hs;have c8:w.cell? ⟨q,11,none⟩=some (.int .i64 m.start):=h.r.rst 8 _ b.st;have cl:w.cell? ⟨q,16,none⟩=some (.int .i64 last):=h.r.rst 13 _ t;have fl:=h.r.fz 16;have H1:=Hm (h.setc 13 (by decide) (.int .i64 k));have KW:=Hm (λV=>isec_c m a0 n0 a1 n1 a2 n2 a3 n3 a4 n4 a5 n5 a6 n6 a9 n9 D n C l A j k V R);have G:=Hm (show psR k m bc.rest=if Gi m k then (bc.rest.set 13 (.int .i64 k)).set 14 (.int .i64 k) else bc.rest.set 13 (.int .i64 k) from if_neg F);have S:=Hm s;clear h b F t s
 go_enter Tryz.func83,Tryz.ntmps83
 go_wp2_with fail
 refine (KW.o _).mono ?_
 rintro e w2 ⟨rfl,O⟩;have E:=Hm (H1.o.keep O H1.o.lt)
 cases hw:Gi m k
 . clear O;rw [hw] at G
   go_wp2_with fail
   go_end0
   exact ⟨rfl,by rw [G.o];exact E.o⟩
 . rw [hw] at G;have bz:w2.cell? ⟨q,17,none⟩=some (.int .i64 z):=E.o.r.rst 14 _ (by show (bc.rest.set 13 _)[14]?=_;rw [List.getElem?_set_ne (by decide)];exact S.o);have fa:=E.o.r.fz 17;have H3:=Hm (E.o.setc 14 (by decide) (.int .i64 k));clear O E
   go_wp2_with fail
   go_end0
   exact ⟨rfl,by rw [G.o];exact H3.o⟩
theorem sec_of (K:Nat)(n:K<=11)(B:Nat)(f:World)(q:Nat)(g:Option Addr)(rest m L)(c:Int)(j:MR m rest L)(k:rest[14]?=some (.int .i64 c)) :
    ∃ fid,(secT q)[K]?=some (.func (.func fid) #[.pointer (some ⟨q,0,none⟩)] #[])/\(∀ xs w,(callFunc fid xs).run Tryz.prog w=.ok (.enter fid xs) w)/\∀ (b:Bf) (a:List Int) (d:Nat) (V:World),Sm B f q g b a d L.flatten V->b.rest=rest->Qm a->a.length<=1099511627776->b.E<=9223372036854775807->MB m d->Calls Tryz.prog fid #[.pointer (some ⟨q,0,none⟩)] V (SeP (Jk K c m a b.E d) B f q g b a):=by
 have l:K=0\/K=1\/K=2\/K=3\/K=4\/K=5\/K=6\/K=7\/K=8\/K=9\/K=10\/K=11:=by omega
 rcases l with rfl|rfl|rfl|rfl|rfl|rfl|rfl|rfl|rfl|rfl|rfl|rfl
 . exact ⟨_,rfl,λ_ _=>rfl,λb a d V h e hA hl hE hMB=>custom_c B f q g b a d m L c V h (by rw [e];exact j) hMB hA hl hE (by rw [e];exact k)⟩
 . exact ⟨_,rfl,λ_ _=>rfl,λb a d V h e hA hl hE hMB=>types_c B f q g b a d m L c V h (by rw [e];exact j) hMB hA hl hE⟩
 . exact ⟨_,rfl,λ_ _=>rfl,λb a d V h e hA hl hE hMB=>imports_c B f q g b a d m L c V h (by rw [e];exact j) hMB hA hl hE⟩
 . exact ⟨_,rfl,λ_ _=>rfl,λb a d V h e hA hl hE hMB=>funcs_c B f q g b a d m L c V h (by rw [e];exact j) hMB hA hl hE⟩
 . exact ⟨_,rfl,λ_ _=>rfl,λb a d V h e hA hl hE hMB=>tables_c B f q g b a d m L c V h (by rw [e];exact j) hMB hA hl hE⟩
 . exact ⟨_,rfl,λ_ _=>rfl,λb a d V h e hA hl hE hMB=>mems_c B f q g b a d m L c V h (by rw [e];exact j) hMB hA hl hE⟩
 . exact ⟨_,rfl,λ_ _=>rfl,λb a d V h e hA hl hE hMB=>globals_c B f q g b a d m L c V h (by rw [e];exact j) hMB hA hl hE⟩
 . exact ⟨_,rfl,λ_ _=>rfl,λb a d V h e hA hl hE hMB=>exports_c B f q g b a d m L c V h (by rw [e];exact j) hMB hA hl hE⟩
 . exact ⟨_,rfl,λ_ _=>rfl,λb a d V h e hA hl hE hMB=>start_c B f q g b a d m L c V h (by rw [e];exact j) hMB hA hl hE⟩
 . exact ⟨_,rfl,λ_ _=>rfl,λb a d V h e hA hl hE hMB=>elems_c B f q g b a d m L c V h (by rw [e];exact j) hMB hA hl hE⟩
 . exact ⟨_,rfl,λ_ _=>rfl,λb a d V h e hA hl hE hMB=>codes_c B f q g b a d m L c V h (by rw [e];exact j) hMB hA hl hE⟩
 . exact ⟨_,rfl,λ_ _=>rfl,λb a d V h e hA hl hE hMB=>datas_c B f q g b a d m L c V h (by rw [e];exact j) hMB hA hl hE⟩
def MdP (M:Rs Mod)(B:Nat)(w0:World)(q:Nat)(ba:Option Addr)(bc:Bf)(bs:List Int)(en:Ending)(w':World):Prop :=
 match M with
 |.bad er at_=>en=.panicked [bc.flt er at_]/\JI B q w0 w'
 |.ok m p'=>∃ rest L,en=.returned (.tuple #[])/\MR m rest L/\Sm B w0 q ba { bc with rest:=rest } bs p' L.flatten w'
theorem takeM_pos {bs:List Int}{p p1:Nat}{x:Int}(h:Qx bs p=.ok x p1):p1=p+1:=by
 unfold Qx at h
 split at h
 · cases h
 . cases h;rfl
theorem Qc.Ok.noblk {B f:Nat}{W:World}{r:Qc}(h:r.Ok B W)(a:r.v.ownBlock=none):r.Ok f W:=by
 refine ⟨h.1,?_⟩
 rcases h.2 with h0|⟨g,d,c,b,_⟩
 . exact .inl h0
 . rw [b] at a;cases a
theorem JI.over {B q}{b w1 c V:World}{o:Obj}(h:JI B q b w1)(hB:B<=w1.heap.size)(d:c=w1.alloc o)(a:JI (w1.heap.size+1) q c V):JI B q b V:=by
 subst d
 exact ⟨a.os.trans h.os,a.tape.trans h.tape,a.output.trans h.output,by have:=a.size;have:=h.size;simp at *;omega,λk hk hn=>(a.block k (by omega) hn).trans ((QF w1 o k (by omega)).trans (h.block k hk hn))⟩
theorem Sm.base {B w0 q ba bc bc' bs bs' p p' rs rs'}{w1 d V:World}{o:Obj}(h:Sm B w0 q ba bc bs p rs w1)(g:d=w1.alloc o)(c:Sm (w1.heap.size+1) d q ba bc' bs' p' rs' V)(f:bc'.fs=bc.fs):Sm B w0 q ba bc' bs' p' rs' V :=
 ⟨c.r,h.b.over h.sz g c.b,c.o.mono (by have:=h.sz;omega),λa e hx=>h.by_ a e (by rw [<- f];exact hx),h.qB,by have:=c.sz;have:=h.sz;omega⟩
theorem noM_bd {last:Int}{bs}(b:Qm bs){p p1:Nat}{k:Int}(h:noM last bs p=.ok k p1):0<=k/\k<=11:=by
 unfold noM at h
 cases hX:Qx bs p with
 |bad er a=>rw [hX] at h;cases h
 |ok x q =>
  rw [hX] at h
  have:=Xn b hX
  simp only [Rs.bind] at h
  split at h
  · cases h
  . split at h
    · cases h
    . cases h;omega
theorem nx_no (last:Int)(bs:List Int)(p:Nat):(noM last bs p).nx p:=Jy (nx_take _ _) λv p1=>JJ (Xb _ _ _) (JJ (Xb _ _ _) (Q6 _ _))
theorem up_sec (k d:Int)(m:Mod)(bs:List Int)(E:Int)(p:Nat):(Jk k d m bs E p).up p:=by
 unfold Jk
 exact JJ (Qs (Qs (X9 _ _ _).up λa p1=>Qs (up_bytes _ _ _) λb p2=>Q6 _ _) λc p1=>Q6 _ _)
  (JJ (Qs (JA (fun p=>(nx_ft bs p).up) _ _).up fun l p1=>Q6 _ _)
  (JJ (Qs (JA (fun p=>(Og bs E p).up) _ _).up fun l p1=>Q6 _ _)
  (JJ (Qs (JA (fun p=>(JC bs p).up) _ _).up fun l p1=>Q6 _ _)
  (JJ (Qs (JA (fun p=>(nx_tab bs p).up) _ _).up fun l p1=>Q6 _ _)
  (JJ (Qs (JA (fun p=>(nx_lim bs p).up) _ _).up fun l p1=>Q6 _ _)
  (JJ (Qs (JA (fun p=>(nx_glob bs p).up) _ _).up fun l p1=>Q6 _ _)
  (JJ (Qs (JA (fun p=>(nx_exp bs E p).up) _ _).up fun l p1=>Q6 _ _)
  (JJ (Qs (JC _ _).up fun x p1=>Q6 _ _)
  (JJ (Qs (JA (fun p=>(nx_ele bs p).up) _ _).up fun l p1=>Q6 _ _)
  (JJ (Qs (JC _ _).up fun n p1=>JJ (Qs (up_repG (fun p=>(nx_cod bs E p).up) _ _ _) fun l p2=>Q6 _ _) (Xb _ _ _))
  (Qs (JA (fun p=>(nx_dat bs E p).up) _ _).up fun l p1=>Q6 _ _)))))))))))
theorem psR_mr {k:Int}{m a:Mod}{rest L}(h:MR m rest L):MR m (psR k a rest) L:=by
 unfold psR
 split
 · exact h
 . split
   · exact (h.set_far (by decide) _).set_far (by decide) _
   . exact h.set_far (by decide) _
theorem psR_13 {k last:Int}{m:Mod}{rest:List Value}(hl:rest.length=15)(h:rest[13]?=some (.int .i64 last)):(psR k m rest)[13]?=some (.int .i64 (if k=0 then last else k)):=by
 unfold psR
 by_cases a:k=0
 . rw [if_pos a,if_pos a];exact h
 . rw [if_neg a,if_neg a]
   split
   · rw [List.getElem?_set_ne (by decide)];exact List.getElem?_set_self (by omega)
   . exact List.getElem?_set_self (by omega)
theorem psR_14 {k a:Int}{m:Mod}{rest:List Value}(hl:rest.length=15)(h:rest[14]?=some (.int .i64 a)):(psR k m rest)[14]?=some (.int .i64 (if k≠0/\Gi m k then k else a)):=by
 unfold psR
 by_cases b:k=0
 . rw [if_pos b,if_neg (λh=>h.1 b)];exact h
 . rw [if_neg b]
   cases hw:Gi m k
   . rw [if_neg (by decide),if_neg (λh=>by cases h.2),List.getElem?_set_ne (by decide)];exact h
   . rw [if_pos rfl,if_pos ⟨b,rfl⟩];exact List.getElem?_set_self (by simp;omega)
theorem module_c (B w0 q ba bc bs)(L:List (List Qc))(w)(h:Sm B w0 q ba bc bs 0 L.flatten w)(hR:MR Mod.z bc.rest L)(bd:bc.rest[13]?=some (.int .i64 0))(bb:bc.rest[14]?=some (.int .i64 0))(hA:Qm bs)(hl:bs.length<=1099511627776)(dh:bs.length<=1048576)(hE:bc.E=JH)(a1:∀ r ∈ L.flatten,r.v.ownBlock=none) :
    Calls Tryz.prog 24 #[.pointer (some ⟨q,0,none⟩)] w (MdP (JM bs) B w0 q ba bc bs):=by
 have bo:=Hm h;have HR:=Hm hR;have HA:=Hm hA;have cr:=Hm bd;have cq:=Hm bb;have dk:=h.r.fl
 have a4:bc.fs.length=bs.length:=by
  have hw:=h.r.win;rw [hw,hE];simp [JH];omega
 clear h hR hA bd bb
 go_enter Tryz.func24,Tryz.ntmps24
 go_wp2_with fail
 go_loopw [5] (λi wr=>∃ k:Nat,k<=8/\i=.int .i64 (k:Int)/\hdG bs 8 0=hdG bs (8-k) k/\Sm B w0 q ba bc bs k L.flatten wr) (λi _=>8-(intOf i).toNat)
 case atStart=>exact ⟨0,by omega,rfl,rfl,bo.o⟩
 case round =>
  obtain ⟨k,hk,rfl,hH,Y⟩:=hrel;have t:=Hm Y;clear Y bo
  by_cases b9:k=8
  . subst b9;have cp:Hid (JM bs=Gq bs (bs.length+1) Mod.z 0 0 8):=by show _=_;unfold JM;rw [hH];rfl
    clear hH
    go_wp2_with fail
    refine (sections_c q _).mono ?_
    rintro e D ⟨rfl,a7⟩;have s:=Hm (t.o.keep a7 t.o.sz);clear a7
    go_wp2_with fail
    obtain ⟨R,H⟩:∃ V,V=D.alloc (.cells (secT q).toArray 137):=⟨_,rfl⟩;have ch:Hid (Bk R D.heap.size (secT q)):=by rw [H];exact Bk.new
    have ci:Hid (Sm (D.heap.size+1) R q ba bc bs 8 L.flatten R):=by
     have h1:=s.o.keep (show Below D.heap.size D R by rw [H];exact bF.alloc lR _) s.o.sz;have hq:=s.o.r.lt;have db:R.heap.size=D.heap.size+1:=by rw [H];simp
     exact ⟨h1.r,JI.refl _ _ _,⟨λr hr=>Qc.Ok.noblk (h1.o.all r hr) (a1 r hr),h1.o.nd⟩,λa e hx=>by have:=h1.by_ a e hx;have:=h1.sz;have:=s.o.sz;omega,by omega,by omega⟩
    have M:=Hm H;clear H;rw [storeNew (secT q)]
    case hv=>rfl
    case hg=>first|rfl|simp
    case hl=>rfl
    case h1=>rfl
    rw [show D.alloc (.cells (secT q).toArray 137)=R from M.o.symm]
    simp only [Result.andThen_ok]
    go_wp2_with fail
    go_loopw [4] (λx wr=>∃ (f:Nat) (m:Mod) (d l:Int) (rest:List Value) (L':List (List Qc)) (p:Nat),JM bs=Gq bs f m d l p/\bs.length+1<=f+p/\MR m rest L'/\rest[13]?=some (.int .i64 d)/\rest[14]?=some (.int .i64 l)/\MB m p/\Sm (D.heap.size+1) R q ba { bc with rest:=rest } bs p L'.flatten wr) (λ_ wr=>bs.length-(posOf q wr).toNat)
    case atStart=>exact ⟨_,Mod.z,0,0,bc.rest,L,8,cp.o,by omega,HR.o,cr.o,cq.o,⟨by simp [Mod.z],by simp [Mod.z],by simp [Mod.z],by simp [Mod.z],by simp [Mod.z],by simp [Mod.z],by simp [Mod.z],by simp [Mod.z],by simp [Mod.z],by simp [Mod.z],by simp [Mod.z]⟩,ci.o⟩
    case round =>
     obtain ⟨f,m,d,l,rest,L',p,hM,hf,a8,bg,bf,a9,Y⟩:=hrel;have t:=Hm Y;have HP:Hid (posOf q wr=p):=Y.r.pos;have dd:=Y.r.le;have KM:=Hm (more_c q ba _ bs p wr Y.r);have ad:=Hm a8;have br:=Hm bg;have bq:=Hm bf;have cn:=Hm a9;have dw:=Hm Y.b;clear Y a8 bg bf a9;obtain ⟨f',rfl⟩:∃ f',f=f'+1:=⟨f-1,by omega⟩
     by_cases hp:p<bs.length
     . have b5:decide (p<bc.fs.length)=true:=by rw [a4];exact decide_eq_true hp
       have G:Hid (JM bs=(noM d bs p).bind λk U=>(QU (Jk k l m) bs bc.E U).bind λm' p2=>Gq bs f' m' (if k=0 then d else k) (if k≠0/\Gi m' k then k else l) p2):=by show _=_;rw [hM,hE];simp only [Gq,if_pos hp]
       clear hM
       go_wp2_with fail
       refine (KM.o).mono ?_
       rintro e S ⟨rfl,n2,rfl⟩;have j:=Hm (t.o.keep (show Below wr.heap.size wr (wr.drewN n2) from ⟨rfl,rfl,rfl,lR,λ_ _=>rfl⟩) t.o.sz);have KN:=Hm (secno_c q ba { bc with rest:=rest } bs p d _ j.o.r HA.o hl br.o);clear KM
       go_wp2_with fail
       refine (KN.o).mono ?_
       rintro e w3 ⟨ap,aa⟩
       rcases hX:noM d bs p with ⟨er,at_⟩|⟨y,U⟩
       . rw [hX] at aa;subst aa
         refine ⟨rfl,?_⟩
         rw [G.o,hX]
         exact ⟨rfl,s.o.b.over s.o.sz M.o (j.o.bl ap)⟩
       have b8:=noM_bd HA.o hX;have a0:p+1<=U:=nx_no d bs p y U hX;obtain ⟨y,rfl⟩:=Int.eq_ofNat_of_zero_le b8.1;have a3:y<=11:=by omega
       rw [hX] at aa;obtain ⟨rfl,ay⟩:=aa;have bn:=Hm (j.o.step ap ay j.o.sz);obtain ⟨bh,ah,a5,af⟩:=sec_of y a3 (D.heap.size+1) R q ba rest m L' l ad.o bq.o
       have ct:w3.cell? ⟨D.heap.size,y,none⟩=some (.func (.func bh) #[.pointer (some ⟨q,0,none⟩)] #[]):=by
        have O:=bn.o.b.block D.heap.size (by omega) (by have:=s.o.r.lt;omega)
        exact (World.cell?_of_block O).trans (ch.o.2.1 y _ ah)
       have KW:=Hm (wsec_c bh a5 y l m L' (D.heap.size+1) R q ba { bc with rest:=rest } bs U w3 bn.o (cn.o.up (by omega)) HA.o hl (by show bc.E<=_;rw [hE];decide) af);have HX:=Hm hX;have di:(y:Int)<12:=by omega
       clear ap ay hX KN ah af a5
       go_wp2_with fail
       refine (KW.o).mono ?_
       rintro e w4 Z
       rcases hY:QU (Jk y l m) bs bc.E U with ⟨er,at_⟩|⟨m',p2⟩
       . rw [show ({ bc with rest:=rest }:Bf).E=bc.E from rfl,hY] at Z;obtain ⟨rfl,ca⟩:=Z
         refine ⟨rfl,?_⟩
         simp only [G.o,HX.o,Rs.bind,hY]
         exact ⟨rfl,s.o.b.over s.o.sz M.o ca⟩
       rw [show ({ bc with rest:=rest }:Bf).E=bc.E from rfl,hY] at Z;obtain ⟨u,L2,rfl,I,av,au,J,X⟩:=Z;have dg:U+1<=p2:=nx_within (up_sec y l m) bs bc.E U m' p2 hY;have cs:=X.r.le;have co:=Hm I;have bk:Hid (u[13]?=some (.int .i64 d)):=av.trans br.o;have bj:Hid (u[14]?=some (.int .i64 l)):=au.trans bq.o;have bp:=Hm J;have a2:u.length=15:=X.r.rl;have KP:=Hm (passed_c y (D.heap.size+1) R q ba { bc with rest:=u } bs p2 m' L2 d l w4 X I (J.ln (by omega)) bk.o bj.o);have HY:=Hm hY;clear X I av au J KW hY
       go_wp2_with fail
       refine (KP.o).mono ?_
       rintro e w5 ⟨rfl,ak⟩;have cj:=Hm ak;have ck:Hid (posOf q w5=p2):=ak.r.pos;clear ak KP
       go_wp2_with fail
       go_roundw
       case rel =>
        refine ⟨f',m',(if (y:Int)=0 then d else y),(if (y:Int)≠0/\Gi m' y then (y:Int) else l),psR y m' u,L2,p2,by simp only [G.o,HX.o,Rs.bind,HY.o],by omega,?_,?_,?_,bp.o,cj.o⟩
        . exact psR_mr co.o
        . exact psR_13 a2 bk.o
        . exact psR_14 a2 bj.o
       case measure=>rw [ck.o,HP.o];simp;omega
     . have de:p=bs.length:=by omega
       have b5:decide (p<bc.fs.length)=false:=by rw [a4];exact decide_eq_false hp
       have G:Hid (JM bs=if m.codes.length≠m.funcs.length then .bad 11 p else .ok m p):=by show _=_;rw [hM];simp only [Gq,if_neg hp]
       obtain ⟨vf,cf,kf,aw,_,az⟩:=ad.o.funcs.at_;obtain ⟨fa,fc,rfl⟩:∃ a c,vf=.slice a m.funcs.length c:=Qc.Ok.slice (t.o.perm az).o.head;obtain ⟨vd,cd,kd,ax,_,ag⟩:=ad.o.codes.at_;obtain ⟨da,dc,rfl⟩:∃ a c,vd=.slice a m.codes.length c:=Qc.Ok.slice (t.o.perm ag).o.head;have dr:wr.cell? ⟨q,5,none⟩=some (.slice fa m.funcs.length fc):=t.o.r.rst 2 _ aw;have ds:wr.cell? ⟨q,13,none⟩=some (.slice da m.codes.length dc):=t.o.r.rst 10 _ ax;have c1:=t.o.r.c1;clear hM aw ax az ag
       by_cases ab:m.codes.length=m.funcs.length
       . have b6:((m.codes.length:Int) != (m.funcs.length:Int))=false:=by simp;omega
         have HN:=Hm ab;clear ab
         go_wp2_with fail
         refine (KM.o).mono ?_
         rintro e S ⟨rfl,n2,rfl⟩
         go_wp2_with fail
         go_quiet (fail)
         go_wp2_with fail
         go_end0
         rw [G.o,if_neg (by rw [HN.o];simp)]
         exact ⟨rest,L',by first|rfl|trivial,ad.o,s.o.base M.o (t.o.keep ⟨rfl,rfl,rfl,lR,λ_ _=>rfl⟩ t.o.sz) rfl⟩
       . have b6:((m.codes.length:Int) != (m.funcs.length:Int))=true:=by simp;omega
         have HN:=Hm ab;clear ab;have KF:=Hm (λn1=>JE q 11 p (wr.drewN n1) c1)
         go_wp2_with fail
         refine (KM.o).mono ?_
         rintro e S ⟨rfl,n2,rfl⟩
         go_wp2_with fail
         go_quiet (fail)
         go_wp2_with fail
         refine (KF.o _).mono ?_
         rintro e w3 ⟨rfl,rfl⟩
         refine ⟨rfl,?_⟩
         rw [G.o,if_pos HN.o]
         exact ⟨rfl,s.o.b.over s.o.sz M.o (t.o.keep (V':=wr.drewN _) ⟨rfl,rfl,rfl,lR,λ_ _=>rfl⟩ t.o.sz).b⟩
  have ao:k=0\/k=1\/k=2\/k=3\/k=4\/k=5\/k=6\/k=7:=by omega
  obtain ⟨b,O⟩:∃ b:Int,headB.getD k 0=b:=⟨_,rfl⟩;have KT:=Hm (λV (hV:Rd V q ba bc bs k)=>take_c q ba bc bs k V hV hl)
  rcases hX:Qx bs k with ⟨er,at_⟩|⟨x,U⟩
  . have ac:Hid (JM bs=.bad er at_):=by show _=_;unfold JM;rw [hH];simp only [show 8-k=7-k+1 by omega,hdG,hX,Rs.bind]
    rw [hX] at KT;clear hX hH
    go_wp2_with fail
    refine Rp.qg_list (N:=45) (gs:=[Rp.is (.pointer (some ⟨q,0,none⟩)),λ_ _=>False,Rp.is (.int .i64 (k:Int)),Rp.is (.int .u8 b),λ_ _=>False]) (by kernel_rfl) (by kernel_rfl) rfl ?_ ?_ ?_
    . exact .cons (Rp.QC _) (.cons (Rp.Gk) (.cons (Rp.QC _) (.cons (Rp.QC _) (.cons (Rp.Gk) (.nil)))))
    . refine Rp.Jw.cons (λa W K f df hK=>?_) ?_
      . have e0:a.tmps[0]?.getD undef=.pointer (some ⟨q,0,none⟩):=(Rp.Xu f 0 (by kernel_rfl)).trans rfl
        refine Rp.QD (.pointer (some ⟨q,0,none⟩)) (Rp.Qe rfl) bF ?_ rfl hK
        clear f hK df
        go_simp
        try rfl
      refine Rp.Jw.cons (λa W K f df hK=>?_) ?_
      . have e8:a.tmps[8]?.getD undef=.pointer (some ⟨q,0,none⟩):=Rp.Q0 f 2 0 8 (by kernel_rfl);have a6:Below wr.heap.size wr W:=f.kp;have cb:Rd W q ba bc bs k:=t.o.r.keep a6
        refine Rp.st_fall (Rp.Qe rfl) ?_ (Calls.mono (KT.o W cb) (by
         rintro e S ⟨g,b7⟩
         refine ⟨_,b7,df,?_⟩
         rw [ac.o]
         exact ⟨rfl,(t.o.keep a6 t.o.sz).bl g⟩))
        clear f hK df
        go_simp
        try rfl
      refine Rp.Jw.cons (λa W K f df hK=>?_) ?_
      . have e2:a.tmps[2]?.getD undef=.int .i64 (k:Int):=(Rp.Xu f 2 (by kernel_rfl)).trans rfl
        refine Rp.QD (.int .i64 (k:Int)) (Rp.Qe rfl) bF ?_ rfl hK
        clear f hK df
        go_simp
        try rfl
      refine Rp.Jw.cons (λa W K f df hK=>?_) ?_
      . have dn:a.tmps[10]?.getD undef=.int .i64 (k:Int):=Rp.Q0 f 2 2 10 (by kernel_rfl)
        refine Rp.QD (.int .u8 b) (Rp.Qe rfl) bF ?_ rfl hK
        clear f hK df
        rcases ao with rfl|rfl|rfl|rfl|rfl|rfl|rfl|rfl<;>(simp [headB] at O;subst O;go_simp;try rfl)
      refine Rp.Jw.cons (λa W K f df hK=>?_) ?_
      . exact (Rp.Q0 f 4 1 9 (by kernel_rfl)).elim
      exact Rp.Jw.nil
    . intro a V F
      exact (F.va 1 (show 1<5 by decide)).elim
  have a0:=takeM_pos hX;subst a0;have dl:=Xn HA.o hX;rw [hX] at KT
  by_cases hx:x=b
  . subst hx;have A:Hid (hdG bs 8 0=hdG bs (7-k) (k+1)):=by show _=_;rw [hH];simp only [show 8-k=7-k+1 by omega,hdG,hX,Rs.bind];rw [if_pos O.symm]
    clear hX hH
    rcases ao with rfl|rfl|rfl|rfl|rfl|rfl|rfl|rfl
    all_goals (simp [headB] at O;subst O)
    all_goals go_wp2_with fail
    all_goals go_region_law (go_simp;refine Calls.mono (KT.o _ (by first|exact t.o.r|exact t.o.r.drewN _)) ?_;rintro e S ⟨g,rfl,C⟩;have j:=Hm (t.o.step (V':=S) ⟨g.os,g.tape,g.output,g.size,g.block⟩ C t.o.sz);clear g C)
    all_goals go_wp2_with fail
    all_goals go_roundw
    all_goals first
     |((first|refine ⟨1,by omega,rfl,A.o,?_⟩|refine ⟨2,by omega,rfl,A.o,?_⟩|refine ⟨3,by omega,rfl,A.o,?_⟩|refine ⟨4,by omega,rfl,A.o,?_⟩|refine ⟨5,by omega,rfl,A.o,?_⟩|refine ⟨6,by omega,rfl,A.o,?_⟩|refine ⟨7,by omega,rfl,A.o,?_⟩|refine ⟨8,by omega,rfl,A.o,?_⟩);first|exact j.o|exact j.o.keep ⟨rfl,rfl,rfl,lR,λ_ _=>rfl⟩ j.o.sz)
     |(simp [intOf])
  . have c8:(x==b)=false:=by simpa using hx
    have b4:(x != b)=true:=by simpa using hx
    have ac:Hid (JM bs=.bad 3 (k+1:Nat)):=by show _=_;unfold JM;rw [hH];simp only [show 8-k=7-k+1 by omega,hdG,hX,Rs.bind];rw [if_neg (by rw [O];exact hx)]
    have KG:=Hm (λ(V:World) hc=>JE q 3 ((k+1:Nat):Int) V hc);clear hX hH
    rcases ao with rfl|rfl|rfl|rfl|rfl|rfl|rfl|rfl
    all_goals (simp [headB] at O;subst O)
    all_goals go_wp2_with fail
    all_goals go_region_law (go_simp;refine Calls.mono (KT.o _ (by first|exact t.o.r|exact t.o.r.drewN _)) ?_;rintro e S ⟨g,rfl,C⟩;have j:=Hm (t.o.step (V':=S) ⟨g.os,g.tape,g.output,g.size,g.block⟩ C t.o.sz);have KF:=Hm (λn=>KG.o (S.drewN n) C.c1);have ce:=Hm (KG.o S C.c1);clear g C)
    all_goals go_wp2_with fail
    all_goals
     first
      | (refine (ce.o).mono ?_
         rintro e w5 ⟨rfl,rfl⟩
         refine ⟨rfl,?_⟩
         rw [ac.o]
         exact ⟨rfl,by first | exact j.o.b | exact (j.o.keep ⟨rfl,rfl,rfl,lR,fun _ _=>rfl⟩ j.o.sz).b⟩)
      | (refine (KF.o _).mono ?_
         rintro e w5 ⟨rfl,rfl⟩
         refine ⟨rfl,?_⟩
         rw [ac.o]
         exact ⟨rfl,by first | exact j.o.b | exact (j.o.keep ⟨rfl,rfl,rfl,lR,fun _ _=>rfl⟩ j.o.sz).b⟩)
      |(rename_i hh;exact absurd (b4.symm.trans hh) (by decide))
end Go.Proofs.YtedcmcdbejjgcaaGreat
