import Derived.Test.YtedcmcdbejjgcaaGreatGaa
import Derived.Test.YtedcmcdbejjgcaaGreatGbe
import Derived.Test.YtedcmcdbejjgcaaGreatGaq
import Derived.Test.YtedcmcdbejjgcaaGreatGbi
import Derived.Great.BuildSlice
import Derived.Laws.EntriesVeiled
import Derived.Deep.WholeRow
import Derived.Laws.Tables
set_option linter.all false
set_option maxHeartbeats 400000000
set_option maxRecDepth 100000
namespace Go.Proofs.YtedcmcdbejjgcaaGreat.Ms
open Go.RowKit Go.Sort
section
variable {B:Nat} {w0:World} {s:Nat} {ba:Option Addr} {bc:Bd} {bs:List Int} {p:Nat} {er at_:Int} {K:Nat} {bx:List (Nat × List Value)} {rs:List Qc} {V W:World}
theorem Sd.gone {r:Qc}(h:Sd B w0 s ba bc bs p er at_ K bx (r::rs) V)(m:V.grownBy W r.v.ownBlock):Sd B w0 s ba bc bs p er at_ K bx rs W:=by
 obtain ⟨v,n,f,c,I,O,H,G⟩:=h.ex;have j:(Jc v n f::QS bc::r::rs).Perm (r::Jc v n f::QS bc::rs):=(List.Perm.cons _ (List.Perm.swap _ _ _)).trans (List.Perm.swap _ _ _);have E:=I.perm j;have l:∀ k,r.v.ownBlock=some k->k ∈ blk (Jc v n f::QS bc::r::rs):=λk d=>Qn.2 ⟨r,by simp,d⟩;have q:∀ k,r.v.ownBlock=some k->B<=k:=λk d=>(I.lt (l k d)).1;have F:∀ k,r.v.ownBlock=some k->k ∉ blk (Jc v n f::QS bc::rs):=λk d=>Own.disj (a:=[r]) (b:=Jc v n f::QS bc::rs) E (Qn.2 ⟨r,by simp,d⟩)
 have g:∀ k,k ∈ blk (Jc v n f::QS bc::rs)->k ∈ blk (Jc v n f::QS bc::r::rs):=λk d=>by
  obtain ⟨y,t,e⟩:=Qn.1 d
  refine Qn.2 ⟨y,?_,e⟩
  simp at t⊢
  rcases t with rfl|rfl|t
  . exact .inl rfl
  . exact .inr (.inl rfl)
  . exact .inr (.inr (.inr t))
 have L:Own B W (Jc v n f::QS bc::rs):=E.tail.grown m (λk e d=>F k e d);have u:∀ k,r.v.ownBlock=some k->k≠s:=λk d e=>H (e ▸ l k d)
 refine ⟨⟨v,n,f,?_,L,O,λd=>H (g _ d),λx hx d=>G x hx (g _ d)⟩,h.b.grown m h.hB q,h.by_,h.qB,λx hx=>⟨(h.bk x hx).1.grownR m (λe=>G x hx (l _ e)),(h.bk x hx).2⟩,h.nd⟩
 have d:W.heap[s]?=V.heap[s]?:=m.block s h.lt (λe=>u s e.symm rfl);have C:∀ i v,V.cell? ⟨s,i,none⟩=some v->W.cell? ⟨s,i,none⟩=some v:=λi v hv=>(World.cell?_of_block d).trans hv
 have J:∀ xs,By.Has V ba xs->By.Has W ba xs:=by
  rintro xs (h'|⟨b,o,e,z⟩)
  . exact .inl h'
  . exact .inr ⟨b,o,e,λi hi=>m.cell (z i hi) (λe'=>by have M:=h.by_ _ e;have:=q b e'.symm;simp at M;omega)⟩
 refine ⟨C _ _ c.c0,C _ _ c.c1,C _ _ c.c2,C _ _ c.d3,C _ _ c.d4,λi v hv=>C _ _ (c.rst i v hv),C _ _ c.ev,C _ _ c.c19,C _ _ c.c20,C _ _ c.c21,λi=>(World.frozen?_of_block d).trans (c.fz i),J _ c.has,c.ne,c.le,J _ c.hasF,c.win,c.e0,c.rl,c.fl,c.eo,λk d=>?_,c.eb,λb o e=>Nat.lt_of_lt_of_le (c.el b o e) m.size,c.enb⟩
 obtain ⟨b,o,e,A,z⟩:=c.em k d
 exact ⟨b,o,e,A,m.cell z (λe'=>F b e'.symm (Qn.2 ⟨QS bc,by simp,by have D:bc.ea=some ⟨b,o,none⟩:=e;simp [QS,D,Value.ownBlock]⟩))⟩
theorem Sd.add {r:Qc}(h:Sd B w0 s ba bc bs p er at_ K bx rs V)(hr:r.Ok B V)(d:∀ k,r.v.ownBlock=some k->k≠s/\(∀ v n cs,Own B V (Jc v n cs::QS bc::rs)->V.cell? ⟨s,18,none⟩=some v->k ∉ blk (Jc v n cs::QS bc::rs))/\∀ x ∈ bx,x.1≠k):Sd B w0 s ba bc bs p er at_ K bx (r::rs) V:=by
 obtain ⟨v,n,cs,j,g,q,o,m⟩:=h.ex;have c:(r::Jc v n cs::QS bc::rs).Perm (Jc v n cs::QS bc::r::rs):=(List.Perm.swap _ _ _).trans (List.Perm.cons _ (List.Perm.swap _ _ _))
 have l:Own B V (r::Jc v n cs::QS bc::rs):=by
  have:=(Own.one hr).app g (fun k hk hk'=>by
   obtain ⟨y,a,e⟩:=Qn.1 hk
   simp at a;subst a
   exact (d k e).2.1 v n cs g j.ev hk')
  simpa using this
 have f:∀ k,k ∉ blk (Jc v n cs::QS bc::rs)->r.v.ownBlock≠some k->k ∉ blk (Jc v n cs::QS bc::r::rs):=λk h1 h2 hm=>by
  obtain ⟨y,a,e⟩:=Qn.1 hm
  simp at a
  rcases a with rfl|rfl|rfl|a
  . exact h1 (Qn.2 ⟨_,by simp,e⟩)
  . exact h1 (Qn.2 ⟨_,by simp,e⟩)
  . exact h2 e
  . exact h1 (Qn.2 ⟨_,by simp [a],e⟩)
 exact ⟨⟨v,n,cs,j,l.perm c,q,f _ o (λe=>(d _ e).1 rfl),λx hx'=>f _ (m x hx') (λe=>(d _ e).2.2 x hx' rfl)⟩,h.b,h.by_,h.qB,h.bk,h.nd⟩
theorem Sd.turn {r r':Qc}(h:Sd B w0 s ba bc bs p er at_ K bx (r::rs) V)(z:V.grownBy W r.v.ownBlock)(own:r'.Ok B W)(t:r'.v.ownBlock=r.v.ownBlock\/∃ k,r'.v.ownBlock=some k/\V.heap.size<=k):Sd B w0 s ba bc bs p er at_ K bx (r'::rs) W:=by
 have E:=h.gone z;obtain ⟨v,n,l,H,G,J,A,F⟩:=h.ex;have f:(Jc v n l::QS bc::r::rs).Perm (r::Jc v n l::QS bc::rs):=(List.Perm.cons _ (List.Perm.swap _ _ _)).trans (List.Perm.swap _ _ _);have u:=G.perm f;have j:∀ k,r.v.ownBlock=some k->k ∈ blk (Jc v n l::QS bc::r::rs):=λk c=>Qn.2 ⟨r,by simp,c⟩;have D:∀ k,r.v.ownBlock=some k->k ∉ blk (Jc v n l::QS bc::rs):=λk c=>Own.disj (a:=[r]) (b:=Jc v n l::QS bc::rs) u (Qn.2 ⟨r,by simp,c⟩)
 refine E.add own (λk c=>?_)
 have g:r.v.ownBlock=some k\/V.heap.size<=k:=by
  rcases t with e|⟨I,e,q⟩
  . exact .inl (e ▸ c)
  . rw [c] at e;injection e with e;exact .inr (e ▸ q)
 refine ⟨λe=>?_,λv' n' cs' hO hc hm=>?_,λx hx e=>?_⟩
 . rcases g with d|d
   . exact A (e ▸ j k d)
   . have:=h.lt;omega
 . have C:v'=v:=by
     have c:W.heap[s]?=V.heap[s]?:=z.block s h.lt (λe=>A (j s e.symm))
     have:W.cell? ⟨s,18,none⟩=some v:=(World.cell?_of_block c).trans H.ev
     rw [this] at hc;injection hc with hc;exact hc.symm
   subst C
   have m:k ∈ blk (Jc v' n l::QS bc::rs):=by
    obtain ⟨y,o,e⟩:=Qn.1 hm
    simp at o
    rcases o with rfl|rfl|o
    . exact Qn.2 ⟨Jc v' n l,by simp,e⟩
    . exact Qn.2 ⟨_,by simp,e⟩
    . exact Qn.2 ⟨_,by simp [o],e⟩
   rcases g with d|d
   . exact D k d m
   . have:=(u.tail.lt m).2;omega
 . rcases g with d|d
   . exact F x hx (e ▸ j k d)
   . have:=(h.bk x hx).1.1;omega
theorem Sd.setR {T sz n g c:Nat}{cs:List Value}(h:Sd B w0 s ba bc bs p er at_ K bx (⟨T,sz,n,.slice (some ⟨g,0,none⟩) n c,cs⟩::rs) V)(j:Nat)(u:Value):Sd B w0 s ba bc bs p er at_ K bx (⟨T,sz,n,.slice (some ⟨g,0,none⟩) n c,cs.set j u⟩::rs) (V.setCell ⟨g,j,none⟩ u):=by
 have a:=h.row (mS)
 refine h.turn (r':=⟨T,sz,n,.slice (some ⟨g,0,none⟩) n c,cs.set j u⟩) (Qp V g j u) ?_ (.inl rfl)
 exact (World.ownsRow.stored (show V.ownsRow B T sz (.slice (some ⟨g,0,none⟩) n c) n cs from a) j u).1
theorem Sd.stepE {a c:Int}{d:Nat}{K':Nat}(h:Sd B w0 s ba bc bs p er at_ K bx rs V)(g:a≠0)(hv:∀ v,V.cell? ⟨s,18,none⟩=some v->Sr W s ba { bc with ev:=v } bs d a c)(hg:V.grownBy W (some s)):Sd B w0 s ba bc bs d a c K' bx rs W:=by
 obtain ⟨v,n,o,m,l,q,f,j⟩:=h.ex
 exact ⟨⟨v,n,o,hv v m.ev,l.grown hg (λk e hk=>by cases e;exact f hk),λe=>absurd e g,f,j⟩,h.b.trans ⟨hg.os,hg.tape,hg.output,hg.size,λk hk=>hg.block k (by have:=h.hB;omega) (by have:=h.qB;simp;omega)⟩,h.by_,h.qB,λx hx=>⟨(h.bk x hx).1.grownR hg (by have:=(h.bk x hx).2.2;simpa using λe=>this e.symm),(h.bk x hx).2⟩,h.nd⟩
end
theorem liftIE {P:Program}{F:FuncId}{args:Array Value}{B:Nat}{w0:World}{s:Nat}{ba:Option Addr}{bc:Bd}{bs:List Int}{p:Nat}{er at_:Int}{K:Nat}{bx:List (Nat × List Value)}{rs:List Qc}{w:World}
    (h:Sd B w0 s ba bc bs p er at_ K bx rs w) (k:er≠0) (o:∀ v,Sr w s ba { bc with ev:=v } bs p er at_->Calls P F args w (SiP (.bad er at_) w s ba { bc with ev:=v } bs)):Calls P F args w λe d=>∃ x c b,e=.returned (inV x c b)/\∃ a,Sd B w0 s ba bc bs a er at_ 0 bx rs d:=by
 obtain ⟨v,n,y,f,u,t,r,q⟩:=h.ex
 refine (o v f).mono ?_
 rintro e d ⟨l,x,c,b,m,j,a,g⟩
 exact ⟨x,c,b,m,a,h.stepE k (λv' hv'=>by rw [f.ev] at hv';cases hv';exact g) l⟩
theorem step_none {n:List Bool}{b:Int}(d:n≠[])(h:Jf n b=none):b=5:=by
 have f:n.isEmpty=false:=by cases n with
  |nil=>exact absurd rfl d
  |cons a l=>rfl
 unfold Jf at h;rw [f] at h
 by_cases c:b=5
 . exact c
 . rw [if_neg (by decide),if_neg c] at h
   split at h
   · cases h
   . split at h
     · cases h
     . split at h<;>cases h
theorem XJ {bs:List Int}{p p1:Nat}{x:Int}(h:Qx bs p=.ok x p1):p1=p+1:=by
 unfold Qx at h
 split at h
 · cases h
 . cases h;rfl
theorem takeM_le {bs:List Int}{p p1:Nat}{x:Int}(h:Qx bs p=.ok x p1):p1<=bs.length:=by
 unfold Qx at h
 split at h
 · cases h
 . cases h;omega
theorem dec_up {f b:Int}{bs:List Int}{p a:Nat}{x:In}(h:JQ f b bs p=.ok x a):p<=a:=up_dec f b bs p x a h
theorem op0':QM (Qr 0)=0:=by decide +kernel
theorem form5:QM (Qr 5)=0:=by decide +kernel
end Go.Proofs.YtedcmcdbejjgcaaGreat.Ms
namespace Go.Proofs.YtedcmcdbejjgcaaGreat
open Go.RowKit Go.Sort
abbrev zE (e a:Int):List Value:=[.int .i64 e,.int .i64 a,.slice none 0 0,.slice none 0 0,.slice none 0 0,.slice none 0 0,.slice none 0 0,.slice none 0 0,.slice none 0 0,.bool false,.int .i64 0,.slice none 0 0,.slice none 0 0,.slice none 0 0,.slice none 0 0]
abbrev zR (ba:Option Addr)(bs:List Int)(cap:Nat):List Value:=[.slice ba bs.length cap,.int .i64 0,.int .i64 9223372036854775807,.slice none 0 0,.slice none 0 0,.slice none 0 0,.slice none 0 0,.slice none 0 0,.slice none 0 0,.slice none 0 0,.bool false,.int .i64 0,.slice none 0 0,.slice none 0 0,.slice none 0 0,.slice none 0 0,.int .i64 0,.int .i64 0,.nilFunc,.slice none 0 0]
def DeP (d:DRes)(w:World)(e:Ending)(w':World):Prop :=
 ∃ a0 n0 a1 n1 a2 n2 a3 n3 a4 n4 a5 n5 a6 n6 a9 n9 a10 n10 a11 n11 a12 n12 L,e=.returned (.agg #[.int .i64 d.err,.int .i64 d.at_,.slice a0 d.m.types.length n0,.slice a1 d.m.imps.length n1,.slice a2 d.m.funcs.length n2,.slice a3 d.m.tabs.length n3,.slice a4 d.m.mems.length n4,.slice a5 d.m.globs.length n5,.slice a6 d.m.exps.length n6,.bool d.m.hasS,.int .i64 d.m.start,.slice a9 d.m.elems.length n9,.slice a10 d.m.codes.length n10,.slice a11 d.m.datas.length n11,.slice a12 d.m.customs.length n12])/\MR d.m [.slice a0 d.m.types.length n0,.slice a1 d.m.imps.length n1,.slice a2 d.m.funcs.length n2,.slice a3 d.m.tabs.length n3,.slice a4 d.m.mems.length n4,.slice a5 d.m.globs.length n5,.slice a6 d.m.exps.length n6,.bool d.m.hasS,.int .i64 d.m.start,.slice a9 d.m.elems.length n9,.slice a10 d.m.codes.length n10,.slice a11 d.m.datas.length n11,.slice a12 d.m.customs.length n12] L/\Own w.heap.size w' L.flatten/\Below w.heap.size w w'
def L0:List (List Qc):=[[⟨92,2,0,.slice none 0 0,[]⟩],[⟨100,9,0,.slice none 0 0,[]⟩],[⟨2,1,0,.slice none 0 0,[]⟩],[⟨96,3,0,.slice none 0 0,[]⟩],[⟨96,3,0,.slice none 0 0,[]⟩],[⟨107,3,0,.slice none 0 0,[]⟩],[⟨111,3,0,.slice none 0 0,[]⟩],[⟨79,2,0,.slice none 0 0,[]⟩],[⟨83,2,0,.slice none 0 0,[]⟩],[⟨85,2,0,.slice none 0 0,[]⟩],[⟨72,3,0,.slice none 0 0,[]⟩]]
theorem mr_zero (t:List Value):MR Mod.z ([.slice none 0 0,.slice none 0 0,.slice none 0 0,.slice none 0 0,.slice none 0 0,.slice none 0 0,.slice none 0 0,.bool false,.int .i64 0,.slice none 0 0,.slice none 0 0,.slice none 0 0,.slice none 0 0]++t) L0 :=
 ⟨by simp,rfl,rfl,rfl,⟨_,_,_,rfl,rfl,LR.nil _⟩,⟨_,_,_,rfl,rfl,LR.nil _⟩,⟨_,_,_,rfl,rfl,LR.nil _⟩,⟨_,_,_,rfl,rfl,LR.nil _⟩,⟨_,_,_,rfl,rfl,LR.nil _⟩,⟨_,_,_,rfl,rfl,LR.nil _⟩,⟨_,_,_,rfl,rfl,LR.nil _⟩,⟨_,_,_,rfl,rfl,LR.nil _⟩,⟨_,_,_,rfl,rfl,LR.nil _⟩,⟨_,_,_,rfl,rfl,LR.nil _⟩,⟨_,_,_,rfl,rfl,LR.nil _⟩⟩
theorem l0_nil:∀ r ∈ L0.flatten,r.v.ownBlock=none:=by
 intro r a
 simp [L0] at a
 rcases a with rfl|rfl|rfl|rfl|rfl|rfl|rfl|rfl|rfl|rfl|rfl<;>rfl
theorem l0_own (B:Nat)(w:World):Own B w L0.flatten:=by
 refine ⟨λr hr=>?_,?_⟩
 . simp [L0] at hr
   rcases hr with rfl|rfl|rfl|rfl|rfl|rfl|rfl|rfl|rfl|rfl|rfl<;>exact World.ownsRow_nil _ _ _ _
 . have h:=l0_nil
   have:blk L0.flatten=[]:=by
    rw [blk,List.filterMap_eq_nil_iff]
    exact h
   rw [this];exact List.nodup_nil
theorem DeP.bad {w w'}(er at_:Int)(h:Below w.heap.size w w'):DeP ⟨er,at_,Mod.z⟩ w (.returned (.agg (zE er at_).toArray)) w' :=
 ⟨none,0,none,0,none,0,none,0,none,0,none,0,none,0,none,0,none,0,none,0,none,0,L0,rfl,mr_zero [],l0_own _ _,h⟩
theorem Qj {V:World}{g:Nat}{cs:Array Value}{t:TypeId}(h:V.heap[g]?=some (.cells cs t (0,0)))(i:Nat)(u:Value)(a:cs[i]?=some u):V.cell? ⟨g,i,none⟩=some u:=by
 simp only [World.cell?,h];exact a
theorem GZ {P:Program}{b:Func}{d:Ending->World->Prop}{c:Exit}{a:Act}{w0:World}(R:World->Prop)(f:R w0)(h:∀ W,R W->bodyPost P b d c a W):bodyPost P b d c a w0:=h w0 f
theorem wpList_store_new {P:Program}{W:World}{ops:Array Oper}{rest:List Oper}{o:Oper}{a:Act}{Q:Exit->Act->World->Prop}(c:o.guard=none)(p v:Operand)(b:TypeId)(d:o.op=.store b p v)(g:o.dst=none)(cs T:Array Value)(hp:a.eval p=.pointer (some ⟨W.heap.size,0,none⟩))(hv:a.eval v=.agg T)(f:(P.info? b).map (·.size)=some T.size)(hl:cs.size=T.size)(h1:T.all (·.oneCell')=true)(h:wpList P ops Q rest a (W.alloc (.cells T b))):wpList P ops Q (o::rest) a (W.alloc (.cells cs b)):=by
 refine wpList_plain c λK hK=>?_
 unfold Oper.wp;have e:=run_storeAt_new (P:=P) W b cs T f hl h1
 simp [execOp,d,hp,hv,e,Oper.upon,Result.andThen,g]
 exact hK _ _ h
theorem Gg {B g:Nat}{w0 w}(a:Below B w0 w)(b:B<=g)(cs:Array Value):Below B w0 (w.setRow g cs) :=
 ⟨a.os,a.tape,a.output,by have:=a.size;simp [World.setRow];omega,λk hk=>(setRow_other w g k cs (by omega)).trans (a.block k hk)⟩
theorem sizeD:(Tryz.prog.info? 36).map (·.size)=some 15:=by kernel_rfl
theorem sizeR:(Tryz.prog.info? 56).map (·.size)=some 20:=by kernel_rfl
theorem bD0 (v0:Option Addr)(n c:Nat)(w:World):(Instr.build 56 #[(0,.slice v0 n c),(2,.int .i64 9223372036854775807)]).run Tryz.prog w=.ok (.agg #[.slice v0 n c,.int .i64 0,.int .i64 9223372036854775807,.slice none 0 0,.slice none 0 0,.slice none 0 0,.slice none 0 0,.slice none 0 0,.slice none 0 0,.slice none 0 0,.bool false,.int .i64 0,.slice none 0 0,.slice none 0 0,.slice none 0 0,.slice none 0 0,.int .i64 0,.int .i64 0,.nilFunc,.slice none 0 0]) w:=run_build w _ _ _ (by kernel_rfl)
theorem bD1 (er:Int)(w:World):(Instr.build 36 #[(0,.int .i64 er)]).run Tryz.prog w=.ok (.agg (zE er 0).toArray) w:=run_build w _ _ _ (by kernel_rfl)
theorem bD2 (er a:Int)(w:World):(Instr.build 36 #[(0,.int .i64 er),(1,.int .i64 a)]).run Tryz.prog w=.ok (.agg (zE er a).toArray) w:=run_build w _ _ _ (by kernel_rfl)
theorem bD3 (v0 v1 v2 r q p o n d c a:Option Addr)(B I l1 H A k2 z G y F v E u D t C j m g l f k:Nat)(b:Bool)(s:Int)(w:World):(Instr.build 36 #[(2,.agg #[.slice v0 B I,.slice v1 l1 H,.slice v2 A k2,.slice r z G,.slice q y F,.slice p v E,.slice o u D,.bool b,.int .i64 s,.slice n t C,.slice d j m,.slice c g l,.slice a f k])]).run Tryz.prog w=.ok (.agg #[.int .i64 0,.int .i64 0,.slice v0 B I,.slice v1 l1 H,.slice v2 A k2,.slice r z G,.slice q y F,.slice p v E,.slice o u D,.bool b,.int .i64 s,.slice n t C,.slice d j m,.slice c g l,.slice a f k]) w:=run_build w _ _ _ (by kernel_rfl)
attribute [-go_sem] Instr.build
attribute [local go_sem] bD0 bD1 bD2 bD3
theorem nz_repG {α:Type}{rd:Nat->Rs α}(h:∀ p,(rd p).nz):∀ n acc p,(Q7 rd n acc p).nz
 |0,acc,p=>λer a e=>by cases e
 |n+1,acc,p=>Qk (h p) λv p1=>nz_repG h n _ p1
theorem Q3 {α:Type}(v:α)(p:Nat):(Rs.ok v p).nz:=λer a e=>by cases e
theorem JN {α:Type}{er:Int}(a:Int)(h:er≠0):(Rs.bad (α:=α) er a).nz:=λb c e=>by cases e;exact h
theorem QY {α:Type}{c:Prop}[Decidable c]{x y:Rs α}(b:x.nz)(a:y.nz):(if c then x else y).nz:=by split<;>assumption
theorem Xz {α:Type}{rd:Nat->Rs α}(h:∀ p,(rd p).nz)(bs:List Int)(p:Nat):(Jj rd bs p).nz:=Qk (Q9 _ _ _ _) λn p1=>nz_repG h _ _ p1
theorem Gn (f:Int->Bool)(bs:List Int)(p:Nat):(Qz f bs p).nz:=Qk (Xg _ _) λx p1=>QY (Q3 _ _) (JN _ (by decide))
theorem nz_markG (k:Int)(bs:List Int)(p:Nat):(Gs k bs p).nz:=Qk (Xg _ _) λx p1=>QY (Q3 _ _) (JN _ (by decide))
theorem nz_flag (bs:List Int)(p:Nat):(flagM bs p).nz:=Qk (Gn _ _ _) λx p1=>Q3 _ _
theorem nz_size (bs:List Int)(E:Int)(p:Nat):(Jl bs E p).nz:=Qk (Q9 _ _ _ _) λn p1=>QY (JN _ (by decide)) (Q3 _ _)
theorem nz_bytes (bs:List Int)(n p:Nat):(JF bs n p).nz:=QY (Q3 _ _) (JN _ (by decide))
theorem nz_nameG (bs:List Int):∀ n w p,(Jn bs n w p).nz
 |0,w,p=>QY (JN _ (by decide)) (Q3 _ _)
 |n+1,w,p=>Qk (Xg _ _) λv p1=>QY (nz_nameG bs n _ _) (QY (nz_nameG bs n _ _) (JN _ (by decide)))
theorem nz_name (bs:List Int)(E:Int)(p:Nat):(Xa bs E p).nz:=Qk (nz_size _ _ _) λn p1=>Qk (nz_nameG bs _ _ _) λ_ p2=>Q3 _ _
theorem nz_lim (bs:List Int)(p:Nat):(XR bs p).nz:=Qk (nz_flag _ _) λh p1=>Qk (Q9 _ _ _ _) λmn p2=>QY (Qk (Q9 _ _ _ _) λmx p3=>Q3 _ _) (Q3 _ _)
theorem nz_tab (bs:List Int)(p:Nat):(GC bs p).nz:=Qk (nz_markG _ _ _) λ_ p1=>nz_lim _ _
theorem nz_gty (bs:List Int)(p:Nat):(gtyM bs p).nz:=Qk (Gn _ _ _) λt p1=>Qk (nz_flag _ _) λm p2=>Q3 _ _
theorem nz_ft (bs:List Int)(p:Nat):(ftM bs p).nz:=Qk (nz_markG _ _ _) λ_ p1=>Qk (Xz (λp=>Gn _ _ _) _ _) λps p2=>Qk (Q9 _ _ _ _) λn p3=>QY (JN _ (by decide)) (Qk (nz_repG (λp=>Gn _ _ _) _ _ _) λrs p4=>Q3 _ _)
theorem nz_imp (bs:List Int)(E:Int)(p:Nat):(XK bs E p).nz:=Qk (nz_name _ _ _) λa p1=>Qk (nz_name _ _ _) λb p2=>Qk (Gn _ _ _) λk p3=>QY (Qk (Q9 _ _ _ _) λt p4=>Q3 _ _) (QY (Qk (nz_tab _ _) λl p4=>Q3 _ _) (QY (Qk (nz_lim _ _) λl p4=>Q3 _ _) (Qk (nz_gty _ _) λg p4=>Q3 _ _)))
theorem nz_opM (bs:List Int)(p:Nat):(opM bs p).nz:=Qk (Xg _ _) λx p1=>QY (JN _ (by decide)) (Q3 _ _)
theorem nz_listG (bs:List Int):∀ f n acc p,(Xl bs f n acc p).nz
 |0,n,acc,p=>JN _ (by decide)
 | f+1,n,acc,p=>QY (Q3 _ _) (Qk (nz_opM _ _) fun op p1=>by
     cases Jf n op with
     |none=>exact JN _ (by decide)
     | some n'=>exact Qk (nz_dec _ _ _ _) fun x p2=>nz_listG bs f n' _ p2)
theorem nz_list (bs:List Int)(p:Nat):(Jx bs p).nz:=nz_listG bs _ _ _ _
theorem nz_glob (bs:List Int)(p:Nat):(XH bs p).nz:=Qk (nz_gty _ _) λt p1=>Qk (nz_list _ _) λl p2=>Q3 _ _
theorem nz_exp (bs:List Int)(E:Int)(p:Nat):(expM bs E p).nz:=Qk (nz_name _ _ _) λa p1=>Qk (Gn _ _ _) λk p2=>Qk (Q9 _ _ _ _) λi p3=>Q3 _ _
theorem nz_seg (bs:List Int)(p:Nat):(segM bs p).nz:=Qk (nz_markG _ _ _) λ_ p1=>nz_list _ _
theorem nz_ele (bs:List Int)(p:Nat):(Xk bs p).nz:=Qk (nz_seg _ _) λl p1=>Qk (Xz (λp=>Q9 _ _ _ _) _ _) λfs p2=>Q3 _ _
theorem nz_grpG (bs:List Int):∀ k s acc p,(XY bs k s acc p).nz
 |0,s,acc,p=>Q3 _ _
 |k+1,s,acc,p=>Qk (Q9 _ _ _ _) λn p1=>QY (JN _ (by decide)) (Qk (Gn _ _ _) λt p2=>nz_grpG bs k _ _ p2)
theorem nz_grps (bs:List Int)(p:Nat):(X4 bs p).nz:=Qk (Q9 _ _ _ _) λn p1=>nz_grpG bs _ _ _ p1
theorem nz_within {α:Type}{rd:List Int->Int->Nat->Rs α}(h:∀ bs E p,(rd bs E p).nz)(bs:List Int)(E:Int)(p:Nat):(QU rd bs E p).nz:=Qk (nz_size _ _ _) λn p1=>by
 have b:=h (bs.take (p1+n.toNat)) (p1+n) p1
 cases hX:rd (bs.take (p1+n.toNat)) (p1+n) p1 with
 |bad e a=>exact QY (QY (JN _ (by decide)) (JN _ (by decide))) (JN _ (b e a hX))
 |ok v p2=>exact QY (QY (JN _ (by decide)) (JN _ (by decide))) (Q3 _ _)
theorem nz_bod (bs:List Int)(E:Int)(p:Nat):(bodM bs E p).nz:=Qk (nz_grps _ _) λg p1=>Qk (nz_list _ _) λl p2=>Q3 _ _
theorem nz_cod (bs:List Int)(E:Int)(p:Nat):(Xw bs E p).nz:=nz_within nz_bod bs E p
theorem nz_dat (bs:List Int)(E:Int)(p:Nat):(Xq bs E p).nz:=Qk (nz_seg _ _) λl p1=>Qk (nz_size _ _ _) λn p2=>Qk (nz_bytes _ _ _) λb p3=>Q3 _ _
theorem nz_sec (k d:Int)(m:Mod)(bs:List Int)(E:Int)(p:Nat):(Jk k d m bs E p).nz:=by
 unfold Jk
 exact QY (Qk (Qk (nz_name _ _ _) λa p1=>Qk (nz_bytes _ _ _) λb p2=>Q3 _ _) λc p1=>Q3 _ _)
  (QY (Qk (Xz (fun p=>nz_ft bs p) _ _) fun l p1=>Q3 _ _)
  (QY (Qk (Xz (fun p=>nz_imp bs E p) _ _) fun l p1=>Q3 _ _)
  (QY (Qk (Xz (fun p=>Q9 _ _ _ _) _ _) fun l p1=>Q3 _ _)
  (QY (Qk (Xz (fun p=>nz_tab bs p) _ _) fun l p1=>Q3 _ _)
  (QY (Qk (Xz (fun p=>nz_lim bs p) _ _) fun l p1=>Q3 _ _)
  (QY (Qk (Xz (fun p=>nz_glob bs p) _ _) fun l p1=>Q3 _ _)
  (QY (Qk (Xz (fun p=>nz_exp bs E p) _ _) fun l p1=>Q3 _ _)
  (QY (Qk (Q9 _ _ _ _) fun x p1=>Q3 _ _)
  (QY (Qk (Xz (fun p=>nz_ele bs p) _ _) fun l p1=>Q3 _ _)
  (QY (Qk (Q9 _ _ _ _) fun n p1=>QY (Qk (nz_repG (fun p=>nz_cod bs E p) _ _ _) fun l p2=>Q3 _ _) (JN _ (by decide)))
  (Qk (Xz (fun p=>nz_dat bs E p) _ _) fun l p1=>Q3 _ _)))))))))))
theorem nz_modG (bs:List Int):∀ f m last aft p,(Gq bs f m last aft p).nz
 |0,m,last,aft,p=>JN _ (by decide)
 |f+1,m,last,aft,p=>QY (Qk (Qk (Xg _ _) λx p1=>QY (JN _ (by decide)) (QY (JN _ (by decide)) (Q3 _ _))) λk p1=>Qk (nz_within (nz_sec k aft m) _ _ _) λm' p2=>nz_modG bs f m' _ _ p2) (QY (JN _ (by decide)) (Q3 _ _))
theorem nz_hd (bs:List Int):∀ n p,(hdG bs n p).nz
 |0,p=>Q3 _ _
 |n+1,p=>Qk (Xg _ _) λx p1=>QY (nz_hd bs n p1) (JN _ (by decide))
theorem nz_mod (bs:List Int):(JM bs).nz:=Qk (nz_hd bs 8 0) λ_ p=>nz_modG bs _ _ _ _ p
theorem idec_long (ba:Option Addr)(cap:Nat)(bs:List Int)(w:World)(A:65536<bs.length) :
    Calls Tryz.prog 9 #[.slice ba bs.length cap] w (DeP (XG bs) w):=by
 have y:(65536:Int)<(bs.length:Int):=by omega
 have B:Hid (XG bs=⟨1,0,Mod.z⟩):=by show _=_;unfold XG;rw [if_pos A]
 have j:=heap_new w (.cells (zE 0 0).toArray 36)
 go_enter Tryz.func9,Tryz.ntmps9
 go_wp2_with (refine wpList_store_rowTo rfl 36 (.tmp 2) (.tmp 8) rfl rfl w.heap.size (zE 1 0).toArray (by simp [Act.eval]) (by simp [Act.eval]) 36 (zE 0 0).toArray j sizeD rfl (by simp [Value.oneCell']) ?_)
 refine GZ (λV=>V.heap[w.heap.size]?=some (.cells (zE 1 0).toArray 36)/\Below w.heap.size w V) ⟨setRow_heap _ _ _ _ _ _ j,Gg (bF.alloc lR _) lR _⟩ ?_
 rintro V ⟨a,hB⟩;have u:=Qj a 0 _ rfl;have t:=Qj a 1 _ rfl;have s:=Qj a 2 _ rfl;have r:=Qj a 3 _ rfl;have q:=Qj a 4 _ rfl;have p:=Qj a 5 _ rfl;have n:=Qj a 6 _ rfl;have m:=Qj a 7 _ rfl;have l:=Qj a 8 _ rfl;have k:=Qj a 9 _ rfl;have g:=Qj a 10 _ rfl;have f:=Qj a 11 _ rfl;have d:=Qj a 12 _ rfl;have c:=Qj a 13 _ rfl;have b:=Qj a 14 _ rfl;have C:=Hm hB;clear a hB j
 exact bodyPost_ret (v:=.agg (zE 1 0).toArray) (by simp [results,Tryz.results9,go_sem,u,t,s,r,q,p,n,m,l,k,g,f,d,c,b]) rfl (by rw [B.o];exact DeP.bad 1 0 C.o)
theorem rd_new (ba:Option Addr)(cap:Nat)(bs)(w:World)(l:Qm bs)(hl:bs.length<=1099511627776)(b:bs.length<=cap)(f:By.Has w ba bs)(d:∀ a,ba=some a->a.block<w.heap.size)(k:bs.length<=65536) :
    Rd ((w.alloc (.cells (zE 0 0).toArray 36)).alloc (.cells (zR ba bs cap).toArray 56)) (w.heap.size+1) ba ⟨cap,bs,JH,[.slice none 0 0,.slice none 0 0,.slice none 0 0,.slice none 0 0,.slice none 0 0,.slice none 0 0,.slice none 0 0,.bool false,.int .i64 0,.slice none 0 0,.slice none 0 0,.slice none 0 0,.slice none 0 0,.int .i64 0,.int .i64 0]⟩ bs 0:=by
 have c:Below w.heap.size w ((w.alloc (.cells (zE 0 0).toArray 36)).alloc (.cells (zR ba bs cap).toArray 56)):=(bF.alloc lR _).alloc (by simp) _;have C:∀ i u,((zR ba bs cap):List Value)[i]?=some u->((w.alloc (.cells (zE 0 0).toArray 36)).alloc (.cells (zR ba bs cap).toArray 56)).cell? ⟨w.heap.size+1,i,none⟩=some u:=λi u hu=>Qw (by simp) (by simpa using hu)
 refine ⟨C 0 _ rfl,C 1 _ rfl,C 2 _ rfl,λi=>?_,f.keep c,λa ha=>by have:=d a ha;omega,Nat.zero_le _,b,C 18 _ rfl,C 19 _ rfl,f.keep c,?_,(show (0:Int)<=JH by decide),b,λi v hv=>?_,rfl,hl⟩
 . have:=World.frozen?_alloc_new (w.alloc (.cells (zE 0 0).toArray 36)) (zR ba bs cap).toArray 56 i
   simpa using this
 . show bs=bs.take JH.toNat
   rw [List.take_of_length_le (by show bs.length<=9223372036854775807;omega)]
 . refine C (3+i) v ?_
   have g:i<15:=(List.getElem?_eq_some_iff.1 hv).1
   have:((zR ba bs cap):List Value)[3+i]?=([.slice none 0 0,.slice none 0 0,.slice none 0 0,.slice none 0 0,.slice none 0 0,.slice none 0 0,.slice none 0 0,.bool false,.int .i64 0,.slice none 0 0,.slice none 0 0,.slice none 0 0,.slice none 0 0,.int .i64 0,.int .i64 0,.nilFunc,.slice none 0 0]:List Value)[i]?:=by
    rw [show 3+i=i+3 by omega];rfl
   rw [this];have j:=List.getElem?_append_left (l₁:=([.slice none 0 0,.slice none 0 0,.slice none 0 0,.slice none 0 0,.slice none 0 0,.slice none 0 0,.slice none 0 0,.bool false,.int .i64 0,.slice none 0 0,.slice none 0 0,.slice none 0 0,.slice none 0 0,.int .i64 0,.int .i64 0]:List Value)) (l₂:=[.nilFunc,.slice none 0 0]) (i:=i) (by simpa using g)
   exact j.trans hv
theorem idec_short (ba:Option Addr)(cap:Nat)(bs)(w:World)(hA:Qm bs)(hl:bs.length<=1099511627776)(C:bs.length<=cap)(hH:By.Has w ba bs)(aq:∀ a,ba=some a->a.block<w.heap.size)(hb:bs.length<=65536) :
    Calls Tryz.prog 9 #[.slice ba bs.length cap] w (DeP (XG bs) w):=by
 have dg:¬ (65536:Int)<(bs.length:Int):=by omega
 obtain ⟨W,Z⟩:∃ W,W=(w.alloc (.cells (zE 0 0).toArray 36)).alloc (.cells (zR ba bs cap).toArray 56):=⟨_,rfl⟩;have hR:=rd_new ba cap bs w hA hl C hH aq hb;rw [<- Z] at hR;have au:Below w.heap.size w W:=by rw [Z];exact (bF.alloc lR _).alloc (by simp) _
 have dd:W.heap.size=w.heap.size+2:=by rw [Z];simp
 have hZ:W.heap[w.heap.size]?=some (.cells (zE 0 0).toArray 36):=by
  rw [Z,QF _ _ _ (by simp)];exact heap_new w _
 have K:=Hm (catm_c (w.heap.size+1) ba ⟨cap,bs,JH,[.slice none 0 0,.slice none 0 0,.slice none 0 0,.slice none 0 0,.slice none 0 0,.slice none 0 0,.slice none 0 0,.bool false,.int .i64 0,.slice none 0 0,.slice none 0 0,.slice none 0 0,.slice none 0 0,.int .i64 0,.int .i64 0]⟩ bs L0 W hR (l0_own _ _) (mr_zero [.int .i64 0,.int .i64 0]) rfl rfl hA hl (by omega) rfl l0_nil);have HW:=Hm Z;have cf:=Hm au;have HZ:=Hm hZ;have I:=nz_mod bs;have X:Hid (∀ er a,JM bs=.bad er a->XG bs=⟨er,a,Mod.z⟩):=λer a h=>by unfold XG;rw [if_neg (by omega),h]
 have S:Hid (∀ m p,JM bs=.ok m p->XG bs=⟨0,0,m⟩):=λm p h=>by unfold XG;rw [if_neg (by omega),h]
 clear hR Z au hZ hH aq hA C
 go_enter Tryz.func9,Tryz.ntmps9
 go_upto_region 4 with (refine wpList_store_new rfl _ _ 56 rfl rfl _ (zR ba bs cap).toArray (by simp [Act.eval]) (by simp [Act.eval]) sizeR rfl (by simp [Value.oneCell']) ?_)
 go_wp2_with fail
 rw [<- HW.o]
 refine (K.o).mono ?_
 rintro e A ⟨n,hm⟩;have de:=n.size;have ar:A.heap[w.heap.size]?=some (.cells (zE 0 0).toArray 36):=(n.block w.heap.size (by omega) (by omega)).trans HZ.o;have bd:Hid (Below w.heap.size w A):=cf.o.trans ⟨n.os,n.tape,n.output,n.size,λk hk1=>n.block k (by omega) (by omega)⟩;have bc:=Hm ar;clear n ar K HZ HW
 rcases hM:JM bs with ⟨er,at_⟩|⟨m,p1⟩
 . rw [hM] at hm;have he:e=.returned (.agg #[.int .i64 er,.int .i64 at_,.nilIface]):=hm;subst he;have ao:=I er at_ hM;have ct:(er != 0)=true:=by simpa using ao
   have R:=Hm (X.o er at_ hM);clear hm hM I X S ao
   go_upto_region 5 with fail
   refine Ql (λU=>(U.cell? ⟨A.heap.size,0,none⟩=some (.int .i64 er)/\U.cell? ⟨A.heap.size,1,none⟩=some (.int .i64 at_))/\Below A.heap.size A U) ⟨⟨Qw rfl rfl,Qw rfl rfl⟩,bF.alloc lR _⟩ ?_
   rintro U ⟨⟨u0,u1⟩,B⟩;have l:U.heap[w.heap.size]?=some (.cells (zE 0 0).toArray 36):=(B.block w.heap.size (by omega)).trans bc.o;have Y:=Hm (bd.o.trans (B.mono (by omega)));clear B
   go_wp2_with (refine wpList_store_rowTo rfl 36 (.tmp 2) (.tmp 20) rfl rfl w.heap.size (zE er at_).toArray (by simp [Act.eval]) (by simp [Act.eval]) 36 (zE 0 0).toArray l sizeD rfl (by simp [Value.oneCell']) ?_)
   refine GZ (λV=>V.heap[w.heap.size]?=some (.cells (zE er at_).toArray 36)/\Below w.heap.size w V) ⟨setRow_heap _ _ _ _ _ _ l,Gg Y.o lR _⟩ ?_
   rintro V ⟨d,hB⟩;have t0:=Qj d 0 _ rfl;have t1:=Qj d 1 _ rfl;have t2:=Qj d 2 _ rfl;have t3:=Qj d 3 _ rfl;have t4:=Qj d 4 _ rfl;have t5:=Qj d 5 _ rfl;have t6:=Qj d 6 _ rfl;have t7:=Qj d 7 _ rfl;have t8:=Qj d 8 _ rfl;have t9:=Qj d 9 _ rfl;have H:=Qj d 10 _ rfl;have G:=Qj d 11 _ rfl;have F:=Qj d 12 _ rfl;have E:=Qj d 13 _ rfl;have D:=Qj d 14 _ rfl;have HB:=Hm hB;clear d hB l u0 u1
   exact bodyPost_ret (v:=.agg (zE er at_).toArray) (by simp [results,Tryz.results9,go_sem,t0,t1,t2,t3,t4,t5,t6,t7,t8,t9,H,G,F,E,D]) rfl (by rw [R.o];exact DeP.bad er at_ HB.o)
 . rw [hM] at hm;obtain ⟨rest,L,rfl,f,b,hr⟩:=hm;have R:=Hm (S.o m p1 hM);have j:=Hm f;clear hM I X S
   go_upto_region 5 with fail
   refine Ql (λU=>(U.cell? ⟨A.heap.size,0,none⟩=some (.int .i64 0)/\U.cell? ⟨A.heap.size,1,none⟩=some (.int .i64 0))/\Below A.heap.size A U) ⟨⟨Qw rfl rfl,Qw rfl rfl⟩,bF.alloc lR _⟩ ?_
   rintro U ⟨⟨u0,u1⟩,B⟩;have l:U.heap[w.heap.size]?=some (.cells (zE 0 0).toArray 36):=(B.block w.heap.size (by omega)).trans bc.o;have Y:=Hm (bd.o.trans (B.mono (by omega)));have g:=hr.keep B;obtain ⟨v0,x0,y0,e0,_,p0⟩:=f.types.at_;obtain ⟨a0,n0,rfl⟩:∃ a c,v0=.slice a m.types.length c:=Qc.Ok.slice (b.perm p0).head;have d0:U.cell? ⟨w.heap.size+1,3,none⟩=some (.slice a0 m.types.length n0):=g.rst 0 _ e0;obtain ⟨v1,x1,y1,e1,_,p1⟩:=f.imps.at_;obtain ⟨a1,n1,rfl⟩:∃ a c,v1=.slice a m.imps.length c:=Qc.Ok.slice (b.perm p1).head;have d1:U.cell? ⟨w.heap.size+1,4,none⟩=some (.slice a1 m.imps.length n1):=g.rst 1 _ e1;obtain ⟨v2,x2,y2,e2,_,p2⟩:=f.funcs.at_;obtain ⟨a2,n2,rfl⟩:∃ a c,v2=.slice a m.funcs.length c:=Qc.Ok.slice (b.perm p2).head;have d2:U.cell? ⟨w.heap.size+1,5,none⟩=some (.slice a2 m.funcs.length n2):=g.rst 2 _ e2;obtain ⟨v3,x3,y3,e3,_,p3⟩:=f.tabs.at_;obtain ⟨a3,n3,rfl⟩:∃ a c,v3=.slice a m.tabs.length c:=Qc.Ok.slice (b.perm p3).head;have d3:U.cell? ⟨w.heap.size+1,6,none⟩=some (.slice a3 m.tabs.length n3):=g.rst 3 _ e3;obtain ⟨v4,x4,y4,e4,_,p4⟩:=f.mems.at_;obtain ⟨a4,n4,rfl⟩:∃ a c,v4=.slice a m.mems.length c:=Qc.Ok.slice (b.perm p4).head;have d4:U.cell? ⟨w.heap.size+1,7,none⟩=some (.slice a4 m.mems.length n4):=g.rst 4 _ e4;obtain ⟨v5,x5,y5,e5,_,p5⟩:=f.globs.at_;obtain ⟨a5,n5,rfl⟩:∃ a c,v5=.slice a m.globs.length c:=Qc.Ok.slice (b.perm p5).head;have d5:U.cell? ⟨w.heap.size+1,8,none⟩=some (.slice a5 m.globs.length n5):=g.rst 5 _ e5;obtain ⟨v6,x6,y6,e6,_,p6⟩:=f.exps.at_;obtain ⟨a6,n6,rfl⟩:∃ a c,v6=.slice a m.exps.length c:=Qc.Ok.slice (b.perm p6).head;have d6:U.cell? ⟨w.heap.size+1,9,none⟩=some (.slice a6 m.exps.length n6):=g.rst 6 _ e6;obtain ⟨v9,x9,y9,e9,_,p9⟩:=f.elems.at_
   obtain ⟨a9,n9,rfl⟩:∃ a c,v9=.slice a m.elems.length c:=Qc.Ok.slice (b.perm p9).head;have d9:U.cell? ⟨w.heap.size+1,12,none⟩=some (.slice a9 m.elems.length n9):=g.rst 9 _ e9;obtain ⟨bj,c7,c4,O,_,ac⟩:=f.codes.at_;obtain ⟨y,s,rfl⟩:∃ a c,bj=.slice a m.codes.length c:=Qc.Ok.slice (b.perm ac).head;have cc:U.cell? ⟨w.heap.size+1,13,none⟩=some (.slice y m.codes.length s):=g.rst 10 _ O;obtain ⟨bh,c6,c2,M,_,ab⟩:=f.datas.at_;obtain ⟨u,r,rfl⟩:∃ a c,bh=.slice a m.datas.length c:=Qc.Ok.slice (b.perm ab).head;have cb:U.cell? ⟨w.heap.size+1,14,none⟩=some (.slice u m.datas.length r):=g.rst 11 _ M;obtain ⟨bg,c5,cz,J,_,aa⟩:=f.customs.at_;obtain ⟨t,q,rfl⟩:∃ a c,bg=.slice a m.customs.length c:=Qc.Ok.slice (b.perm aa).head;have ca:U.cell? ⟨w.heap.size+1,15,none⟩=some (.slice t m.customs.length q):=g.rst 12 _ J;have d7:U.cell? ⟨w.heap.size+1,10,none⟩=some (.bool m.hasS):=g.rst 7 _ f.hs;have d8:U.cell? ⟨w.heap.size+1,11,none⟩=some (.int .i64 m.start):=g.rst 8 _ f.st;have cd:Hid (Own w.heap.size U L.flatten):=(b.mono (by omega)).keep B;have ce:Hid (w.heap.size ∉ blk L.flatten):=λn=>by have:=(b.lt n).1;omega
   have E0:=Hm e0;have E1:=Hm e1;have E2:=Hm e2;have E3:=Hm e3;have E4:=Hm e4;have E5:=Hm e5;have E6:=Hm e6;have E9:=Hm e9;have cj:=Hm O;have ci:=Hm M;have ch:=Hm J;clear B f b hr g e0 p0 e1 p1 e2 p2 e3 p3 e4 p4 e5 p5 e6 p6 e9 p9 O ac M ab J aa
   go_wp2_with (refine wpList_store_rowTo rfl 36 (.tmp 2) (.tmp 23) rfl rfl w.heap.size #[.int .i64 0,.int .i64 0,.slice a0 m.types.length n0,.slice a1 m.imps.length n1,.slice a2 m.funcs.length n2,.slice a3 m.tabs.length n3,.slice a4 m.mems.length n4,.slice a5 m.globs.length n5,.slice a6 m.exps.length n6,.bool m.hasS,.int .i64 m.start,.slice a9 m.elems.length n9,.slice y m.codes.length s,.slice u m.datas.length r,.slice t m.customs.length q] (by simp [Act.eval]) (by simp [Act.eval]) 36 (zE 0 0).toArray l sizeD rfl (by simp [Value.oneCell']) ?_)
   refine GZ (λV=>V.heap[w.heap.size]?=some (.cells #[.int .i64 0,.int .i64 0,.slice a0 m.types.length n0,.slice a1 m.imps.length n1,.slice a2 m.funcs.length n2,.slice a3 m.tabs.length n3,.slice a4 m.mems.length n4,.slice a5 m.globs.length n5,.slice a6 m.exps.length n6,.bool m.hasS,.int .i64 m.start,.slice a9 m.elems.length n9,.slice y m.codes.length s,.slice u m.datas.length r,.slice t m.customs.length q] 36)/\Below w.heap.size w V/\Own w.heap.size V L.flatten) ⟨setRow_heap _ _ _ _ _ _ l,Gg Y.o lR _,cd.o.blocks (λk n=>setRow_other _ _ _ _ (λe=>ce.o (e ▸ n)))⟩ ?_
   rintro V ⟨d,hB,hO⟩;have t0:=Qj d 0 _ rfl;have t1:=Qj d 1 _ rfl;have t2:=Qj d 2 _ rfl;have t3:=Qj d 3 _ rfl;have t4:=Qj d 4 _ rfl;have t5:=Qj d 5 _ rfl;have t6:=Qj d 6 _ rfl;have t7:=Qj d 7 _ rfl;have t8:=Qj d 8 _ rfl;have t9:=Qj d 9 _ rfl;have H:=Qj d 10 _ rfl;have G:=Qj d 11 _ rfl;have F:=Qj d 12 _ rfl;have E:=Qj d 13 _ rfl;have D:=Qj d 14 _ rfl;have HB:=Hm hB;have HO:=Hm hO;clear d hB l u0 u1 hO d0 d1 d2 d3 d4 d5 d6 d7 d8 d9 cc cb ca
   exact bodyPost_ret (v:=.agg #[.int .i64 0,.int .i64 0,.slice a0 m.types.length n0,.slice a1 m.imps.length n1,.slice a2 m.funcs.length n2,.slice a3 m.tabs.length n3,.slice a4 m.mems.length n4,.slice a5 m.globs.length n5,.slice a6 m.exps.length n6,.bool m.hasS,.int .i64 m.start,.slice a9 m.elems.length n9,.slice y m.codes.length s,.slice u m.datas.length r,.slice t m.customs.length q]) (by simp [results,Tryz.results9,go_sem,t0,t1,t2,t3,t4,t5,t6,t7,t8,t9,H,G,F,E,D]) rfl (by
    rw [R.o]
    exact ⟨a0,n0,a1,n1,a2,n2,a3,n3,a4,n4,a5,n5,a6,n6,a9,n9,y,s,u,r,t,q,L,rfl,⟨by simp,j.o.ll,rfl,rfl,by have h:=j.o.types;rw [E0.o] at h;exact h,by have h:=j.o.imps;rw [E1.o] at h;exact h,by have h:=j.o.funcs;rw [E2.o] at h;exact h,by have h:=j.o.tabs;rw [E3.o] at h;exact h,by have h:=j.o.mems;rw [E4.o] at h;exact h,by have h:=j.o.globs;rw [E5.o] at h;exact h,by have h:=j.o.exps;rw [E6.o] at h;exact h,by have h:=j.o.elems;rw [E9.o] at h;exact h,by have h:=j.o.codes;rw [cj.o] at h;exact h,by have h:=j.o.datas;rw [ci.o] at h;exact h,by have h:=j.o.customs;rw [ch.o] at h;exact h⟩,HO.o,HB.o⟩)
theorem idecode_c (ba:Option Addr)(cap:Nat)(bs)(w:World)(g:Qm bs)(hl:bs.length<=1099511627776)(b:bs.length<=cap)(f:By.Has w ba bs)(c:∀ a,ba=some a->a.block<w.heap.size):Calls Tryz.prog 9 #[.slice ba bs.length cap] w (DeP (XG bs) w):=by
 by_cases d:65536<bs.length
 . exact idec_long ba cap bs w d
 . exact idec_short ba cap bs w g hl b f c (by omega)
end Go.Proofs.YtedcmcdbejjgcaaGreat
namespace Go.Proofs.YtedcmcdbejjgcaaGreat.Ms
open Go.RowKit Go.Sort
def Lk {α:Type}(M:Rs α)(p:Nat)(er at_:Int):Prop :=
 match M with
 |.ok _ q=>p=q/\er=0/\at_=0
 |.bad e a=>e≠0/\er=e/\at_=a
theorem Lk.ok {α:Type}(v:α)(p:Nat):Lk (.ok v p) p 0 0:=⟨rfl,rfl,rfl⟩
theorem Lk.zero {α:Type}{M:Rs α}{p at_}(h:Lk M p 0 at_):∃ v,M=.ok v p/\at_=0:=by
 cases M with
 |bad e a=>exact absurd h.2.1.symm h.1
 |ok v q=>obtain ⟨rfl,_,b⟩:=h;exact ⟨v,rfl,b⟩
theorem Lk.ne {α:Type}{M:Rs α}{p er at_}(h:Lk M p er at_)(b:er≠0):M=.bad er at_:=by
 cases M with
 |bad e a=>obtain ⟨_,rfl,rfl⟩:=h;rfl
 |ok v q=>exact absurd h.2.1 b
theorem Lk.of_bad {α:Type}{p:Nat}{er at_:Int}(a:er≠0):Lk (α:=α) (.bad er at_) p er at_:=⟨a,rfl,rfl⟩
theorem Lk.tu {α β:Type}{M:Rs α}{b:Rs β}{p er at_}(h:Lk M p er at_)(f:∀ e a,M=.bad e a->b=.bad e a)(d:∀ v q,M=.ok v q->∃ c,b=.ok c q):Lk b p er at_:=by
 cases M with
 |bad e a=>rw [f e a rfl];exact h
 |ok v q=>obtain ⟨c,e⟩:=d v q rfl;rw [e];exact h
def CmP {α:Type}(M:Rs α)(kv:α->Value)(bv:Value->Prop)(B:Nat)(w0:World)(s:Nat)(ba:Option Addr)(bc:Bd)(bs:List Int)(K:Nat)(bx:List (Nat × List Value))(rs:List Qc)(e:Ending)(w':World):Prop :=
 ∃ u p' er' a',e=.returned u/\bv u/\Lk M p' er' a'/\(∀ x q,M=.ok x q->u=kv x)/\Sd B w0 s ba bc bs p' er' a' K bx rs w'
theorem cmb {β:Type}{α:Type}{M:Rs α}{B w0 s ba bc bs p er at_ K bx rs w}{K':Nat}{rd:Nat->Rs β}{b:β->Value}{g:Value->Prop}{P:Program}{F:FuncId}{args:Array Value}(h:Sd B w0 s ba bc bs p er at_ K bx rs w)(n:Lk M p er at_)
    (z:Sd B w0 s ba bc bs p 0 0 K bx rs w->Calls P F args w (SdP (rd p) b g B w0 s ba bc bs K' bx rs)) (t:er≠0->Calls P F args w λe j=>∃ u,e=.returned u/\g u/\Sd B w0 s ba bc bs p er at_ K bx rs j) (o:(rd p).nz) (r:∀ x,g (b x)) :
    Calls P F args w (CmP (M.bind λ_ p=>rd p) b g B w0 s ba bc bs K' bx rs):=by
 by_cases d:er=0
 . subst d;obtain ⟨v,rfl,rfl⟩:=n.zero
   refine (z h).mono ?_
   rintro e j c
   show CmP (rd p) b g B w0 s ba bc bs K' bx rs e j
   cases f:rd p with
   |bad er a =>
    rw [f] at c;obtain ⟨u,k,m,e2,l⟩:=c
    exact ⟨u,k,er,a,m,e2,⟨o er a f,rfl,rfl⟩,λx q e=>(by cases e),l⟩
   |ok x k =>
    rw [f] at c
    exact ⟨b x,k,0,0,c.1,r x,⟨rfl,rfl,rfl⟩,λy q e=>(by cases e;rfl),c.2⟩
 . have f:=n.ne d;subst f
   refine (t d).mono ?_
   rintro e j ⟨u,m,e2,l⟩
   exact ⟨u,p,er,at_,m,e2,⟨d,rfl,rfl⟩,λx q e=>(by cases e),l.err d K'⟩
def isW (u:Value):Prop:=∃ v:Int,u=.int .u8 v
theorem isO_I {a b:Int}{u:Value}(h:isO a b u):isI u:=by obtain ⟨v,e,_⟩:=h;exact ⟨v,e⟩
theorem SdP.imp {α:Type}{M:Rs α}{f:α->Value}{g b:Value->Prop}{B:Nat}{w0:World}{s:Nat}{ba:Option Addr}{bc:Bd}{bs:List Int}{K:Nat}{bx:List (Nat × List Value)}{rs:List Qc}{e:Ending}{c:World}(h:SdP M f g B w0 s ba bc bs K bx rs e c)(k:∀ u,g u->b u):SdP M f b B w0 s ba bc bs K bx rs e c:=by
 cases M with
 |bad er a=>obtain ⟨u,d,l,e2,j⟩:=h;exact ⟨u,d,l,k u e2,j⟩
 |ok x d=>exact h
theorem same_E {B w0 s ba bc bs p er at_ K bx rs w}{b:Value->Prop}{u:Value}{P:Program}{F:FuncId}{args:Array Value}(h:Sd B w0 s ba bc bs p er at_ K bx rs w)(c:b u)(d:Calls P F args w λe a=>e=.returned u/\w=a):Calls P F args w λe a=>∃ u,e=.returned u/\b u/\Sd B w0 s ba bc bs p er at_ K bx rs a:=by
 refine d.mono ?_
 rintro e a ⟨f,rfl⟩
 exact ⟨u,f,c,h⟩
theorem u32C {α:Type}{M:Rs α}{B w0 s ba bc bs p er at_ K bx rs w}(h:Sd B w0 s ba bc bs p er at_ K bx rs w)(a:Lk M p er at_)(b:Qm bs)(hl:bs.length<=1099511627776):Calls Tryz.prog 145 #[.pointer (some ⟨s,0,none⟩)] w (CmP (M.bind λ_ p=>QK bs p) (λv=>.int .i64 v) isI B w0 s ba bc bs K bx rs) :=
 cmb h a (λh=>u32D h b hl) (λhn=>same_E h ⟨0,rfl⟩ (u32E h hn)) (Q9 _ _ _ _) (λx=>⟨x,rfl⟩)
theorem oneC (a b:Int)(h0:0<=a)(h1:b<=255){α:Type}{M:Rs α}{B w0 s ba bc bs p er at_ K bx rs w}(h:Sd B w0 s ba bc bs p er at_ K bx rs w)(c:Lk M p er at_)(d:Qm bs)(hl:bs.length<=1099511627776):Calls Tryz.prog 219 #[.pointer (some ⟨s,0,none⟩),.int .u8 a,.int .u8 b] w (CmP (M.bind λ_ p=>Qz (JP a b) bs p) (λv=>.int .i64 v) isI B w0 s ba bc bs K bx rs) :=
 cmb h c (λh=>(oneD a b h0 h1 h d hl).mono (λ_ _ hm=>hm.imp λ_=>isO_I)) (λhn=>same_E h ⟨0,rfl⟩ (oneE a b h hn)) (Gp _ _ _) (λx=>⟨x,rfl⟩)
theorem byteC {α:Type}{M:Rs α}{B w0 s ba bc bs p er at_ K bx rs w}(h:Sd B w0 s ba bc bs p er at_ K bx rs w)(a:Lk M p er at_)(hl:bs.length<=1099511627776):Calls Tryz.prog 73 #[.pointer (some ⟨s,0,none⟩)] w (CmP (M.bind λ_ p=>Qx bs p) (λv=>.int .u8 v) isW B w0 s ba bc bs K bx rs) :=
 cmb h a (λh=>(byteD h hl).mono (λ_ _ hm=>hm.imp λ_ e=>⟨0,e⟩)) (λhn=>same_E h ⟨0,rfl⟩ (byteE h hn)) (Xg _ _) (λx=>⟨x,rfl⟩)
theorem sizeC {α:Type}{M:Rs α}{B w0 s ba bc bs p er at_ K bx rs w}(h:Sd B w0 s ba bc bs p er at_ K bx rs w)(b:Lk M p er at_)(a:bc.en≠0)(c:Qm bs)(hl:bs.length<=1099511627776):Calls Tryz.prog 277 #[.pointer (some ⟨s,0,none⟩)] w (CmP (M.bind λ_ p=>Jl bs bc.E p) (λv=>.int .i64 v) isI B w0 s ba bc bs K bx rs) :=
 cmb h b (λh=>sizeDD h a c hl) (λhn=>same_E h ⟨0,rfl⟩ (sizeE h hn)) (nz_size _ _ _) (λx=>⟨x,rfl⟩)
theorem nameC {α:Type}{M:Rs α}{B w0 s ba bc bs p er at_ K bx rs w}(h:Sd B w0 s ba bc bs p er at_ K bx rs w)(d:Lk M p er at_)(a:bc.en≠0)(f:K<=1099511627776)(g:Qm bs)(hl:bs.length<=1099511627776):Calls Tryz.prog 218 #[.pointer (some ⟨s,0,none⟩)] w (CmP (M.bind λ_ p=>Xa bs bc.E p) (λv=>.string v) isStr B w0 s ba bc bs (K+1) bx rs) :=
 cmb h d (λh=>nameD h a f g hl) (λhn=>(nameE h hn).mono (λe w' hm=>by obtain ⟨⟨b,j⟩,c⟩:=hm;exact ⟨_,j,⟨b,rfl⟩,c⟩)) (nz_name _ _ _) (λx=>⟨x,rfl⟩)
theorem limC {α:Type}{M:Rs α}{B w0 s ba bc bs p er at_ K bx rs w}(h:Sd B w0 s ba bc bs p er at_ K bx rs w)(a:Lk M p er at_)(b:Qm bs)(hl:bs.length<=1099511627776):Calls Tryz.prog 222 #[.pointer (some ⟨s,0,none⟩)] w (CmP (M.bind λ_ p=>XR bs p) (λl=>.agg #[.int .i64 l.min,.int .i64 l.max,.bool l.has]) isLm B w0 s ba bc bs K bx rs) :=
 cmb h a (λh=>limD h b hl) (λhn=>(limE h hn).mono (λe w' hm=>⟨_,hm.1,⟨0,0,false,rfl⟩,hm.2⟩)) (nz_lim _ _) (λx=>⟨_,_,_,rfl⟩)
theorem gtyC {α:Type}{M:Rs α}{B w0 s ba bc bs p er at_ K bx rs w}(h:Sd B w0 s ba bc bs p er at_ K bx rs w)(a:Lk M p er at_)(b:Qm bs)(hl:bs.length<=1099511627776):Calls Tryz.prog 223 #[.pointer (some ⟨s,0,none⟩)] w (CmP (M.bind λ_ p=>gtyM bs p) (λg=>.agg #[.int .i64 g.ty,.bool g.mu]) isGt B w0 s ba bc bs K bx rs) :=
 cmb h a (λh=>gtyD h b hl) (λhn=>(gtyE h hn).mono (λe w' hm=>⟨_,hm.1,⟨0,false,rfl⟩,hm.2⟩)) (nz_gty _ _) (λx=>⟨_,_,rfl⟩)
theorem nz_typ (a:Int)(bs:List Int)(p:Nat):(typM a bs p).nz:=Qk (Q9 _ _ _ _) λn p1=>nz_if (nz_bad _ _ (by decide)) (nz_repG (λp=>Gp _ _ _) _ _ _)
theorem typC (b:Int)(r:0<=b){α:Type}{M:Rs α}{B w0 s ba bc bs p er at_ K bx rs w}(h:Sd B w0 s ba bc bs p er at_ K bx rs w)(t:Lk M p er at_)(u:Qm bs)(hl:bs.length<=1099511627776):Calls Tryz.prog 220 #[.pointer (some ⟨s,0,none⟩),.int .i64 b] w λe o=>∃ f d l c er' a',e=.returned (.slice f l.length d)/\Lk (M.bind λ_ p=>typM b bs p) c er' a'/\(∀ x q,(M.bind λ_ p=>typM b bs p)=.ok x q->l=x)/\Sd B w0 s ba bc bs c er' a' K bx (nR (.slice f l.length d) l::rs) o:=by
 by_cases n:er=0
 . subst n;obtain ⟨v,rfl,rfl⟩:=t.zero
   refine (typD b r h u hl).mono ?_
   rintro e o m
   simp only [Rs.bind]
   cases j:typM b bs p with
   |bad er a =>
    rw [j] at m;obtain ⟨f,d,l,c,k,g⟩:=m
    exact ⟨f,d,l,c,er,a,k,⟨nz_typ _ _ _ er a j,rfl,rfl⟩,λx q e=>(by cases e),g⟩
   |ok x c =>
    rw [j] at m;obtain ⟨f,d,k,g⟩:=m
    exact ⟨f,d,x,c,0,0,k,⟨rfl,rfl,rfl⟩,λy q e=>(by cases e;rfl),g⟩
 . have j:=t.ne n;subst j
   refine (typE b h n).mono ?_
   rintro e o ⟨f,d,l,c,k,g⟩
   exact ⟨f,d,l,c,er,at_,k,⟨n,rfl,rfl⟩,λx q e=>(by cases e),g⟩
theorem tellC (a ix pos b:Int){B w0 s ba bc bs p er at_ K bx rs w}(h:Sd B w0 s ba bc bs p er at_ K bx rs w)(c:er=0->at_=0)(g:K<=1099511627776):Calls Tryz.prog 147 #[.pointer (some ⟨s,0,none⟩),.int .i64 a,.int .i64 ix,.int .i64 pos,.int .i64 b] w λe f=>e=.returned (.tuple #[])/\Sd B w0 s ba bc bs p er at_ (K+1) bx rs f:=by
 by_cases d:er=0
 . subst d
   have:=c rfl
   subst this
   exact Xx a ix pos b h g
 . refine (Xm a ix pos b h d).mono ?_
   rintro e f ⟨j,rfl⟩
   exact ⟨j,h.err d _⟩
theorem Lk.at0 {α:Type}{M:Rs α}{p er at_}(h:Lk M p er at_):er=0->at_=0:=λe=>by subst e;obtain ⟨_,_,e⟩:=h.zero;exact e
def FaD (er at_:Int)(B:Nat)(w0:World)(s:Nat)(ba:Option Addr)(bc:Bd)(bx:List (Nat × List Value))(w':World):Prop :=
 ∃ bc' bs' p' er' at' rs',er'≠0/\bc'.fe er'=bc.fe er/\bc'.fa er' at'=bc.fa er at_/\Sd B w0 s ba bc' bs' p' er' at' 0 bx rs' w'
theorem FaD.of {B w0 s ba bc bs p er at_ K bx rs w}(h:Sd B w0 s ba bc bs p er at_ K bx rs w)(a:er≠0):FaD er at_ B w0 s ba bc bx w:=⟨bc,bs,p,er,at_,rs,a,rfl,rfl,h.err a 0⟩
theorem FaD.rest {er at_ B w0 s ba}{bc:Bd}{r:List Value}{bx w}(h:FaD er at_ B w0 s ba { bc with rest:=r } bx w):FaD er at_ B w0 s ba bc bx w:=h
theorem FaD.box {er at_ B w0 s ba bc}{x:Nat × List Value}{bx:List (Nat × List Value)}{w}(h:FaD er at_ B w0 s ba bc (x::bx) w):FaD er at_ B w0 s ba bc bx w:=by
 obtain ⟨d,c,g,b,f,a,m,l,k,j⟩:=h
 exact ⟨d,c,g,b,f,a,m,l,k,j.unbox⟩
theorem Xr {B w0 s ba bc bs p er at_ K bx}{rs:List Qc}{w}{T sz n ix:Nat}{v0 a:Value}{cs X:List Value}{V1 c:World}(h:Sd B w0 s ba bc bs p er at_ K bx (⟨T,sz,n,v0,cs⟩::rs) w)(k:bc.rest[ix]?=some v0)(f:ix<13)(g:Below w.heap.size w V1)(j:V1.grownBy c v0.ownBlock)(own:c.ownsRow B T sz a (n+1) (cs++X))(d:a.ownBlock=v0.ownBlock\/a.ownBlock=some V1.heap.size) :
    Sd B w0 s ba bc bs p er at_ K bx (⟨T,sz,n+1,a,cs++X⟩::rs) c/\Sd B w0 s ba { bc with rest:=bc.rest.set ix a } bs p er at_ K bx (⟨T,sz,n+1,a,cs++X⟩::rs) (c.setCell ⟨s,5+ix,none⟩ a):=by
 have b:=h.push (r':=⟨T,sz,n+1,a,cs++X⟩) g j own d
 exact ⟨b,b.setM ix f a⟩
theorem perm6 {α:Type}(a b c d:α)(f rs:List α):(a::b::c::d::(f++rs)).Perm (d::a::b::((f++[c])++rs)):=by
 have j:(c::(f++rs)).Perm ((f++[c])++rs):=by
  rw [List.append_assoc]
  exact (List.perm_middle (a:=c) (l₁:=f) (l₂:=rs)).symm
 have g:(a::b::c::d::(f++rs)).Perm (d::a::b::c::(f++rs)):=(List.perm_append_comm (l₁:=[a,b,c]) (l₂:=[d])).append_right (f++rs)
 exact g.trans (((j.cons _).cons _).cons _)
theorem app_sub {B w0 s ba bc bs p er at_ K bx}{rs:List Qc}{w}{T sz n g m jj k j N:Nat}{v a u:Value}{l X cs:List Value}{V1 b:World}(h:Sd B w0 s ba bc bs p er at_ K bx (⟨k,j,N,v,l⟩::⟨T,sz,n,.slice (some ⟨g,0,none⟩) n m,cs⟩::rs) w)(t:Below w.heap.size w V1)(y:V1.grownBy b v.ownBlock)(own:b.ownsRow B k j a (N+1) (l++X))(q:a.ownBlock=v.ownBlock\/a.ownBlock=some V1.heap.size)(r:jj<n*sz)(o:cs[jj]?=some u) :
    Sd B w0 s ba bc bs p er at_ K bx (⟨k,j,N+1,a,l++X⟩::⟨T,sz,n,.slice (some ⟨g,0,none⟩) n m,cs⟩::rs) b/\b.cell? ⟨g,jj,none⟩=some u/\b.frozen? ⟨g,jj,none⟩=false/\Sd B w0 s ba bc bs p er at_ K bx (⟨k,j,N+1,a,l++X⟩::⟨T,sz,n,.slice (some ⟨g,0,none⟩) n m,cs.set jj a⟩::rs) (b.setCell ⟨g,jj,none⟩ a):=by
 have c:=h.push (r':=⟨k,j,N+1,a,l++X⟩) t y own q;have d:=c.perm (List.Perm.swap _ _ _);have f:b.ownsRow B T sz (.slice (some ⟨g,0,none⟩) n m) n cs:=d.row (mS)
 exact ⟨c,(World.ownsRow.cellAt f jj r).trans o,World.ownsRow.frozenAt f jj,(d.setR jj a).perm (List.Perm.swap _ _ _)⟩
def EnD {α:Type}(D:Nat)(M:Rs α)(Rep:α->List Value->List Qc->Prop)(l:List α)(ix T sz:Nat)(B:Nat)(w0:World)(s:Nat)(ba:Option Addr)(bc:Bd)(bs:List Int)(bx:List (Nat × List Value))(os:List Qc)(e:Ending)(w':World):Prop :=
 e=.returned (.tuple #[])/\match M with
 |.bad er a=>FaD er a B w0 s ba bc bx w'
 |.ok x p'=>∃ ea ec v c k,LR Rep (l++[x]) c k/\Sd B w0 s ba { bc with ea:=ea,ec:=ec,rest:=bc.rest.set ix v } bs p' 0 0 (4*p'-D) bx (⟨T,sz,(l++[x]).length,v,c⟩::(os++k)) w'
def MS (m:Mod)(B:Nat)(w0:World)(s:Nat)(ba:Option Addr)(bc:Bd)(bs:List Int)(p:Nat)(bx:List (Nat × List Value))(W:World):Prop :=
 ∃ ea ec rest L,MR m rest L/\MB m p/\Sd B w0 s ba { bc with ea:=ea,ec:=ec,rest:=rest } bs p 0 0 (4*p) bx L.flatten W
def EnM (M:Rs Mod)(B:Nat)(w0:World)(s:Nat)(ba:Option Addr)(bc:Bd)(bs:List Int)(bx:List (Nat × List Value))(e:Ending)(w':World):Prop :=
 e=.returned (.tuple #[])/\match M with
 |.bad er a=>FaD er a B w0 s ba bc bx w'
 |.ok m p'=>MS m B w0 s ba bc bs p' bx w'
end Go.Proofs.YtedcmcdbejjgcaaGreat.Ms
