import Derived.Test.YtedcmcdbejjgcaaGreatGaa
import Derived.Test.YtedcmcdbejjgcaaGreatGax
import Derived.Test.YtedcmcdbejjgcaaGreatGay
set_option linter.all false
set_option maxHeartbeats 400000000
set_option maxRecDepth 100000
namespace Go.Proofs.YtedcmcdbejjgcaaGreat.Ms
open Go.RowKit Go.Sort
def QS (bc:Bd):Qc:=⟨2,1,bc.en,.slice bc.ea bc.en bc.ec,I bc.ends⟩
def Jc (v:Value)(n:Nat)(cs:List Value):Qc:=⟨246,6,n,v,cs⟩
structure Sd (B:Nat)(w0:World)(s:Nat)(ba:Option Addr)(bc:Bd)(bs:List Int)(p:Nat)(er at_:Int)(K:Nat)(bx:List (Nat × List Value))(rs:List Qc)(V:World):Prop where
 ex:∃ v n cs,Sr V s ba { bc with ev:=v } bs p er at_/\Own B V (Jc v n cs::QS bc::rs)/\(er=0->n<=K)/\s ∉ blk (Jc v n cs::QS bc::rs)/\∀ x ∈ bx,x.1 ∉ blk (Jc v n cs::QS bc::rs)
 b:Below B w0 V
 by_:∀ a,ba=some a->a.block<B
 qB:B<=s
 bk:∀ x ∈ bx,Bk V x.1 x.2/\B<=x.1/\x.1≠s
 nd:(bx.map (·.1)).Nodup
section
variable {B:Nat} {w0:World} {s:Nat} {ba:Option Addr} {bc:Bd} {bs:List Int} {p p':Nat} {er at_ er' at':Int} {K K':Nat} {bx:List (Nat × List Value)} {rs rs':List Qc} {V V':World}
theorem Sd.lt (h:Sd B w0 s ba bc bs p er at_ K bx rs V):s<V.heap.size:=by obtain ⟨v,n,b,a,_⟩:=h.ex;exact a.lt
theorem Sd.le (h:Sd B w0 s ba bc bs p er at_ K bx rs V):p<=bs.length:=by obtain ⟨v,n,b,a,_⟩:=h.ex;exact a.le
theorem Sd.c0 (h:Sd B w0 s ba bc bs p er at_ K bx rs V):V.cell? ⟨s,0,none⟩=some (.slice ba bc.fs.length bc.cap):=by obtain ⟨v,n,b,a,_⟩:=h.ex;exact a.c0
theorem Sd.c1 (h:Sd B w0 s ba bc bs p er at_ K bx rs V):V.cell? ⟨s,1,none⟩=some (.int .i64 p):=by obtain ⟨v,n,b,a,_⟩:=h.ex;exact a.c1
theorem Sd.c3 (h:Sd B w0 s ba bc bs p 0 at_ K bx rs V):V.cell? ⟨s,3,none⟩=some (.int .i64 0):=by obtain ⟨v,n,b,a,_⟩:=h.ex;exact a.c3
theorem Sd.c3n (h:Sd B w0 s ba bc bs p er at_ K bx rs V)(b:er≠0):∃ z:Int,(z==0)=false/\(z != 0)=true/\V.cell? ⟨s,3,none⟩=some (.int .i64 z):=by obtain ⟨v,n,c,a,_⟩:=h.ex;exact a.c3n b
theorem Sd.cm (h:Sd B w0 s ba bc bs p er at_ K bx rs V){i:Nat}{u:Value}(a:bc.rest[i]?=some u):V.cell? ⟨s,5+i,none⟩=some u:=by obtain ⟨v,n,c,b,_⟩:=h.ex;exact b.rst i u a
theorem Sd.c19 (h:Sd B w0 s ba bc bs p er at_ K bx rs V):V.cell? ⟨s,19,none⟩=some (.int .i64 bc.sec):=by obtain ⟨v,n,b,a,_⟩:=h.ex;exact a.c19
theorem Sd.c20 (h:Sd B w0 s ba bc bs p er at_ K bx rs V):V.cell? ⟨s,20,none⟩=some (.int .i64 bc.last):=by obtain ⟨v,n,b,a,_⟩:=h.ex;exact a.c20
theorem Sd.c21 (h:Sd B w0 s ba bc bs p er at_ K bx rs V):V.cell? ⟨s,21,none⟩=some (.int .i64 bc.full):=by obtain ⟨v,n,b,a,_⟩:=h.ex;exact a.c21
theorem Sd.fz (h:Sd B w0 s ba bc bs p er at_ K bx rs V)(i:Nat):V.frozen? ⟨s,i,none⟩=false:=by obtain ⟨v,n,b,a,_⟩:=h.ex;exact a.fz i
theorem Sd.hB (h:Sd B w0 s ba bc bs p er at_ K bx rs V):B<=V.heap.size:=Nat.le_trans h.qB (Nat.le_of_lt h.lt)
theorem Sd.more (h:Sd B w0 s ba bc bs p er at_ K bx rs V)(a:er=0->K<=K'):Sd B w0 s ba bc bs p er at_ K' bx rs V:=by
 obtain ⟨v,n,k,j,g,f,d,c⟩:=h.ex
 exact ⟨⟨v,n,k,j,g,λe=>Nat.le_trans (f e) (a e),d,c⟩,h.b,h.by_,h.qB,h.bk,h.nd⟩
theorem Sd.err (h:Sd B w0 s ba bc bs p er at_ K bx rs V)(a:er≠0)(K':Nat):Sd B w0 s ba bc bs p er at_ K' bx rs V:=h.more (λe=>absurd e a)
theorem Sd.step {v:Value}(h:Sd B w0 s ba bc bs p 0 0 K bx rs V)(hv:∀ v,V.cell? ⟨s,18,none⟩=some v->Sr V' s ba { bc with ev:=v } bs p' er' at')(hg:V.grownBy V' (some s)):Sd B w0 s ba bc bs p' er' at' K bx rs V':=by
 obtain ⟨v,n,j,g,f,d,a,c⟩:=h.ex
 exact ⟨⟨v,n,j,hv v g.ev,f.grown hg (λk e hk=>by cases e;exact a hk),λ_=>d rfl,a,c⟩,h.b.trans ⟨hg.os,hg.tape,hg.output,hg.size,λk hk=>hg.block k (by have:=h.hB;omega) (by have:=h.qB;simp;omega)⟩,h.by_,h.qB,λx hx=>⟨(h.bk x hx).1.grownR hg (by have:=(h.bk x hx).2.2;simpa using λe=>this e.symm),(h.bk x hx).2⟩,h.nd⟩
theorem Sd.keep (h:Sd B w0 s ba bc bs p er at_ K bx rs V)(a:Below V.heap.size V V'):Sd B w0 s ba bc bs p er at_ K bx rs V':=by
 obtain ⟨v,n,k,j,g,f,d,c⟩:=h.ex
 exact ⟨⟨v,n,k,j.keep a,g.keep a,f,d,c⟩,h.b.trans (a.mono h.hB),h.by_,h.qB,λx hx=>⟨(h.bk x hx).1.keep a,(h.bk x hx).2⟩,h.nd⟩
theorem Sd.perm (h:Sd B w0 s ba bc bs p er at_ K bx rs V)(hp:rs.Perm rs'):Sd B w0 s ba bc bs p er at_ K bx rs' V:=by
 obtain ⟨v,n,a,m,l,j,g,f⟩:=h.ex;have c:(Jc v n a::QS bc::rs).Perm (Jc v n a::QS bc::rs'):=(hp.cons _).cons _;have d:∀ k,k ∈ blk (Jc v n a::QS bc::rs')->k ∈ blk (Jc v n a::QS bc::rs):=λk hk=>(c.filterMap _).mem_iff.2 hk
 exact ⟨⟨v,n,a,m,l.perm c,j,λhk=>g (d _ hk),λx hx hk=>f x hx (d _ hk)⟩,h.b,h.by_,h.qB,h.bk,h.nd⟩
theorem Sd.drop {r:Qc}(h:Sd B w0 s ba bc bs p er at_ K bx (r::rs) V):Sd B w0 s ba bc bs p er at_ K bx rs V:=by
 obtain ⟨v,n,a,m,l,j,g,f⟩:=h.ex
 have c:(Jc v n a::QS bc::r::rs).Perm (r::Jc v n a::QS bc::rs):=by
  refine (List.Perm.cons _ (List.Perm.swap _ _ _)).trans (List.Perm.swap _ _ _)
 have d:∀ k,k ∈ blk (Jc v n a::QS bc::rs)->k ∈ blk (Jc v n a::QS bc::r::rs):=λk hk=>(c.filterMap _).mem_iff.2 (by simp only [blk,List.filterMap_cons] at hk⊢;split<;>simp_all)
 exact ⟨⟨v,n,a,m,(l.perm c).tail,j,λhk=>g (d _ hk),λx hx hk=>f x hx (d _ hk)⟩,h.b,h.by_,h.qB,h.bk,h.nd⟩
theorem Sd.row (h:Sd B w0 s ba bc bs p er at_ K bx rs V){r:Qc}(hr:r ∈ rs):r.Ok B V:=by
 obtain ⟨v,n,g,f,a,d,c,b⟩:=h.ex
 exact a.all r (by simp [hr])
theorem Sd.new {r:Qc}(h:Sd B w0 s ba bc bs p er at_ K bx rs V)(d:Below V.heap.size V V')(hr:r.Ok V.heap.size V'):Sd B w0 s ba bc bs p er at_ K bx (r::rs) V':=by
 have j:=h.keep d;obtain ⟨v,n,c,u,g,t,q,o⟩:=h.ex;have m:Own B V' (Jc v n c::QS bc::(rs++[r])):=Own.new g (g.keep d) (Own.one hr) h.hB;have l:(rs++[r]).Perm (r::rs):=by simpa using List.perm_append_comm (l₁:=rs) (l₂:=[r])
 refine Sd.perm ?_ l
 have f:∀ k,k<V.heap.size->k ∉ blk (Jc v n c::QS bc::rs)->k ∉ blk (Jc v n c::QS bc::(rs++[r])):=λk hk hn a=>by
  rw [show Jc v n c::QS bc::(rs++[r])=(Jc v n c::QS bc::rs)++[r] by simp,On,List.mem_append] at a
  rcases a with a|a
  . exact hn a
  . have:=((Own.one hr).lt a).1;omega
 exact ⟨⟨v,n,c,u.keep d,m,t,f _ h.lt q,λx hx'=>f _ (h.bk x hx').1.1 (o x hx')⟩,j.b,h.by_,h.qB,j.bk,h.nd⟩
theorem Sd.box {t:TypeId}{xs:List Value}(h:Sd B w0 s ba bc bs p er at_ K bx rs V):Sd B w0 s ba bc bs p er at_ K ((V.heap.size,xs)::bx) rs (V.alloc (.cells xs.toArray t)):=by
 have c:=h.keep ((Below.refl V.heap.size V).alloc lR (.cells xs.toArray t));obtain ⟨v,n,l,k,d,j,g,f⟩:=h.ex
 refine ⟨⟨v,n,l,k.keep ((Below.refl V.heap.size V).alloc lR _),d.keep ((Below.refl V.heap.size V).alloc lR _),j,g,λx a=>?_⟩,c.b,h.by_,h.qB,λx a=>?_,?_⟩
 . rcases List.mem_cons.1 a with rfl|a
   . exact λhm=>by have:=(d.lt hm).2;simp at this
   . exact f x a
 . rcases List.mem_cons.1 a with rfl|a
   . exact ⟨Bk.new,h.hB,by have:=h.lt;simp;omega⟩
   . exact c.bk x a
 . simp only [List.map_cons,List.nodup_cons]
   refine ⟨λhm=>?_,h.nd⟩
   obtain ⟨x,a,e⟩:=List.mem_map.1 hm
   have:=(h.bk x a).1.1;omega
theorem Sd.unbox {x:Nat × List Value}(h:Sd B w0 s ba bc bs p er at_ K (x::bx) rs V):Sd B w0 s ba bc bs p er at_ K bx rs V:=by
 obtain ⟨v,n,j,g,f,d,c,a⟩:=h.ex
 exact ⟨⟨v,n,j,g,f,d,c,λy hy=>a y (mC hy)⟩,h.b,h.by_,h.qB,λy hy=>h.bk y (mC hy),(List.nodup_cons.1 h.nd).2⟩
theorem Sd.setB {l1 t:List (Nat × List Value)}{g:Nat}{xs:List Value}(h:Sd B w0 s ba bc bs p er at_ K (l1++(g,xs)::t) rs V)(j:Nat)(u:Value):Sd B w0 s ba bc bs p er at_ K (l1++(g,xs.set j u)::t) rs (V.setCell ⟨g,j,none⟩ u):=by
 have D:(g,xs) ∈ l1++(g,xs)::t:=by simp
 obtain ⟨v,n,I,d,H,G,F,C⟩:=h.ex;have c:=Qp V g j u;have l:=h.bk _ D;have q:=C _ D;have z:∀ b o,bc.ea=some ⟨b,o,none⟩->b≠g:=λb o e he=>q (Qn.2 ⟨QS bc,by simp,by simp [QS,e,Value.ownBlock,he]⟩)
 refine ⟨⟨v,n,I,?_,H.grown c (λk e hk=>by cases e;exact q hk),G,F,λx f=>?_⟩,h.b.setCell l.2.1 _,h.by_,h.qB,λx f=>?_,by simpa using h.nd⟩
 . refine ⟨c.cell d.c0 (by simpa using λe=>l.2.2 e.symm),c.cell d.c1 (by simpa using λe=>l.2.2 e.symm),c.cell d.c2 (by simpa using λe=>l.2.2 e.symm),c.cell d.d3 (by simpa using λe=>l.2.2 e.symm),c.cell d.d4 (by simpa using λe=>l.2.2 e.symm),λi v hv=>c.cell (d.rst i v hv) (by simpa using λe=>l.2.2 e.symm),c.cell d.ev (by simpa using λe=>l.2.2 e.symm),c.cell d.c19 (by simpa using λe=>l.2.2 e.symm),c.cell d.c20 (by simpa using λe=>l.2.2 e.symm),c.cell d.c21 (by simpa using λe=>l.2.2 e.symm),λi=>by rw [World.frozen?_setCell];exact d.fz i,d.has.grown c (λa e=>by have:=h.by_ a e;have:=l.2.1;simp at this⊢;omega),d.ne,d.le,d.hasF.grown c (λa e=>by have:=h.by_ a e;have:=l.2.1;simp at this⊢;omega),d.win,d.e0,d.rl,d.fl,d.eo,λk hk=>?_,d.eb,λb o e=>by simpa using d.el b o e,d.enb⟩
   obtain ⟨b,o,e,A,E⟩:=d.em k hk
   exact ⟨b,o,e,A,c.cell E (by simpa using z b o e)⟩
 . rcases List.mem_append.1 f with f|f
   . exact C x (mL f)
   . rcases List.mem_cons.1 f with rfl|f
     . exact q
     . exact C x (mR (mC f))
 . have r:(l1.map (·.1)++g::t.map (·.1)).Nodup:=by simpa using h.nd
   rw [List.nodup_append] at r
   rcases List.mem_append.1 f with f|f
   . have m:=h.bk x (mL f)
     exact ⟨m.1.grownR c (by simpa using λe=>r.2.2 x.1 (List.mem_map_of_mem f) g (by simp) e.symm),m.2⟩
   . rcases List.mem_cons.1 f with rfl|f
     . exact ⟨l.1.set,l.2⟩
     . have m:=h.bk x (mR (mC f));have y:g≠x.1:=λe=>(List.nodup_cons.1 r.2.1).1 (by rw [e];exact List.mem_map_of_mem f)
       exact ⟨m.1.grownR c (by simpa using y),m.2⟩
theorem Sd.set0 {g:Nat}{xs:List Value}{l:List (Nat × List Value)}(h:Sd B w0 s ba bc bs p er at_ K ((g,xs)::l) rs V)(j:Nat)(u:Value):Sd B w0 s ba bc bs p er at_ K ((g,xs.set j u)::l) rs (V.setCell ⟨g,j,none⟩ u):=Sd.setB (l1:=[]) h j u
theorem Sd.set1 {a:Nat × List Value}{g:Nat}{xs:List Value}{l:List (Nat × List Value)}(h:Sd B w0 s ba bc bs p er at_ K (a::(g,xs)::l) rs V)(j:Nat)(u:Value):Sd B w0 s ba bc bs p er at_ K (a::(g,xs.set j u)::l) rs (V.setCell ⟨g,j,none⟩ u):=Sd.setB (l1:=[a]) h j u
theorem Sd.b0 {g:Nat}{xs:List Value}{l:List (Nat × List Value)}(h:Sd B w0 s ba bc bs p er at_ K ((g,xs)::l) rs V):Bk V g xs:=(h.bk (g,xs) (by simp)).1
theorem Sd.b1 {a:Nat × List Value}{g:Nat}{xs:List Value}{l:List (Nat × List Value)}(h:Sd B w0 s ba bc bs p er at_ K (a::(g,xs)::l) rs V):Bk V g xs:=(h.bk (g,xs) (by simp)).1
theorem Sd.push {r r':Qc}{V1 W:World}(h:Sd B w0 s ba bc bs p er at_ K bx (r::rs) V)(J:Below V.heap.size V V1)(q:V1.grownBy W r.v.ownBlock)(own:r'.Ok B W)(z:r'.v.ownBlock=r.v.ownBlock\/r'.v.ownBlock=some V1.heap.size):Sd B w0 s ba bc bs p er at_ K bx (r'::rs) W:=by
 have l:=h.keep J;have S:=J.size;obtain ⟨v,n,j,c,O,X,M,L⟩:=l.ex;have m:(Jc v n j::QS bc::r::rs).Perm (r::Jc v n j::QS bc::rs):=(List.Perm.cons _ (List.Perm.swap _ _ _)).trans (List.Perm.swap _ _ _);have f:(r'::Jc v n j::QS bc::rs).Perm (Jc v n j::QS bc::r'::rs):=(List.Perm.swap _ _ _).trans (List.Perm.cons _ (List.Perm.swap _ _ _));have I:=O.perm m;have g:∀ k,r.v.ownBlock=some k->k ∈ blk (Jc v n j::QS bc::r::rs):=λk d=>Qn.2 ⟨r,by simp,d⟩;have u:∀ k,r.v.ownBlock=some k->B<=k:=λk d=>(O.lt (g k d)).1;have U:=(I.push q own z).perm f
 have t:∀ k,k<V.heap.size->k ∉ blk (Jc v n j::QS bc::r::rs)->k ∉ blk (Jc v n j::QS bc::r'::rs):=λk d hn hm=>by
  obtain ⟨y,A,e⟩:=Qn.1 hm
  simp at A
  rcases A with rfl|rfl|rfl|A
  . exact hn (Qn.2 ⟨_,by simp,e⟩)
  . exact hn (Qn.2 ⟨_,by simp,e⟩)
  . rcases z with H|H
    . exact hn (g k (by rw [<- H];exact e))
    . rw [H] at e;injection e with e;omega
  . exact hn (Qn.2 ⟨_,by simp [A],e⟩)
 have E:∀ k,r.v.ownBlock=some k->∀ b o,bc.ea=some ⟨b,o,none⟩->b≠k:=λk d b o e he=>by
  have:k ∈ blk [QS bc]:=Qn.2 ⟨QS bc,by simp,by simp [QS,e,Value.ownBlock,he]⟩
  exact Own.disj (a:=[r]) (b:=Jc v n j::QS bc::rs) I (Qn.2 ⟨r,by simp,d⟩) (Qn.2 ⟨QS bc,by simp,by simp [QS,e,Value.ownBlock,he]⟩)
 have D:∀ k,r.v.ownBlock=some k->k≠s:=λk d e=>M (e ▸ g k d)
 refine ⟨⟨v,n,j,?_,U,X,t _ h.lt M,λx hx=>t _ (h.bk x hx).1.1 (L x hx)⟩,l.b.grown q l.hB u,h.by_,h.qB,λx hx=>⟨(l.bk x hx).1.grownR q (λe=>L x hx (g _ e)),(l.bk x hx).2⟩,h.nd⟩
 have d:W.heap[s]?=V1.heap[s]?:=q.block s l.lt (λe=>D s e.symm rfl);have C:∀ i v,V1.cell? ⟨s,i,none⟩=some v->W.cell? ⟨s,i,none⟩=some v:=λi v hv=>(World.cell?_of_block d).trans hv
 have R:∀ xs,By.Has V1 ba xs->By.Has W ba xs:=by
  rintro xs (h'|⟨b,o,e,F⟩)
  . exact .inl h'
  . exact .inr ⟨b,o,e,λi hi=>q.cell (F i hi) (λe'=>by have l:=h.by_ _ e;have:=u b e'.symm;simp at l;omega)⟩
 refine ⟨C _ _ c.c0,C _ _ c.c1,C _ _ c.c2,C _ _ c.d3,C _ _ c.d4,λi v hv=>C _ _ (c.rst i v hv),C _ _ c.ev,C _ _ c.c19,C _ _ c.c20,C _ _ c.c21,λi=>(World.frozen?_of_block d).trans (c.fz i),R _ c.has,c.ne,c.le,R _ c.hasF,c.win,c.e0,c.rl,c.fl,c.eo,λk d=>?_,c.eb,λb o e=>Nat.lt_of_lt_of_le (c.el b o e) q.size,c.enb⟩
 obtain ⟨b,o,e,G,F⟩:=c.em k d
 exact ⟨b,o,e,G,q.cell F (λe'=>E b e'.symm b o e rfl)⟩
theorem Sd.stepNew {r:Qc}(h:Sd B w0 s ba bc bs p 0 0 K bx rs V)(hv:∀ v,V.cell? ⟨s,18,none⟩=some v->Sr V' s ba { bc with ev:=v } bs p' er' at')(hg:V.grownBy V' (some s))(hr:r.Ok V.heap.size V'):Sd B w0 s ba bc bs p' er' at' K bx (r::rs) V':=by
 have j:=h.step (v:=undef) hv hg;obtain ⟨v,n,c,t,g,q,f,o⟩:=h.ex;have m:Own B V' (Jc v n c::QS bc::(rs++[r])):=Own.new g (g.grown hg (λk e hk=>by cases e;exact f hk)) (Own.one hr) h.hB;have l:(rs++[r]).Perm (r::rs):=by simpa using List.perm_append_comm (l₁:=rs) (l₂:=[r])
 refine Sd.perm ?_ l
 have d:∀ k,k<V.heap.size->k ∉ blk (Jc v n c::QS bc::rs)->k ∉ blk (Jc v n c::QS bc::(rs++[r])):=λk hk hn a=>by
  rw [show Jc v n c::QS bc::(rs++[r])=(Jc v n c::QS bc::rs)++[r] by simp,On,List.mem_append] at a
  rcases a with a|a
  . exact hn a
  . have:=((Own.one hr).lt a).1;omega
 exact ⟨⟨v,n,c,hv v t.ev,m,λ_=>q rfl,d _ h.lt f,λx hx'=>d _ (h.bk x hx').1.1 (o x hx')⟩,j.b,h.by_,h.qB,j.bk,h.nd⟩
theorem Sd.fin5 {a:Nat × List Value}{g:Nat}{xs:List Value}{l:List (Nat × List Value)}{v0 v1 v2 c b:Value}(h:Sd B w0 s ba bc bs p er at_ K (a::(g,xs)::l) rs V):Sd B w0 s ba bc bs p er at_ K l rs (((((V.setCell ⟨g,0,none⟩ v0).setCell ⟨g,1,none⟩ v1).setCell ⟨g,2,none⟩ v2).setCell ⟨g,3,none⟩ c).setCell ⟨g,4,none⟩ b) :=
 (((((h.set1 0 v0).set1 1 v1).set1 2 v2).set1 3 c).set1 4 b).unbox.unbox
theorem Sd.nilRow {T sz:Nat}(h:Sd B w0 s ba bc bs p er at_ K bx rs V):Sd B w0 s ba bc bs p er at_ K bx (⟨T,sz,0,.slice none 0 0,[]⟩::rs) V:=h.new bF (World.ownsRow_nil _ _ _ _)
theorem Sd.setM (h:Sd B w0 s ba bc bs p er at_ K bx rs V)(i:Nat)(r:i<13)(u:Value):Sd B w0 s ba { bc with rest:=bc.rest.set i u } bs p er at_ K bx rs (V.setCell ⟨s,5+i,none⟩ u):=by
 obtain ⟨v,n,q,a,m,l,f,g⟩:=h.ex;have c:=Qp V s (5+i) u
 refine ⟨⟨v,n,q,?_,m.grown c (λk e hk=>by cases e;exact f hk),l,f,g⟩,h.b.setCell h.qB _,h.by_,h.qB,λx hx=>⟨(h.bk x hx).1.grownR c (by have:=(h.bk x hx).2.2;simpa using λe=>this e.symm),(h.bk x hx).2⟩,h.nd⟩
 refine ⟨Qd a.c0 (by omega),Qd a.c1 (by omega),Qd a.c2 (by omega),Qd a.d3 (by omega),Qd a.d4 (by omega),λj v hv=>?_,Qd a.ev (by omega),Qd a.c19 (by omega),Qd a.c20 (by omega),Qd a.c21 (by omega),λj=>by rw [World.frozen?_setCell];exact a.fz j,Sr.has_set a.has a.ne _ _,a.ne,a.le,Sr.has_set a.hasF a.ne _ _,a.win,a.e0,by have:=a.rl;simpa using this,a.fl,a.eo,a.em_set _ _,a.eb,λb o e=>by simpa using a.el b o e,a.enb⟩
 by_cases e:j=i
 . subst e
   simp only at hv
   rw [List.getElem?_set_self (by have:=a.rl;simp at this;omega)] at hv
   cases hv
   obtain ⟨v0,d⟩:∃ v0,bc.rest[j]?=some v0:=⟨_,List.getElem?_eq_getElem (by have:=a.rl;simp at this;omega)⟩
   exact QE (a.rst j v0 d)
 . simp only at hv
   rw [List.getElem?_set_ne (λh=>e h.symm)] at hv
   exact Qd (a.rst j v hv) (by omega)
end
def SdP {α:Type}(M:Rs α)(kv:α->Value)(bv:Value->Prop)(B:Nat)(w0:World)(s:Nat)(ba:Option Addr)(bc:Bd)(bs:List Int)(K:Nat)(bx:List (Nat × List Value))(rs:List Qc)(e:Ending)(w':World):Prop :=
 match M with
 |.bad er a=>∃ u p',e=.returned u/\bv u/\Sd B w0 s ba bc bs p' er a K bx rs w'
 |.ok v p'=>e=.returned (kv v)/\Sd B w0 s ba bc bs p' 0 0 K bx rs w'
theorem lift {α:Type}{M:Rs α}{g:α->Value}{k:Value->Prop}{P:Program}{F:FuncId}{args:Array Value}{B:Nat}{w0:World}{s:Nat}{ba:Option Addr}{bc:Bd}{bs:List Int}{p:Nat}{K:Nat}{bx:List (Nat × List Value)}{rs:List Qc}{w:World}
    (h:Sd B w0 s ba bc bs p 0 0 K bx rs w) (m:∀ v,Sr w s ba { bc with ev:=v } bs p 0 0->Calls P F args w (SpP M g k w s ba { bc with ev:=v } bs)):Calls P F args w (SdP M g k B w0 s ba bc bs K bx rs):=by
 obtain ⟨v,n,z,j,y,t,r,q⟩:=h.ex
 refine (m v j).mono ?_
 rintro e f ⟨l,d⟩;have b:∀ {p' er' at'},Sr f s ba { bc with ev:=v } bs p' er' at'->Sd B w0 s ba bc bs p' er' at' K bx rs f:=λc=>h.step (v:=v) (λv' hv'=>by rw [j.ev] at hv';cases hv';exact c) l
 cases M with
 |bad er a=>obtain ⟨u,p',o,e2,c⟩:=d;exact ⟨u,p',o,e2,b c⟩
 |ok x p'=>exact ⟨d.1,b d.2⟩
theorem liftE {P:Program}{F:FuncId}{args:Array Value}{u:Value}{B:Nat}{w0:World}{s:Nat}{ba:Option Addr}{bc:Bd}{bs:List Int}{p:Nat}{er at_:Int}{K:Nat}{bx:List (Nat × List Value)}{rs:List Qc}{w:World}
    (h:Sd B w0 s ba bc bs p er at_ K bx rs w) (a:∀ v,Sr w s ba { bc with ev:=v } bs p er at_->Calls P F args w λe w'=>e=.returned u/\w=w'):Calls P F args w λe w'=>e=.returned u/\w=w':=by
 obtain ⟨v,n,j,b,g,f,d,c⟩:=h.ex
 exact a v b
theorem JG {W:World}{B e sz n:Nat}{v:Value}{xs:List Value}(h:W.ownsRow B e sz v n xs):∃ a c,v=.slice a n c:=by
 rcases h.2 with ⟨h0,d⟩|⟨g,j,f,b,_⟩
 . exact ⟨none,0,by rw [h0,d]⟩
 . exact ⟨_,_,b⟩
theorem told {B w0 s ba bc bs p K bx rs}{V V1 W:World}{v v':Value}{n:Nat}{cs cs':List Value}(h:Sd B w0 s ba bc bs p 0 0 K bx rs V)(O:Sr V s ba { bc with ev:=v } bs p 0 0)(g2:Own B V (Jc v n cs::QS bc::rs))(g3:n<=K)(g4:s ∉ blk (Jc v n cs::QS bc::rs))(g5:∀ x ∈ bx,x.1 ∉ blk (Jc v n cs::QS bc::rs))
    (hb:Below V.heap.size V V1) (gr:V1.grownBy W v.ownBlock) (own:(Jc v' (n+1) cs').Ok B W) (hat:v'.ownBlock=v.ownBlock\/v'.ownBlock=some V1.heap.size) :
    Sd B w0 s ba bc bs p 0 0 (K+1) bx rs (W.setCell ⟨s,18,none⟩ v')/\(∃ u,W.cell? ⟨s,18,none⟩=some u)/\W.frozen? ⟨s,18,none⟩=false:=by
 have L:=hb.size;have g:=h.keep hb;have c:=O.keep hb;have l:=g2.keep hb;have f:∀ k,v.ownBlock=some k->k ∈ blk (Jc v n cs::QS bc::rs):=λk d=>Qn.2 ⟨Jc v n cs,by simp,d⟩;have t:∀ k,v.ownBlock=some k->B<=k:=λk d=>(l.lt (f k d)).1;have E:∀ k,v.ownBlock=some k->k≠s:=λk d e=>g4 (e ▸ f k d);have M:Own B W (Jc v' (n+1) cs'::QS bc::rs):=l.push gr own hat
 have r:∀ k,k<V.heap.size->k ∉ blk (Jc v n cs::QS bc::rs)->k ∉ blk (Jc v' (n+1) cs'::QS bc::rs):=λk d hn hm=>by
  obtain ⟨y,D,e⟩:=Qn.1 hm
  simp at D
  rcases D with rfl|rfl|D
  . rcases hat with I|I
    . exact hn (f k (by rw [<- I];exact e))
    . have m:v'.ownBlock=some k:=e;rw [I] at m;injection m with m;omega
  . exact hn (Qn.2 ⟨_,by simp,e⟩)
  . exact hn (Qn.2 ⟨_,by simp [D],e⟩)
 have F:∀ k,v.ownBlock=some k->∀ b o,bc.ea=some ⟨b,o,none⟩->b≠k:=λk d b o e he =>
  Own.disj (a:=[Jc v n cs]) (b:=QS bc::rs) l (Qn.2 ⟨Jc v n cs,by simp,d⟩) (Qn.2 ⟨QS bc,by simp,by simp [QS,e,Value.ownBlock,he]⟩)
 have d:W.heap[s]?=V1.heap[s]?:=gr.block s g.lt (λe=>E s e.symm rfl);have C:∀ i v,V1.cell? ⟨s,i,none⟩=some v->W.cell? ⟨s,i,none⟩=some v:=λi v hv=>(World.cell?_of_block d).trans hv
 have J:∀ xs,By.Has V1 ba xs->By.Has W ba xs:=by
  rintro xs (h'|⟨b,o,e,G⟩)
  . exact .inl h'
  . exact .inr ⟨b,o,e,λi hi=>gr.cell (G i hi) (λm=>by have g:=h.by_ _ e;have:=t b m.symm;simp at g;omega)⟩
 have j:=Qp W s 18 v';have z:∀ i,W.frozen? ⟨s,i,none⟩=false:=λi=>(World.frozen?_of_block d).trans (c.fz i);have q:=r s h.lt g4;have H:Below B w0 W:=g.b.grown gr g.hB t
 refine ⟨⟨⟨v',n+1,cs',?_,M.grown j (λk e d=>by cases e;exact q d),λ_=>by omega,q,λx hx=>r _ (h.bk x hx).1.1 (g5 x hx)⟩,H.setCell h.qB _,h.by_,h.qB,λx hx=>⟨((g.bk x hx).1.grownR gr (λe=>g5 x hx (f _ e))).grownR j (by have:=(h.bk x hx).2.2;simpa using λe=>this e.symm),(g.bk x hx).2⟩,h.nd⟩,⟨_,C _ _ c.ev⟩,z 18⟩
 refine ⟨Qd (C _ _ c.c0) (by decide),Qd (C _ _ c.c1) (by decide),Qd (C _ _ c.c2) (by decide),Qd (C _ _ c.d3) (by decide),Qd (C _ _ c.d4) (by decide),λi v hv=>Qd (C _ _ (c.rst i v hv)) (by have g:=c.rl;have R:i<bc.rest.length:=(List.getElem?_eq_some_iff.1 hv).1;simp at g;omega),QE (C _ _ c.ev),Qd (C _ _ c.c19) (by decide),Qd (C _ _ c.c20) (by decide),Qd (C _ _ c.c21) (by decide),λi=>by rw [World.frozen?_setCell];exact z i,Sr.has_set (J _ c.has) c.ne _ _,c.ne,c.le,Sr.has_set (J _ c.hasF) c.ne _ _,c.win,c.e0,c.rl,c.fl,c.eo,λk d=>?_,c.eb,λb o e=>by have:=Nat.lt_of_lt_of_le (c.el b o e) gr.size;simpa using this,c.enb⟩
 obtain ⟨b,o,e,A,G⟩:=c.em k d
 exact ⟨b,o,e,A,j.cell (gr.cell G (λm=>F b m.symm b o e rfl)) (by simpa using A)⟩
theorem Tryz.info246:(Tryz.prog.info? 246).map (λi=>(i.zero,i.size,i.bytes))=some (some (.agg #[.int .i64 0,.int .i64 0,.int .i64 0,.int .i64 0,.int .i64 0,.int .i64 0]),6,48):=by kernel_rfl
theorem six_one (a b c d e f:Int):∀ u ∈ [Value.int .i64 a,.int .i64 b,.int .i64 c,.int .i64 d,.int .i64 e,.int .i64 f],u.oneCell'=true:=by
 intro u g
 simp at g
 rcases g with rfl|rfl|rfl|rfl|rfl|rfl<;>rfl
theorem Xx (b ix pos q:Int){B w0 s ba bc bs p K bx rs w}(h:Sd B w0 s ba bc bs p 0 0 K bx rs w)(Y:K<=1099511627776) :
    Calls Tryz.prog 147 #[.pointer (some ⟨s,0,none⟩),.int .i64 b,.int .i64 ix,.int .i64 pos,.int .i64 q] w λe w'=>e=.returned (.tuple #[])/\Sd B w0 s ba bc bs p 0 0 (K+1) bx rs w':=by
 obtain ⟨v,n,U,g,l,z,E,D⟩:=h.ex;replace z:=z rfl;obtain ⟨M,O,u,t,r⟩:=info_parts Tryz.info246;have c1:=g.c1;have c3:=g.c3;have c19:w.cell? ⟨s,19,none⟩=some (.int .i64 bc.sec):=g.c19;have y:=h.hB;obtain ⟨va,m,rfl⟩:∃ a c,v=.slice a n c:=Qc.Ok.slice l.head;have A:w.cell? ⟨s,18,none⟩=some (.slice va n m):=g.ev;have H:=Hm (λV1 W v' cs'=>told (V1:=V1) (W:=W) (v':=v') (cs':=cs') h g l z E D);have V:=Hm l.head;have F:Hid (∀ o,Below w.heap.size w ((w.alloc o).drew)):=λo=>⟨rfl,rfl,rfl,by show w.heap.size<=(w.alloc o).heap.size;simp,λk hk=>QF w o k hk⟩;have X:∀ o,(w.alloc o).cell? ⟨s,18,none⟩=some (.slice va n m):=λo=>Qg A;clear h g l E D
 go_enter Tryz.func147,Tryz.ntmps147
 go_wp2_with fail
 go_region_law (first
     | (refine Qv rfl (.tmp 19) (.tmp 33) 50 rfl B 246 M (.agg #[.int .i64 0,.int .i64 0,.int .i64 0,.int .i64 0,.int .i64 0,.int .i64 0]) 6 48 Tryz.underlying50 O u t r rfl (by decide) (.slice va n m) n U (by first | rfl | simp [Act.eval,Act.put]) (World.ownsRow.alloc V.o _) ⟨w.heap.size,0,none⟩ 1 1 [.int .i64 b,.int .i64 bc.sec,.int .i64 ix,.int .i64 pos,.int .i64 q,.int .i64 p] (by first | rfl | simp [Act.eval,Act.put]) (by first | rfl | simp) (Jd w [.int .i64 b,.int .i64 bc.sec,.int .i64 ix,.int .i64 pos,.int .i64 q,.int .i64 p] 246) (six_one _ _ _ _ _ _) (by unfold maxLen;omega) (by omega) (Nat.le_trans y (F.o _).size) ?_
        intro v2 G d j f
        have C:=Hm (H.o _ G v2 _ (F.o _) j d f);obtain ⟨L,S⟩:=C.o.2.1;have R:=C.o.2.2;obtain ⟨J,I,rfl⟩:∃ a c,v2=.slice a (n+1) c:=JG d;clear d j f))
 all_goals
  go_wp2_with fail
  go_end0
  exact ⟨rfl,C.o.1⟩
theorem Xm (a ix pos b:Int){B w0 s ba bc bs p er at_ K bx rs w}(h:Sd B w0 s ba bc bs p er at_ K bx rs w)(c:er≠0) :
    Calls Tryz.prog 147 #[.pointer (some ⟨s,0,none⟩),.int .i64 a,.int .i64 ix,.int .i64 pos,.int .i64 b] w λe w'=>e=.returned (.tuple #[])/\w=w' :=
 liftE h (λv hv=>tell_se s ba _ bs p er at_ a ix pos b w hv c)
end Go.Proofs.YtedcmcdbejjgcaaGreat.Ms
