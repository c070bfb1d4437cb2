import Derived.Test.YtedcmcdbejjgcaaGreatGaa
import Derived.Test.YtedcmcdbejjgcaaGreatGai
import Derived.Deep.Cut
import Derived.Deep.RegionWith
import Derived.Deep.RegionHeld3
set_option linter.all false
set_option maxHeartbeats 400000000
set_option maxRecDepth 100000
namespace Go.Proofs.YtedcmcdbejjgcaaGreat
open Go.RowKit Go.Sort
theorem oneJ (b:Int):∀ u ∈ [Value.int .i64 b],u.oneCell'=true:=by
 intro u a;simp at a;subst a;rfl
abbrev opV (kv:Value)(dn bd:Bool):Value:=.agg #[kv,.bool dn,.bool bd]
theorem stepM_e (n m:List Bool)(z:Bool)(h:n=m++[z]):Jf n 5=if z then some (m++[false]) else none:=by
 subst h;cases z<;>simp [Jf]
theorem stepM_x (n m:List Bool)(z:Bool)(h:n=m++[z]):Jf n 11=some m:=by
 subst h;simp [Jf]
def bi (b:Bool):Int:=if b then 1 else 0
def Jg (n:List Bool):List Int:=n.tail.map bi
def hdF (n:List Bool):Prop:=n=[]\/∃ m,n=false::m
theorem ksOf_cons (m:List Bool):Jg (false::m)=m.map bi:=rfl
theorem sl {w:World}{B n:Nat}{v:Value}{b:List Value}(h:w.ownsRow B 2 1 v n b):∃ va vn vc,v=.slice va vn vc:=by
 obtain ⟨a,c,e⟩:=QZ h
 exact ⟨a,_,c,e⟩
def Ans (n:List Bool)(op:Int)(kv':Value)(dn bd:Bool)(B:Nat)(w':World):Prop :=
 (Jf n op=none/\bd=true)\/∃ n',Jf n op=some n'/\hdF n'/\bd=false/\dn=n'.isEmpty/\w'.ownsRow B 2 1 kv' (Jg n').length (I (Jg n'))
structure So (g:Nat)(kv:Value)(n:List Bool)(w:World):Prop where
 c0:w.cell? ⟨g,0,none⟩=some kv
 c1:w.cell? ⟨g,1,none⟩=some (.bool n.isEmpty)
 c2:w.cell? ⟨g,2,none⟩=some (.bool false)
 fz:∀ i,w.frozen? ⟨g,i,none⟩=false
 own:w.ownsRow (g+1) 2 1 kv (Jg n).length (I (Jg n))
 lt:g<w.heap.size
def Up (B:Nat)(w w':World):Prop:=∀ k,B<=k->k<w.heap.size->w'.heap[k]?=w.heap[k]?
theorem Up.cell {B b o:Nat}{w w'}{v:Value}(u:Up B w w')(a:B<=b)(h:w.cell? ⟨b,o,none⟩=some v):w'.cell? ⟨b,o,none⟩=some v :=
 (World.cell?_of_block (u b a (World.block_lt_of_cell? w _ h))).trans h
theorem Qh {B:Nat}{w w'}(h:Below w.heap.size w w'):Up B w w':=λk _ hk=>h.block k hk
def HI (k:IntKind)(B:Nat)(w:World)(a:Option Addr)(xs:List Int):Prop :=
 xs=[]\/∃ b off,a=some ⟨b,off,none⟩/\B<=b/\∀ i,i<xs.length->w.cell? ⟨b,off+i,none⟩=some (.int k (xs.getD i 0))
theorem HI.up {k:IntKind}{B w w' a xs}(h:HI k B w a xs)(u:Up B w w'):HI k B w' a xs:=by
 rcases h with h|⟨b,o,e,c,d⟩
 . exact .inl h
 . exact .inr ⟨b,o,e,c,λi hi=>u.cell c (d i hi)⟩
theorem HI.mono {k:IntKind}{B c:Nat}{w a xs}(h:HI k B w a xs)(hB:c<=B):HI k c w a xs:=by
 rcases h with h|⟨b,o,e,f,d⟩
 . exact .inl h
 . exact .inr ⟨b,o,e,by omega,d⟩
theorem HI.has {B w a xs}(h:HI .i64 B w a xs):Has w a xs:=by
 rcases h with h|⟨b,o,e,d,c⟩
 . exact .inl h
 . exact .inr ⟨b,o,e,c⟩
structure Qq where
 min:Int
 max:Int
 has:Bool
def Qq.z:Qq:=⟨0,0,false⟩
def Qq.Is (B:Nat)(w:World)(x:Qq):Prop:=True
def Qq.At (B:Nat)(w:World)(b o:Nat)(x:Qq):Prop:=(w.cell? ⟨b,o,none⟩=some (.int .i64 x.min)/\w.cell? ⟨b,o+1,none⟩=some (.int .i64 x.max)/\w.cell? ⟨b,o+2,none⟩=some (.bool x.has))/\Qq.Is B w x
def Qq.Ls (B:Nat)(w:World)(a:Option Addr)(xs:List Qq):Prop:=xs=[]\/∃ b off,a=some ⟨b,off,none⟩/\B<=b/\∀ i,i<xs.length->Qq.At B w b (off+i*3) (xs.getD i Qq.z)
theorem Qq.Is.up {B:Nat}{w a:World}{x:Qq}(h:Qq.Is B w x)(u:Up B w a):Qq.Is B a x:=h
theorem Qq.At.up {B b o:Nat}{w c:World}{x:Qq}(h:Qq.At B w b o x)(u:Up B w c)(a:B<=b):Qq.At B c b o x:=by
 obtain ⟨⟨g,f,d⟩,hi⟩:=h
 exact ⟨⟨u.cell a g,u.cell a f,u.cell a d⟩,hi.up u⟩
theorem Qq.Ls.up {B:Nat}{w c:World}{a:Option Addr}{xs:List Qq}(h:Qq.Ls B w a xs)(u:Up B w c):Qq.Ls B c a xs:=by
 rcases h with h|⟨b,o,e,d,f⟩
 . exact .inl h
 . exact .inr ⟨b,o,e,d,λi hi=>(f i hi).up u d⟩
def Qq.LB (N:Nat)(x:Qq):Prop:=True
structure JX where
 ty:Int
 mu:Bool
def JX.z:JX:=⟨0,false⟩
def JX.Is (B:Nat)(w:World)(x:JX):Prop:=True
def JX.LB (N:Nat)(x:JX):Prop:=True
structure Q1 where
 ps:List Int
 rs:List Int
def Q1.z:Q1:=⟨[],[]⟩
def Q1.Is (B:Nat)(w:World)(x:Q1)(a1:Option Addr)(a2:Option Addr):Prop:=HI .i64 B w a1 x.ps/\HI .i64 B w a2 x.rs
def Q1.At (B:Nat)(w:World)(b o:Nat)(x:Q1):Prop:=∃ a1 c1 a2 c2,(w.cell? ⟨b,o,none⟩=some (.slice a1 x.ps.length c1)/\w.cell? ⟨b,o+1,none⟩=some (.slice a2 x.rs.length c2))/\Q1.Is B w x a1 a2
def Q1.Ls (B:Nat)(w:World)(a:Option Addr)(xs:List Q1):Prop:=xs=[]\/∃ b off,a=some ⟨b,off,none⟩/\B<=b/\∀ i,i<xs.length->Q1.At B w b (off+i*2) (xs.getD i Q1.z)
theorem Q1.Is.up {B:Nat}{w a:World}{x:Q1}{c:Option Addr}{b:Option Addr}(h:Q1.Is B w x c b)(u:Up B w a):Q1.Is B a x c b:=by
 obtain ⟨f,d⟩:=h
 exact ⟨f.up u,d.up u⟩
theorem Q1.At.up {B b o:Nat}{w a:World}{x:Q1}(h:Q1.At B w b o x)(u:Up B w a)(c:B<=b):Q1.At B a b o x:=by
 obtain ⟨k,c1,j,g,⟨f,d⟩,hi⟩:=h
 exact ⟨k,c1,j,g,⟨u.cell c f,u.cell c d⟩,hi.up u⟩
theorem Q1.Ls.up {B:Nat}{w c:World}{a:Option Addr}{xs:List Q1}(h:Q1.Ls B w a xs)(u:Up B w c):Q1.Ls B c a xs:=by
 rcases h with h|⟨b,o,e,d,f⟩
 . exact .inl h
 . exact .inr ⟨b,o,e,d,λi hi=>(f i hi).up u d⟩
def Q1.LB (N:Nat)(x:Q1):Prop:=x.ps.length<=N/\x.rs.length<=N
def In.Is (B:Nat)(w:World)(x:In)(a1:Option Addr):Prop:=HI .i64 B w a1 x.l
def In.At (B:Nat)(w:World)(b o:Nat)(x:In):Prop:=∃ a1 c1,(w.cell? ⟨b,o,none⟩=some (.int .i64 x.op)/\w.cell? ⟨b,o+1,none⟩=some (.int .i64 x.a)/\w.cell? ⟨b,o+2,none⟩=some (.int .i64 x.b)/\w.cell? ⟨b,o+3,none⟩=some (.int .u64 x.v)/\w.cell? ⟨b,o+4,none⟩=some (.slice a1 x.l.length c1))/\In.Is B w x a1
def In.Ls (B:Nat)(w:World)(a:Option Addr)(xs:List In):Prop:=xs=[]\/∃ b off,a=some ⟨b,off,none⟩/\B<=b/\∀ i,i<xs.length->In.At B w b (off+i*5) (xs.getD i I0)
theorem In.Is.up {B:Nat}{w a:World}{x:In}{b:Option Addr}(h:In.Is B w x b)(u:Up B w a):In.Is B a x b:=by
 have c:=h
 exact HI.up c u
theorem In.At.up {B b o:Nat}{w c:World}{x:In}(h:In.At B w b o x)(u:Up B w c)(a:B<=b):In.At B c b o x:=by
 obtain ⟨l,c1,⟨k,j,g,f,d⟩,hi⟩:=h
 exact ⟨l,c1,⟨u.cell a k,u.cell a j,u.cell a g,u.cell a f,u.cell a d⟩,hi.up u⟩
theorem In.Ls.up {B:Nat}{w c:World}{a:Option Addr}{xs:List In}(h:In.Ls B w a xs)(u:Up B w c):In.Ls B c a xs:=by
 rcases h with h|⟨b,o,e,d,f⟩
 . exact .inl h
 . exact .inr ⟨b,o,e,d,λi hi=>(f i hi).up u d⟩
def In.LB (N:Nat)(x:In):Prop:=x.l.length<=N
structure Imp where
 mod:ByteArray
 nm:ByteArray
 kind:Int
 ty:Int
 lim:Qq
 gl:JX
def Imp.z:Imp:=⟨⟨#[]⟩,⟨#[]⟩,0,0,Qq.z,JX.z⟩
def Imp.Is (B:Nat)(w:World)(x:Imp):Prop:=True
def Imp.At (B:Nat)(w:World)(b o:Nat)(x:Imp):Prop:=(w.cell? ⟨b,o,none⟩=some (.string x.mod)/\w.cell? ⟨b,o+1,none⟩=some (.string x.nm)/\w.cell? ⟨b,o+2,none⟩=some (.int .i64 x.kind)/\w.cell? ⟨b,o+3,none⟩=some (.int .i64 x.ty)/\w.cell? ⟨b,o+4,none⟩=some (.int .i64 x.lim.min)/\w.cell? ⟨b,o+5,none⟩=some (.int .i64 x.lim.max)/\w.cell? ⟨b,o+6,none⟩=some (.bool x.lim.has)/\w.cell? ⟨b,o+7,none⟩=some (.int .i64 x.gl.ty)/\w.cell? ⟨b,o+8,none⟩=some (.bool x.gl.mu))/\Imp.Is B w x
def Imp.Ls (B:Nat)(w:World)(a:Option Addr)(xs:List Imp):Prop:=xs=[]\/∃ b off,a=some ⟨b,off,none⟩/\B<=b/\∀ i,i<xs.length->Imp.At B w b (off+i*9) (xs.getD i Imp.z)
theorem Imp.Is.up {B:Nat}{w a:World}{x:Imp}(h:Imp.Is B w x)(u:Up B w a):Imp.Is B a x:=h
theorem Imp.At.up {B b o:Nat}{w c:World}{x:Imp}(h:Imp.At B w b o x)(u:Up B w c)(a:B<=b):Imp.At B c b o x:=by
 obtain ⟨⟨p,n,m,l,k,j,g,f,d⟩,hi⟩:=h
 exact ⟨⟨u.cell a p,u.cell a n,u.cell a m,u.cell a l,u.cell a k,u.cell a j,u.cell a g,u.cell a f,u.cell a d⟩,hi.up u⟩
theorem Imp.Ls.up {B:Nat}{w c:World}{a:Option Addr}{xs:List Imp}(h:Imp.Ls B w a xs)(u:Up B w c):Imp.Ls B c a xs:=by
 rcases h with h|⟨b,o,e,d,f⟩
 . exact .inl h
 . exact .inr ⟨b,o,e,d,λi hi=>(f i hi).up u d⟩
def Imp.LB (N:Nat)(x:Imp):Prop:=x.mod.size<=N/\x.nm.size<=N
structure Jv where
 ty:JX
 ini:List In
def Jv.z:Jv:=⟨JX.z,[]⟩
def Jv.Is (B:Nat)(w:World)(x:Jv)(a1:Option Addr):Prop:=In.Ls B w a1 x.ini
def Jv.At (B:Nat)(w:World)(b o:Nat)(x:Jv):Prop:=∃ a1 c1,(w.cell? ⟨b,o,none⟩=some (.int .i64 x.ty.ty)/\w.cell? ⟨b,o+1,none⟩=some (.bool x.ty.mu)/\w.cell? ⟨b,o+2,none⟩=some (.slice a1 x.ini.length c1))/\Jv.Is B w x a1
def Jv.Ls (B:Nat)(w:World)(a:Option Addr)(xs:List Jv):Prop:=xs=[]\/∃ b off,a=some ⟨b,off,none⟩/\B<=b/\∀ i,i<xs.length->Jv.At B w b (off+i*3) (xs.getD i Jv.z)
theorem Jv.Is.up {B:Nat}{w a:World}{x:Jv}{b:Option Addr}(h:Jv.Is B w x b)(u:Up B w a):Jv.Is B a x b:=by
 have c:=h
 exact In.Ls.up c u
theorem Jv.At.up {B b o:Nat}{w c:World}{x:Jv}(h:Jv.At B w b o x)(u:Up B w c)(a:B<=b):Jv.At B c b o x:=by
 obtain ⟨j,c1,⟨g,f,d⟩,hi⟩:=h
 exact ⟨j,c1,⟨u.cell a g,u.cell a f,u.cell a d⟩,hi.up u⟩
theorem Jv.Ls.up {B:Nat}{w c:World}{a:Option Addr}{xs:List Jv}(h:Jv.Ls B w a xs)(u:Up B w c):Jv.Ls B c a xs:=by
 rcases h with h|⟨b,o,e,d,f⟩
 . exact .inl h
 . exact .inr ⟨b,o,e,d,λi hi=>(f i hi).up u d⟩
def Jv.LB (N:Nat)(x:Jv):Prop:=(x.ini.length<=N/\∀ i,i<x.ini.length->In.LB N (x.ini.getD i I0))
structure Exp where
 nm:ByteArray
 kind:Int
 ix:Int
def Exp.z:Exp:=⟨⟨#[]⟩,0,0⟩
def Exp.Is (B:Nat)(w:World)(x:Exp):Prop:=True
def Exp.At (B:Nat)(w:World)(b o:Nat)(x:Exp):Prop:=(w.cell? ⟨b,o,none⟩=some (.string x.nm)/\w.cell? ⟨b,o+1,none⟩=some (.int .i64 x.kind)/\w.cell? ⟨b,o+2,none⟩=some (.int .i64 x.ix))/\Exp.Is B w x
def Exp.Ls (B:Nat)(w:World)(a:Option Addr)(xs:List Exp):Prop:=xs=[]\/∃ b off,a=some ⟨b,off,none⟩/\B<=b/\∀ i,i<xs.length->Exp.At B w b (off+i*3) (xs.getD i Exp.z)
theorem Exp.Is.up {B:Nat}{w a:World}{x:Exp}(h:Exp.Is B w x)(u:Up B w a):Exp.Is B a x:=h
theorem Exp.At.up {B b o:Nat}{w c:World}{x:Exp}(h:Exp.At B w b o x)(u:Up B w c)(a:B<=b):Exp.At B c b o x:=by
 obtain ⟨⟨g,f,d⟩,hi⟩:=h
 exact ⟨⟨u.cell a g,u.cell a f,u.cell a d⟩,hi.up u⟩
theorem Exp.Ls.up {B:Nat}{w c:World}{a:Option Addr}{xs:List Exp}(h:Exp.Ls B w a xs)(u:Up B w c):Exp.Ls B c a xs:=by
 rcases h with h|⟨b,o,e,d,f⟩
 . exact .inl h
 . exact .inr ⟨b,o,e,d,λi hi=>(f i hi).up u d⟩
def Exp.LB (N:Nat)(x:Exp):Prop:=x.nm.size<=N
structure Ele where
 off:List In
 fs:List Int
def Ele.z:Ele:=⟨[],[]⟩
def Ele.Is (B:Nat)(w:World)(x:Ele)(a1:Option Addr)(a2:Option Addr):Prop:=In.Ls B w a1 x.off/\HI .i64 B w a2 x.fs
def Ele.At (B:Nat)(w:World)(b o:Nat)(x:Ele):Prop:=∃ a1 c1 a2 c2,(w.cell? ⟨b,o,none⟩=some (.slice a1 x.off.length c1)/\w.cell? ⟨b,o+1,none⟩=some (.slice a2 x.fs.length c2))/\Ele.Is B w x a1 a2
def Ele.Ls (B:Nat)(w:World)(a:Option Addr)(xs:List Ele):Prop:=xs=[]\/∃ b off,a=some ⟨b,off,none⟩/\B<=b/\∀ i,i<xs.length->Ele.At B w b (off+i*2) (xs.getD i Ele.z)
theorem Ele.Is.up {B:Nat}{w a:World}{x:Ele}{c:Option Addr}{b:Option Addr}(h:Ele.Is B w x c b)(u:Up B w a):Ele.Is B a x c b:=by
 obtain ⟨f,d⟩:=h
 exact ⟨f.up u,d.up u⟩
theorem Ele.At.up {B b o:Nat}{w a:World}{x:Ele}(h:Ele.At B w b o x)(u:Up B w a)(c:B<=b):Ele.At B a b o x:=by
 obtain ⟨k,c1,j,g,⟨f,d⟩,hi⟩:=h
 exact ⟨k,c1,j,g,⟨u.cell c f,u.cell c d⟩,hi.up u⟩
theorem Ele.Ls.up {B:Nat}{w c:World}{a:Option Addr}{xs:List Ele}(h:Ele.Ls B w a xs)(u:Up B w c):Ele.Ls B c a xs:=by
 rcases h with h|⟨b,o,e,d,f⟩
 . exact .inl h
 . exact .inr ⟨b,o,e,d,λi hi=>(f i hi).up u d⟩
def Ele.LB (N:Nat)(x:Ele):Prop:=(x.off.length<=N/\∀ i,i<x.off.length->In.LB N (x.off.getD i I0))/\x.fs.length<=N
structure Grp where
 n:Int
 ty:Int
def Grp.z:Grp:=⟨0,0⟩
def Grp.Is (B:Nat)(w:World)(x:Grp):Prop:=True
def Grp.At (B:Nat)(w:World)(b o:Nat)(x:Grp):Prop:=(w.cell? ⟨b,o,none⟩=some (.int .i64 x.n)/\w.cell? ⟨b,o+1,none⟩=some (.int .i64 x.ty))/\Grp.Is B w x
def Grp.Ls (B:Nat)(w:World)(a:Option Addr)(xs:List Grp):Prop:=xs=[]\/∃ b off,a=some ⟨b,off,none⟩/\B<=b/\∀ i,i<xs.length->Grp.At B w b (off+i*2) (xs.getD i Grp.z)
theorem Grp.Is.up {B:Nat}{w a:World}{x:Grp}(h:Grp.Is B w x)(u:Up B w a):Grp.Is B a x:=h
theorem Grp.At.up {B b o:Nat}{w a:World}{x:Grp}(h:Grp.At B w b o x)(u:Up B w a)(c:B<=b):Grp.At B a b o x:=by
 obtain ⟨⟨f,d⟩,hi⟩:=h
 exact ⟨⟨u.cell c f,u.cell c d⟩,hi.up u⟩
theorem Grp.Ls.up {B:Nat}{w c:World}{a:Option Addr}{xs:List Grp}(h:Grp.Ls B w a xs)(u:Up B w c):Grp.Ls B c a xs:=by
 rcases h with h|⟨b,o,e,d,f⟩
 . exact .inl h
 . exact .inr ⟨b,o,e,d,λi hi=>(f i hi).up u d⟩
def Grp.LB (N:Nat)(x:Grp):Prop:=True
structure Cod where
 locs:List Grp
 body:List In
def Cod.z:Cod:=⟨[],[]⟩
def Cod.Is (B:Nat)(w:World)(x:Cod)(a1:Option Addr)(a2:Option Addr):Prop:=Grp.Ls B w a1 x.locs/\In.Ls B w a2 x.body
def Cod.At (B:Nat)(w:World)(b o:Nat)(x:Cod):Prop:=∃ a1 c1 a2 c2,(w.cell? ⟨b,o,none⟩=some (.slice a1 x.locs.length c1)/\w.cell? ⟨b,o+1,none⟩=some (.slice a2 x.body.length c2))/\Cod.Is B w x a1 a2
def Cod.Ls (B:Nat)(w:World)(a:Option Addr)(xs:List Cod):Prop:=xs=[]\/∃ b off,a=some ⟨b,off,none⟩/\B<=b/\∀ i,i<xs.length->Cod.At B w b (off+i*2) (xs.getD i Cod.z)
theorem Cod.Is.up {B:Nat}{w a:World}{x:Cod}{c:Option Addr}{b:Option Addr}(h:Cod.Is B w x c b)(u:Up B w a):Cod.Is B a x c b:=by
 obtain ⟨f,d⟩:=h
 exact ⟨f.up u,d.up u⟩
theorem Cod.At.up {B b o:Nat}{w a:World}{x:Cod}(h:Cod.At B w b o x)(u:Up B w a)(c:B<=b):Cod.At B a b o x:=by
 obtain ⟨k,c1,j,g,⟨f,d⟩,hi⟩:=h
 exact ⟨k,c1,j,g,⟨u.cell c f,u.cell c d⟩,hi.up u⟩
theorem Cod.Ls.up {B:Nat}{w c:World}{a:Option Addr}{xs:List Cod}(h:Cod.Ls B w a xs)(u:Up B w c):Cod.Ls B c a xs:=by
 rcases h with h|⟨b,o,e,d,f⟩
 . exact .inl h
 . exact .inr ⟨b,o,e,d,λi hi=>(f i hi).up u d⟩
def Cod.LB (N:Nat)(x:Cod):Prop:=(x.locs.length<=N/\∀ i,i<x.locs.length->Grp.LB N (x.locs.getD i Grp.z))/\(x.body.length<=N/\∀ i,i<x.body.length->In.LB N (x.body.getD i I0))
structure Dat where
 off:List In
 bs:List Int
def Dat.z:Dat:=⟨[],[]⟩
def Dat.Is (B:Nat)(w:World)(x:Dat)(a1:Option Addr)(a2:Option Addr):Prop:=In.Ls B w a1 x.off/\HI .u8 B w a2 x.bs
def Dat.At (B:Nat)(w:World)(b o:Nat)(x:Dat):Prop:=∃ a1 c1 a2 c2,(w.cell? ⟨b,o,none⟩=some (.slice a1 x.off.length c1)/\w.cell? ⟨b,o+1,none⟩=some (.slice a2 x.bs.length c2))/\Dat.Is B w x a1 a2
def Dat.Ls (B:Nat)(w:World)(a:Option Addr)(xs:List Dat):Prop:=xs=[]\/∃ b off,a=some ⟨b,off,none⟩/\B<=b/\∀ i,i<xs.length->Dat.At B w b (off+i*2) (xs.getD i Dat.z)
theorem Dat.Is.up {B:Nat}{w a:World}{x:Dat}{c:Option Addr}{b:Option Addr}(h:Dat.Is B w x c b)(u:Up B w a):Dat.Is B a x c b:=by
 obtain ⟨f,d⟩:=h
 exact ⟨f.up u,d.up u⟩
theorem Dat.At.up {B b o:Nat}{w a:World}{x:Dat}(h:Dat.At B w b o x)(u:Up B w a)(c:B<=b):Dat.At B a b o x:=by
 obtain ⟨k,c1,j,g,⟨f,d⟩,hi⟩:=h
 exact ⟨k,c1,j,g,⟨u.cell c f,u.cell c d⟩,hi.up u⟩
theorem Dat.Ls.up {B:Nat}{w c:World}{a:Option Addr}{xs:List Dat}(h:Dat.Ls B w a xs)(u:Up B w c):Dat.Ls B c a xs:=by
 rcases h with h|⟨b,o,e,d,f⟩
 . exact .inl h
 . exact .inr ⟨b,o,e,d,λi hi=>(f i hi).up u d⟩
def Dat.LB (N:Nat)(x:Dat):Prop:=(x.off.length<=N/\∀ i,i<x.off.length->In.LB N (x.off.getD i I0))/\x.bs.length<=N
structure Cus where
 aft:Int
 nm:ByteArray
 bs:List Int
def Cus.z:Cus:=⟨0,⟨#[]⟩,[]⟩
def Cus.Is (B:Nat)(w:World)(x:Cus)(a1:Option Addr):Prop:=HI .u8 B w a1 x.bs
def Cus.At (B:Nat)(w:World)(b o:Nat)(x:Cus):Prop:=∃ a1 c1,(w.cell? ⟨b,o,none⟩=some (.int .i64 x.aft)/\w.cell? ⟨b,o+1,none⟩=some (.string x.nm)/\w.cell? ⟨b,o+2,none⟩=some (.slice a1 x.bs.length c1))/\Cus.Is B w x a1
def Cus.Ls (B:Nat)(w:World)(a:Option Addr)(xs:List Cus):Prop:=xs=[]\/∃ b off,a=some ⟨b,off,none⟩/\B<=b/\∀ i,i<xs.length->Cus.At B w b (off+i*3) (xs.getD i Cus.z)
theorem Cus.Is.up {B:Nat}{w a:World}{x:Cus}{b:Option Addr}(h:Cus.Is B w x b)(u:Up B w a):Cus.Is B a x b:=by
 have c:=h
 exact HI.up c u
theorem Cus.At.up {B b o:Nat}{w c:World}{x:Cus}(h:Cus.At B w b o x)(u:Up B w c)(a:B<=b):Cus.At B c b o x:=by
 obtain ⟨j,c1,⟨g,f,d⟩,hi⟩:=h
 exact ⟨j,c1,⟨u.cell a g,u.cell a f,u.cell a d⟩,hi.up u⟩
theorem Cus.Ls.up {B:Nat}{w c:World}{a:Option Addr}{xs:List Cus}(h:Cus.Ls B w a xs)(u:Up B w c):Cus.Ls B c a xs:=by
 rcases h with h|⟨b,o,e,d,f⟩
 . exact .inl h
 . exact .inr ⟨b,o,e,d,λi hi=>(f i hi).up u d⟩
def Cus.LB (N:Nat)(x:Cus):Prop:=x.nm.size<=N/\x.bs.length<=N
structure Mod where
 types:List Q1
 imps:List Imp
 funcs:List Int
 tabs:List Qq
 mems:List Qq
 globs:List Jv
 exps:List Exp
 hasS:Bool
 start:Int
 elems:List Ele
 codes:List Cod
 datas:List Dat
 customs:List Cus
def Mod.z:Mod:=⟨[],[],[],[],[],[],[],false,0,[],[],[],[]⟩
def Mod.Is (B:Nat)(w:World)(x:Mod)(a1:Option Addr)(a2:Option Addr)(a3:Option Addr)(a4:Option Addr)(a5:Option Addr)(a6:Option Addr)(a7:Option Addr)(a8:Option Addr)(a9:Option Addr)(a10:Option Addr)(a11:Option Addr):Prop:=Q1.Ls B w a1 x.types/\Imp.Ls B w a2 x.imps/\HI .i64 B w a3 x.funcs/\Qq.Ls B w a4 x.tabs/\Qq.Ls B w a5 x.mems/\Jv.Ls B w a6 x.globs/\Exp.Ls B w a7 x.exps/\Ele.Ls B w a8 x.elems/\Cod.Ls B w a9 x.codes/\Dat.Ls B w a10 x.datas/\Cus.Ls B w a11 x.customs
theorem Mod.Is.up {B:Nat}{w f:World}{x:Mod}{q:Option Addr}{p:Option Addr}{o:Option Addr}{n:Option Addr}{m:Option Addr}{l:Option Addr}{k:Option Addr}{j:Option Addr}{g:Option Addr}{b:Option Addr}{a:Option Addr}(h:Mod.Is B w x q p o n m l k j g b a)(u:Up B w f):Mod.Is B f x q p o n m l k j g b a:=by
 obtain ⟨D,C,A,z,y,v,t,s,r,d,c⟩:=h
 exact ⟨D.up u,C.up u,A.up u,z.up u,y.up u,v.up u,t.up u,s.up u,r.up u,d.up u,c.up u⟩
def Mod.LB (N:Nat)(x:Mod):Prop:=(x.types.length<=N/\∀ i,i<x.types.length->Q1.LB N (x.types.getD i Q1.z))/\(x.imps.length<=N/\∀ i,i<x.imps.length->Imp.LB N (x.imps.getD i Imp.z))/\x.funcs.length<=N/\(x.tabs.length<=N/\∀ i,i<x.tabs.length->Qq.LB N (x.tabs.getD i Qq.z))/\(x.mems.length<=N/\∀ i,i<x.mems.length->Qq.LB N (x.mems.getD i Qq.z))/\(x.globs.length<=N/\∀ i,i<x.globs.length->Jv.LB N (x.globs.getD i Jv.z))/\(x.exps.length<=N/\∀ i,i<x.exps.length->Exp.LB N (x.exps.getD i Exp.z))/\(x.elems.length<=N/\∀ i,i<x.elems.length->Ele.LB N (x.elems.getD i Ele.z))/\(x.codes.length<=N/\∀ i,i<x.codes.length->Cod.LB N (x.codes.getD i Cod.z))/\(x.datas.length<=N/\∀ i,i<x.datas.length->Dat.LB N (x.datas.getD i Dat.z))/\(x.customs.length<=N/\∀ i,i<x.customs.length->Cus.LB N (x.customs.getD i Cus.z))
open Go.RowKit
def HasB (w:World)(a:Option Addr)(xs:List Int):Prop :=
 xs=[]\/∃ b off,a=some ⟨b,off,none⟩/\∀ i,i<xs.length->w.cell? ⟨b,off+i,none⟩=some (.int .u8 (xs.getD i 0))
def ldN (c:Int):Int:=if c<128 then 0 else if c<194 then -1 else if c<224 then 1 else if c<240 then 2 else if c<245 then 3 else -1
def XT (c:Int):Int:=if c<194 then 0 else if c<224 then 128 else if c<225 then 160 else if c<240 then 128 else if c<241 then 144 else if c<245 then 128 else 0
def XU (c:Int):Int:=if c<194 then 0 else if c<237 then 191 else if c<238 then 159 else if c<244 then 191 else if c<245 then 143 else 0
theorem ldN_bd (c:Int):-1<=ldN c/\ldN c<=3:=by unfold ldN;omega
def uf:Nat->Int->Int->Nat->List Int->Int
 |0,_,_,_,[]=>-1
 |0,_,_,p,c::cs=>if ldN c<0 then p else uf (ldN c).toNat (XT c) (XU c) (p+1) cs
 |_+1,_,_,p,[]=>p
 |l+1,lo,hi,p,c::cs=>if c<lo\/hi<c then p else uf l 128 191 (p+1) cs
section
variable {bs:List Int} {p:Nat} {lo hi:Int}
theorem uf_any0 (a b:Int)(cs:List Int):uf 0 lo hi p cs=uf 0 a b p cs:=by cases cs<;>simp [uf]
theorem uf_end0 (h:p=bs.length):uf 0 lo hi p (bs.drop p)=-1:=by subst h;simp [uf]
theorem uf_endl {l:Nat}(h:p=bs.length):uf (l+1) lo hi p (bs.drop p)=p:=by subst h;simp [uf]
theorem uf_bad (h:p<bs.length)(a:ldN (bs.getD p 0)<0):uf 0 lo hi p (bs.drop p)=p:=by
 rw [List.drop_eq_getElem_cons h]
 simp only [List.getD,List.getElem?_eq_getElem h,Option.getD_some] at a
 simp [uf,a]
theorem uf_lead (h:p<bs.length)(a:¬ ldN (bs.getD p 0)<0):uf 0 lo hi p (bs.drop p)=uf (ldN (bs.getD p 0)).toNat (XT (bs.getD p 0)) (XU (bs.getD p 0)) (p+1) (bs.drop (p+1)):=by
 rw [List.drop_eq_getElem_cons h]
 simp only [List.getD,List.getElem?_eq_getElem h,Option.getD_some] at a⊢
 simp [uf,a]
theorem uf_out {l:Nat}(h:p<bs.length)(a:bs.getD p 0<lo\/hi<bs.getD p 0):uf (l+1) lo hi p (bs.drop p)=p:=by
 rw [List.drop_eq_getElem_cons h]
 simp only [List.getD,List.getElem?_eq_getElem h,Option.getD_some] at a
 simp [uf,a]
theorem uf_next {l:Nat}(h:p<bs.length)(a:¬ (bs.getD p 0<lo\/hi<bs.getD p 0)):uf (l+1) lo hi p (bs.drop p)=uf l 128 191 (p+1) (bs.drop (p+1)):=by
 rw [List.drop_eq_getElem_cons h]
 simp only [List.getD,List.getElem?_eq_getElem h,Option.getD_some] at a
 simp only [uf]
 rw [if_neg a]
end
theorem follow_any (c:Int)(w:World)(h0:0<=c)(h1:c<=255) :
    Calls Tryz.prog 207 #[.int .u8 c] w λe w'=>e=.returned (.tuple #[.int .i64 (ldN c),.int .u8 (XT c),.int .u8 (XU c)])/\w=w':=by
 rcases (show c<128\/(128<=c/\c<194)\/(194<=c/\c<224)\/c=224\/(225<=c/\c<237)\/c=237\/(238<=c/\c<240)\/c=240\/(241<=c/\c<244)\/c=244\/244<c by omega) with h|⟨h,a⟩|⟨h,a⟩|rfl|⟨h,a⟩|rfl|⟨h,a⟩|rfl|⟨h,a⟩|rfl|h
 . rw [show ldN c=0 by unfold ldN;omega,show XT c=0 by unfold XT;omega,show XU c=0 by unfold XU;omega]
   go_enter Tryz.func207,Tryz.ntmps207
   go_wp2
   go_ret3
   exact ⟨rfl,rfl⟩
 . rw [show ldN c=-1 by unfold ldN;omega,show XT c=0 by unfold XT;omega,show XU c=0 by unfold XU;omega]
   go_enter Tryz.func207,Tryz.ntmps207
   go_wp2
   go_ret3
   exact ⟨rfl,rfl⟩
 . rw [show ldN c=1 by unfold ldN;omega,show XT c=128 by unfold XT;omega,show XU c=191 by unfold XU;omega]
   go_enter Tryz.func207,Tryz.ntmps207
   go_wp2
   go_ret3
   exact ⟨rfl,rfl⟩
 . rw [show ldN 224=2 by decide,show XT 224=160 by decide,show XU 224=191 by decide]
   go_enter Tryz.func207,Tryz.ntmps207
   go_wp2
   go_ret3
   exact ⟨rfl,rfl⟩
 . rw [show ldN c=2 by unfold ldN;omega,show XT c=128 by unfold XT;omega,show XU c=191 by unfold XU;omega]
   go_enter Tryz.func207,Tryz.ntmps207
   go_wp2
   go_ret3
   exact ⟨rfl,rfl⟩
 . rw [show ldN 237=2 by decide,show XT 237=128 by decide,show XU 237=159 by decide]
   go_enter Tryz.func207,Tryz.ntmps207
   go_wp2
   go_ret3
   exact ⟨rfl,rfl⟩
 . rw [show ldN c=2 by unfold ldN;omega,show XT c=128 by unfold XT;omega,show XU c=191 by unfold XU;omega]
   go_enter Tryz.func207,Tryz.ntmps207
   go_wp2
   go_ret3
   exact ⟨rfl,rfl⟩
 . rw [show ldN 240=3 by decide,show XT 240=144 by decide,show XU 240=191 by decide]
   go_enter Tryz.func207,Tryz.ntmps207
   go_wp2
   go_ret3
   exact ⟨rfl,rfl⟩
 . rw [show ldN c=3 by unfold ldN;omega,show XT c=128 by unfold XT;omega,show XU c=191 by unfold XU;omega]
   go_enter Tryz.func207,Tryz.ntmps207
   go_wp2
   go_ret3
   exact ⟨rfl,rfl⟩
 . rw [show ldN 244=3 by decide,show XT 244=128 by decide,show XU 244=143 by decide]
   go_enter Tryz.func207,Tryz.ntmps207
   go_wp2
   go_ret3
   exact ⟨rfl,rfl⟩
 . rw [show ldN c=-1 by unfold ldN;omega,show XT c=0 by unfold XT;omega,show XU c=0 by unfold XU;omega]
   go_enter Tryz.func207,Tryz.ntmps207
   go_wp2
   go_ret3
   exact ⟨rfl,rfl⟩
end Go.Proofs.YtedcmcdbejjgcaaGreat
