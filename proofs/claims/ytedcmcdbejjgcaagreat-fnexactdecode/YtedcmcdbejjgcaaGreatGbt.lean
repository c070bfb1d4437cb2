import Derived.Test.YtedcmcdbejjgcaaGreatGaa
import Derived.Test.YtedcmcdbejjgcaaGreatGbs
import Derived.Test.YtedcmcdbejjgcaaGreatGai
import Derived.Great.BuildSlice
import Derived.Laws.EntriesVeiled
import Derived.Deep.WholeRow
set_option linter.all false
set_option maxHeartbeats 400000000
set_option maxRecDepth 100000
namespace Go.Proofs.YtedcmcdbejjgcaaGreat.Ms
open Go.RowKit Go.Sort
abbrev zB (cap:Nat)(bs:List Int):Bd:=(⟨cap,bs,none,0,0,[],JH,[.slice none 0 0,.slice none 0 0,.slice none 0 0,.slice none 0 0,.slice none 0 0,.slice none 0 0,.slice none 0 0,.bool false,.int .i64 0,.slice none 0 0,.slice none 0 0,.slice none 0 0,.slice none 0 0],.slice none 0 0,0,0,0⟩:Bd)
abbrev zH:List Value:=[.int .u8 0,.int .u8 97,.int .u8 115,.int .u8 109,.int .u8 1,.int .u8 0,.int .u8 0,.int .u8 0]
theorem bR0 (v0:Option Addr)(n c:Nat)(w:World):(Instr.build 52 #[(0,.slice v0 n c)]).run Tryz.prog w=.ok (.agg #[.slice v0 n c,.int .i64 0,.slice none 0 0,.int .i64 0,.int .i64 0,.slice none 0 0,.slice none 0 0,.slice none 0 0,.slice none 0 0,.slice none 0 0,.slice none 0 0,.slice none 0 0,.bool false,.int .i64 0,.slice none 0 0,.slice none 0 0,.slice none 0 0,.slice none 0 0,.slice none 0 0,.int .i64 0,.int .i64 0,.int .i64 0]) w:=run_build w _ _ _ (by kernel_rfl)
attribute [-go_sem] Instr.build
attribute [local go_sem] bR0
theorem MS.unbox {m B w0 s ba bc bs p}{a:List (Nat × List Value)}{w}{x:Nat × List Value}(h:MS m B w0 s ba bc bs p (x::a) w):MS m B w0 s ba bc bs p a w:=by
 obtain ⟨ea,d,rest,L,c,hB,b⟩:=h
 exact ⟨ea,d,rest,L,c,hB,b.unbox⟩
theorem FaD.same {er a B w0 s ba}{bc bd:Bd}{bx w}(h:FaD er a B w0 s ba bc bx w)(k:bc.E=bd.E)(j:bc.fs=bd.fs):FaD er a B w0 s ba bd bx w:=by
 obtain ⟨f,d,l,c,g,b,p,o,n,m⟩:=h
 refine ⟨f,d,l,c,g,b,p,o.trans ?_,n.trans ?_,m⟩
 . unfold Bd.fe Bd.er;rw [k,j]
 . unfold Bd.fa Bd.ea';rw [k,j]
theorem mea_fa {er a B w0}{s n:Nat}{ba bc bx w}(h:FaD er a B w0 s ba bc bx w):mea s n w=0:=by
 obtain ⟨j,g,l,f,k,b,d,o,m,c⟩:=h
 exact mea_no c d
theorem MS.mea {m B w0 s ba bc bs p bx w}{n:Nat}(h:MS m B w0 s ba bc bs p bx w):mea s n w=n+1-p:=by
 obtain ⟨ea,c,rest,L,b,hB,a⟩:=h
 exact mea_ok a
theorem within_inv {α:Type}{rd:List Int->Int->Nat->Rs α}{bs:List Int}{E:Int}{p q:Nat}{v:α}(h:QU rd bs E p=.ok v q):∃ n p1,Jl bs E p=.ok n p1/\rd (bs.take (p1+n.toNat)) (p1+n) p1=.ok v q:=by
 cases hS:Jl bs E p with
 |bad e a=>rw [GK hS] at h;cases h
 |ok n p1 =>
  refine ⟨n,p1,rfl,?_⟩
  unfold QU at h;rw [hS] at h
  simp only [Rs.bind] at h
  cases hR:rd (bs.take (p1+n.toNat)) (p1+n) p1 with
  |bad e a=>rw [hR] at h;simp only at h;split at h<;>(try split at h)<;>cases h
  |ok v' q' =>
   rw [hR] at h
   simp only at h
   split at h
   · split at h<;>cases h
   . cases h;rfl
theorem no_lt {last:Int}{bs:List Int}{p p1:Nat}{k:Int}(h:noM last bs p=.ok k p1):k=0\/last<k:=by
 unfold noM at h
 cases hX:Qx bs p with
 |bad er a=>rw [hX] at h;cases h
 |ok x q =>
  rw [hX] at h
  simp only [Rs.bind] at h
  split at h
  · cases h
  . split at h
    · cases h
    . rename_i c b
      cases h
      by_cases h0:k=0
      . exact .inl h0
      . exact .inr (by have:¬ k<=last:=λh3=>b ⟨h0,h3⟩;omega)
theorem init_sd (d:Option Addr)(cap:Nat)(bs:List Int)(w:World)(hl:bs.length<=1048576)(l:By.Has w d bs)(j:∀ a,d=some a->a.block<w.heap.size) :
    Sd w.heap.size w w.heap.size d (zB cap bs) bs 0 0 0 0 [] L0.flatten (w.alloc (.cells #[.slice d bs.length cap,.int .i64 0,.slice none 0 0,.int .i64 0,.int .i64 0,.slice none 0 0,.slice none 0 0,.slice none 0 0,.slice none 0 0,.slice none 0 0,.slice none 0 0,.slice none 0 0,.bool false,.int .i64 0,.slice none 0 0,.slice none 0 0,.slice none 0 0,.slice none 0 0,.slice none 0 0,.int .i64 0,.int .i64 0,.int .i64 0] 52)):=by
 have f:Below w.heap.size w (w.alloc (.cells #[.slice d bs.length cap,.int .i64 0,.slice none 0 0,.int .i64 0,.int .i64 0,.slice none 0 0,.slice none 0 0,.slice none 0 0,.slice none 0 0,.slice none 0 0,.slice none 0 0,.slice none 0 0,.bool false,.int .i64 0,.slice none 0 0,.slice none 0 0,.slice none 0 0,.slice none 0 0,.slice none 0 0,.int .i64 0,.int .i64 0,.int .i64 0] 52)):=bF.alloc lR _;have C:∀ i u,([.slice d bs.length cap,.int .i64 0,.slice none 0 0,.int .i64 0,.int .i64 0,.slice none 0 0,.slice none 0 0,.slice none 0 0,.slice none 0 0,.slice none 0 0,.slice none 0 0,.slice none 0 0,.bool false,.int .i64 0,.slice none 0 0,.slice none 0 0,.slice none 0 0,.slice none 0 0,.slice none 0 0,.int .i64 0,.int .i64 0,.int .i64 0]:List Value)[i]?=some u->(w.alloc (.cells #[.slice d bs.length cap,.int .i64 0,.slice none 0 0,.int .i64 0,.int .i64 0,.slice none 0 0,.slice none 0 0,.slice none 0 0,.slice none 0 0,.slice none 0 0,.slice none 0 0,.slice none 0 0,.bool false,.int .i64 0,.slice none 0 0,.slice none 0 0,.slice none 0 0,.slice none 0 0,.slice none 0 0,.int .i64 0,.int .i64 0,.int .i64 0] 52)).cell? ⟨w.heap.size,i,none⟩=some u:=λi u hu=>Qw rfl (by simpa using hu)
 have g:blk (Jc (.slice none 0 0) 0 []::QS (zB cap bs)::L0.flatten)=[]:=by
  rw [blk,List.filterMap_eq_nil_iff]
  intro r c
  simp only [List.mem_cons] at c
  rcases c with rfl|rfl|c
  . rfl
  . rfl
  . exact l0_nil r c
 refine ⟨⟨.slice none 0 0,0,[],?_,⟨λr c=>?_,by rw [g];exact List.nodup_nil⟩,λ_=>lR,by rw [g];simp,λx hx=>by cases hx⟩,f,j,lR,λx hx=>(by cases hx),List.nodup_nil⟩
 . refine ⟨C 0 _ rfl,C 1 _ rfl,C 2 _ rfl,C 3 _ rfl,C 4 _ rfl,λi v hv=>?_,C 18 _ rfl,C 19 _ rfl,C 20 _ rfl,C 21 _ rfl,λi=>World.frozen?_alloc_new w _ _ i,l.keep f,j,Nat.zero_le _,l.keep f,?_,(show (0:Int)<=JH by decide),rfl,(by show bs.length<=_;omega),λ_=>(by show (bs.length:Int)<=JH;unfold JH;omega),λk hk=>absurd hk (by show ¬ 0=k+1;omega),(show JH<=9223372036854775807 by decide),λb o e=>(by cases e),(by show 0<=_;omega)⟩
   . refine C (5+i) v ?_
     have m:i<13:=(List.getElem?_eq_some_iff.1 hv).1
     have:([.slice d bs.length cap,.int .i64 0,.slice none 0 0,.int .i64 0,.int .i64 0,.slice none 0 0,.slice none 0 0,.slice none 0 0,.slice none 0 0,.slice none 0 0,.slice none 0 0,.slice none 0 0,.bool false,.int .i64 0,.slice none 0 0,.slice none 0 0,.slice none 0 0,.slice none 0 0,.slice none 0 0,.int .i64 0,.int .i64 0,.int .i64 0]:List Value)[5+i]?=([.slice none 0 0,.slice none 0 0,.slice none 0 0,.slice none 0 0,.slice none 0 0,.slice none 0 0,.slice none 0 0,.bool false,.int .i64 0,.slice none 0 0,.slice none 0 0,.slice none 0 0,.slice none 0 0,.slice none 0 0,.int .i64 0,.int .i64 0,.int .i64 0]:List Value)[i]?:=by
      rw [show 5+i=i+5 by omega];rfl
     rw [this];have n:=List.getElem?_append_left (l₁:=([.slice none 0 0,.slice none 0 0,.slice none 0 0,.slice none 0 0,.slice none 0 0,.slice none 0 0,.slice none 0 0,.bool false,.int .i64 0,.slice none 0 0,.slice none 0 0,.slice none 0 0,.slice none 0 0]:List Value)) (l₂:=[.slice none 0 0,.int .i64 0,.int .i64 0,.int .i64 0]) (i:=i) (by simpa using m)
     exact n.trans hv
   . show bs=bs.take JH.toNat
     rw [List.take_of_length_le (by show bs.length<=9223372036854775807;omega)]
 . simp only [List.mem_cons] at c
   rcases c with rfl|rfl|c
   . exact World.ownsRow_nil _ _ _ _
   . exact World.ownsRow_nil _ _ _ _
   . exact (l0_own _ _).all r c
theorem mag_at:∀ k:Nat,k<8->(zH:List Value)[k]?=some (.int .u8 (headB.getD k 0)):=by
 intro k a
 match k,a with
 |0,_|1,_|2,_|3,_|4,_|5,_|6,_|7,_=>rfl
def RrP (ba:Option Addr)(cap:Nat)(bs:List Int)(w:World)(e:Ending)(w':World):Prop :=
 e=.returned (.pointer (some ⟨w.heap.size,0,none⟩))/\match JM bs with
 |.bad er a=>FaD er a w.heap.size w w.heap.size ba (zB cap bs) [] w'
 |.ok m p=>∃ bc,MS m w.heap.size w w.heap.size ba bc bs p [] w'
theorem RrP.bad {ba}{cap:Nat}{bs:List Int}{w w'}{er a:Int}(h:JM bs=.bad er a)(b:FaD er a w.heap.size w w.heap.size ba (zB cap bs) [(w.heap.size+1,zH)] w'):RrP ba cap bs w (.returned (.pointer (some ⟨w.heap.size,0,none⟩))) w':=by
 refine ⟨rfl,?_⟩
 rw [h];exact b.box
theorem RrP.ok {ba}{cap:Nat}{bs:List Int}{w w'}{m:Mod}{p:Nat}{bc}(h:JM bs=.ok m p)(a:MS m w.heap.size w w.heap.size ba bc bs p [(w.heap.size+1,zH)] w'):RrP ba cap bs w (.returned (.pointer (some ⟨w.heap.size,0,none⟩))) w':=by
 refine ⟨rfl,?_⟩
 rw [h];exact ⟨bc,a.unbox⟩
theorem sread_c (A:Option Addr)(cap:Nat)(bs)(w:World)(hA:Qm bs)(hl:bs.length<=1048576)(hH:By.Has w A bs)(bo:∀ a,A=some a->a.block<w.heap.size) :
    Calls Tryz.prog 22 #[.slice A bs.length cap] w (RrP A cap bs w):=by
 have h0:=init_sd A cap bs w hl hH bo;have Y:=h0.box (t:=5) (xs:=zH);rw [show (w.alloc (.cells #[.slice A bs.length cap,.int .i64 0,.slice none 0 0,.int .i64 0,.int .i64 0,.slice none 0 0,.slice none 0 0,.slice none 0 0,.slice none 0 0,.slice none 0 0,.slice none 0 0,.slice none 0 0,.bool false,.int .i64 0,.slice none 0 0,.slice none 0 0,.slice none 0 0,.slice none 0 0,.slice none 0 0,.int .i64 0,.int .i64 0,.int .i64 0] 52)).heap.size=w.heap.size+1 by simp] at Y;have H1:=Hm Y;clear h0 Y hH bo
 go_enter Tryz.func22,Tryz.ntmps22
 go_wp2_with fail
 go_loopw [5] (λiv wr=>∃ (k:Nat),iv=.int .i64 (k:Int)/\k<=8/\((hdG bs 8 0=hdG bs (8-k) k/\Sd w.heap.size w w.heap.size A (zB cap bs) bs k 0 0 0 [(w.heap.size+1,zH)] L0.flatten wr)\/(∃ er a q,er≠0/\hdG bs 8 0=.bad er a/\Sd w.heap.size w w.heap.size A (zB cap bs) bs q er a 0 [(w.heap.size+1,zH)] L0.flatten wr))) (λi _=>8-(intOf i).toNat)
 case atStart=>exact ⟨0,rfl,Nat.zero_le _,.inl ⟨rfl,H1.o⟩⟩
 case round =>
  obtain ⟨k,rfl,c8,b5⟩:=hrel;clear H1
  rcases b5 with ⟨C,g⟩|⟨er,a,q,O,C,g⟩
  . have aa:=g.c3;have HM:=Hm C;clear C
    by_cases H:k<8
    . have bg:(k:Int)<8:=by omega
      have KD:=Hm (byteD g (by omega));obtain ⟨hb,aq⟩:∃ hb,headB.getD k 0=hb:=⟨_,rfl⟩;have bx:Hid ((zH:List Value)[k]?=some (.int .u8 hb)):=by show _=_;rw [<- aq];exact mag_at k H
      rcases hX:Qx bs k with ⟨er,a⟩|⟨x,k1⟩
      . rw [hX] at KD;have O:=Xg bs k er a hX
        have aw:Hid (hdG bs 8 0=.bad er a):=by
         show _=_
         rw [HM.o,show 8-k=(7-k)+1 by omega];simp only [hdG,hX,Rs.bind]
        clear hX g
        go_wp2_with (go_at_call 73;refine (KD.o).mono ?_;rintro e w2 ⟨u,q',rfl,rfl,d⟩;obtain ⟨zz,M,F,e3⟩:=d.c3n O;have H2:=Hm d;clear d KD)
        go_roundw
        case rel=>exact ⟨k+1,by go_num,by omega,.inr ⟨er,a,_,O,aw.o,H2.o⟩⟩
        case measure=>simp [intOf];omega
      . rw [hX] at KD;have ca:=XJ hX;subst ca
        have B:Hid (hdG bs 8 0=if x=hb then hdG bs (8-(k+1)) (k+1) else .bad 3 ((k+1:Nat):Int)):=by
         show _=_
         rw [HM.o,show 8-k=(8-(k+1))+1 by omega];simp only [hdG,hX,Rs.bind,aq]
        clear hX g aq
        by_cases v:x=hb
        . have a5:(x != hb)=false:=by simpa using v
          have ci:Hid (hdG bs 8 0=hdG bs (8-(k+1)) (k+1)):=by show _=_;rw [B.o,if_pos v]
          clear v B
          go_wp2_with (go_at_call 73;refine (KD.o).mono ?_;rintro e w2 ⟨rfl,d⟩;have e3:=d.c3;have eg:=d.b0.2.1 k _ bx.o;have H2:=Hm d;clear d KD)
          go_roundw
          case rel=>exact ⟨k+1,by go_num,by omega,.inl ⟨ci.o,H2.o⟩⟩
          case measure=>simp [intOf];omega
        . have a5:(x != hb)=true:=by simpa using v
          have aw:Hid (hdG bs 8 0=.bad 3 ((k+1:Nat):Int)):=by show _=_;rw [B.o,if_neg v]
          have KF:=Hm (λV (hV:Sd w.heap.size w w.heap.size A (zB cap bs) bs (k+1) 0 0 0 [(w.heap.size+1,zH)] L0.flatten V)=>Gv 3 ((k+1:Nat):Int) hV (by decide));clear v B
          go_wp2_with (first
           |(go_at_call 73;refine (KD.o).mono ?_;rintro e w2 ⟨rfl,d⟩;have e3:=d.c3;have e1:=d.c1;have eg:=d.b0.2.1 k _ bx.o;have H2:=Hm d;clear d KD)
           | (go_at_call 74;refine (KF.o _ H2.o).mono ?_;rintro e w3 ⟨rfl,bc⟩;have H3:=Hm bc;clear bc))
          go_roundw
          case rel=>exact ⟨k+1,by go_num,by omega,.inr ⟨3,_,_,by decide,aw.o,H3.o⟩⟩
          case measure=>simp [intOf];omega
    . have hk:k=8:=by omega
      have bg:¬ (k:Int)<8:=by omega
      have b9:decide ((k:Int)<8)=false:=decide_eq_false bg;have bw:Hid (JM bs=Gq bs (bs.length+1) Mod.z 0 0 8):=by show _=_;unfold JM;rw [HM.o,hk];rfl
      have ao:=g;rw [hk] at ao;have H2:=Hm (ao.more (K':=4*8) (λ_=>by omega));clear g ao HM hk H
      go_wp2_with fail
      go_loopw [] (λwr=>(∃ (f:Nat) (m:Mod) (b:Bd) (q:Nat),b.en=0/\b.E=JH/\b.fs=bs/\0<=b.last/\b.last<=11/\JM bs=Gq bs f m b.last b.full q/\bs.length+1<=f+q/\Em m b.last/\MS m w.heap.size w w.heap.size A b bs q [(w.heap.size+1,zH)] wr)\/(∃ er a,JM bs=.bad er a/\FaD er a w.heap.size w w.heap.size A (zB cap bs) [(w.heap.size+1,zH)] wr)) (λwr=>mea w.heap.size bs.length wr)
      case atStart =>
       exact .inl ⟨bs.length+1,Mod.z,(zB cap bs),8,rfl,rfl,rfl,(show (0:Int)<=0 by decide),(show (0:Int)<=11 by decide),bw.o,by omega,⟨λ_=>rfl,λ_=>rfl,λ_=>rfl,λ_=>rfl,λe=>absurd e (show ¬ (0:Int)=10 by decide),λx hx=>(by cases hx)⟩,none,0,[.slice none 0 0,.slice none 0 0,.slice none 0 0,.slice none 0 0,.slice none 0 0,.slice none 0 0,.slice none 0 0,.bool false,.int .i64 0,.slice none 0 0,.slice none 0 0,.slice none 0 0,.slice none 0 0],L0,mr_zero [],⟨Nat.zero_le _,Nat.zero_le _,Nat.zero_le _,Nat.zero_le _,Nat.zero_le _,Nat.zero_le _,Nat.zero_le _,Nat.zero_le _,Nat.zero_le _,Nat.zero_le _,Nat.zero_le _⟩,H2.o⟩
      case round =>
       clear H2 bw
       rcases hrel with ⟨f,m,b,q,bk,hE,G,b8,b7,C,hf,ag,ap⟩|⟨er,a,C,j⟩
       . obtain ⟨aa,cz⟩:=ap.sd;have bz:Hid (mea w.heap.size bs.length wr=bs.length+1-q):=ap.mea;obtain ⟨ea,ec,rest,L,X,hB,g⟩:=ap;have c1:=g.c1;have ax:Hid (MS m w.heap.size w w.heap.size A b bs q [(w.heap.size+1,zH)] wr):=⟨ea,ec,rest,L,X,hB,g⟩;have HM:=Hm C;have az:=Hm ag
         by_cases H:q<bs.length
         . have bf:(q:Int)<(bs.length:Int):=by omega
           have KS:=Hm (sectS m L g X hB bk hE G.symm (by show Qm b.fs;rw [G];exact hA) (by show b.fs.length<=_;rw [G];exact hl) b8 b7 ag);clear g C ag
           go_wp2_with fail
           refine (KS.o).mono ?_
           rintro e w2 ⟨rfl,y⟩;have cj:=Hm y;clear y KS
           go_wp2_with fail
           obtain ⟨f',rfl⟩:∃ f',f=f'+1:=⟨f-1,by omega⟩
           have HG:JM bs=((noM b.last bs q).bind λk p1=>(QU (Jk k b.full m) bs JH p1).bind λm' p2=>Gq bs f' m' (if k=0 then b.last else k) (if k≠0/\Gi m' k then k else b.full) p2):=by
            rw [HM.o];simp only [Gq,if_pos H]
           have a4:((∃ (f:Nat) (m:Mod) (b:Bd) (q:Nat),b.en=0/\b.E=JH/\b.fs=bs/\0<=b.last/\b.last<=11/\JM bs=Gq bs f m b.last b.full q/\bs.length+1<=f+q/\Em m b.last/\MS m w.heap.size w w.heap.size A b bs q [(w.heap.size+1,zH)] w2)\/(∃ er a,JM bs=.bad er a/\FaD er a w.heap.size w w.heap.size A (zB cap bs) [(w.heap.size+1,zH)] w2))/\mea w.heap.size bs.length w2<bs.length+1-q:=by
            have y:=cj.o
            cases hn:noM b.last bs q with
            |bad er a =>
             rw [show ((noM ({ b with ea:=ea,ec:=ec,rest:=rest }:Bd).last bs q).bind λk p1=>(QU (Jk k ({ b with ea:=ea,ec:=ec,rest:=rest }:Bd).full m) bs JH p1).bind λm' p2=>Rs.ok (k,m') p2)=.bad er a by show ((noM b.last bs q).bind _)=_;rw [hn];rfl] at y;have S:=FaD.same (bd:=(zB cap bs)) y hE G
             exact ⟨.inr ⟨er,a,by rw [HG,hn];rfl,S⟩,by rw [mea_fa S];omega⟩
            |ok x p1 =>
             have v:=noM_bd hA hn;have c6:=nx_no _ _ _ x p1 hn
             cases hw:QU (Jk x b.full m) bs JH p1 with
             |bad er a =>
              rw [show ((noM ({ b with ea:=ea,ec:=ec,rest:=rest }:Bd).last bs q).bind λk p1=>(QU (Jk k ({ b with ea:=ea,ec:=ec,rest:=rest }:Bd).full m) bs JH p1).bind λm' p2=>Rs.ok (k,m') p2)=.bad er a by show ((noM b.last bs q).bind _)=_;rw [hn];simp only [Rs.bind];rw [hw]] at y;have S:=FaD.same (bd:=(zB cap bs)) y hE G
              exact ⟨.inr ⟨er,a,by rw [HG,hn];simp only [Rs.bind];rw [hw],S⟩,by rw [mea_fa S];omega⟩
             |ok m' p2 =>
              rw [show ((noM ({ b with ea:=ea,ec:=ec,rest:=rest }:Bd).last bs q).bind λk p1=>(QU (Jk k ({ b with ea:=ea,ec:=ec,rest:=rest }:Bd).full m) bs JH p1).bind λm' p2=>Rs.ok (k,m') p2)=.ok (x,m') p2 by show ((noM b.last bs q).bind _)=_;rw [hn];simp only [Rs.bind];rw [hw]] at y;obtain ⟨n,p3,b4,bb⟩:=within_inv hw;have c4:=Of _ _ _ n p3 b4;have c5:=up_sec _ _ _ _ _ _ m' p2 bb;have R:MS m' w.heap.size w w.heap.size A { b with sec:=x,last:=(if x=0 then b.last else x),full:=(if x≠0/\Gi m' x then x else b.full) } bs p2 [(w.heap.size+1,zH)] w2:=y;have b6:x=0\/b.last<x:=no_lt hn;have bm:=sec_em (Qm.take hA _) v.1 v.2 b6 az.o bb
              refine ⟨.inl ⟨f',m',{ b with sec:=x,last:=(if x=0 then b.last else x),full:=(if x≠0/\Gi m' x then x else b.full) },p2,bk,hE,G,?_,?_,by rw [HG,hn];simp only [Rs.bind];rw [hw],by omega,bm,R⟩,by rw [R.mea];have:=R.sd.2;omega⟩
              . show 0<=(if x=0 then b.last else x);split<;>omega
              . show (if x=0 then b.last else x)<=11;split<;>omega
           have ai:=Hm a4;clear a4 HG
           go_roundw
           case rel=>exact ai.o.1
           case measure=>rw [bz.o];exact ai.o.2
         . have af:q=bs.length:=by omega
           have bf:¬ (q:Int)<(bs.length:Int):=by omega
           have c2:decide ((q:Int)<(bs.length:Int))=false:=decide_eq_false bf
           have HG:Hid (JM bs=if m.codes.length≠m.funcs.length then .bad 11 (bs.length:Int) else .ok m bs.length):=by
            show _=_
            obtain ⟨f',rfl⟩:∃ f',f=f'+1:=⟨f-1,by omega⟩;rw [HM.o];simp only [Gq];rw [if_neg (by omega),af]
           have c20:wr.cell? ⟨w.heap.size,20,none⟩=some (.int .i64 b.last):=g.c20;obtain ⟨vf,cf,kf,a9,bq,-⟩:=X.funcs;obtain ⟨fa,fc,a8⟩:∃ a c,vf=.slice a m.funcs.length c:=Qc.Ok.slice (g.row (r:=⟨2,1,m.funcs.length,vf,cf⟩) (List.mem_flatten.2 ⟨_,List.mem_of_getElem? bq,mS⟩));obtain ⟨vk,ck,kk,a7,bp,-⟩:=X.codes;obtain ⟨ka,kc,a6⟩:∃ a c,vk=.slice a m.codes.length c:=Qc.Ok.slice (g.row (r:=⟨83,2,m.codes.length,vk,ck⟩) (List.mem_flatten.2 ⟨_,List.mem_of_getElem? bp,mS⟩));subst a8 a6;have m7:wr.cell? ⟨w.heap.size,7,none⟩=some (.slice fa m.funcs.length fc):=g.cm (i:=2) a9;have cw:wr.cell? ⟨w.heap.size,15,none⟩=some (.slice ka m.codes.length kc):=g.cm (i:=10) a7;have c7:=hB.funcs;have cp:=hB.codes;have KF:=Hm (λn=>Gv 11 (bs.length:Int) (g.drewN n) (by decide));have cg:=Hm (Gv 11 (bs.length:Int) g (by decide));have b2:Hid (∀ V q' D l,Sd w.heap.size w w.heap.size A l bs q' 11 (bs.length:Int) (4*q) [(w.heap.size+1,zH)] D V->l.E=JH->l.fs=bs->FaD 11 (bs.length:Int) w.heap.size w w.heap.size A (zB cap bs) [(w.heap.size+1,zH)] V):=λV q' D l hV Y h2=>FaD.same (FaD.of hV (by decide)) Y h2;clear g X hB a9 a7 bq bp C ag H bz
           by_cases bv:b.last<10
           . have bn:m.codes.length=0:=by rw [az.o.c10 bv];rfl
             have J:(b.last==11)=false:=by simp;omega
             by_cases bj:(0:Int)<(m.funcs.length:Int)
             . have a0:Hid (JM bs=.bad 11 (bs.length:Int)):=by show _=_;rw [HG.o,if_pos (by omega)]
               have bh:(m.funcs.length:Int) > 0:=bj;clear bn
               go_wp2_with fail
               refine (cg.o).mono ?_
               rintro e w5 ⟨rfl,I⟩;obtain ⟨zz,M,F,e3⟩:=I.c3n (by decide);have H5:=Hm I;clear I
               go_wp2_with fail
               go_quiet (fail)
               go_wp2_with fail
               go_ret
               exact RrP.bad a0.o (b2.o _ _ _ _ (H5.o.keep ⟨rfl,rfl,rfl,lR,λ_ _=>rfl⟩) hE G)
             . have ad:Hid (JM bs=.ok m bs.length):=by show _=_;rw [HG.o,if_neg (by omega)]
               have bh:¬ (m.funcs.length:Int) > 0:=bj;subst af;clear bn
               go_wp2_with fail
               go_quiet (fail)
               go_wp2_with fail
               go_ret
               exact RrP.ok ad.o (by
                obtain ⟨ea,ec,rest,L,X,hB,g⟩:=ax.o
                exact ⟨ea,ec,rest,L,X,hB,g.keep ⟨rfl,rfl,rfl,lR,fun _ _=>rfl⟩⟩)
           . have cr:decide (b.last<10)=false:=decide_eq_false bv
             by_cases J:b.last=11
             . have bu:(b.last==11)=true:=by simpa using J
               by_cases U:m.codes.length=m.funcs.length
               . have ad:Hid (JM bs=.ok m bs.length):=by show _=_;rw [HG.o,if_neg (λh=>h U)]
                 have cc:((m.codes.length:Int) != (m.funcs.length:Int))=false:=by rw [U];simp
                 subst af;clear U J
                 go_wp2_with fail
                 go_quiet (fail)
                 go_wp2_with fail
                 go_ret
                 exact RrP.ok ad.o (by
                  obtain ⟨ea,ec,rest,L,X,hB,g⟩:=ax.o
                  exact ⟨ea,ec,rest,L,X,hB,g.keep ⟨rfl,rfl,rfl,lR,fun _ _=>rfl⟩⟩)
               . have a0:Hid (JM bs=.bad 11 (bs.length:Int)):=by show _=_;rw [HG.o,if_pos U]
                 have cc:((m.codes.length:Int) != (m.funcs.length:Int))=true:=by simp only [bne_iff_ne,ne_eq];omega
                 clear U J
                 go_wp2_with fail
                 go_quiet (fail)
                 go_wp2_with fail
                 refine (KF.o _).mono ?_
                 rintro e w5 ⟨rfl,I⟩;have H5:=Hm I;clear I
                 go_wp2_with fail
                 go_ret
                 exact RrP.bad a0.o (b2.o _ _ _ _ (H5.o.keep ⟨rfl,rfl,rfl,lR,λ_ _=>rfl⟩) hE G)
             . have bu:(b.last==11)=false:=by simpa using J
               have ad:Hid (JM bs=.ok m bs.length):=by show _=_;rw [HG.o,if_neg (λh=>h (az.o.cf (by omega)))]
               subst af;clear J
               go_wp2_with fail
               go_quiet (fail)
               go_wp2_with fail
               go_ret
               exact RrP.ok ad.o (by
                obtain ⟨ea,ec,rest,L,X,hB,g⟩:=ax.o
                exact ⟨ea,ec,rest,L,X,hB,g.keep ⟨rfl,rfl,rfl,lR,fun _ _=>rfl⟩⟩)
       . obtain ⟨zz,M,F,aa⟩:=j.c3;have p:=Hm C;have s:=Hm j;clear C j
         go_wp2_with fail
         go_quiet (fail)
         go_wp2_with fail
         go_ret
         exact RrP.bad p.o (by
          obtain ⟨l,ab,p',Z,ac,D,Y,h2,h3,h4⟩:=s.o
          exact ⟨l,ab,p',Z,ac,D,Y,h2,h3,h4.keep ⟨rfl,rfl,rfl,lR,fun _ _=>rfl⟩⟩)
  . obtain ⟨zz,M,F,aa⟩:=g.c3n O;have p:Hid (JM bs=.bad er a):=by show _=_;unfold JM;rw [C];rfl
    have s:=Hm (FaD.of g O);clear C g
    by_cases H:(k:Int)<8
    . skip
      go_wp2_with fail
      go_loopw [] (λwr=>∃ er a,JM bs=.bad er a/\FaD er a w.heap.size w w.heap.size A (zB cap bs) [(w.heap.size+1,zH)] wr) (λ_=>0)
      case atStart=>exact ⟨_,_,p.o,s.o⟩
      case round =>
       obtain ⟨er,a,C,j⟩:=hrel;clear p s;obtain ⟨zz,M,F,aa⟩:=j.c3;have p:=Hm C;have s:=Hm j;clear C j
       go_wp2_with fail
       go_quiet (fail)
       go_wp2_with fail
       go_ret
       exact RrP.bad p.o (by
        obtain ⟨l,ab,p',Z,ac,D,Y,h2,h3,h4⟩:=s.o
        exact ⟨l,ab,p',Z,ac,D,Y,h2,h3,h4.keep ⟨rfl,rfl,rfl,lR,fun _ _=>rfl⟩⟩)
    . have b9:decide ((k:Int)<8)=false:=decide_eq_false H
      go_wp2_with fail
      go_loopw [] (λwr=>∃ er a,JM bs=.bad er a/\FaD er a w.heap.size w w.heap.size A (zB cap bs) [(w.heap.size+1,zH)] wr) (λ_=>0)
      case atStart=>exact ⟨_,_,p.o,s.o⟩
      case round =>
       obtain ⟨er,a,C,j⟩:=hrel;clear p s;obtain ⟨zz,M,F,aa⟩:=j.c3;have p:=Hm C;have s:=Hm j;clear C j
       go_wp2_with fail
       go_quiet (fail)
       go_wp2_with fail
       go_ret
       exact RrP.bad p.o (by
        obtain ⟨l,ab,p',Z,ac,D,Y,h2,h3,h4⟩:=s.o
        exact ⟨l,ab,p',Z,ac,D,Y,h2,h3,h4.keep ⟨rfl,rfl,rfl,lR,fun _ _=>rfl⟩⟩)
end Go.Proofs.YtedcmcdbejjgcaaGreat.Ms
namespace Go.Proofs.YtedcmcdbejjgcaaGreat.Ms
open Go.RowKit Go.Sort
attribute [-go_sem] Instr.build
attribute [local go_sem] bD1 bD2 bD3
theorem Rp.no_slot {ops:List Oper}{n s:Nat}(h:((List.range n).all λi=>!(Rp.QA ops i==some s))=true){i:Nat}(a:i<n):Rp.QA ops i≠some s:=λe=>by
 rw [List.all_eq_true] at h
 have:=h i (List.mem_range.2 a)
 rw [e] at this
 simp at this
theorem store_row {P:Program}{a:Act}{o:Oper}{W:World}{d t:TypeId}{x y:Operand}{g:Nat}{cells b:Array Value}(m:o.guard=none)(k:o.op=.store d x y)(j:a.eval x=.pointer (some ⟨g,0,none⟩))(f:a.eval y=.agg cells)(hg:W.heap[g]?=some (.cells b t (0,0)))(l:(P.info? d).map (·.size)=some cells.size)(c:b.size=cells.size)(h1:cells.all (·.oneCell')=true):(execOp a.eval o).run P W=.ok .skip (W.setRow g cells):=by
 unfold execOp
 simp only [k,j,f,Instr.storeAt,Instr.sureAddr,Sem.run_bind,Sem.run_pure,Result.andThen_ok,run_storeVar_row W g t d b cells hg l c h1]
theorem sdec_long (B:Option Addr)(cap:Nat)(bs:List Int)(w:World)(A:65536<bs.length) :
    Calls Tryz.prog 7 #[.slice B bs.length cap] w (DeP (XG bs) w):=by
 have y:(65536:Int)<(bs.length:Int):=by omega
 have C:Hid (XG bs=⟨1,0,Mod.z⟩):=by show _=_;unfold XG;rw [if_pos A]
 have j:=heap_new w (.cells (zE 0 0).toArray 36)
 go_enter Tryz.func7,Tryz.ntmps7
 go_wp2_with (refine wpList_store_rowTo rfl 36 (.tmp 2) (.tmp 7) rfl rfl w.heap.size (zE 1 0).toArray (by simp [Act.eval]) (by simp [Act.eval]) 36 (zE 0 0).toArray j sizeD rfl (by simp [Value.oneCell']) ?_)
 refine GZ (λV=>V.heap[w.heap.size]?=some (.cells (zE 1 0).toArray 36)/\Below w.heap.size w V) ⟨setRow_heap _ _ _ _ _ _ j,Gg (bF.alloc lR _) lR _⟩ ?_
 rintro V ⟨a,hB⟩;have u:=Qj a 0 _ rfl;have t:=Qj a 1 _ rfl;have s:=Qj a 2 _ rfl;have r:=Qj a 3 _ rfl;have q:=Qj a 4 _ rfl;have p:=Qj a 5 _ rfl;have n:=Qj a 6 _ rfl;have m:=Qj a 7 _ rfl;have l:=Qj a 8 _ rfl;have k:=Qj a 9 _ rfl;have g:=Qj a 10 _ rfl;have f:=Qj a 11 _ rfl;have d:=Qj a 12 _ rfl;have c:=Qj a 13 _ rfl;have b:=Qj a 14 _ rfl;have D:=Hm hB;clear a hB j
 exact bodyPost_ret (v:=.agg (zE 1 0).toArray) (by simp [results,Tryz.results7,go_sem,u,t,s,r,q,p,n,m,l,k,g,f,d,c,b]) rfl (by rw [C.o];exact DeP.bad 1 0 D.o)
theorem sdec_short (ba:Option Addr)(cap:Nat)(bs)(w:World)(hA:Qm bs)(hH:By.Has w ba bs)(bt:∀ a,ba=some a->a.block<w.heap.size)(hb:bs.length<=65536) :
    Calls Tryz.prog 7 #[.slice ba bs.length cap] w (DeP (XG bs) w):=by
 have eu:¬ (65536:Int)<(bs.length:Int):=by omega
 obtain ⟨W,hW⟩:∃ W,W=w.alloc (.cells (zE 0 0).toArray 36):=⟨_,rfl⟩;have ak:Below w.heap.size w W:=by rw [hW];exact bF.alloc lR _
 have c5:W.heap.size=w.heap.size+1:=by rw [hW];simp
 have hZ:W.heap[w.heap.size]?=some (.cells (zE 0 0).toArray 36):=by rw [hW];exact heap_new w _
 have K:=Hm (sread_c ba cap bs W hA (by omega) (hH.keep ak) (λa ha=>by have:=bt a ha;omega));obtain ⟨s,bp⟩:∃ s,s=W.heap.size:=⟨_,rfl⟩;have dh:=Hm bp;have HW:=Hm hW;have ci:=Hm ak;have HZ:=Hm hZ;have bo:w.heap.size<s:=by omega
 have ai:=nz_mod bs;have av:Hid (∀ er a,JM bs=.bad er a->XG bs=⟨er,a,Mod.z⟩):=λer a h=>by unfold XG;rw [if_neg (by omega),h]
 have au:Hid (∀ m p,JM bs=.ok m p->XG bs=⟨0,0,m⟩):=λm p h=>by unfold XG;rw [if_neg (by omega),h]
 have I:Hid (∀ er a,JM bs=.bad er a->(zB cap bs).fe er=er/\(zB cap bs).fa er a=a):=λer a h=>by
  unfold Bd.fe Bd.fa Bd.er Bd.ea'
  by_cases h2:er=2
  . subst h2
    have:=e2_mod bs a h
    subst this;rw [if_pos rfl,if_pos rfl,if_neg (by show ¬ JH<(bs.length:Int);unfold JH;omega),if_neg (by show ¬ JH<(bs.length:Int);unfold JH;omega)]
    exact ⟨rfl,rfl⟩
  . rw [if_neg h2,if_neg h2];exact ⟨rfl,rfl⟩
 clear hW ak hZ hH bt hA c5 bp
 go_enter Tryz.func7,Tryz.ntmps7
 go_wp2_with fail
 rw [<- HW.o]
 refine (K.o).mono ?_
 rintro e w2 ⟨he,hm⟩;rw [<- dh.o] at he hm;subst he;clear K
 rcases hM:JM bs with ⟨er,at_⟩|⟨m,p1⟩
 . rw [hM] at hm;obtain ⟨X,fk,p',U,b9,eo,h1,h2,h3,h4⟩:=hm;have bq:=ai er at_ hM;have dt:(er != 0)=true:=by simpa using bq
   obtain ⟨bn,bm⟩:=I.o er at_ hM
   have O:w2.cell? ⟨s,3,none⟩=some (.int .i64 er):=by
    obtain ⟨v,n,cs,hr,_⟩:=h4.ex
    have:=hr.d3
    rw [show ({ X with ev:=v }:Bd).fe U=er from (show X.fe U=er from h2.trans bn)] at this
    exact this
   have M:w2.cell? ⟨s,4,none⟩=some (.int .i64 at_):=by
    obtain ⟨v,n,cs,hr,_⟩:=h4.ex
    have:=hr.d4
    rw [show ({ X with ev:=v }:Bd).fa U b9=at_ from (show X.fa U b9=at_ from h3.trans bm)] at this
    exact this
   have t:Below s W w2:=h4.b;have ar:=Hm (av.o er at_ hM);have u:w2.heap[w.heap.size]?=some (.cells (zE 0 0).toArray 36):=(t.block w.heap.size bo).trans HZ.o;have Y:Hid (Below w.heap.size w w2):=ci.o.trans (t.mono (by omega));clear h1 h2 h3 h4 hM ai av au bq I t bn bm
   go_upto_region 5 with fail
   refine Ql (λV=>(V.cell? ⟨s,3,none⟩=some (.int .i64 er)/\V.cell? ⟨s,4,none⟩=some (.int .i64 at_)/\V.heap[w.heap.size]?=some (.cells (zE 0 0).toArray 36))/\Below w.heap.size w V) ⟨⟨O,M,u⟩,Y.o⟩ ?_
   clear O M u Y;rintro V5 ⟨⟨O,M,aj⟩,b6⟩;have J:=Hm b6;clear b6
   refine Rp.Ji (N:=29) (vs:=[.pointer (some ⟨s,0,none⟩),.pointer (some ⟨s,0,none⟩),.pointer (some ⟨s,3,none⟩),.int .i64 er,.pointer (some ⟨s,0,none⟩),.pointer (some ⟨s,0,none⟩),.pointer (some ⟨s,4,none⟩),.int .i64 at_,undef]) (i1:=0) (i2:=8) (L:=9) (S:=λW=>W.cell? ⟨s,3,none⟩=some (.int .i64 er)/\W.cell? ⟨s,4,none⟩=some (.int .i64 at_)) (A:=λW v=>W=({ V5 with drawn:=V5.drawn+1 }:World)/\v=.agg (zE er at_).toArray) (w2:=({ V5 with drawn:=V5.drawn+1 }:World)) (by kernel_rfl) (by kernel_rfl) (by kernel_rfl) rfl ?_ ?_ ?_ ?_
   . exact ⟨O,M⟩
   . exact ⟨O,M⟩
   . rintro W v ⟨rfl,rfl⟩
     exact ⟨O,M⟩
   . refine Rp.QX.l (by rfl) (λa Kc f hK=>?_) ?_
     . have e3:a.tmps[3]?.getD undef=.pointer (some ⟨s,0,none⟩):=(Rp.ax_sm f 3 (by kernel_rfl)).trans rfl
       refine Rp.JW (.pointer (some ⟨s,0,none⟩)) (Rp.Qe rfl) ?_ hK
       clear f hK
       go_simp
       try rfl
     refine Rp.v1 0 rfl (by kernel_rfl) rfl rfl rfl rfl (λa W _ e=>by go_simp;try rfl) ?_
     refine Rp.v1 1 rfl (by kernel_rfl) rfl rfl rfl rfl (λa W _ e=>by go_simp;try rfl) ?_
     refine Rp.v1 2 rfl (by kernel_rfl) rfl rfl rfl rfl (λa W hS e=>by obtain ⟨O,M⟩:=hS;go_simp;try rfl) ?_
     refine Rp.v0 3 (.pointer (some ⟨s,0,none⟩)) (by kernel_rfl) rfl rfl rfl (λa W _ e=>by go_simp;try rfl) ?_
     refine Rp.v1 4 rfl (by kernel_rfl) rfl rfl rfl rfl (λa W _ e=>by go_simp;try rfl) ?_
     refine Rp.v1 5 rfl (by kernel_rfl) rfl rfl rfl rfl (λa W _ e=>by go_simp;try rfl) ?_
     refine Rp.v1 6 rfl (by kernel_rfl) rfl rfl rfl rfl (λa W hS e=>by obtain ⟨O,M⟩:=hS;go_simp;try rfl) ?_
     refine Rp.QX.a (by rfl) (λa Kc f hK=>?_) ?_
     . have ez:=Rp.Jb f 3 3 18 _ (by kernel_rfl) rfl rfl;have ey:=Rp.Jb f 3 7 22 _ (by kernel_rfl) rfl rfl
       refine Rp.JW (.agg (zE er at_).toArray) (Rp.Qe rfl) ?_ (hK _ _ ⟨rfl,rfl⟩)
       clear f hK
       go_simp
       try rfl
     refine Rp.QX.e (by rfl) (λa W Kc f hK=>?_) Rp.QX.nil
     . have hA:=Rp.XF f 23 (by kernel_rfl);obtain ⟨v3,R⟩:∃ v3,a.eval (.tmp 23)=v3:=⟨_,rfl⟩;rw [R] at hA;obtain ⟨rfl,rfl⟩:=hA;have e2:a.tmps[2]?.getD undef=.pointer (some ⟨w.heap.size,0,none⟩):=(Rp.QW a 2).symm.trans ((f.sm 2 (by intro i hi;exact Rp.no_slot (by kernel_rfl) hi)).trans rfl);have b8:a.tmps[23]?.getD undef=(.agg (zE er at_).toArray):=(Rp.QW a 23).symm.trans R;have ea:=Rp.Xs f rfl R (by kernel_rfl) rfl
       simp only [Rp.Oe,List.set,Nat.reduceAdd] at ea
       refine Rp.JL (Rp.Qe rfl) (W':=({ V5 with drawn:=V5.drawn+1 }:World).setRow w.heap.size (zE er at_).toArray) ?hst (hK undef _ ?hen)
       case hst =>
        clear f hK ea
        exact store_row (x:=.tmp 2) (y:=.tmp 23) (cells:=(zE er at_).toArray) rfl rfl (by simp [Act.eval,e2]) (by simp [Act.eval,b8]) aj sizeD rfl (by simp [Value.oneCell'])
       case hen =>
        clear f hK b8;clear R;subst ea;clear O M
        go_wp2_with fail
        refine GZ (λV=>V.heap[w.heap.size]?=some (.cells (zE er at_).toArray 36)/\Below w.heap.size w V) ⟨setRow_heap _ _ _ _ _ _ aj,Gg (show Below w.heap.size w ({ V5 with drawn:=V5.drawn+1 }:World) from ⟨J.o.os,J.o.tape,J.o.output,J.o.size,J.o.block⟩) lR _⟩ ?_
        rintro V ⟨d,hB⟩;have t0:=Qj d 0 _ rfl;have t1:=Qj d 1 _ rfl;have t2:=Qj d 2 _ rfl;have t3:=Qj d 3 _ rfl;have t4:=Qj d 4 _ rfl;have t5:=Qj d 5 _ rfl;have t6:=Qj d 6 _ rfl;have t7:=Qj d 7 _ rfl;have t8:=Qj d 8 _ rfl;have t9:=Qj d 9 _ rfl;have ah:=Qj d 10 _ rfl;have ag:=Qj d 11 _ rfl;have af:=Qj d 12 _ rfl;have ae:=Qj d 13 _ rfl;have ad:=Qj d 14 _ rfl;have HB:=Hm hB;clear d hB aj
        exact bodyPost_ret (v:=.agg (zE er at_).toArray) (by simp [results,Tryz.results7,go_sem,t0,t1,t2,t3,t4,t5,t6,t7,t8,t9,ah,ag,af,ae,ad]) rfl (by rw [ar.o];exact DeP.bad er at_ HB.o)
 . rw [hM] at hm;obtain ⟨bc,ea,ec,rest,L,g,c6,j⟩:=hm;have t:Below s W w2:=j.b;have ar:=Hm (au.o m p1 hM);have q:=Hm g;have dg:=j.c3;have u:w2.heap[w.heap.size]?=some (.cells (zE 0 0).toArray 36):=(t.block w.heap.size bo).trans HZ.o;have Y:Hid (Below w.heap.size w w2):=ci.o.trans (t.mono (by omega))
   have E:Own s w2 L.flatten:=by
    obtain ⟨v,n,cs,hr,ho,_⟩:=j.ex
    exact (ho.tail).tail
   obtain ⟨v0,x0,y0,e0,b5,_⟩:=g.types;obtain ⟨a0,n0,rfl⟩:∃ a c,v0=.slice a m.types.length c:=Qc.Ok.slice (j.row (r:=⟨92,2,m.types.length,v0,x0⟩) (List.mem_flatten.2 ⟨_,List.mem_of_getElem? b5,mS⟩));have d0:w2.cell? ⟨s,5,none⟩=some (.slice a0 m.types.length n0):=j.cm (i:=0) e0;obtain ⟨v1,x1,y1,e1,b4,_⟩:=g.imps;obtain ⟨a1,n1,rfl⟩:∃ a c,v1=.slice a m.imps.length c:=Qc.Ok.slice (j.row (r:=⟨100,9,m.imps.length,v1,x1⟩) (List.mem_flatten.2 ⟨_,List.mem_of_getElem? b4,mS⟩));have d1:w2.cell? ⟨s,6,none⟩=some (.slice a1 m.imps.length n1):=j.cm (i:=1) e1;obtain ⟨v2,x2,y2,e2,b3,_⟩:=g.funcs;obtain ⟨a2,n2,rfl⟩:∃ a c,v2=.slice a m.funcs.length c:=Qc.Ok.slice (j.row (r:=⟨2,1,m.funcs.length,v2,x2⟩) (List.mem_flatten.2 ⟨_,List.mem_of_getElem? b3,mS⟩));have d2:w2.cell? ⟨s,7,none⟩=some (.slice a2 m.funcs.length n2):=j.cm (i:=2) e2;obtain ⟨v3,x3,y3,e3,b2,_⟩:=g.tabs;obtain ⟨a3,n3,rfl⟩:∃ a c,v3=.slice a m.tabs.length c:=Qc.Ok.slice (j.row (r:=⟨96,3,m.tabs.length,v3,x3⟩) (List.mem_flatten.2 ⟨_,List.mem_of_getElem? b2,mS⟩));have d3:w2.cell? ⟨s,8,none⟩=some (.slice a3 m.tabs.length n3):=j.cm (i:=3) e3;obtain ⟨v4,x4,y4,e4,bz,_⟩:=g.mems;obtain ⟨a4,n4,rfl⟩:∃ a c,v4=.slice a m.mems.length c:=Qc.Ok.slice (j.row (r:=⟨96,3,m.mems.length,v4,x4⟩) (List.mem_flatten.2 ⟨_,List.mem_of_getElem? bz,mS⟩));have d4:w2.cell? ⟨s,9,none⟩=some (.slice a4 m.mems.length n4):=j.cm (i:=4) e4;obtain ⟨v5,x5,y5,e5,bx,_⟩:=g.globs;obtain ⟨a5,n5,rfl⟩:∃ a c,v5=.slice a m.globs.length c:=Qc.Ok.slice (j.row (r:=⟨107,3,m.globs.length,v5,x5⟩) (List.mem_flatten.2 ⟨_,List.mem_of_getElem? bx,mS⟩));have d5:w2.cell? ⟨s,10,none⟩=some (.slice a5 m.globs.length n5):=j.cm (i:=5) e5
   obtain ⟨v6,x6,y6,e6,bw,_⟩:=g.exps;obtain ⟨a6,n6,rfl⟩:∃ a c,v6=.slice a m.exps.length c:=Qc.Ok.slice (j.row (r:=⟨111,3,m.exps.length,v6,x6⟩) (List.mem_flatten.2 ⟨_,List.mem_of_getElem? bw,mS⟩));have d6:w2.cell? ⟨s,11,none⟩=some (.slice a6 m.exps.length n6):=j.cm (i:=6) e6;obtain ⟨v9,x9,y9,e9,bv,_⟩:=g.elems;obtain ⟨a9,n9,rfl⟩:∃ a c,v9=.slice a m.elems.length c:=Qc.Ok.slice (j.row (r:=⟨79,2,m.elems.length,v9,x9⟩) (List.mem_flatten.2 ⟨_,List.mem_of_getElem? bv,mS⟩));have d9:w2.cell? ⟨s,14,none⟩=some (.slice a9 m.elems.length n9):=j.cm (i:=9) e9;obtain ⟨a7,cq,ef,aq,ab,_⟩:=g.codes;obtain ⟨H,D,rfl⟩:∃ a c,a7=.slice a m.codes.length c:=Qc.Ok.slice (j.row (r:=⟨83,2,m.codes.length,a7,cq⟩) (List.mem_flatten.2 ⟨_,List.mem_of_getElem? ab,mS⟩));have df:w2.cell? ⟨s,15,none⟩=some (.slice H m.codes.length D):=j.cm (i:=10) aq;obtain ⟨az,cp,ee,ap,aa,_⟩:=g.datas;obtain ⟨G,C,rfl⟩:∃ a c,az=.slice a m.datas.length c:=Qc.Ok.slice (j.row (r:=⟨85,2,m.datas.length,az,cp⟩) (List.mem_flatten.2 ⟨_,List.mem_of_getElem? aa,mS⟩));have de:w2.cell? ⟨s,16,none⟩=some (.slice G m.datas.length C):=j.cm (i:=11) ap;obtain ⟨ay,co,ed,ao,Z,_⟩:=g.customs;obtain ⟨F,B,rfl⟩:∃ a c,ay=.slice a m.customs.length c:=Qc.Ok.slice (j.row (r:=⟨72,3,m.customs.length,ay,co⟩) (List.mem_flatten.2 ⟨_,List.mem_of_getElem? Z,mS⟩));have dd:w2.cell? ⟨s,17,none⟩=some (.slice F m.customs.length B):=j.cm (i:=12) ao;have d7:w2.cell? ⟨s,12,none⟩=some (.bool m.hasS):=j.cm (i:=7) g.hs;have d8:w2.cell? ⟨s,13,none⟩=some (.int .i64 m.start):=j.cm (i:=8) g.st;have di:Hid (Own w.heap.size w2 L.flatten):=E.mono (by omega)
   have dj:Hid (w.heap.size ∉ blk L.flatten):=λhk=>by have:=(E.lt hk).1;omega
   have E0:=Hm e0;have E1:=Hm e1;have E2:=Hm e2;have E3:=Hm e3;have E4:=Hm e4;have E5:=Hm e5;have E6:=Hm e6;have E9:=Hm e9;have dn:=Hm aq;have dm:=Hm ap;have dl:=Hm ao;clear hM ai av au I t j g E c6 e0 b5 e1 b4 e2 b3 e3 b2 e4 bz e5 bx e6 bw e9 bv aq ab ap aa ao Z
   go_wp2_with (refine wpList_store_rowTo rfl 36 (.tmp 2) (.tmp 28) rfl rfl w.heap.size #[.int .i64 0,.int .i64 0,.slice a0 m.types.length n0,.slice a1 m.imps.length n1,.slice a2 m.funcs.length n2,.slice a3 m.tabs.length n3,.slice a4 m.mems.length n4,.slice a5 m.globs.length n5,.slice a6 m.exps.length n6,.bool m.hasS,.int .i64 m.start,.slice a9 m.elems.length n9,.slice H m.codes.length D,.slice G m.datas.length C,.slice F m.customs.length B] (by simp [Act.eval]) (by simp [Act.eval]) 36 (zE 0 0).toArray u sizeD rfl (by simp [Value.oneCell']) ?_)
   refine GZ (λV=>V.heap[w.heap.size]?=some (.cells #[.int .i64 0,.int .i64 0,.slice a0 m.types.length n0,.slice a1 m.imps.length n1,.slice a2 m.funcs.length n2,.slice a3 m.tabs.length n3,.slice a4 m.mems.length n4,.slice a5 m.globs.length n5,.slice a6 m.exps.length n6,.bool m.hasS,.int .i64 m.start,.slice a9 m.elems.length n9,.slice H m.codes.length D,.slice G m.datas.length C,.slice F m.customs.length B] 36)/\Below w.heap.size w V/\Own w.heap.size V L.flatten) ⟨setRow_heap _ _ _ _ _ _ u,Gg Y.o lR _,di.o.blocks (λk hk=>setRow_other _ _ _ _ (λe=>dj.o (e ▸ hk)))⟩ ?_
   rintro V ⟨d,hB,hO⟩;have t0:=Qj d 0 _ rfl;have t1:=Qj d 1 _ rfl;have t2:=Qj d 2 _ rfl;have t3:=Qj d 3 _ rfl;have t4:=Qj d 4 _ rfl;have t5:=Qj d 5 _ rfl;have t6:=Qj d 6 _ rfl;have t7:=Qj d 7 _ rfl;have t8:=Qj d 8 _ rfl;have t9:=Qj d 9 _ rfl;have ah:=Qj d 10 _ rfl;have ag:=Qj d 11 _ rfl;have af:=Qj d 12 _ rfl;have ae:=Qj d 13 _ rfl;have ad:=Qj d 14 _ rfl;have HB:=Hm hB;have HO:=Hm hO;clear d hB u hO dg d0 d1 d2 d3 d4 d5 d6 d7 d8 d9 df de dd
   exact bodyPost_ret (v:=.agg #[.int .i64 0,.int .i64 0,.slice a0 m.types.length n0,.slice a1 m.imps.length n1,.slice a2 m.funcs.length n2,.slice a3 m.tabs.length n3,.slice a4 m.mems.length n4,.slice a5 m.globs.length n5,.slice a6 m.exps.length n6,.bool m.hasS,.int .i64 m.start,.slice a9 m.elems.length n9,.slice H m.codes.length D,.slice G m.datas.length C,.slice F m.customs.length B]) (by simp [results,Tryz.results7,go_sem,t0,t1,t2,t3,t4,t5,t6,t7,t8,t9,ah,ag,af,ae,ad]) rfl (by
    rw [ar.o]
    exact ⟨a0,n0,a1,n1,a2,n2,a3,n3,a4,n4,a5,n5,a6,n6,a9,n9,H,D,G,C,F,B,L,rfl,⟨by simp,q.o.ll,rfl,rfl,by have h:=q.o.types;rw [E0.o] at h;exact h,by have h:=q.o.imps;rw [E1.o] at h;exact h,by have h:=q.o.funcs;rw [E2.o] at h;exact h,by have h:=q.o.tabs;rw [E3.o] at h;exact h,by have h:=q.o.mems;rw [E4.o] at h;exact h,by have h:=q.o.globs;rw [E5.o] at h;exact h,by have h:=q.o.exps;rw [E6.o] at h;exact h,by have h:=q.o.elems;rw [E9.o] at h;exact h,by have h:=q.o.codes;rw [dn.o] at h;exact h,by have h:=q.o.datas;rw [dm.o] at h;exact h,by have h:=q.o.customs;rw [dl.o] at h;exact h⟩,HO.o,HB.o⟩)
theorem sdecode_c (b:Option Addr)(cap:Nat)(bs)(w:World)(g:Qm bs)(f:By.Has w b bs)(c:∀ a,b=some a->a.block<w.heap.size):Calls Tryz.prog 7 #[.slice b bs.length cap] w (DeP (XG bs) w):=by
 by_cases d:65536<bs.length
 . exact sdec_long b cap bs w d
 . exact sdec_short b cap bs w g f c (by omega)
end Go.Proofs.YtedcmcdbejjgcaaGreat.Ms
