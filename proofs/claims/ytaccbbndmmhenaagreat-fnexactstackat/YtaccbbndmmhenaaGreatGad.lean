import Derived.Test.YtaccbbndmmhenaaGreatGaa
set_option linter.all false
set_option maxHeartbeats 400000000
set_option maxRecDepth 100000
namespace Go.Proofs
open Value renaming int->U
open IntKind renaming i64->O
open List renaming replicate->Td,length->N
namespace YtaccbbndmmhenaaGreat
open Go.RowKit
theorem copy_step (k:Nat)(xs:List Int)(h:k<N xs):(I (xs.take k++(Td (N xs) 0).drop k)).set k (U O (xs.getD k 0))=I (xs.take (k+1)++(Td (N xs) 0).drop (k+1)):=by
 have hd:(Td (N xs) (0:Int)).drop k=0::(Td (N xs) (0:Int)).drop (k+1):=by rw[List.drop_eq_getElem_cons (by simpa using h)];simp
 have a:xs.take (k+1)=xs.take k++[xs.getD k 0]:=by rw[List.take_succ_eq_append_getElem h];simp[List.getD,h]
 rw[hd,a];simp only[I,List.map_append,List.map_cons,List.append_assoc,List.cons_append,List.nil_append,List.map_nil];rw[List.set_append_right _ _ (by simp;omega)];simp[Nat.min_eq_left (Nat.le_of_lt h)]
