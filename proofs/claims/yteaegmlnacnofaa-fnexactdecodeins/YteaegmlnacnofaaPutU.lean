import Derived.Test.YteaegmlnacnofaaCut
set_option linter.all false
namespace Go.Proofs.Yteaegmlnacnofaa
open Go.RowKit
end Go.Proofs.Yteaegmlnacnofaa
