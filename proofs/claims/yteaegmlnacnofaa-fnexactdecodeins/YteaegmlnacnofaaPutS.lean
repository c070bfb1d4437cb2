import Derived.Test.YteaegmlnacnofaaCut
set_option linter.all false
namespace Go.Proofs.Yteaegmlnacnofaa
open Go.RowKit
set_option maxRecDepth 100000
end Go.Proofs.Yteaegmlnacnofaa
