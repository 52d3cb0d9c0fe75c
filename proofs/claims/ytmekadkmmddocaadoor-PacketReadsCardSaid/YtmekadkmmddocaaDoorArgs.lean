/- Reading a law's arguments: slices of int. -/
import Derived.Test.YtmekadkmmddocaaDoorKit
import Derived.Test.YtmekadkmmddocaaDoorTy
namespace Go.Proofs.YtmekadkmmddocaaDoor
open Go.ChangeShapes Go.WideShapes Go.ChangeAt Go.RowKit
end Go.Proofs.YtmekadkmmddocaaDoor
