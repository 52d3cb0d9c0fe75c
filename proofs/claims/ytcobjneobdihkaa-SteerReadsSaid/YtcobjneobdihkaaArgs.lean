/- Reading a law's arguments: slices of int. -/
import Derived.Test.YtcobjneobdihkaaKit
import Derived.Test.YtcobjneobdihkaaTy
namespace Go.Proofs.Ytcobjneobdihkaa
open Go.ChangeShapes Go.WideShapes Go.ChangeAt Go.RowKit
end Go.Proofs.Ytcobjneobdihkaa
