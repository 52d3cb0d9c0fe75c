/- What the claims' closed facts ask of the program's own first word, read once as a list of characters (the kernel reads a long text too slowly). Conditions: none. -/
import Derived.Test.YtmekadkmmddocaaDoorRows
namespace Go.Proofs.YtmekadkmmddocaaDoor
open Go
end Go.Proofs.YtmekadkmmddocaaDoor
