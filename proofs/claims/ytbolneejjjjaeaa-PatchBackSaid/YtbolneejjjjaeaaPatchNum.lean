/- Layer 11 (patch): the document's number of a window. -/
import Derived.Test.YtbolneejjjjaeaaPatchKnown
import Derived.Test.YtbolneejjjjaeaaPadRef
namespace Go.Proofs.Ytbolneejjjjaeaa.CPatch
open Go Go.ChangeShapes Go.WideShapes Go.ChangeAt Go.RowKit
open Plain CSat CShape CTensor CConv
set_option linter.unusedVariables false

end Go.Proofs.Ytbolneejjjjaeaa.CPatch
