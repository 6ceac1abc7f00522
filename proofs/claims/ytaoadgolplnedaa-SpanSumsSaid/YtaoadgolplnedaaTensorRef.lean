/- Contracts of the document's own answers of layer 5: what is right, what is alike. -/
import Derived.Test.YtaoadgolplnedaaTensor
import Derived.Test.YtaoadgolplnedaaShapeRef
import Derived.Laws.StructEq
namespace Go.Proofs.Ytaoadgolplnedaa.CTensor
open Go Go.ChangeShapes Go.WideShapes Go.ChangeAt Go.RowKit
open Plain CSat CShape
set_option linter.unusedVariables false

end Go.Proofs.Ytaoadgolplnedaa.CTensor
