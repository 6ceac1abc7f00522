/- Contracts of the document's own answers of layer 6: getting. -/
import Derived.Test.YtkmcmaickopobacLebForm
namespace Go.Proofs.Ytkmcmaickopobac.CLeb
open Go Go.ChangeShapes Go.WideShapes Go.ChangeAt Go.RowKit
open LebNum
set_option linter.unusedVariables false

end Go.Proofs.Ytkmcmaickopobac.CLeb
