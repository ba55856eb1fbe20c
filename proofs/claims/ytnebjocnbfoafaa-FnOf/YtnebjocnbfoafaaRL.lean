/- Contracts: the specification's RangeTidy; equal ranges. -/
import Derived.Test.YtnebjocnbfoafaaRK
namespace Go.Proofs.Ytnebjocnbfoafaa
open Go.RowKit
set_option linter.unusedVariables false
set_option linter.unusedSimpArgs false

end Go.Proofs.Ytnebjocnbfoafaa
