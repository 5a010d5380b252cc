import Derived.Test.YtlmkmihbbnjngaaDoorRLaw
import Derived.Test.YtlmkmihbbnjngaaDoorSWord
import Derived.Deep.Cut
namespace Go.Proofs.YtlmkmihbbnjngaaDoor
open Go.RowKit
set_option linter.unusedVariables false
attribute [local go_sem] Oper.semAt_some

end Go.Proofs.YtlmkmihbbnjngaaDoor
