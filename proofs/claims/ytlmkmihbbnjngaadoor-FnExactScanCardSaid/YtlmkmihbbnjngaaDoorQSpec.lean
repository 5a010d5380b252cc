import Derived.Test.YtlmkmihbbnjngaaDoorQImpl
namespace Go.Proofs.YtlmkmihbbnjngaaDoor
open Go.RowKit

end Go.Proofs.YtlmkmihbbnjngaaDoor
