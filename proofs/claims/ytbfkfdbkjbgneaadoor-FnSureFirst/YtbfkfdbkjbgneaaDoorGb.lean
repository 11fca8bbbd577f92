/- L7a: texts put together. -/
import Derived.Test.YtbfkfdbkjbgneaaDoorGL
import Derived.Test.YtbfkfdbkjbgneaaDoorGa
/- Contracts of the laws' helpers for lists of instructions: what they weigh. -/
namespace Go.Proofs.YtbfkfdbkjbgneaaDoor
open Go.RowKit Go.Sort Go.BigFrame
end Go.Proofs.YtbfkfdbkjbgneaaDoor
