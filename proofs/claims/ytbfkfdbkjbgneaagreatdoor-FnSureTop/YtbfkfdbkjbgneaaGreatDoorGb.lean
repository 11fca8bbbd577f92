/- L7a: texts put together. -/
import Derived.Test.YtbfkfdbkjbgneaaGreatDoorGL
import Derived.Test.YtbfkfdbkjbgneaaGreatDoorGa
/- Contracts of the laws' helpers for lists of instructions: what they weigh. -/
namespace Go.Proofs.YtbfkfdbkjbgneaaGreatDoor
open Go.RowKit Go.Sort Go.BigFrame
end Go.Proofs.YtbfkfdbkjbgneaaGreatDoor
