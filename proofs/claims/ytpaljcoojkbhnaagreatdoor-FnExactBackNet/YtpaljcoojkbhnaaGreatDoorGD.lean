/- D1, D2: texts put together. -/
import Derived.Test.YtpaljcoojkbhnaaGreatDoorGC
import Derived.Test.YtpaljcoojkbhnaaGreatDoorGI
/- Contracts of the specification's draws: the reader. -/
namespace Go.Proofs.YtpaljcoojkbhnaaGreatDoor
open Go.RowKit Go.Sort Go.BigFrame
end Go.Proofs.YtpaljcoojkbhnaaGreatDoor
/- Contracts of the specification's draws: numbers and operands. -/
namespace Go.Proofs.YtpaljcoojkbhnaaGreatDoor
open Go.RowKit Go.Sort Go.BigFrame
end Go.Proofs.YtpaljcoojkbhnaaGreatDoor
