/- M7: texts put together. -/
import Derived.Test.YtenoanhonjdpjaaGreatDoorGM
/- Plain models of chapters 5 and 6: instructions; the verifier's run. -/
namespace Stil
end Stil
