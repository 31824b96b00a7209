import Derived.Deep.DeepCutAuto
import Derived.Test.YtjnhhnbgjjkkjaaGreatDoorRePAX
set_option linter.all false
set_option maxRecDepth 100000
set_option maxHeartbeats 2000000
namespace Go.Proofs.YtjnhhnbgjjkkjaaGreatDoor
open Go.ChangeShapes Go.WideShapes Go.ChangeAt Go.RowKit
end Go.Proofs.YtjnhhnbgjjkkjaaGreatDoor
