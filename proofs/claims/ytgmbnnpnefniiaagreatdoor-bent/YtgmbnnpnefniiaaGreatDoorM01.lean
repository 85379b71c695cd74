import Derived.Test.YtgmbnnpnefniiaaGreatDoorProg
import Derived.WalkKit
set_option linter.all false
set_option maxRecDepth 100000
set_option maxHeartbeats 40000000
namespace Go.Proofs.YtgmbnnpnefniiaaGreatDoor
open Go.RowKit Go.Proofs.Tryz
abbrev E(f:FuncId)(a:Array Value)(w:World)(Q:Ending->World->Prop):Prop:=Calls prog f a w Q
end Go.Proofs.YtgmbnnpnefniiaaGreatDoor
