import Derived.Test.YtminjljgedopkaaGreatDoorM20
import Derived.Test.YtminjljgedopkaaGreatDoorM30
set_option linter.all false
set_option maxRecDepth 100000
set_option maxHeartbeats 40000000
namespace Go.Proofs.YtminjljgedopkaaGreatDoor
open Go.RowKit Go.Proofs.Tryz
def ztz:List Value:=Fl.wrongT.flatMap λx=>[.string ⟨x.1.toArray⟩,.int .i64 x.2.1,.int .i64 x.2.2]
def yww(w:World):Calls prog 18 #[] w λe w'=>e=.returned (.slice (some ⟨w.heap.size,0,none⟩) 30 30)/\w'=w.alloc (.cells ztz.toArray 49):=by
 go_enter func18,ntmps18
 go_wp2_with fail
 go_ret;exact⟨rfl,by kernel_rfl⟩
end Go.Proofs.YtminjljgedopkaaGreatDoor
