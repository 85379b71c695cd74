import Derived.Test.YtgmbnnpnefniiaaGreatDoorM12
import Derived.Test.YtgmbnnpnefniiaaGreatDoorRows
import Derived.ChangeSame
import Derived.ChangeVars
import Derived.JoinedOf
import Derived.RowKit
import Derived.LaidLaws
import Derived.LaidHandle
import Derived.Stop.Joined
set_option linter.all false
set_option maxRecDepth 100000
set_option maxHeartbeats 40000000
namespace Go.Proofs.YtgmbnnpnefniiaaGreatDoor
open Go.ChangeShapes Go.WideShapes Go.RowKit Go.Proofs.Tryz List World
def Tryz.own:ownKnob Tryz.prog.godebug=none:=by kernel_rfl
def Tryz.et:Tryz.prog.globalNamed "errors.errorType"=some 0:=by kernel_rfl
def Tryz.rt:(Tryz.prog.cutTypes.find? (·.1== "internal/reflectlite.rtype")).map (·.2)=some 188:=by kernel_rfl
def Tryz.oneRow:((range 331).filter λt=>Tryz.prog.rowNamed t [101,114,114,111,114])=[96]:=by kernel_rfl
def Tryz.tsize:Tryz.prog.types.size=331:=by kernel_rfl
def zcv{W:World}(h:laidMetH Tryz.prog [("errors.errorType",Rows.laid_errors_errorType)] W):Vd W:=by
 have h':=h;obtain⟨name,u,ty,e1,e2,e3,e4,e5⟩:=h'.2 _ (mem_singleton.2 rfl);have en:=(Option.some.inj e1).symm;subst en;obtain rfl:=Option.some.inj (Tryz.rt.symm.trans e2);have hm:ty∈(range 331).filter λt=>Tryz.prog.rowNamed t [101,114,114,111,114]:=mem_filter.2 ⟨mem_range.2 (by rw[<-Tryz.tsize];exact e3),e4⟩;rw[Tryz.oneRow]at hm;obtain rfl:=mem_singleton.1 hm
 have hh:typeHandle Tryz.prog 96=.pointer (some ⟨4,96,none⟩):=by kernel_rfl
 rw[hh]at e5;show W.cell? _=_;simpa using var?_cell Tryz.et e5 0
def xz0(os:Os)(args:Array Value):laidMetH Tryz.prog [("errors.errorType",Rows.laid_errors_errorType)] ((({holding Tryz.prog os ⟨#[],#[],[]⟩ with heap:=(holding Tryz.prog os ⟨#[],#[],[]⟩).heap.modify 0 λ
   | .cells _ t frozen=> .cells #[.iface 188 (.agg #[.pointer (some ⟨4,96,none⟩)])] t frozen
   |o=>o}:World)).forCall (λ_ _=>0) ⟨#[],args,[]⟩).memory:=
 laidMetH_of_parts (laidMet_nil _ _) (by kernel_rfl)
end Go.Proofs.YtgmbnnpnefniiaaGreatDoor
