import Derived.Test.YtminjljgedopkaaGreatDoorM23
import Derived.Lib.ConvBytes
set_option linter.all false
set_option maxRecDepth 100000
set_option maxHeartbeats 40000000
namespace Go.Proofs.YtminjljgedopkaaGreatDoor
open Go.RowKit Go.Proofs.Tryz
structure zt8(w:World):Prop where
 er:Yj w
 mg:2<w.heap.size
 ml:Zh w
def zt8.below{w w':World}(h:zt8 w)(hb:Below w.heap.size w w'):zt8 w':=⟨(hb.cell (p:=⟨0,0,none⟩) (World.block_lt_of_cell? w _ h.er)).trans h.er,by have:=hb.size;have:=h.mg;omega,h.ml.below (Nat.le_refl _) hb⟩
def yx5(W:World)(l:List UInt8):Vy (Lib.bytesWorld W 5 ⟨l.toArray⟩) (some ⟨W.heap.size,0,none⟩) l/\Below W.heap.size W (Lib.bytesWorld W 5 ⟨l.toArray⟩)/\W.heap.size<(Lib.bytesWorld W 5 ⟨l.toArray⟩).heap.size:=by
 have hz:(Lib.bytesWorld W 5 ⟨l.toArray⟩).heap.size=W.heap.size+1:=Lib.bytesWorld_size _ _ _;refine⟨λ_=>⟨W.heap.size,0,rfl,by omega,λi hi=>?_⟩,⟨rfl,rfl,rfl,by omega,λk hk=>Lib.bytesWorld_at_old _ _ _ k hk⟩,by omega⟩;have:=Lib.bytesWorld_cell W 5 ⟨l.toArray⟩ i (by show i<l.toArray.size;simpa using hi);rw[Nat.zero_add,this]
def zg3{W:World}{ao:Option Addr}{l:List UInt8}(h:Vy W ao l)(hne:l≠[])(cap:Nat):(convert 30 9 (.slice ao l.length cap)).run prog W=.ok (.string ⟨l.toArray⟩) W:=by
 obtain⟨b,o,rfl,-,hc⟩:=h hne;refine run_convert_bytes_back _ 30 9 5 ⟨b,o,none⟩ cap l underlying30 underlying5 underlying9 (λj hj=>?_)
 have h2:(⟨b,o,none⟩:Addr).add j=⟨b,o+j,none⟩:=by unfold Addr.add;split<;>simp_all
 rw[h2,hc j hj];simp[List.getD_eq_getElem?_getD,hj]
end Go.Proofs.YtminjljgedopkaaGreatDoor
