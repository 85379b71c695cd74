import Derived.Test.YtminjljgedopkaaGreatDoorM27
import Derived.Test.YtminjljgedopkaaGreatDoorM32
set_option linter.all false
set_option maxRecDepth 100000
set_option maxHeartbeats 40000000
namespace Go.Proofs.YtminjljgedopkaaGreatDoor
open Go.RowKit Go.Proofs.Tryz
def zy6:∀(L:List Obj) (w:World),(L.foldl World.alloc w).heap.size=w.heap.size+L.length
 |[],w=>rfl
 |o::L,w=>by rw[List.foldl_cons,zy6 L];simp;omega
def zuv:∀(L:List Obj) (w:World),Below w.heap.size w (L.foldl World.alloc w)
 |[],w=>Below.refl _ _
 |o::L,w=>by
  rw[List.foldl_cons];exact bA.trans ((zuv L (w.alloc o)).mono (by simp))
def zcz:∀(L:List Obj) (w:World) (i:Nat),i<L.length->(L.foldl World.alloc w).heap[w.heap.size+i]?=L[i]?
 |[],w,i,h=>by simp at h
 |o::L,w,0,_=>by
  rw[List.foldl_cons,(zuv L (w.alloc o)).block _ (by simp)];exact heap_alloc_last w o
 |o::L,w,i+1,h=>by
  rw[List.foldl_cons];have h2:=zcz L (w.alloc o) i (by simpa using h);rw[show (w.alloc o).heap.size+i=w.heap.size+(i+1) by simp;omega]at h2;rw[h2];rfl
def ys6(w:World):(Us w).heap.size=w.heap.size+14:=by
 unfold Us;simp only[World.size_alloc,zy6];rfl
def ywv(w:World):Below w.heap.size w (Us w):=by
 unfold Us;exact(zuv _ _).alloc (by rw[zy6];omega) _
def yp3(w:World){i:Nat}(h:i<13):(Us w).heap[w.heap.size+i]?=zty[i]?:=by
 have hl:zty.length=13:=rfl;unfold Us;rw[Below.heap_alloc _ _ _ (by rw[zy6];omega)];exact zcz _ _ _ (by omega)
def yp4(w:World):(Us w).heap[w.heap.size+13]?=some (.cells (zk7 w.heap.size).toArray 57 (0,0)):=by
 have h:(zty.foldl World.alloc w).heap.size=w.heap.size+13:=zy6 _ _;unfold Us;rw[<-h];exact heap_alloc_last _ _
end Go.Proofs.YtminjljgedopkaaGreatDoor
