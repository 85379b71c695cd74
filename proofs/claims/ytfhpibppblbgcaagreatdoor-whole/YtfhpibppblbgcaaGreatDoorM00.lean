import Derived.WalkKit
set_option linter.all false
set_option maxRecDepth 100000
set_option maxHeartbeats 40000000
namespace Go.Proofs.YtfhpibppblbgcaaGreatDoor
open Go.RowKit
variable{a:Addr}{w w':World}{i:Nat}
def nmE{α:Sort _}(a:α):∃x,x=a:=⟨a,rfl⟩
def Zz{p:Prop}(h:p):Hid p:=h
def kE{X:Act->Prop}{A:Value->Prop}{f:Value->Act}{v:Value}{a:Act}(h1:A v)(h2:f v=a)(h:X a):∀K:Act->Prop,(∀a,X a->K a)->∃v,A v/\K (f v):=λ_ hK=>⟨v,h1,hK _ (h2 ▸ h)⟩
def cbE{a b:Bool}(h:a=b):Ending.returned (.bool b)=Ending.returned (.bool a):=by rw[h]
def bA{o:Obj}:Below w.heap.size w (w.alloc o):=(Below.refl _ _).alloc (Nat.le_refl _) _
def Qa{α:Type _}{l:List α}{a:α}:l.getD i a=l[i]?.getD a:=List.getD_eq_getElem?_getD
def Qb{α:Type _}{l:List α}(h:i<l.length):l[i]?=some l[i]:=List.getElem?_eq_getElem h
def Qc(h:w'.heap[a.block]?=w.heap[a.block]?):w'.cell? a=w.cell? a:=World.cell?_of_block h
def Qd(h:w'.heap[a.block]?=w.heap[a.block]?):w'.frozen? a=w.frozen? a:=World.frozen?_of_block h
def Qe(w:World)(a:Addr){u:Value}(h:w.cell? a=some u):a.block<w.heap.size:=World.block_lt_of_cell? w a h
def Qf(w:World)(o:Obj)(a:Addr)(h:a.block<w.heap.size):(w.alloc o).cell? a=w.cell? a:=World.cell?_alloc_lt w o a h
def Qg(w:World)(a b:Addr)(v:Value)(h:a≠b):(w.setCell a v).cell? b=w.cell? b:=World.cell?_setCell_other w a b v h
def Qh{α:Type _}[BEq α][LawfulBEq α]{a b:α}:(a==b)=false ↔ a≠b:=beq_eq_false_iff_ne
def Qi{α:Type _}{l:List α}(h:l.length=0):l=[]:=List.eq_nil_of_length_eq_zero h
abbrev Aq(b j:Nat):Addr:=⟨b,j,none⟩
abbrev Pq(b:Nat):Value:=.pointer (some ⟨b,0,none⟩)
abbrev Iq(x:Int):Value:=.int .i64 x
abbrev Cl(w:World)(b j:Nat)(v:Value):Prop:=w.cell? ⟨b,j,none⟩=some v
abbrev Zq:Value:=.slice none 0 0
abbrev Bq(w w':World):Prop:=Below w.heap.size w w'
def dA{B:Nat}:Below B w w.drew:=(Below.refl _ _).drew
def Qj{a b c:Nat}(h:a<b)(g:b<=c):a<c:=Nat.lt_of_lt_of_le h g
end Go.Proofs.YtfhpibppblbgcaaGreatDoor
