import Derived.WalkKit
import Derived.Laws.Rows
set_option linter.all false
set_option maxRecDepth 100000
set_option maxHeartbeats 40000000
namespace Go.Proofs.YtgmbnnpnefniiaaGreatDoor
open Go.RowKit List World
variable{a:Addr}{b i B j:Nat}{w w':World}{o:Option Value}
def J{α:Sort _}(a:α):∃x,x=a:=⟨a,rfl⟩
def Z{p:Prop}(h:p):Hid p:=h
def kE{X:Act->Prop}{Qz:Value->Prop}{f:Value->Act}{v:Value}{a:Act}(h1:Qz v)(h2:f v=a)(h:X a):∀Wx:Act->Prop,(∀a,X a->Wx a)->∃v,Qz v/\Wx (f v):=λ_ hK=>⟨v,h1,hK _ (h2 ▸ h)⟩
def cbE{a b:Bool}(h:a=b):Ending.returned (.bool b)=Ending.returned (.bool a):=by rw[h]
def bA{o:Obj}:Below w.heap.size w (w.alloc o):=(Below.refl _ _).alloc (Nat.le_refl _) _
def Qa{α:Type _}{l:List α}{a:α}:l.getD i a=l[i]?.getD a:=getD_eq_getElem?_getD
def Qb{α:Type _}{l:List α}(h:i<l.length):l[i]?=some l[i]:=getElem?_eq_getElem h
def Qc(h:w'.heap[a.block]?=w.heap[a.block]?):w'.cell? a=w.cell? a:=cell?_of_block h
def Qd(h:w'.heap[a.block]?=w.heap[a.block]?):w'.frozen? a=w.frozen? a:=frozen?_of_block h
def Qe(w:World)(a:Addr){u:Value}(h:w.cell? a=some u):a.block<w.heap.size:=block_lt_of_cell? w a h
def Qf(w:World)(o:Obj)(a:Addr)(h:a.block<w.heap.size):(w.alloc o).cell? a=w.cell? a:=cell?_alloc_lt w o a h
def Qg(w:World)(a b:Addr)(v:Value)(h:a≠b):(w.setCell a v).cell? b=w.cell? b:=cell?_setCell_other w a b v h
def Qh{α:Type _}[BEq α][LawfulBEq α]{a b:α}:(a==b)=false ↔ a≠b:=beq_eq_false_iff_ne
def Qi{α:Type _}{l:List α}(h:l.length=0):l=[]:=eq_nil_of_length_eq_zero h
abbrev O(b j:Nat):Addr:=⟨b,j,none⟩
abbrev F(b:Nat):Value:=.pointer (some ⟨b,0,none⟩)
abbrev I(x:Int):Value:=.int .i64 x
abbrev M(w:World)(b j:Nat)(v:Value):Prop:=w.cell? ⟨b,j,none⟩=some v
abbrev K:Value:=.slice none 0 0
abbrev D(w w':World):Prop:=Below w.heap.size w w'
def dA:Below B w w.drew:=(Below.refl _ _).drew
def Qj{a c:Nat}(h:a<b)(g:b<=c):a<c:=Nat.lt_of_lt_of_le h g
abbrev Sq(b j n c:Nat):Value:=.slice (some ⟨b,j,none⟩) n c
abbrev Pp(b j:Nat):Value:=.pointer (some ⟨b,j,none⟩)
abbrev Tq(l:List UInt8):Value:=.string ⟨l.toArray⟩
abbrev Rq(v:Value)(W:World)(e:Ending)(w':World):Prop:=e=.returned v/\w'=W
abbrev Rw(v:Value)(W:World)(e:Ending)(w':World):Prop:=e=.returned v/\Below W.heap.size W w'
def cT(h:Below B w w')(hp:b<B)(c:w.cell? ⟨b,j,none⟩=o):w'.cell? ⟨b,j,none⟩=o:=(h.cell (p:=⟨b,j,none⟩) hp).trans c
def cR{g:Nat}(j:Nat){cs:Array Value}{t:TypeId}(hg:w.heap[g]?=some (.cells cs t (0,0))):w.cell? ⟨g,j,none⟩=cs[j]?:=cell_of_row _ _ j _ _ (0,0) hg
def lE{a:Nat}:a<=a:=Nat.le_refl _
def Qk(a b:Bool):((a && b)=true)=(a=true/\b=true):=Bool.and_eq_true a b
def Ql{α:Type _}(a b:α):(some a=some b)=(a=b):=Option.some.injEq a b
def Qm(n:Nat):(n:Int).toNat=n:=Int.toNat_natCast n
def U{c:Prop}{h:Decidable c}(hnc:¬c){α:Sort _}{t e:α}:ite c t e=e:=if_neg hnc
def G{c:Prop}{h:Decidable c}(hc:c){α:Sort _}{t e:α}:ite c t e=t:=if_pos hc
def Qn{p:Prop}[Decidable p]:(decide p=true)=p:=decide_eq_true_eq
abbrev L:Type:=List UInt8
abbrev Is:Type:=List Int
abbrev Vs:Type:=List Value
abbrev A(a:Option Addr)(n c:Nat):Value:=.slice a n c
def cQ(h:w'.heap[b]?=w.heap[b]?)(c:w.cell? ⟨b,j,none⟩=o):w'.cell? ⟨b,j,none⟩=o:=(cell?_of_block (a:=⟨b,j,none⟩) h).trans c
def fQ{o:Bool}(h:w'.heap[b]?=w.heap[b]?)(c:w.frozen? ⟨b,j,none⟩=o):w'.frozen? ⟨b,j,none⟩=o:=(frozen?_of_block (a:=⟨b,j,none⟩) h).trans c
abbrev Y:Prop->Prop:=Hid
end Go.Proofs.YtgmbnnpnefniiaaGreatDoor
