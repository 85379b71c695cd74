/- Texts Red Rlw Rmd Reh. -/
import Derived.Test.YthfacjlghcdndaaGreatDoorM28
set_option linter.unusedSimpArgs false
set_option linter.unusedVariables false
namespace Go.Proofs.YthfacjlghcdndaaGreatDoor
open Go.RowKit
def Stays (Rb : Nat) (w : World) (m : RMem) (w' : World) (m' : RMem) : Prop := ∀ b, b < w.heap.size → b ≠ Rb → (∀ j, isRow j → (m.v j).ownBlock ≠ some b) → w'.heap[b]? = w.heap[b]? ∧ ∀ j, isRow j → (m'.v j).ownBlock ≠ some b
theorem Stays.below {Rb : Nat} {w w' : World} {m : RMem} (h : Below w.heap.size w w') : Stays Rb w m w' m := fun b hb _ hno => ⟨h.block b hb, hno⟩
def StEnds (lo base Rb Pb : Nat) (w0 w : World) (m : RMem) (fl : List FlS) (t : Nat) (res : Nat × Fl.Stmt × Fl.RS) (e : Ending) (w' : World) : Prop :=
  (res.1 = 0 → e = .returned (.tuple #[.agg (sCells res.2.1.kind res.2.1.x res.2.1.e.op res.2.1.e.a.var res.2.1.e.a.v res.2.1.e.b.var res.2.1.e.b.v), .int .i64 0]) ∧ ∃ m', RefAt lo base Rb Pb w0 w' m' ∧ RefOf res.2.2 fl t m' ∧ Stays Rb w m w' m') ∧
  (res.1 ≠ 0 → (∃ (k x op : Int) (av : Bool) (an : Int) (bv : Bool) (bn : Int), e = .returned (.tuple #[.agg (sCells k x op av an bv bn), .int .i64 res.1])) ∧ Below lo w0 w')
def stIf (r : Fl.RS) (kind : Nat) (a : List UInt8) : Nat × Fl.Stmt × Fl.RS := match r.value [a] with
  | none => (4, noS, r)
  | some e => (0, ⟨kind, 0, 0, e, [], []⟩, r)
section
variable {lo base Rb Pb : Nat} {w0 w w' : World} {m : RMem} {r : Fl.RS} {fl : List FlS} {t : Nat}
set_option maxRecDepth 100000 in
set_option maxHeartbeats 4000000 in
theorem st_if (h : RefAt lo base Rb Pb w0 w m) (hr : RefOf r fl t m) (b off cap : Nat) (a : List UInt8) (ha : a.length ≤ 100000) (hb : b < w.heap.size) (hcap : 2 ≤ cap ∧ cap ≤ maxLen) (c0 : w.cell? ⟨b, off, none⟩ = some (.string ⟨#[105, 102]⟩)) (c1 : w.cell? ⟨b, off + 1, none⟩ = some (.string ⟨a.toArray⟩)) :
    Calls Tryz.prog 24 #[.pointer (some ⟨Rb, 0, none⟩), .slice (some ⟨b, off, none⟩) 2 cap] w (StEnds lo base Rb Pb w0 w m fl t (stIf r 5 a)) := by
  have hba := h.hba
  have HH : Hid (RefAt lo base Rb Pb w0 w m) := h
  have HO : Hid (RefOf r fl t m) := hr
  have HAT : Hid (∀ W, Below w.heap.size w W → Calls Tryz.prog 37 #[.pointer (some ⟨Rb, 0, none⟩), .string ⟨a.toArray⟩] W (AtEnds (r.atom a) W)) := fun W hW => fatom_any (h.below hW) hr a ha
  have HVA : Hid (stIf r 5 a = match r.atom a with | none => (4, noS, r) | some x => (0, ⟨5, 0, 0, ⟨-1, x, Fl.no0⟩, [], []⟩, r)) := by
    show _ = _
    have hv : r.value [a] = (r.atom a).map fun x => ⟨-1, x, Fl.no0⟩ := rfl
    unfold stIf
    rw [hv]
    generalize r.atom a = o
    cases o <;> rfl
  obtain ⟨res, hres⟩ : ∃ res, res = stIf r 5 a := ⟨_, rfl⟩
  rw [← hres] at HVA ⊢
  obtain ⟨oa, hoa⟩ : ∃ oa, oa = r.atom a := ⟨_, rfl⟩
  rw [← hoa] at HAT HVA
  have hcapI : (2 : Int) ≤ (cap : Int) := by omega
  have HB : Hid (∀ o o', Below w.heap.size w ((w.alloc o).alloc o')) := fun o o' => ((Below.refl _ _).alloc (Nat.le_refl _) _).alloc (by simp) _
  clear h hr hres hoa
  go_enter Tryz.func24, Tryz.ntmps24
  go_wp2_with fail
  refine (HAT.out _ (HB.out _ _)).mono ?_
  rintro e W1 ⟨hb1, hgood, hbad⟩
  have rE : W1.heap[w.heap.size]? = some (.cells zeroS 87 (0, 0)) := by
    rw [hb1.block _ (by simp; omega), Below.heap_alloc _ _ _ (by simp)]; exact heapAt _ _ _ rfl
  have rS : W1.heap[w.heap.size + 1]? = some (.cells (sCells 5 0 (-1) false 0 false 0) 87 (0, 0)) := by
    rw [hb1.block _ (by simp)]; exact heapAt _ _ _ (by simp)
  have HBW : Hid (Below w.heap.size w W1) := (HB.out _ _).trans (hb1.mono (by simp; omega))
  have hz1 : w.heap.size + 2 ≤ W1.heap.size := by have := hb1.size; simp at this; omega
  have hz2 : w.heap.size + 1 < W1.heap.size := by omega
  have hz3 : w.heap.size < W1.heap.size := by omega
  have s0 : W1.cell? ⟨w.heap.size + 1, 0, none⟩ = some (.int .i64 5) := cell_of_row _ _ 0 _ _ (0, 0) rS
  have s1 : W1.cell? ⟨w.heap.size + 1, 1, none⟩ = some (.int .i64 0) := cell_of_row _ _ 1 _ _ (0, 0) rS
  have s2 : W1.cell? ⟨w.heap.size + 1, 2, none⟩ = some (.int .i64 0) := cell_of_row _ _ 2 _ _ (0, 0) rS
  have s3 : W1.cell? ⟨w.heap.size + 1, 3, none⟩ = some (.int .i64 (-1)) := cell_of_row _ _ 3 _ _ (0, 0) rS
  have s4 : W1.cell? ⟨w.heap.size + 1, 4, none⟩ = some (.bool false) := cell_of_row _ _ 4 _ _ (0, 0) rS
  have s5 : W1.cell? ⟨w.heap.size + 1, 5, none⟩ = some (.int .i64 0) := cell_of_row _ _ 5 _ _ (0, 0) rS
  have s6 : W1.cell? ⟨w.heap.size + 1, 6, none⟩ = some (.bool false) := cell_of_row _ _ 6 _ _ (0, 0) rS
  have s7 : W1.cell? ⟨w.heap.size + 1, 7, none⟩ = some (.int .i64 0) := cell_of_row _ _ 7 _ _ (0, 0) rS
  have s8 : W1.cell? ⟨w.heap.size + 1, 8, none⟩ = some (.slice none 0 0) := cell_of_row _ _ 8 _ _ (0, 0) rS
  have s9 : W1.cell? ⟨w.heap.size + 1, 9, none⟩ = some (.slice none 0 0) := cell_of_row _ _ 9 _ _ (0, 0) rS
  have sz : ∀ j, W1.frozen? ⟨w.heap.size + 1, j, none⟩ = false := fun j => by simp [World.frozen?, rS]
  have RE : Hid (W1.heap[w.heap.size]? = some (.cells zeroS 87 (0, 0))) := rE
  clear rE rS hb1
  have HRE : Hid (∀ u v a, (((W1.setCell ⟨w.heap.size + 1, 4, none⟩ u).setCell ⟨w.heap.size + 1, 5, none⟩ v).alloc a).heap[w.heap.size]? = some (.cells zeroS 87 (0, 0))) := fun u v a => by
    rw [Below.heap_alloc _ _ _ (by rw [setCell_size, setCell_size]; exact hz3), setCell_block _ _ _ _ _ (by omega), setCell_block _ _ _ _ _ (by omega)]; exact RE.out
  have HBE : Hid (∀ u v a c, Below w.heap.size w ((((W1.setCell ⟨w.heap.size + 1, 4, none⟩ u).setCell ⟨w.heap.size + 1, 5, none⟩ v).alloc a).setRow w.heap.size c)) := fun u v a c => by
    refine below_setRow ((((HBW.out.setCell (by show w.heap.size ≤ w.heap.size + 1; omega) _).setCell (by show w.heap.size ≤ w.heap.size + 1; omega) _)).alloc (by rw [setCell_size, setCell_size]; omega) _) (Nat.le_refl _) _
  cases oa with
  | none =>
    obtain ⟨v, rfl⟩ := hbad rfl
    have HR : Hid (res = (4, noS, r)) := HVA.out
    clear hgood hbad
    go_wp2_with (refine wpList_store_row rfl (.tmp 4) (.tmp 141) 87 rfl w.heap.size rfl zeroS (sCells 5 0 (-1) true v false 0) rfl 87 (HRE.out _ _ _) Tryz.infoStmt10 rfl (by simp [sCells, Value.oneCell']) ?_)
    refine bodyPost_ret (v := .tuple #[.agg (sCells 5 0 (-1) true v false 0), .int .i64 4]) ?_ rfl ?_
    · exact results_cell_tmp (p := 4) (q := 5) (ty := 87) Tryz.results24 _ _ ⟨w.heap.size, 0, none⟩ _ rfl (run_loadVar_row _ _ _ _ _ _ _ (setRow_heap _ _ _ _ _ _ (HRE.out _ _ _)) Tryz.underlying87 rfl Tryz.infoStmt10)
    · rw [HR.out]
      exact ⟨fun h => (by cases h), fun _ => ⟨⟨_, _, _, _, _, _, _, rfl⟩, (HH.out.below (HBE.out _ _ _ _)).bel⟩⟩
  | some x =>
    obtain rfl := hgood x rfl
    have HR : Hid (res = (0, ⟨5, 0, 0, ⟨-1, x, Fl.no0⟩, [], []⟩, r)) := HVA.out
    clear hgood hbad
    go_wp2_with (refine wpList_store_row rfl (.tmp 4) (.tmp 142) 87 rfl w.heap.size rfl zeroS (sCells 5 0 (-1) x.var x.v false 0) rfl 87 (HRE.out _ _ _) Tryz.infoStmt10 rfl (by simp [sCells, Value.oneCell']) ?_)
    refine bodyPost_ret (v := .tuple #[.agg (sCells 5 0 (-1) x.var x.v false 0), .int .i64 0]) ?_ rfl ?_
    · exact results_cell_tmp (p := 4) (q := 5) (ty := 87) Tryz.results24 _ _ ⟨w.heap.size, 0, none⟩ _ rfl (run_loadVar_row _ _ _ _ _ _ _ (setRow_heap _ _ _ _ _ _ (HRE.out _ _ _)) Tryz.underlying87 rfl Tryz.infoStmt10)
    · rw [HR.out]
      exact ⟨fun _ => ⟨rfl, m, HH.out.below (HBE.out _ _ _ _), HO.out, Stays.below (HBE.out _ _ _ _)⟩, fun h => absurd rfl h⟩
set_option maxRecDepth 100000 in
set_option maxHeartbeats 4000000 in
theorem st_while (h : RefAt lo base Rb Pb w0 w m) (hr : RefOf r fl t m) (b off cap : Nat) (a : List UInt8) (ha : a.length ≤ 100000) (hb : b < w.heap.size) (hcap : 2 ≤ cap ∧ cap ≤ maxLen) (c0 : w.cell? ⟨b, off, none⟩ = some (.string ⟨#[119, 104, 105, 108, 101]⟩)) (c1 : w.cell? ⟨b, off + 1, none⟩ = some (.string ⟨a.toArray⟩)) :
    Calls Tryz.prog 24 #[.pointer (some ⟨Rb, 0, none⟩), .slice (some ⟨b, off, none⟩) 2 cap] w (StEnds lo base Rb Pb w0 w m fl t (stIf r 6 a)) := by
  have hba := h.hba
  have HH : Hid (RefAt lo base Rb Pb w0 w m) := h
  have HO : Hid (RefOf r fl t m) := hr
  have HAT : Hid (∀ W, Below w.heap.size w W → Calls Tryz.prog 37 #[.pointer (some ⟨Rb, 0, none⟩), .string ⟨a.toArray⟩] W (AtEnds (r.atom a) W)) := fun W hW => fatom_any (h.below hW) hr a ha
  have HVA : Hid (stIf r 6 a = match r.atom a with | none => (4, noS, r) | some x => (0, ⟨6, 0, 0, ⟨-1, x, Fl.no0⟩, [], []⟩, r)) := by
    show _ = _
    have hv : r.value [a] = (r.atom a).map fun x => ⟨-1, x, Fl.no0⟩ := rfl
    unfold stIf
    rw [hv]
    generalize r.atom a = o
    cases o <;> rfl
  obtain ⟨res, hres⟩ : ∃ res, res = stIf r 6 a := ⟨_, rfl⟩
  rw [← hres] at HVA ⊢
  obtain ⟨oa, hoa⟩ : ∃ oa, oa = r.atom a := ⟨_, rfl⟩
  rw [← hoa] at HAT HVA
  have hcapI : (2 : Int) ≤ (cap : Int) := by omega
  have HB : Hid (∀ o o', Below w.heap.size w ((w.alloc o).alloc o')) := fun o o' => ((Below.refl _ _).alloc (Nat.le_refl _) _).alloc (by simp) _
  clear h hr hres hoa
  go_enter Tryz.func24, Tryz.ntmps24
  go_wp2_with fail
  refine (HAT.out _ (HB.out _ _)).mono ?_
  rintro e W1 ⟨hb1, hgood, hbad⟩
  have rE : W1.heap[w.heap.size]? = some (.cells zeroS 87 (0, 0)) := by
    rw [hb1.block _ (by simp; omega), Below.heap_alloc _ _ _ (by simp)]; exact heapAt _ _ _ rfl
  have rS : W1.heap[w.heap.size + 1]? = some (.cells (sCells 6 0 (-1) false 0 false 0) 87 (0, 0)) := by
    rw [hb1.block _ (by simp)]; exact heapAt _ _ _ (by simp)
  have HBW : Hid (Below w.heap.size w W1) := (HB.out _ _).trans (hb1.mono (by simp; omega))
  have hz1 : w.heap.size + 2 ≤ W1.heap.size := by have := hb1.size; simp at this; omega
  have hz2 : w.heap.size + 1 < W1.heap.size := by omega
  have hz3 : w.heap.size < W1.heap.size := by omega
  have s0 : W1.cell? ⟨w.heap.size + 1, 0, none⟩ = some (.int .i64 6) := cell_of_row _ _ 0 _ _ (0, 0) rS
  have s1 : W1.cell? ⟨w.heap.size + 1, 1, none⟩ = some (.int .i64 0) := cell_of_row _ _ 1 _ _ (0, 0) rS
  have s2 : W1.cell? ⟨w.heap.size + 1, 2, none⟩ = some (.int .i64 0) := cell_of_row _ _ 2 _ _ (0, 0) rS
  have s3 : W1.cell? ⟨w.heap.size + 1, 3, none⟩ = some (.int .i64 (-1)) := cell_of_row _ _ 3 _ _ (0, 0) rS
  have s4 : W1.cell? ⟨w.heap.size + 1, 4, none⟩ = some (.bool false) := cell_of_row _ _ 4 _ _ (0, 0) rS
  have s5 : W1.cell? ⟨w.heap.size + 1, 5, none⟩ = some (.int .i64 0) := cell_of_row _ _ 5 _ _ (0, 0) rS
  have s6 : W1.cell? ⟨w.heap.size + 1, 6, none⟩ = some (.bool false) := cell_of_row _ _ 6 _ _ (0, 0) rS
  have s7 : W1.cell? ⟨w.heap.size + 1, 7, none⟩ = some (.int .i64 0) := cell_of_row _ _ 7 _ _ (0, 0) rS
  have s8 : W1.cell? ⟨w.heap.size + 1, 8, none⟩ = some (.slice none 0 0) := cell_of_row _ _ 8 _ _ (0, 0) rS
  have s9 : W1.cell? ⟨w.heap.size + 1, 9, none⟩ = some (.slice none 0 0) := cell_of_row _ _ 9 _ _ (0, 0) rS
  have sz : ∀ j, W1.frozen? ⟨w.heap.size + 1, j, none⟩ = false := fun j => by simp [World.frozen?, rS]
  have RE : Hid (W1.heap[w.heap.size]? = some (.cells zeroS 87 (0, 0))) := rE
  clear rE rS hb1
  have HRE : Hid (∀ u v a, (((W1.setCell ⟨w.heap.size + 1, 4, none⟩ u).setCell ⟨w.heap.size + 1, 5, none⟩ v).alloc a).heap[w.heap.size]? = some (.cells zeroS 87 (0, 0))) := fun u v a => by
    rw [Below.heap_alloc _ _ _ (by rw [setCell_size, setCell_size]; exact hz3), setCell_block _ _ _ _ _ (by omega), setCell_block _ _ _ _ _ (by omega)]; exact RE.out
  have HBE : Hid (∀ u v a c, Below w.heap.size w ((((W1.setCell ⟨w.heap.size + 1, 4, none⟩ u).setCell ⟨w.heap.size + 1, 5, none⟩ v).alloc a).setRow w.heap.size c)) := fun u v a c => by
    refine below_setRow ((((HBW.out.setCell (by show w.heap.size ≤ w.heap.size + 1; omega) _).setCell (by show w.heap.size ≤ w.heap.size + 1; omega) _)).alloc (by rw [setCell_size, setCell_size]; omega) _) (Nat.le_refl _) _
  cases oa with
  | none =>
    obtain ⟨v, rfl⟩ := hbad rfl
    have HR : Hid (res = (4, noS, r)) := HVA.out
    clear hgood hbad
    go_wp2_with (refine wpList_store_row rfl (.tmp 4) (.tmp 141) 87 rfl w.heap.size rfl zeroS (sCells 6 0 (-1) true v false 0) rfl 87 (HRE.out _ _ _) Tryz.infoStmt10 rfl (by simp [sCells, Value.oneCell']) ?_)
    refine bodyPost_ret (v := .tuple #[.agg (sCells 6 0 (-1) true v false 0), .int .i64 4]) ?_ rfl ?_
    · exact results_cell_tmp (p := 4) (q := 5) (ty := 87) Tryz.results24 _ _ ⟨w.heap.size, 0, none⟩ _ rfl (run_loadVar_row _ _ _ _ _ _ _ (setRow_heap _ _ _ _ _ _ (HRE.out _ _ _)) Tryz.underlying87 rfl Tryz.infoStmt10)
    · rw [HR.out]
      exact ⟨fun h => (by cases h), fun _ => ⟨⟨_, _, _, _, _, _, _, rfl⟩, (HH.out.below (HBE.out _ _ _ _)).bel⟩⟩
  | some x =>
    obtain rfl := hgood x rfl
    have HR : Hid (res = (0, ⟨6, 0, 0, ⟨-1, x, Fl.no0⟩, [], []⟩, r)) := HVA.out
    clear hgood hbad
    go_wp2_with (refine wpList_store_row rfl (.tmp 4) (.tmp 142) 87 rfl w.heap.size rfl zeroS (sCells 6 0 (-1) x.var x.v false 0) rfl 87 (HRE.out _ _ _) Tryz.infoStmt10 rfl (by simp [sCells, Value.oneCell']) ?_)
    refine bodyPost_ret (v := .tuple #[.agg (sCells 6 0 (-1) x.var x.v false 0), .int .i64 0]) ?_ rfl ?_
    · exact results_cell_tmp (p := 4) (q := 5) (ty := 87) Tryz.results24 _ _ ⟨w.heap.size, 0, none⟩ _ rfl (run_loadVar_row _ _ _ _ _ _ _ (setRow_heap _ _ _ _ _ _ (HRE.out _ _ _)) Tryz.underlying87 rfl Tryz.infoStmt10)
    · rw [HR.out]
      exact ⟨fun _ => ⟨rfl, m, HH.out.below (HBE.out _ _ _ _), HO.out, Stays.below (HBE.out _ _ _ _)⟩, fun h => absurd rfl h⟩
end
end Go.Proofs.YthfacjlghcdndaaGreatDoor

namespace Go.Proofs.YthfacjlghcdndaaGreatDoor
open Go.RowKit
section
variable {ops : Array Oper} {Q : Exit → Act → World → Prop} {rest : List Oper} {a : Act} {w : World} {ty : TypeId} {ps : String} {af : Array Edge} {p d : Nat} {y : Operand}
theorem wpList_load_stmt (g : Nat) (arr : Array Value) (hg : w.heap[g]? = some (.cells arr 87 (0, 0))) (hsz : arr.size = 10) (hx : a.eval (.tmp p) = .pointer (some ⟨g, 0, none⟩)) (h : wpList Tryz.prog ops Q rest (a.put (some d) (.agg arr)) w) :
    wpList Tryz.prog ops Q ({ dst := some d, op := .load 87 (.tmp p), type := ty, pos := ps, after := af, guard := none } :: rest) a w :=
  wpList_load_row rfl (.tmp p) 87 rfl g hx arr 87 (0, 0) hg _ Tryz.underlying87 rfl (by rw [hsz]; exact Tryz.infoStmt10) h
theorem wpList_store_stmt (g : Nat) (c c' : Array Value) (hg : w.heap[g]? = some (.cells c 87 (0, 0))) (hsz : c.size = 10) (hsz' : c'.size = 10) (h1 : c'.all (·.oneCell') = true) (hx : a.eval (.tmp p) = .pointer (some ⟨g, 0, none⟩)) (hy : a.eval y = .agg c') (h : wpList Tryz.prog ops Q rest (a.put none undef) (w.setRow g c')) :
    wpList Tryz.prog ops Q ({ dst := none, op := .store 87 (.tmp p) y, type := ty, pos := ps, after := af, guard := none } :: rest) a w :=
  wpList_store_row rfl (.tmp p) y 87 rfl g hx c c' hy 87 hg (by rw [hsz']; exact Tryz.infoStmt10) (by rw [hsz, hsz']) h1 h
theorem at_load {P : Program} (p : Nat) (h : wpList P ops Q ({ dst := some d, op := .load 87 (.tmp p), type := ty, pos := ps, after := af, guard := none } :: rest) a w) : wpList P ops Q ({ dst := some d, op := .load 87 (.tmp p), type := ty, pos := ps, after := af, guard := none } :: rest) a w := h
theorem at_store {P : Program} (p : Nat) (h : wpList P ops Q ({ dst := none, op := .store 87 (.tmp p) y, type := ty, pos := ps, after := af, guard := none } :: rest) a w) : wpList P ops Q ({ dst := none, op := .store 87 (.tmp p) y, type := ty, pos := ps, after := af, guard := none } :: rest) a w := h
end
theorem sCells_one (k x op : Int) (av : Bool) (an : Int) (bv : Bool) (bn : Int) : (sCells k x op av an bv bn).all (·.oneCell') = true := by simp [sCells, Value.oneCell']
theorem sCells_size (k x op : Int) (av : Bool) (an : Int) (bv : Bool) (bn : Int) : (sCells k x op av an bv bn).size = 10 := rfl
theorem row_set {w : World} {b : Nat} {arr : Array Value} {t : TypeId} (h : w.heap[b]? = some (.cells arr t (0, 0))) (i : Nat) (v : Value) (arr' : Array Value) (he : arr.setIfInBounds i v = arr') : (w.setCell ⟨b, i, none⟩ v).heap[b]? = some (.cells arr' t (0, 0)) := by
  rw [heap_setCell_same w b i arr t v h, he]
end Go.Proofs.YthfacjlghcdndaaGreatDoor

namespace Go.Proofs.YthfacjlghcdndaaGreatDoor
open Go.RowKit
theorem build_else (W : World) : (Instr.build 87 #[(0, .int .i64 (-1))]).run Tryz.prog W = .ok (.agg (fsCells fElse).toArray) W := by kernel_rfl
theorem build_end (W : World) : (Instr.build 87 #[(0, .int .i64 (-2))]).run Tryz.prog W = .ok (.agg (fsCells fEnd).toArray) W := by kernel_rfl
theorem wpList_store_midW {P : Program} {ops : Array Oper} {rest : List Oper} {op : Oper} {a : Act} {w W' : World} {Q : Exit → Act → World → Prop} (hgd : op.guard = none) (ty : TypeId) (x y : Operand) (ho : op.op = .store ty x y)
    (b o : Nat) (cells : Array Value) (hx : a.eval x = .pointer (some ⟨b, o, none⟩)) (hy : a.eval y = .agg cells)
    (ht : w.there b o cells.size) (hi : (P.info? ty).map (·.size) = some cells.size) (h1 : cells.all (·.oneCell') = true) (hW : w.setCells b o cells.toList = W')
    (h : wpList P ops Q rest (a.put op.dst undef) W') : wpList P ops Q (op :: rest) a w := wpList_store_mid hgd ty x y ho b o cells hx hy ht hi h1 (by rw [hW]; exact h)
theorem zeroS_one : ∀ u ∈ zeroS, u.oneCell' = true := Array.all_eq_true_iff_forall_mem.1 (show zeroS.all (·.oneCell') = true by kernel_rfl)
section
variable {lo base Rb Pb : Nat} {w0 w w' : World} {m : RMem} {r : Fl.RS} {fl : List FlS} {t : Nat}
theorem RefAt.deep (h : RefAt lo base Rb Pb w0 w m) (hr : RefOf r fl t m) {f : Fl.Frame} {fs : List Fl.Frame} (hf : r.fr = f :: fs) : ∃ g cap, m.v 8 = .slice (some ⟨g, 0, none⟩) (fs.length + 1) cap ∧ m.n 8 = fs.length + 1 ∧ m.xs 8 = deepV fs ++ [.int .u8 (deepC f : Nat)] ∧ base ≤ g ∧ g < w.heap.size ∧ w.cell? ⟨g, fs.length, none⟩ = some (.int .u8 (deepC f : Nat)) ∧ w.frozen? ⟨g, fs.length, none⟩ = false := by
  have h8 : isRow 8 := by unfold isRow; omega
  have ho := h.own 8 h8
  have h1 : m.n 8 = fs.length + 1 := by rw [hr.r8.1, hf]; rfl
  have h2 : m.xs 8 = deepV fs ++ [.int .u8 (deepC f : Nat)] := by rw [hr.r8.2, hf, deepV_cons]
  rcases ho.2 with ⟨h3, h4⟩ | ⟨g, cap, cur, h3, hb, hg, hc, hm, hs, ht⟩
  · omega
  · have h5 : m.v 8 = .slice (some ⟨g, 0, none⟩) (fs.length + 1) cap := by rw [h3, h1]
    refine ⟨g, cap, h5, h1, h2, hb, (ho.lt g (by rw [h5]; rfl)).2, ?_, by simp [World.frozen?, hg]⟩
    have h6 := ho.cells (g := g) (by rw [h5]; rfl) fs.length (.int .u8 (deepC f : Nat)) (by rw [h2, List.getElem?_append_right (by rw [deepV_len]; omega), deepV_len]; simp)
    have h7 : (⟨g, 0, none⟩ : Addr).add fs.length = ⟨g, fs.length, none⟩ := by unfold Addr.add; split <;> simp_all
    rw [h7] at h6; exact h6
set_option maxRecDepth 100000 in
set_option maxHeartbeats 4000000 in
theorem row_else (h : RefAt lo base Rb Pb w0 w m) (hr : RefOf r fl t m) (hfl : FlatR fl r) (hcn : cnt fl = r.stmts) (hfn : ∀ f ∈ r.fr, (f.kind = 5 ∨ (f.kind = 6 ∧ f.had = false)) ∧ (f.had = false → f.els = [])) (ht : t ≤ 100000) (b off cap : Nat) (at_ : Int) (c0 : w.cell? ⟨b, off, none⟩ = some (.string ⟨#[101, 108, 115, 101]⟩)) (hb : r.begun = true) (i : Nat) :
    Calls Tryz.prog 13 #[.pointer (some ⟨Rb, 0, none⟩), .slice (some ⟨b, off, none⟩) 1 cap, .int .i64 at_] w (RwEnds lo base Rb Pb w0 t (r.stmt i [Fl.wElse])) := by
  obtain ⟨b1, b2, b3, b4, b5, b6, b7⟩ := h.hba
  have hRz : Rb < w.heap.size := by omega
  have x7 : w.cell? ⟨Rb, 7, none⟩ = some (.bool true) := by rw [← hb, ← hr.bg]; exact h.cR.c 7 (by omega)
  have x8 : w.cell? ⟨Rb, 8, none⟩ = some (m.v 8) := h.cR.c 8 (by omega)
  obtain ⟨d10, k10, hv10⟩ := h.shape 10 (by unfold isRow; omega)
  rw [hr.r10.1] at hv10
  have x10 : w.cell? ⟨Rb, 10, none⟩ = some (.slice d10 fl.length k10) := by rw [← hv10]; exact h.cR.c 10 (by omega)
  have hft := hr.ft
  have hn10 : fl.length ≤ 100000 := by omega
  have hn10I : (fl.length : Int) ≤ 100000 := by omega
  have H3 : Hid (RwEnds lo base Rb Pb w0 t (3, r) (.returned (.int .i64 3)) w) := ⟨rfl, fun h => (by cases h), fun _ => h.bel⟩
  cases hf : r.fr with
  | nil =>
    have e : r.stmt i [Fl.wElse] = (3, r) := by simp [Fl.RS.stmt, hf]
    obtain ⟨d8, k8, hv8⟩ := h.shape 8 (by unfold isRow; omega)
    rw [hr.r8.1, hf] at hv8
    rw [hv8] at x8
    rw [e]
    clear h hr e hf hfl hcn hfn hb hv8 hv10
    simp only [List.length_nil] at x8
    go_enter Tryz.func13, Tryz.ntmps13
    go_wp2
    go_ret
    exact H3.out
  | cons f fs =>
    obtain ⟨g8, k8, hv8, hn8, hx8, hg8, hg8z, c8, z8⟩ := h.deep hr hf
    rw [hv8] at x8
    have hfr := hr.fr
    rw [hf, List.length_cons] at hfr
    obtain ⟨kd, hkd⟩ : ∃ kd, kd = fs.length := ⟨_, rfl⟩
    have hkI : (kd : Int) ≤ 2 := by omega
    obtain ⟨hkk, hno⟩ := hfn f (by rw [hf]; simp)
    by_cases hgood : f.kind = 5 ∧ f.had = false
    · have hdc : deepC f = 105 := by simp [deepC, hgood.1, hgood.2]
      rw [hdc] at c8 hx8
      have e : r.stmt i [Fl.wElse] = (0, r.elses) := by simp [Fl.RS.stmt, hf, hgood.1, hgood.2]
      rw [e]
      obtain ⟨m1, hm1⟩ : ∃ m1, m1 = deepAt m (m.v 8) (m.n 8) (deepV fs ++ [.int .u8 101]) := ⟨_, rfl⟩
      obtain ⟨W1, hW1⟩ : ∃ W1, W1 = w.setCell ⟨g8, kd, none⟩ (.int .u8 101) := ⟨_, rfl⟩
      have HR1 : Hid (RefAt lo base Rb Pb w0 W1 m1) := by show RefAt _ _ _ _ _ _ _; rw [hm1, hW1, hkd]; exact h.deepSet hv8 hn8 hx8
      have HENDS : Hid (∀ v', RefOf r.elses (fl ++ [fElse]) (t + 1) (m1.app 10 v' (fsCells fElse))) := fun v' => by rw [hm1]; exact hr.elses hf hgood.1 _ _
      have HFL : Hid (FlatR (fl ++ [fElse]) r.elses ∧ cnt (fl ++ [fElse]) = r.elses.stmts) := ⟨flatR_elses hfl hf hgood.2 (hno hgood.2), by rw [cnt_append, hcn]; unfold Fl.RS.elses; rw [hf]; rfl⟩
      have HV10 : Hid (m1.v 10 = .slice d10 fl.length k10) := by show _ = _; rw [hm1, (deepAt_v _ _ _ _ (by decide)).1]; exact hv10
      have HN10 : Hid (m1.n 10 = fl.length) := by show _ = _; rw [hm1, (deepAt_v _ _ _ _ (by decide)).2.1]; exact hr.r10.1
      have HX10 : Hid (m1.xs 10 = flatV fl) := by show _ = _; rw [hm1, (deepAt_v _ _ _ _ (by decide)).2.2]; exact hr.r10.2
      have y10 : W1.cell? ⟨Rb, 10, none⟩ = some (.slice d10 fl.length k10) := by rw [← HV10.out]; exact HR1.out.cR.c 10 (by omega)
      have hz1 : W1.heap.size = w.heap.size := by rw [hW1, setCell_size]
      have hz1b : base ≤ W1.heap.size := by omega
      have hRz1 : Rb < W1.heap.size := by omega
      have HW1 : Hid (W1 = w.setCell ⟨g8, kd, none⟩ (.int .u8 101)) := hW1
      have HBLD : Hid (∀ W : World, _) := build_else
      rw [← hkd] at x8 c8 z8
      clear h hr hfl hcn hfn hb hf hm1 hW1 hkd hv8 hn8 hx8 hno hkk e hv10 hfr hz1 hgood hdc
      go_enter Tryz.func13, Tryz.ntmps13
      go_wp2_with fail
      rw [← HW1.out]
      clear HW1 x7 x8 x10 c8 z8
      refine wp_region_two_phase (fun W => W.cell? ⟨Rb, 10, none⟩ = some (.slice d10 fl.length k10)) [8, 9, 10, 11, 12] [(0, 0), (0, 1), (0, 2), (0, 3), (0, 4), (0, 5), (1, 6), (1, 7)] [(0, 8), (0, 10), (0, 11)] 9 12 (by kernel_rfl) (by kernel_rfl) rfl [(_, _), (_, _), (_, _), (_, _), (_, _), (_, _), (_, _), (_, _)] [(_, _), (_, _), (_, _)] _ _ rfl rfl rfl rfl (fun c a d v w h => by cases d <;> exact h) y10 (fun ops => ?_)
      simp only [List.getElem_toArray, List.getElem_cons_succ, List.getElem_cons_zero]
      iterate 4
        refine then_read rfl (fun K hK => ?_)
        apply Exists.intro
        refine ⟨fun w' hw' => ?_, ?_⟩
        · have q1 := hw'
          go_simp
          try with_reducible rfl
        go_simp
        refine hK _ ?_
        clear hK K
      refine then_read rfl (fun K hK => ?_)
      refine ⟨.agg (fsCells fElse).toArray, fun w' hw' => exec_build 87 _ rfl _ _ (by kernel_rfl) (build_else _), hK _ ?_⟩
      clear hK K
      iterate 1
        refine then_read rfl (fun K hK => ?_)
        apply Exists.intro
        refine ⟨fun w' hw' => ?_, ?_⟩
        · have q1 := hw'
          go_simp
          try with_reducible rfl
        go_simp
        refine hK _ ?_
        clear hK K
      refine then_do ?_
      go_wp2_with fail
      obtain ⟨W3, hW3⟩ : ∃ W3, W3 = (W1.alloc (.cells zeroS 87)).drew := ⟨_, rfl⟩
      obtain ⟨tb, htb⟩ : ∃ tb, tb = W1.heap.size := ⟨_, rfl⟩
      have hB3 : Below W1.heap.size W1 W3 := by rw [hW3]; exact ((Below.refl _ _).alloc (Nat.le_refl _) _).drew
      have hz3 : W1.heap.size + 1 = W3.heap.size := by rw [hW3]; simp
      have t0 : ∀ i u, (zeroS.toList)[i]? = some u → W3.cell? ((⟨tb, 0, none⟩ : Addr).add i) = some u := by rw [hW3, htb]; exact cells_new (l := zeroS.toList) rfl
      have HB3 : Hid (Below W1.heap.size W1 W3) := hB3
      have HO3 : Hid (W3.ownsRow base 87 10 (.slice d10 fl.length k10) fl.length (flatV fl)) := by
        have h1 := (HR1.out.below hB3).own 10 (by unfold isRow; omega)
        rw [HV10.out, HN10.out, HX10.out] at h1
        exact h1
      have hS3 : (fun W => W.cell? ⟨Rb, 10, none⟩ = some (.slice d10 fl.length k10)) W3 := (HB3.out.cell (p := ⟨Rb, 10, none⟩) (by show Rb < _; omega)).trans y10
      try rw [show ∀ o, (W1.drew.alloc o) = (W1.alloc o).drew from fun _ => rfl]
      have eW3 : (W1.alloc (.cells #[.int .i64 0, .int .i64 0, .int .i64 0, .int .i64 0, .bool false, .int .i64 0, .bool false, .int .i64 0, .slice none 0 0, .slice none 0 0] 87)).drew = W3 := hW3.symm
      rw [eW3, ← htb]
      clear hW3 htb eW3 hB3
      refine ⟨hS3, ?_⟩
      refine then_do ?_
      obtain ⟨i0, hi0, hz0, hzs, hzb⟩ := info_parts Tryz.infoStmtP
      go_wp2_with (at_builtin; refine wpList_append_at _ rfl (.tmp 81) (.tmp 84) 37 rfl base 87 i0 (.agg zeroS) 10 112 Tryz.underlying37 hi0 hz0 hzs hzb rfl (by decide) _ _ _ rfl HO3.out ⟨tb, 0, none⟩ 1 1 zeroS.toList rfl rfl (by decide) t0 ?c2 ?c3 ?c4 ?c5 ?_)
      case c2 => exact zeroS_one
      case c3 => unfold maxLen; omega
      case c4 => omega
      case c5 => omega
      intro v' W4 hown4 hg4 hwh4
      obtain ⟨g, gc, rfl⟩ : ∃ g gc, v' = .slice (some ⟨g, 0, none⟩) (fl.length + 1) gc := by
        rcases hown4.2 with ⟨h1, h2⟩ | ⟨g, cp, cur, h1, _⟩
        · omega
        · exact ⟨g, cp, h1⟩
      have hlt3 : ∀ k, (Value.slice d10 fl.length k10).ownBlock = some k → base ≤ k ∧ k < W1.heap.size + 1 := fun k hk => by have := HO3.out.lt k hk; omega
      have hgb : base ≤ g := (hown4.lt g rfl).1
      have hqR : W4.heap[Rb]? = W3.heap[Rb]? := hg4.block Rb (by omega) (fun hh => by have := (hlt3 Rb hh.symm).1; omega)
      have hS4 : (fun W => W.cell? ⟨Rb, 10, none⟩ = some (.slice d10 fl.length k10)) W4 := (World.cell?_of_block (a := ⟨Rb, 10, none⟩) hqR).trans hS3
      have gz : ∀ j, W4.frozen? ⟨Rb, j, none⟩ = false := fun j => (World.frozen?_of_block (a := ⟨Rb, j, none⟩) hqR).trans ((HB3.out.frozen (p := ⟨Rb, j, none⟩) (by show Rb < _; omega)).trans (HR1.out.cR.z j))
      have g0 : W4.cell? ⟨Rb, 10, none⟩ = some (.slice d10 fl.length k10) := hS4
      have HTH : Hid (W4.there g (fl.length * 10) 10) := own_there hown4
      have H5 : Hid (RefAt lo base Rb Pb w0 ((W4.setCells g (fl.length * 10) (fsCells fElse)).setCell ⟨Rb, 10, none⟩ (.slice (some ⟨g, 0, none⟩) (fl.length + 1) gc)) (m1.app 10 (.slice (some ⟨g, 0, none⟩) (fl.length + 1) gc) (fsCells fElse))) := by
        have h1 := HR1.out.flat (W3 := W3) (W4 := W4) (g := g) (cap := gc) (z := zeroS.toList) (cs := (fsCells fElse)) HB3.out (by rw [HN10.out, HX10.out]; exact hown4) rfl rfl (by rw [HV10.out]; exact hg4) (by rw [HV10.out]; exact hwh4)
        rw [HN10.out] at h1
        exact h1
      have HCM : Hid ((W4.setCell ⟨Rb, 10, none⟩ (.slice (some ⟨g, 0, none⟩) (fl.length + 1) gc)).setCells g (fl.length * 10) (fsCells fElse) = (W4.setCells g (fl.length * 10) (fsCells fElse)).setCell ⟨Rb, 10, none⟩ (.slice (some ⟨g, 0, none⟩) (fl.length + 1) gc)) := setCells_comm g Rb 10 _ (by omega) _ _ _
      obtain ⟨W5, hW5⟩ : ∃ W5, W5 = W4.setCells g (fl.length * 10) (fsCells fElse) := ⟨_, rfl⟩
      have HA1 : Hid (W4.setCells g (fl.length * 10) ((fsCells fElse)).toArray.toList = W5) := hW5.symm
      obtain ⟨W6, hW6⟩ : ∃ W6, W6 = W5.setCell ⟨Rb, 10, none⟩ (.slice (some ⟨g, 0, none⟩) (fl.length + 1) gc) := ⟨_, rfl⟩
      have HA2 : Hid ((W4.setCell ⟨Rb, 10, none⟩ (.slice (some ⟨g, 0, none⟩) (fl.length + 1) gc)).setCells g (fl.length * 10) ((fsCells fElse)).toArray.toList = W6) := by show _ = _; rw [hW6, hW5]; exact HCM.out
      have HW6 : Hid (W6 = W5.setCell ⟨Rb, 10, none⟩ (.slice (some ⟨g, 0, none⟩) (fl.length + 1) gc)) := hW6
      rw [← hW5] at H5
      have g0' : (W4.setCells g (fl.length * 10) (fsCells fElse)).cell? ⟨Rb, 10, none⟩ = some (.slice d10 fl.length k10) := (World.cell?_of_block (a := ⟨Rb, 10, none⟩) (setCells_block g _ W4 _ Rb (by omega))).trans g0
      have gz' : (W4.setCells g (fl.length * 10) (fsCells fElse)).frozen? ⟨Rb, 10, none⟩ = false := (World.frozen?_setCells g _ _ _ _).trans (gz 10)
      have HTH2 : Hid (∀ v, (W4.setCell ⟨Rb, 10, none⟩ v).there g (fl.length * 10) 10) := fun v j hj => ⟨by rw [World.cell?_of_block (a := ⟨g, fl.length * 10 + j, none⟩) (setCell_block _ _ _ _ _ (by show g ≠ Rb; omega))]; exact (HTH.out j hj).1, by rw [World.frozen?_setCell]; exact (HTH.out j hj).2⟩
      rw [← hW5] at g0' gz'
      clear hW5 hW6 HCM
      have HE : Hid (RwEnds lo base Rb Pb w0 t (0, r.elses) (.returned (.int .i64 0)) (W5.setCell ⟨Rb, 10, none⟩ (.slice (some ⟨g, 0, none⟩) (fl.length + 1) gc))) := ⟨rfl, fun _ => ⟨_, _, H5.out, HENDS.out _, HFL.out.1, HFL.out.2⟩, fun hh => absurd rfl hh⟩
      have HE2 : Hid (RwEnds lo base Rb Pb w0 t (0, r.elses) (.returned (.int .i64 0)) W6) := by show RwEnds _ _ _ _ _ _ _ _ _; rw [HW6.out]; exact HE.out
      clear H5 HENDS HFL HW6
      clear hown4 hg4 hwh4 hqR t0 HO3 HB3 hlt3 HR1 HV10 HN10 HX10 hS3 hi0 hz0 hzs hzb i0
      go_wp2_with fail
      refine ⟨hS4, ?_⟩
      try (refine then_end ?_; refine ⟨hS4, ?_⟩)
      clear hS4
      have hidx : (fl.length : Int) < (fl.length : Int) + 1 := by omega
      try simp only [List.getElem_toArray, List.getElem_cons_succ, List.getElem_cons_zero]
      iterate 3
        refine then_read rfl (fun K hK => ?_)
        apply Exists.intro
        refine ⟨fun w' hw' => ?_, ?_⟩
        · clear hw'
          go_simp
          try with_reducible rfl
        go_simp
        refine hK _ ?_
        clear hK K
      refine then_end ?_
      refine ⟨trivial, ?_, ?_⟩
      · go_wp2_with (refine at_store 86 ?_; refine wpList_store_midW rfl 87 (.tmp 86) (.tmp 82) rfl g (fl.length * 10) ((fsCells fElse)).toArray rfl rfl HTH.out Tryz.infoStmt10 (by kernel_rfl) HA1.out ?_)
        go_wp2
        go_ret
        exact HE.out
      · go_wp2_with (refine at_store 86 ?_; refine wpList_store_midW rfl 87 (.tmp 86) (.tmp 82) rfl g (fl.length * 10) ((fsCells fElse)).toArray rfl rfl (HTH2.out _) Tryz.infoStmt10 (by kernel_rfl) HA2.out ?_)
        go_wp2
        go_ret
        exact HE2.out
    · have e : r.stmt i [Fl.wElse] = (3, r) := by
        simp only [Fl.RS.stmt, hf]
        rw [if_pos (by decide), if_neg hgood]
      rw [e]
      have hdc : deepC f = 119 ∨ deepC f = 101 := by
        unfold deepC
        rcases hkk with h1 | h1
        · have h2 : f.had = true := by
            cases h3 : f.had with
            | true => rfl
            | false => exact absurd ⟨h1, h3⟩ hgood
          right; simp [h1, h2]
        · left; simp [h1.1]
      rw [← hkd] at x8 c8 z8
      clear h hr hfl hcn hfn hb hf hkd hv8 hn8 hx8 hno hkk e hgood hv10 hfr x10
      rcases hdc with hdc | hdc
      all_goals
        rw [hdc] at c8
        clear hdc
        go_enter Tryz.func13, Tryz.ntmps13
        go_wp2
        go_ret
        exact H3.out
set_option maxRecDepth 100000 in
set_option maxHeartbeats 4000000 in
theorem row_end (h : RefAt lo base Rb Pb w0 w m) (hr : RefOf r fl t m) (hfl : FlatR fl r) (hcn : cnt fl = r.stmts) (hfn : ∀ f ∈ r.fr, (f.kind = 5 ∨ (f.kind = 6 ∧ f.had = false)) ∧ (f.had = false → f.els = [])) (ht : t ≤ 100000) (b off cap : Nat) (at_ : Int) (c0 : w.cell? ⟨b, off, none⟩ = some (.string ⟨#[101, 110, 100]⟩)) (hb : r.begun = true) (i : Nat) :
    Calls Tryz.prog 13 #[.pointer (some ⟨Rb, 0, none⟩), .slice (some ⟨b, off, none⟩) 1 cap, .int .i64 at_] w (RwEnds lo base Rb Pb w0 t (r.stmt i [Fl.wEnd])) := by
  obtain ⟨b1, b2, b3, b4, b5, b6, b7⟩ := h.hba
  have hRz : Rb < w.heap.size := by omega
  have x7 : w.cell? ⟨Rb, 7, none⟩ = some (.bool true) := by rw [← hb, ← hr.bg]; exact h.cR.c 7 (by omega)
  have x8 : w.cell? ⟨Rb, 8, none⟩ = some (m.v 8) := h.cR.c 8 (by omega)
  obtain ⟨d10, k10, hv10⟩ := h.shape 10 (by unfold isRow; omega)
  rw [hr.r10.1] at hv10
  have x10 : w.cell? ⟨Rb, 10, none⟩ = some (.slice d10 fl.length k10) := by rw [← hv10]; exact h.cR.c 10 (by omega)
  have hft := hr.ft
  have hn10 : fl.length ≤ 100000 := by omega
  have hn10I : (fl.length : Int) ≤ 100000 := by omega
  have H3 : Hid (RwEnds lo base Rb Pb w0 t (3, r) (.returned (.int .i64 3)) w) := ⟨rfl, fun h => (by cases h), fun _ => h.bel⟩
  cases hf : r.fr with
  | nil =>
    have e : r.stmt i [Fl.wEnd] = (3, r) := by simp [Fl.RS.stmt, hf]
    obtain ⟨d8, k8, hv8⟩ := h.shape 8 (by unfold isRow; omega)
    rw [hr.r8.1, hf] at hv8
    rw [hv8] at x8
    rw [e]
    clear h hr e hf hfl hcn hfn hb hv8 hv10
    simp only [List.length_nil] at x8
    go_enter Tryz.func13, Tryz.ntmps13
    go_wp2
    go_ret
    exact H3.out
  | cons f fs =>
    obtain ⟨g8, k8, hv8, hn8, hx8, hg8, hg8z, c8, z8⟩ := h.deep hr hf
    rw [hv8] at x8
    have hfr := hr.fr
    rw [hf, List.length_cons] at hfr
    obtain ⟨kd, hkd⟩ : ∃ kd, kd = fs.length := ⟨_, rfl⟩
    have hkI : (kd : Int) ≤ 2 := by omega
    obtain ⟨hkk, hno⟩ := hfn f (by rw [hf]; simp)
    · have e : r.stmt i [Fl.wEnd] = (0, r.ends) := by simp [Fl.RS.stmt, hf, Fl.wEnd, Fl.wElse]
      rw [e]
      obtain ⟨m1, hm1⟩ : ∃ m1, m1 = deepAt m (.slice (some ⟨g8, 0, none⟩) kd k8) fs.length (deepV fs) := ⟨_, rfl⟩
      obtain ⟨W1, hW1⟩ : ∃ W1, W1 = w.setCell ⟨Rb, 8, none⟩ (.slice (some ⟨g8, 0, none⟩) kd k8) := ⟨_, rfl⟩
      have HR1 : Hid (RefAt lo base Rb Pb w0 W1 m1) := by show RefAt _ _ _ _ _ _ _; rw [hm1, hW1, hkd]; exact h.deepCut hv8 hn8 hx8
      have HENDS : Hid (∀ v', RefOf r.ends (fl ++ [fEnd]) (t + 1) (m1.app 10 v' (fsCells fEnd))) := fun v' => by rw [hm1]; exact hr.ends hf _ _
      have HFL : Hid (FlatR (fl ++ [fEnd]) r.ends ∧ cnt (fl ++ [fEnd]) = r.ends.stmts) := ⟨flatR_ends hfl hf (by rcases hkk with h1 | h1; exact .inl h1; exact .inr h1.1) hno hr.fr, by rw [cnt_append, hcn, (ends_same hf).2.2.2.2.2.2.2.2.2]; rfl⟩
      have z8R : w.frozen? ⟨Rb, 8, none⟩ = false := h.cR.z 8
      have hcap8 : kd + 1 ≤ k8 := by
        rcases (h.own 8 (by unfold isRow; omega)).2 with ⟨h3, h4⟩ | ⟨g, cp, cur, h3, hb9, hg9, hc9, hm9, hs9, ht9⟩
        · omega
        · rw [hv8] at h3
          simp only [Value.slice.injEq] at h3
          omega
      have hcap8I : (kd : Int) + 1 ≤ (k8 : Int) := by omega
      have HV10 : Hid (m1.v 10 = .slice d10 fl.length k10) := by show _ = _; rw [hm1, (deepAt_v _ _ _ _ (by decide)).1]; exact hv10
      have HN10 : Hid (m1.n 10 = fl.length) := by show _ = _; rw [hm1, (deepAt_v _ _ _ _ (by decide)).2.1]; exact hr.r10.1
      have HX10 : Hid (m1.xs 10 = flatV fl) := by show _ = _; rw [hm1, (deepAt_v _ _ _ _ (by decide)).2.2]; exact hr.r10.2
      have y10 : W1.cell? ⟨Rb, 10, none⟩ = some (.slice d10 fl.length k10) := by rw [← HV10.out]; exact HR1.out.cR.c 10 (by omega)
      have hz1 : W1.heap.size = w.heap.size := by rw [hW1, setCell_size]
      have hz1b : base ≤ W1.heap.size := by omega
      have hRz1 : Rb < W1.heap.size := by omega
      have HW1 : Hid (W1 = w.setCell ⟨Rb, 8, none⟩ (.slice (some ⟨g8, 0, none⟩) kd k8)) := hW1
      have HBLD : Hid (∀ W : World, _) := build_end
      rw [← hkd] at x8 c8 z8
      clear h hr hfl hcn hfn hb hf hm1 hW1 hkd hv8 hn8 hx8 hno hkk e hv10 hfr hz1
      go_enter Tryz.func13, Tryz.ntmps13
      go_wp2_with fail
      rw [← HW1.out]
      clear HW1 x7 x8 x10 c8 z8
      refine wp_region_two_phase (fun W => W.cell? ⟨Rb, 10, none⟩ = some (.slice d10 fl.length k10)) [8, 9, 10, 11, 12] [(0, 0), (0, 1), (0, 2), (0, 3), (0, 4), (0, 5), (1, 6), (1, 7)] [(0, 8), (0, 10), (0, 11)] 9 12 (by kernel_rfl) (by kernel_rfl) rfl [(_, _), (_, _), (_, _), (_, _), (_, _), (_, _), (_, _), (_, _)] [(_, _), (_, _), (_, _)] _ _ rfl rfl rfl rfl (fun c a d v w h => by cases d <;> exact h) y10 (fun ops => ?_)
      simp only [List.getElem_toArray, List.getElem_cons_succ, List.getElem_cons_zero]
      iterate 4
        refine then_read rfl (fun K hK => ?_)
        apply Exists.intro
        refine ⟨fun w' hw' => ?_, ?_⟩
        · have q1 := hw'
          go_simp
          try with_reducible rfl
        go_simp
        refine hK _ ?_
        clear hK K
      refine then_read rfl (fun K hK => ?_)
      refine ⟨.agg (fsCells fEnd).toArray, fun w' hw' => exec_build 87 _ rfl _ _ (by kernel_rfl) (build_end _), hK _ ?_⟩
      clear hK K
      iterate 1
        refine then_read rfl (fun K hK => ?_)
        apply Exists.intro
        refine ⟨fun w' hw' => ?_, ?_⟩
        · have q1 := hw'
          go_simp
          try with_reducible rfl
        go_simp
        refine hK _ ?_
        clear hK K
      refine then_do ?_
      go_wp2_with fail
      obtain ⟨W3, hW3⟩ : ∃ W3, W3 = (W1.alloc (.cells zeroS 87)).drew := ⟨_, rfl⟩
      obtain ⟨tb, htb⟩ : ∃ tb, tb = W1.heap.size := ⟨_, rfl⟩
      have hB3 : Below W1.heap.size W1 W3 := by rw [hW3]; exact ((Below.refl _ _).alloc (Nat.le_refl _) _).drew
      have hz3 : W1.heap.size + 1 = W3.heap.size := by rw [hW3]; simp
      have t0 : ∀ i u, (zeroS.toList)[i]? = some u → W3.cell? ((⟨tb, 0, none⟩ : Addr).add i) = some u := by rw [hW3, htb]; exact cells_new (l := zeroS.toList) rfl
      have HB3 : Hid (Below W1.heap.size W1 W3) := hB3
      have HO3 : Hid (W3.ownsRow base 87 10 (.slice d10 fl.length k10) fl.length (flatV fl)) := by
        have h1 := (HR1.out.below hB3).own 10 (by unfold isRow; omega)
        rw [HV10.out, HN10.out, HX10.out] at h1
        exact h1
      have hS3 : (fun W => W.cell? ⟨Rb, 10, none⟩ = some (.slice d10 fl.length k10)) W3 := (HB3.out.cell (p := ⟨Rb, 10, none⟩) (by show Rb < _; omega)).trans y10
      try rw [show ∀ o, (W1.drew.alloc o) = (W1.alloc o).drew from fun _ => rfl]
      have eW3 : (W1.alloc (.cells #[.int .i64 0, .int .i64 0, .int .i64 0, .int .i64 0, .bool false, .int .i64 0, .bool false, .int .i64 0, .slice none 0 0, .slice none 0 0] 87)).drew = W3 := hW3.symm
      rw [eW3, ← htb]
      clear hW3 htb eW3 hB3
      refine ⟨hS3, ?_⟩
      refine then_do ?_
      obtain ⟨i0, hi0, hz0, hzs, hzb⟩ := info_parts Tryz.infoStmtP
      go_wp2_with (at_builtin; refine wpList_append_at _ rfl (.tmp 105) (.tmp 108) 37 rfl base 87 i0 (.agg zeroS) 10 112 Tryz.underlying37 hi0 hz0 hzs hzb rfl (by decide) _ _ _ rfl HO3.out ⟨tb, 0, none⟩ 1 1 zeroS.toList rfl rfl (by decide) t0 ?c2 ?c3 ?c4 ?c5 ?_)
      case c2 => exact zeroS_one
      case c3 => unfold maxLen; omega
      case c4 => omega
      case c5 => omega
      intro v' W4 hown4 hg4 hwh4
      obtain ⟨g, gc, rfl⟩ : ∃ g gc, v' = .slice (some ⟨g, 0, none⟩) (fl.length + 1) gc := by
        rcases hown4.2 with ⟨h1, h2⟩ | ⟨g, cp, cur, h1, _⟩
        · omega
        · exact ⟨g, cp, h1⟩
      have hlt3 : ∀ k, (Value.slice d10 fl.length k10).ownBlock = some k → base ≤ k ∧ k < W1.heap.size + 1 := fun k hk => by have := HO3.out.lt k hk; omega
      have hgb : base ≤ g := (hown4.lt g rfl).1
      have hqR : W4.heap[Rb]? = W3.heap[Rb]? := hg4.block Rb (by omega) (fun hh => by have := (hlt3 Rb hh.symm).1; omega)
      have hS4 : (fun W => W.cell? ⟨Rb, 10, none⟩ = some (.slice d10 fl.length k10)) W4 := (World.cell?_of_block (a := ⟨Rb, 10, none⟩) hqR).trans hS3
      have gz : ∀ j, W4.frozen? ⟨Rb, j, none⟩ = false := fun j => (World.frozen?_of_block (a := ⟨Rb, j, none⟩) hqR).trans ((HB3.out.frozen (p := ⟨Rb, j, none⟩) (by show Rb < _; omega)).trans (HR1.out.cR.z j))
      have g0 : W4.cell? ⟨Rb, 10, none⟩ = some (.slice d10 fl.length k10) := hS4
      have HTH : Hid (W4.there g (fl.length * 10) 10) := own_there hown4
      have H5 : Hid (RefAt lo base Rb Pb w0 ((W4.setCells g (fl.length * 10) (fsCells fEnd)).setCell ⟨Rb, 10, none⟩ (.slice (some ⟨g, 0, none⟩) (fl.length + 1) gc)) (m1.app 10 (.slice (some ⟨g, 0, none⟩) (fl.length + 1) gc) (fsCells fEnd))) := by
        have h1 := HR1.out.flat (W3 := W3) (W4 := W4) (g := g) (cap := gc) (z := zeroS.toList) (cs := (fsCells fEnd)) HB3.out (by rw [HN10.out, HX10.out]; exact hown4) rfl rfl (by rw [HV10.out]; exact hg4) (by rw [HV10.out]; exact hwh4)
        rw [HN10.out] at h1
        exact h1
      have HCM : Hid ((W4.setCell ⟨Rb, 10, none⟩ (.slice (some ⟨g, 0, none⟩) (fl.length + 1) gc)).setCells g (fl.length * 10) (fsCells fEnd) = (W4.setCells g (fl.length * 10) (fsCells fEnd)).setCell ⟨Rb, 10, none⟩ (.slice (some ⟨g, 0, none⟩) (fl.length + 1) gc)) := setCells_comm g Rb 10 _ (by omega) _ _ _
      obtain ⟨W5, hW5⟩ : ∃ W5, W5 = W4.setCells g (fl.length * 10) (fsCells fEnd) := ⟨_, rfl⟩
      have HA1 : Hid (W4.setCells g (fl.length * 10) ((fsCells fEnd)).toArray.toList = W5) := hW5.symm
      obtain ⟨W6, hW6⟩ : ∃ W6, W6 = W5.setCell ⟨Rb, 10, none⟩ (.slice (some ⟨g, 0, none⟩) (fl.length + 1) gc) := ⟨_, rfl⟩
      have HA2 : Hid ((W4.setCell ⟨Rb, 10, none⟩ (.slice (some ⟨g, 0, none⟩) (fl.length + 1) gc)).setCells g (fl.length * 10) ((fsCells fEnd)).toArray.toList = W6) := by show _ = _; rw [hW6, hW5]; exact HCM.out
      have HW6 : Hid (W6 = W5.setCell ⟨Rb, 10, none⟩ (.slice (some ⟨g, 0, none⟩) (fl.length + 1) gc)) := hW6
      rw [← hW5] at H5
      have g0' : (W4.setCells g (fl.length * 10) (fsCells fEnd)).cell? ⟨Rb, 10, none⟩ = some (.slice d10 fl.length k10) := (World.cell?_of_block (a := ⟨Rb, 10, none⟩) (setCells_block g _ W4 _ Rb (by omega))).trans g0
      have gz' : (W4.setCells g (fl.length * 10) (fsCells fEnd)).frozen? ⟨Rb, 10, none⟩ = false := (World.frozen?_setCells g _ _ _ _).trans (gz 10)
      have HTH2 : Hid (∀ v, (W4.setCell ⟨Rb, 10, none⟩ v).there g (fl.length * 10) 10) := fun v j hj => ⟨by rw [World.cell?_of_block (a := ⟨g, fl.length * 10 + j, none⟩) (setCell_block _ _ _ _ _ (by show g ≠ Rb; omega))]; exact (HTH.out j hj).1, by rw [World.frozen?_setCell]; exact (HTH.out j hj).2⟩
      rw [← hW5] at g0' gz'
      clear hW5 hW6 HCM
      have HE : Hid (RwEnds lo base Rb Pb w0 t (0, r.ends) (.returned (.int .i64 0)) (W5.setCell ⟨Rb, 10, none⟩ (.slice (some ⟨g, 0, none⟩) (fl.length + 1) gc))) := ⟨rfl, fun _ => ⟨_, _, H5.out, HENDS.out _, HFL.out.1, HFL.out.2⟩, fun hh => absurd rfl hh⟩
      have HE2 : Hid (RwEnds lo base Rb Pb w0 t (0, r.ends) (.returned (.int .i64 0)) W6) := by show RwEnds _ _ _ _ _ _ _ _ _; rw [HW6.out]; exact HE.out
      clear H5 HENDS HFL HW6
      clear hown4 hg4 hwh4 hqR t0 HO3 HB3 hlt3 HR1 HV10 HN10 HX10 hS3 hi0 hz0 hzs hzb i0
      go_wp2_with fail
      refine ⟨hS4, ?_⟩
      try (refine then_end ?_; refine ⟨hS4, ?_⟩)
      clear hS4
      have hidx : (fl.length : Int) < (fl.length : Int) + 1 := by omega
      try simp only [List.getElem_toArray, List.getElem_cons_succ, List.getElem_cons_zero]
      iterate 3
        refine then_read rfl (fun K hK => ?_)
        apply Exists.intro
        refine ⟨fun w' hw' => ?_, ?_⟩
        · clear hw'
          go_simp
          try with_reducible rfl
        go_simp
        refine hK _ ?_
        clear hK K
      refine then_end ?_
      refine ⟨trivial, ?_, ?_⟩
      · go_wp2_with (refine at_store 110 ?_; refine wpList_store_midW rfl 87 (.tmp 110) (.tmp 106) rfl g (fl.length * 10) ((fsCells fEnd)).toArray rfl rfl HTH.out Tryz.infoStmt10 (by kernel_rfl) HA1.out ?_)
        go_wp2
        go_ret
        exact HE.out
      · go_wp2_with (refine at_store 110 ?_; refine wpList_store_midW rfl 87 (.tmp 110) (.tmp 106) rfl g (fl.length * 10) ((fsCells fEnd)).toArray rfl rfl (HTH2.out _) Tryz.infoStmt10 (by kernel_rfl) HA2.out ?_)
        go_wp2
        go_ret
        exact HE2.out
end
end Go.Proofs.YthfacjlghcdndaaGreatDoor

namespace Go.Proofs.YthfacjlghcdndaaGreatDoor
open Go.RowKit
section
variable {lo base Rb Pb : Nat} {w0 w w' : World} {m : RMem} {r : Fl.RS} {fl : List FlS} {t : Nat}
def TgEnds2 (lo base Rb Pb : Nat) (w0 w : World) (ow : Nat → Option Nat) (fl : List FlS) (t : Nat) (res : Option (Nat × Fl.RS)) (op : Int) (av : Bool) (an : Int) (bv : Bool) (bn : Int) (e : Ending) (w' : World) : Prop :=
  (∀ b, b < w.heap.size → b ≠ Rb → ow 4 ≠ some b → w'.heap[b]? = w.heap[b]?) ∧
  (∀ x r', res = some (x, r') → e = .returned (.tuple #[.agg (sCells 3 x op av an bv bn), .int .i64 0]) ∧ ∃ m', RefAt lo base Rb Pb w0 w' m' ∧ RefOf r' fl t m' ∧ ∀ j, isRow j → ∀ b, (m'.v j).ownBlock = some b → ow j = some b ∨ w.heap.size ≤ b) ∧ (res = none → (∃ x : Int, e = .returned (.tuple #[.agg (sCells 3 x op av an bv bn), .int .i64 5])) ∧ Below lo w0 w')
set_option maxRecDepth 100000 in
set_option maxHeartbeats 4000000 in
theorem target2_any (h : RefAt lo base Rb Pb w0 w m) (hr : RefOf r fl t m) (x : List UInt8) (hx : x.length ≤ 100000) (op : Int) (av : Bool) (an : Int) (bv : Bool) (bn : Int) :
    Calls Tryz.prog 38 #[.pointer (some ⟨Rb, 0, none⟩), .agg #[.int .i64 3, .int .i64 0, .int .i64 0, .int .i64 op, .bool av, .int .i64 an, .bool bv, .int .i64 bn, .slice none 0 0, .slice none 0 0], .string ⟨x.toArray⟩] w (TgEnds2 lo base Rb Pb w0 w (fun j => (m.v j).ownBlock) fl t (r.target x) op av an bv bn) := by
  have hba := h.hba
  have hRz : Rb < w.heap.size := by omega
  have HPC : Hid (∀ W, Below w.heap.size w W → Calls Tryz.prog 22 #[m.v 2, .string ⟨x.toArray⟩] W fun e w' => e = .returned (.int .i64 (Fl.place r.cells x)) ∧ w' = W) := fun W hW => place_words ((h.below hW).cells hr) x
  have HPL : Hid (∀ W, Below w.heap.size w W → Calls Tryz.prog 22 #[m.v 4, .string ⟨x.toArray⟩] W fun e w' => e = .returned (.int .i64 (Fl.place r.locals x)) ∧ w' = W) := fun W hW => place_words ((h.below hW).locals hr) x
  obtain ⟨c2, k2, hv2⟩ := h.shape 2 (by unfold isRow; omega)
  obtain ⟨c4, k4, hv4⟩ := h.shape 4 (by unfold isRow; omega)
  rw [hr.r2.1] at hv2
  rw [hr.r4.1] at hv4
  have HV4 : Hid (m.v 4 = .slice c4 r.locals.length k4) := hv4
  rw [hv2] at HPC
  rw [hv4] at HPL
  have HH : Hid (RefAt lo base Rb Pb w0 w m) := h
  have HO : Hid (RefOf r fl t m) := hr
  have Q2 : Hid (∀ W, Below w.heap.size w W → W.cell? ⟨Rb, 2, none⟩ = some (.slice c2 r.cells.length k2)) := fun W hW => (hW.cell (p := ⟨Rb, 2, none⟩) hRz).trans (by rw [← hv2]; exact h.cR.c 2 (by omega))
  have Q4 : Hid (∀ W, Below w.heap.size w W → W.cell? ⟨Rb, 4, none⟩ = some (.slice c4 r.locals.length k4)) := fun W hW => (hW.cell (p := ⟨Rb, 4, none⟩) hRz).trans (by rw [← hv4]; exact h.cR.c 4 (by omega))
  have HB : Hid (∀ o o', Below w.heap.size w ((w.alloc o).alloc o')) := fun o o' => ((Below.refl _ _).alloc (Nat.le_refl _) _).alloc (by simp) _
  have q2 : ∀ o o', ((w.alloc o).alloc o').cell? ⟨Rb, 2, none⟩ = some (.slice c2 r.cells.length k2) := fun o o' => Q2.out _ (HB.out _ _)
  have q4 : ∀ o o', ((w.alloc o).alloc o').cell? ⟨Rb, 4, none⟩ = some (.slice c4 r.locals.length k4) := fun o o' => Q4.out _ (HB.out _ _)
  have HTG : Hid (r.target x = if 0 ≤ Fl.place r.cells x then some ((Fl.place r.cells x).toNat, r) else if 0 ≤ Fl.place r.locals x then some (r.cells.length + (Fl.place r.locals x).toNat, r) else if r.locals.length = 4 then none else some (r.cells.length + r.locals.length, { r with locals := r.locals ++ [x] })) := rfl
  obtain ⟨res, hres⟩ : ∃ res, res = r.target x := ⟨_, rfl⟩
  rw [← hres] at HTG ⊢
  have hcc := Fl.place_cases r.cells x
  have hlc := Fl.place_cases r.locals x
  have hce := hr.ce
  have hlo := hr.lo
  generalize Fl.place r.cells x = pc at *
  generalize Fl.place r.locals x = pl at *
  have hnc6 : (r.cells.length : Int) ≤ 6 := by omega
  have hnl4 : (r.locals.length : Int) ≤ 4 := by omega
  have hpc1 : -1 ≤ pc ∧ pc ≤ 6 := by omega
  have hpl1 : -1 ≤ pl ∧ pl ≤ 4 := by omega
  clear h hr hres hv2 hv4
  go_enter Tryz.func38, Tryz.ntmps38
  go_wp2_with fail
  refine (HPC.out _ (HB.out _ _)).mono ?_
  rintro e w1 ⟨rfl, hw1⟩
  rw [hw1]
  clear hw1 w1
  by_cases hp : 0 ≤ pc
  · have HR : Hid (res = some (pc.toNat, r)) := by show _ = _; rw [HTG.out, if_pos hp]
    have E1 : Hid (((pc.toNat : Nat) : Int) = pc) := by show _ = _; omega
    go_wp2
    refine bodyPost_ret (v := .tuple #[.agg (sCells 3 pc op av an bv bn), .int .i64 0]) (by simp [results, Tryz.results38, go_sem, sCells]) rfl ?_
    rw [HR.out]
    refine ⟨fun b hb _ _ => (HB.out _ _).block b hb, fun y r' hy => ?_, fun h => by cases h⟩
    simp only [Option.some.injEq, Prod.mk.injEq] at hy
    obtain ⟨rfl, rfl⟩ := hy
    exact ⟨by rw [E1.out], m, HH.out.below (HB.out _ _), HO.out, fun j hj b hb => .inl hb⟩
  · have hp2 : pc < 0 := by omega
    clear hp
    go_wp2_with fail
    refine (HPL.out _ (HB.out _ _)).mono ?_
    rintro e w1 ⟨rfl, hw1⟩
    rw [hw1]
    clear hw1 w1
    by_cases hl : 0 ≤ pl
    · have HR : Hid (res = some (r.cells.length + pl.toNat, r)) := by show _ = _; rw [HTG.out, if_neg (show ¬ 0 ≤ pc by omega), if_pos hl]
      have E1 : Hid (((r.cells.length + pl.toNat : Nat) : Int) = (r.cells.length : Int) + pl) := by show _ = _; omega
      go_wp2
      refine bodyPost_ret (v := .tuple #[.agg (sCells 3 ((r.cells.length : Int) + pl) op av an bv bn), .int .i64 0]) (by simp [results, Tryz.results38, go_sem, sCells]) rfl ?_
      rw [HR.out]
      refine ⟨fun b hb _ _ => (HB.out _ _).block b hb, fun y r' hy => ?_, fun h => by cases h⟩
      simp only [Option.some.injEq, Prod.mk.injEq] at hy
      obtain ⟨rfl, rfl⟩ := hy
      exact ⟨by rw [E1.out], m, HH.out.below (HB.out _ _), HO.out, fun j hj b hb => .inl hb⟩
    · have hl2 : pl < 0 := by omega
      clear hl
      by_cases h4 : r.locals.length = 4
      · have b4 : ((r.locals.length : Int) == 4) = true := by simp [h4]
        have HR : Hid (res = none) := by show _ = _; rw [HTG.out, if_neg (show ¬ 0 ≤ pc by omega), if_neg (show ¬ 0 ≤ pl by omega), if_pos h4]
        clear h4
        go_wp2
        refine bodyPost_ret (v := .tuple #[.agg (sCells 3 pc op av an bv bn), .int .i64 5]) (by simp [results, Tryz.results38, go_sem, sCells]) rfl ?_
        rw [HR.out]
        exact ⟨fun b hb _ _ => (HB.out _ _).block b hb, fun y r' hy => (by cases hy), fun _ => ⟨⟨_, rfl⟩, HH.out.bel.trans ((HB.out _ _).mono (by omega))⟩⟩
      · have b4 : ((r.locals.length : Int) == 4) = false := by simp; omega
        have HR : Hid (res = some (r.cells.length + r.locals.length, { r with locals := r.locals ++ [x] })) := by show _ = _; rw [HTG.out, if_neg (show ¬ 0 ≤ pc by omega), if_neg (show ¬ 0 ≤ pl by omega), if_neg h4]
        have hl4 : r.locals.length < 4 := by omega
        clear h4
        obtain ⟨i0, hi0, hz0, hzs, hzb⟩ := info_parts Tryz.infoStr
        have HOW : Hid (∀ W, Below w.heap.size w W → W.ownsRow base 9 1 (.slice c4 r.locals.length k4) r.locals.length (r.locals.map strV)) := fun W hW => by
          have h1 := (HH.out.below hW).own 4 (by unfold isRow; omega)
          rw [HO.out.r4.1, HO.out.r4.2, HV4.out] at h1
          exact h1
        have hB3 : ∀ o o' o'', Below w.heap.size w (((w.alloc o).alloc o').alloc o'') := fun o o' o'' => (HB.out _ _).alloc (by simp; omega) _
        have HB3 : Hid (∀ o o' o'', Below w.heap.size w (((w.alloc o).alloc o').alloc o'')) := hB3
        clear hB3
        go_wp2_with (at_builtin; refine wpList_append_at _ rfl (.tmp 40) (.tmp 42) 48 rfl base 9 i0 (.string ⟨#[]⟩) 1 16 Tryz.underlying48 hi0 hz0 hzs hzb rfl (by decide) _ _ _ rfl (HOW.out _ (HB3.out _ _ _)) ⟨w.heap.size + 1 + 1, 0, none⟩ 1 1 [strV x] rfl rfl (by decide) (str_cell_at (by simp)) ?c2 ?c3 ?c4 ?c5 ?_)
        case c2 => intro u hu; simp at hu; subst hu; rfl
        case c3 => unfold maxLen; omega
        case c4 => omega
        case c5 => simp; omega
        intro v' W4 hown4 hg4 hwh4
        have hlt4 : ∀ k, (Value.slice c4 r.locals.length k4).ownBlock = some k → k < w.heap.size := fun k hk => ((HOW.out w (Below.refl _ _)).lt k hk).2
        have HADD : Hid (RefAt lo base Rb Pb w0 (W4.setCell ⟨Rb, 4, none⟩ v') (m.app 4 v' [strV x])) := by
          refine HH.out.appR 4 (by unfold isRow; omega) (by omega) (HB3.out _ _ _) ?_ (by rw [HV4.out]; exact hg4) (by rw [HV4.out]; rcases hwh4 with h1 | h1; exact .inl h1; exact .inr (by rw [h1]; simp))
          rw [HO.out.r4.1, HO.out.r4.2]; exact hown4
        have HRO : Hid (RefOf { r with locals := r.locals ++ [x] } fl t (m.app 4 v' [strV x])) := HO.out.addLocal x v' hx hl4
        obtain ⟨va', vcap, rfl⟩ : ∃ va vcap, v' = .slice va (r.locals.length + 1) vcap := by
          rcases hown4.2 with ⟨h1, h2⟩ | ⟨g, cp, cur, h1, _⟩
          · omega
          · exact ⟨_, cp, h1⟩
        have q4 : ∀ b, b < w.heap.size + 2 → (Value.slice c4 r.locals.length k4).ownBlock ≠ some b → W4.heap[b]? = _ := fun b hb hne => hg4.block b (by simp; omega) (Ne.symm hne)
        have hsE : ∀ b, w.heap.size ≤ b → (Value.slice c4 r.locals.length k4).ownBlock ≠ some b := fun b hb hh => by have := hlt4 b hh; omega
        have rS : W4.heap[w.heap.size]? = some (.cells #[.int .i64 3, .int .i64 pc, .int .i64 0, .int .i64 op, .bool av, .int .i64 an, .bool bv, .int .i64 bn, .slice none 0 0, .slice none 0 0] 87 (0, 0)) := by
          rw [q4 _ (by omega) (hsE _ (Nat.le_refl _)), Below.heap_alloc _ _ _ (by simp; omega), Below.heap_alloc _ _ _ (by simp)]; exact heap_alloc_last _ _
        have rE : W4.heap[w.heap.size + 1]? = some (.cells zeroS 87 (0, 0)) := by
          rw [q4 _ (by omega) (hsE _ (by omega)), Below.heap_alloc _ _ _ (by simp)]
          exact heapAt _ _ _ (by simp)
        have z4 : W4.cell? ⟨Rb, 4, none⟩ = some (.slice c4 r.locals.length k4) := by
          have h1 := HADD.out.cR
          have h2 := (HH.out.own 4 (by unfold isRow; omega)).lt
          refine (World.cell?_of_block (a := ⟨Rb, 4, none⟩) (q4 Rb (by omega) (fun hh => by have := ((HOW.out w (Below.refl _ _)).lt Rb hh).1; omega))).trans ?_
          exact Q4.out _ (HB3.out _ _ _)
        have fz : ∀ j, W4.frozen? ⟨Rb, j, none⟩ = false := fun j => by
          have := HADD.out.cR.z j
          rw [World.frozen?_setCell] at this; exact this
        have s0 : W4.cell? ⟨w.heap.size, 0, none⟩ = some (.int .i64 3) := cell_of_row _ _ 0 _ _ (0, 0) rS
        have s1 : W4.cell? ⟨w.heap.size, 1, none⟩ = some (.int .i64 pc) := cell_of_row _ _ 1 _ _ (0, 0) rS
        have s2 : W4.cell? ⟨w.heap.size, 2, none⟩ = some (.int .i64 0) := cell_of_row _ _ 2 _ _ (0, 0) rS
        have s3 : W4.cell? ⟨w.heap.size, 3, none⟩ = some (.int .i64 op) := cell_of_row _ _ 3 _ _ (0, 0) rS
        have s4 : W4.cell? ⟨w.heap.size, 4, none⟩ = some (.bool av) := cell_of_row _ _ 4 _ _ (0, 0) rS
        have s5 : W4.cell? ⟨w.heap.size, 5, none⟩ = some (.int .i64 an) := cell_of_row _ _ 5 _ _ (0, 0) rS
        have s6 : W4.cell? ⟨w.heap.size, 6, none⟩ = some (.bool bv) := cell_of_row _ _ 6 _ _ (0, 0) rS
        have s7 : W4.cell? ⟨w.heap.size, 7, none⟩ = some (.int .i64 bn) := cell_of_row _ _ 7 _ _ (0, 0) rS
        have s8 : W4.cell? ⟨w.heap.size, 8, none⟩ = some (.slice none 0 0) := cell_of_row _ _ 8 _ _ (0, 0) rS
        have s9 : W4.cell? ⟨w.heap.size, 9, none⟩ = some (.slice none 0 0) := cell_of_row _ _ 9 _ _ (0, 0) rS
        have sz : ∀ j, W4.frozen? ⟨w.heap.size, j, none⟩ = false := fun j => by simp [World.frozen?, rS]
        have hne : w.heap.size ≠ Rb := by omega
        have c24 : W4.cell? ⟨Rb, 2, none⟩ = some (.slice c2 r.cells.length k2) := by
          have h1 := HADD.out.cR.c 2 (by omega)
          have h2 := Q2.out w (Below.refl _ _)
          rw [HH.out.cR.c 2 (by omega)] at h2
          have h4 : (W4.setCell ⟨Rb, 4, none⟩ (.slice va' (r.locals.length + 1) vcap)).cell? ⟨Rb, 2, none⟩ = W4.cell? ⟨Rb, 2, none⟩ := World.cell?_setCell_other _ _ _ _ (by simp)
          rw [← h4, h1]; exact h2
        have HRE : Hid (∀ v, ((W4.setCell ⟨Rb, 4, none⟩ (.slice va' (r.locals.length + 1) vcap)).setCell ⟨w.heap.size, 1, none⟩ v).heap[w.heap.size + 1]? = some (.cells zeroS 87 (0, 0))) := fun v => (setCell_block _ _ _ _ _ (by omega)).trans ((setCell_block _ _ _ _ _ (by omega)).trans rE)
        have HZ4 : Hid (w.heap.size + 2 ≤ W4.heap.size) := by
          show _ ≤ _
          have := hg4.size; simp at this; omega
        have HOB : Hid (∀ j, isRow j → ∀ b, ((m.app 4 (.slice va' (r.locals.length + 1) vcap) [strV x]).v j).ownBlock = some b → b ≠ w.heap.size ∧ b ≠ w.heap.size + 1) := fun j hj b hb => by
          have hv : (m.app 4 (.slice va' (r.locals.length + 1) vcap) [strV x]).v j = if j = 4 then .slice va' (r.locals.length + 1) vcap else m.v j := rfl
          rw [hv] at hb
          by_cases h4 : j = 4
          · rw [if_pos h4] at hb
            rcases hwh4 with h1 | h1
            · rw [h1] at hb; have := hlt4 b hb; omega
            · rw [h1] at hb; simp only [Option.some.injEq] at hb; omega
          · rw [if_neg h4] at hb; have := ((HH.out.own j hj).lt b hb).2; omega
        have HOW2 : Hid (∀ j, isRow j → ∀ b, ((m.app 4 (.slice va' (r.locals.length + 1) vcap) [strV x]).v j).ownBlock = some b → (m.v j).ownBlock = some b ∨ w.heap.size ≤ b) := fun j hj b hb => by
          have hv : (m.app 4 (.slice va' (r.locals.length + 1) vcap) [strV x]).v j = if j = 4 then .slice va' (r.locals.length + 1) vcap else m.v j := rfl
          rw [hv] at hb
          by_cases h4 : j = 4
          · rw [if_pos h4] at hb
            rcases hwh4 with h1 | h1
            · left; rw [h4, HV4.out, ← h1]; exact hb
            · right; rw [h1] at hb; simp only [Option.some.injEq] at hb; omega
          · rw [if_neg h4] at hb; exact .inl hb
        have HFRM : Hid (∀ b, b < w.heap.size → (Value.slice c4 r.locals.length k4).ownBlock ≠ some b → W4.heap[b]? = w.heap[b]?) := fun b hb hne => (hg4.block b (by simp; omega) (Ne.symm hne)).trans ((HB3.out _ _ _).block b hb)
        clear hown4 hg4 hwh4 q4 hsE rS rE hlt4 HOW
        go_wp2_with (refine wpList_store_row rfl (.tmp 6) (.tmp 54) 87 rfl (w.heap.size + 1) rfl zeroS (sCells 3 ((r.cells.length : Int) + (r.locals.length : Int)) op av an bv bn) rfl 87 (HRE.out _) Tryz.infoStmt10 rfl (by simp [sCells, Value.oneCell']) ?_)
        refine bodyPost_ret (v := .tuple #[.agg (sCells 3 ((r.cells.length : Int) + (r.locals.length : Int)) op av an bv bn), .int .i64 0]) ?_ rfl ?_
        · exact results_cell_tmp (p := 6) (q := 7) (ty := 87) Tryz.results38 _ _ ⟨w.heap.size + 1, 0, none⟩ _ rfl (run_loadVar_row _ _ _ _ _ _ _ (setRow_heap _ _ _ _ _ _ (HRE.out _)) Tryz.underlying87 rfl Tryz.infoStmt10)
        · rw [HR.out]
          refine ⟨fun b hb h1 h2 => ?_, fun y r' hy => ?_, fun h => by cases h⟩
          · rw [setRow_other _ _ _ _ (by omega), setCell_block _ _ _ _ _ (by omega), setCell_block _ _ _ _ _ h1]
            exact HFRM.out b hb (by rw [← HV4.out]; exact h2)
          simp only [Option.some.injEq, Prod.mk.injEq] at hy
          obtain ⟨rfl, rfl⟩ := hy
          refine ⟨by push_cast; rfl, _, ?_, HRO.out, HOW2.out⟩
          have hz := HZ4.out
          refine HADD.out.aside ?_ ?_ (fun b hb => ?_)
          · exact below_setRow (HADD.out.bel.setCell (show lo ≤ w.heap.size by omega) _) (by omega) _
          · simp only [World.setRow, Array.size_modify, setCell_size]; omega
          · have hne2 : b ≠ w.heap.size ∧ b ≠ w.heap.size + 1 := by
              rcases hb with rfl | rfl | ⟨j, hj, hb⟩
              · omega
              · omega
              · exact HOB.out j hj b hb
            rw [setRow_other _ _ _ _ hne2.2, setCell_block _ _ _ _ _ hne2.1]
end
end Go.Proofs.YthfacjlghcdndaaGreatDoor
