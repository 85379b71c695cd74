/- Texts CdOne CdNl Lni CdSix. -/
import Derived.Test.YtbihjgfbocpobaaGreatDoorM16
/- One node's bytes, in the order in which the program reads them. -/
set_option linter.unusedSimpArgs false
set_option linter.unusedVariables false
namespace Go.Proofs.YtbihjgfbocpobaaGreatDoor
open Go.RowKit

/-- How many numbers a kind has. -/
def numF (k : Nat) : Nat := if k = 0 then 1 else if k = 1 then 1 else if k = 2 then 3 else if k = 3 then 2 else if k = 4 then 2 else if k = 5 then 3 else if k = 6 then 2 else 0
theorem numF_le (k : Nat) : numF k ≤ 3 := by unfold numF; (repeat' split) <;> omega
theorem fields_numF (k : Nat) (h : k < 8) (h7 : k ≠ 7) : Fl.fields (k : Int) = (numF k : Int) := by
  have : k = 0 ∨ k = 1 ∨ k = 2 ∨ k = 3 ∨ k = 4 ∨ k = 5 ∨ k = 6 := by omega
  rcases this with rfl | rfl | rfl | rfl | rfl | rfl | rfl <;> rfl
theorem num_split (s : List UInt8) (p : Nat) (h : p ≤ s.length) (hq : ¬ (Fl.num s p).2.1 < 0) : ∃ v q : Nat, Fl.num s p = ((v : Int), (q : Int), 0) ∧ p < q ∧ q ≤ s.length ∧ v < 2147483648 := by
  have h1 := Fl.num_ok s p h
  generalize Fl.num s p = r at *
  obtain ⟨a, b, c⟩ := r
  simp only at h1 hq
  rcases h1 with h1 | h1
  · omega
  · obtain ⟨h2, h3, h4, h5, rfl⟩ := h1
    exact ⟨a.toNat, b.toNat, by rw [Int.toNat_of_nonneg h4, Int.toNat_of_nonneg (by omega)], by omega, by omega, by omega⟩
theorem numB_split (s : List UInt8) (p : Nat) (lo hi : Int) (h : p ≤ s.length) (hq : ¬ (Fl.numB s p lo hi).2.1 < 0) : ∃ v q : Nat, Fl.numB s p lo hi = ((v : Int), (q : Int), 0) ∧ Fl.num s p = ((v : Int), (q : Int), 0) ∧ p < q ∧ q ≤ s.length ∧ lo ≤ (v : Int) ∧ (v : Int) ≤ hi := by
  unfold Fl.numB at *
  by_cases h1 : (Fl.num s p).2.1 < 0
  · rw [if_pos h1] at hq; exact absurd (show (-1 : Int) < 0 by decide) hq
  · rw [if_neg h1] at hq ⊢
    by_cases h2 : (Fl.num s p).1 < lo ∨ hi < (Fl.num s p).1
    · rw [if_pos h2] at hq; exact absurd (show (-1 : Int) < 0 by decide) hq
    · rw [if_neg h2]
      obtain ⟨v, q, h3, h4, h5, h6⟩ := num_split s p h h1
      rw [h3] at h2 ⊢
      simp only at h2 ⊢
      exact ⟨v, q, rfl, rfl, h4, h5, by omega, by omega⟩
section
variable {s : List UInt8} {p k x v q : Nat}
theorem one_level_bad (hlt : p < s.length) (hx : x = (s.getD p 0).toNat) (hx8 : x < 8) (hn : (Fl.num s (p + 1)).2.1 < 0) : Fl.one s p k = (Fl.nd0, -1, (Fl.num s (p + 1)).2.2) := by
  unfold Fl.one; rw [if_neg (by omega)]
  simp only [← hx]
  rw [if_neg (by unfold Fl.fields; repeat' split <;> omega), if_pos hn]
theorem one_plain (hlt : p < s.length) (hx : x = (s.getD p 0).toNat) (hx8 : x < 8) (h7 : x ≠ 7) (hn : Fl.num s (p + 1) = ((v : Int), (q : Int), 0)) :
    Fl.one s p k = if (Fl.nums s q (numF x)).2.1 < 0 then (Fl.nd0, -1, (Fl.nums s q (numF x)).2.2) else Fl.oneFin p k ⟨x, v, (Fl.nums s q (numF x)).1.getD 0 0, (Fl.nums s q (numF x)).1.getD 1 0, (Fl.nums s q (numF x)).1.getD 2 0, []⟩ (Fl.nums s q (numF x)).2.1 := by
  unfold Fl.one; rw [if_neg (by omega)]
  simp only [← hx, hn]
  rw [fields_numF x hx8 h7, if_neg (by omega), if_neg (by omega), if_neg (by omega)]
  simp only [Int.toNat_natCast]
theorem one_list_bad (hlt : p < s.length) (hx : 7 = (s.getD p 0).toNat) (hn : Fl.num s (p + 1) = ((v : Int), (q : Int), 0)) (hm : (Fl.numB s q 0 16).2.1 < 0) (hq : q ≤ s.length) :
    Fl.one s p k = (Fl.nd0, -1, (Fl.numB s q 0 16).2.2) := by
  have hok := Fl.num_ok s q hq
  unfold Fl.one; rw [if_neg (by omega)]
  simp only [← hx, hn]
  rw [if_neg (by decide), if_neg (by omega), if_pos (by decide)]
  simp only [Int.toNat_natCast]
  unfold Fl.numB at *
  by_cases h1 : (Fl.num s q).2.1 < 0
  · rw [if_pos h1, if_pos h1]
  · rw [if_neg h1] at hm
    rw [if_neg h1, if_neg h1]
    by_cases h2 : (Fl.num s q).1 < 0 ∨ 16 < (Fl.num s q).1
    · rw [if_pos h2, if_pos (by omega)]
    · rw [if_neg h2] at hm; exact absurd hm h1
theorem cone_list (hlt : p < s.length) (hx : 7 = (s.getD p 0).toNat) (hn : Fl.num s (p + 1) = ((v : Int), (q : Int), 0)) {m q2 : Nat} (hm : Fl.num s q = ((m : Int), (q2 : Int), 0)) (hm16 : m ≤ 16) :
    Fl.one s p k = if (Fl.nums s q2 m).2.1 < 0 then (Fl.nd0, -1, (Fl.nums s q2 m).2.2) else Fl.oneFin p k ⟨7, v, 0, 0, 0, (Fl.nums s q2 m).1⟩ (Fl.nums s q2 m).2.1 := by
  unfold Fl.one; rw [if_neg (by omega)]
  simp only [← hx, hn]
  rw [if_neg (by decide), if_neg (by omega), if_pos (by decide)]
  simp only [Int.toNat_natCast, hm]
  rw [if_neg (by omega), if_neg (by omega)]
  rfl
end
end Go.Proofs.YtbihjgfbocpobaaGreatDoor

/- The loop in which a node's numbers are read. -/
set_option linter.unusedSimpArgs false
set_option linter.unusedVariables false
namespace Go.Proofs.YtbihjgfbocpobaaGreatDoor
open Go.RowKit

/-- What each kind has lies in a block. -/
def RulesAt (w : World) (b ro : Nat) : Prop := ∀ k : Nat, k < 8 → w.cell? ⟨b, ro + k * 4 + 1, none⟩ = some (.int .i64 (numF k : Nat)) ∧ w.cell? ⟨b, ro + k * 4 + 2, none⟩ = some (.bool (k == 7)) ∧ w.cell? ⟨b, ro + k * 4 + 3, none⟩ = some (.func (.func (byF k)) #[] #[])
theorem RulesAt.move {w w' : World} {b ro : Nat} (h : RulesAt w b ro) (m : Mv w w' b) (hro : 1 ≤ ro) : RulesAt w' b ro := fun k hk => by
  obtain ⟨h1, h2, h3⟩ := h k hk
  exact ⟨(m.o _ (by omega)).trans h1, (m.o _ (by omega)).trans h2, (m.o _ (by omega)).trans h3⟩

structure NodeLoop (s : List UInt8) (q f : Nat) (w wr : World) (b N PB x v j q' : Nat) (xs : List Int) : Prop where
  hn : NumsL s q f j q' xs
  hm : Mv w wr b
  hc : wr.cell? ⟨b, 1, none⟩ = some (.int .i64 (q' : Int))
  nd : Nd wr N x v (xs.getD 0 0) (xs.getD 1 0) (xs.getD 2 0) (.slice none 0 0)
  rs : Nd wr w.heap.size 0 0 0 0 0 (.slice none 0 0)
  p0 : wr.cell? ⟨PB, 0, none⟩ = some (.pointer (some ⟨N, 2, none⟩))
  p1 : wr.cell? ⟨PB, 1, none⟩ = some (.pointer (some ⟨N, 3, none⟩))
  p2 : wr.cell? ⟨PB, 2, none⟩ = some (.pointer (some ⟨N, 4, none⟩))
  hN : w.heap.size < N
  hP : N < PB
theorem NodeLoop.ptr {s : List UInt8} {q f : Nat} {w wr : World} {b N PB x v j q' : Nat} {xs : List Int} (h : NodeLoop s q f w wr b N PB x v j q' xs) (hj : j < 3) : wr.cell? ⟨PB, j, none⟩ = some (.pointer (some ⟨N, 2 + j, none⟩)) := by
  have : j = 0 ∨ j = 1 ∨ j = 2 := by omega
  rcases this with rfl | rfl | rfl
  · exact h.p0
  · exact h.p1
  · exact h.p2
theorem NodeLoop.cell {s : List UInt8} {q f : Nat} {w wr : World} {b N PB x v j q' : Nat} {xs : List Int} (h : NodeLoop s q f w wr b N PB x v j q' xs) (hj : j < 3) : wr.cell? ⟨N, 2 + j, none⟩ = some (.int .i64 (xs.getD j 0)) := by
  have : j = 0 ∨ j = 1 ∨ j = 2 := by omega
  rcases this with rfl | rfl | rfl
  · exact h.nd.c2
  · exact h.nd.c3
  · exact h.nd.c4
theorem NodeLoop.next {s : List UInt8} {q f : Nat} {w wr w1 : World} {b N PB x v j q' : Nat} {xs : List Int} (h : NodeLoop s q f w wr b N PB x v j q' xs) (hb : b < w.heap.size) (hjf : j < f) (hj : j < 3) {y m : Nat} (hn : Fl.num s q' = ((y : Int), (m : Int), 0)) (m1 : Mv wr w1 b) (c1 : w1.cell? ⟨b, 1, none⟩ = some (.int .i64 (m : Int))) :
    NodeLoop s q f w (w1.setCell ⟨N, 2 + j, none⟩ (.int .i64 y)) b N PB x v (j + 1) m (xs ++ [(y : Int)]) := by
  have hN := h.hN
  have hP := h.hP
  have g1 := m1.g
  have g2 := grown_set w1 N (2 + j) (.int .i64 y)
  have hnb : some N ≠ some b := by simp; omega
  have hpb : some PB ≠ some b := by simp; omega
  have hwb : some w.heap.size ≠ some b := by simp; omega
  have hpN : some PB ≠ some N := by simp; omega
  have hwN : some w.heap.size ≠ some N := by simp; omega
  refine ⟨by have := h.hn.step hjf hn (by omega); simpa using this, (h.hm.trans m1).andSet hb (by omega) _ _, g2.cell c1 (by simp; omega), ?_, (h.rs.grown g1 hwb).grown g2 hwN, g2.cell (g1.cell h.p0 hpb) hpN, g2.cell (g1.cell h.p1 hpb) hpN, g2.cell (g1.cell h.p2 hpb) hpN, hN, hP⟩
  have hnd := h.nd.grown g1 hnb
  have hlen := h.hn.2.2.1
  have : j = 0 ∨ j = 1 ∨ j = 2 := by omega
  rcases this with rfl | rfl | rfl
  · match xs, hlen with
    | [], _ => exact hnd.set2 _
  · match xs, hlen with
    | [a], _ => exact hnd.set3 _
  · match xs, hlen with
    | [a, b'], _ => exact hnd.set4 _
end Go.Proofs.YtbihjgfbocpobaaGreatDoor

/- The program's readNode: what it holds. -/
set_option linter.unusedSimpArgs false
set_option linter.unusedVariables false
namespace Go.Proofs.YtbihjgfbocpobaaGreatDoor
open Go.RowKit

/-- How readNode ends. -/
def NodeIn (o : Option Fl.Node) (P : Nat) (nv : Value) (acc : List Fl.Node) (lvs : List Value) (w : World) (e : Ending) (w' : World) : Prop :=
  (o = none ∧ e = .returned (.bool false) ∧ Below w.heap.size w w') ∨
  ∃ nd w1 w2 nv' lvn, o = some nd ∧ e = .returned (.bool true) ∧ Below w.heap.size w w1 ∧ IntsAt w1.heap.size w1 lvn nd.list ∧ (∀ b, lvn.ownBlock = some b → w.heap.size ≤ b) ∧
    w2.ownsRow (P + 1) 53 6 nv' (acc.length + 1) (flat acc lvs ++ nodeCells nd lvn) ∧ w1.grownBy w2 nv.ownBlock ∧ (nv'.ownBlock = nv.ownBlock ∨ nv'.ownBlock = some w1.heap.size) ∧ w' = w2.setCell ⟨P, 1, none⟩ nv'

/-- The loop that lays a node's numbers: j of them are laid. -/
structure RnL (W wr : World) (N : Nat) (kd lev : Int) (lv : Value) (xs : List Int) (j : Nat) : Prop where
  nd : Nd wr N kd lev ((xs.take j).getD 0 0) ((xs.take j).getD 1 0) ((xs.take j).getD 2 0) lv
  g : W.grownBy wr (some N)
theorem RnL.zero {W : World} {N : Nat} {kd lev : Int} {lv : Value} {xs : List Int} (h : Nd W N kd lev 0 0 0 lv) : RnL W W N kd lev lv xs 0 := ⟨by simpa using h, World.grownBy.refl _ _⟩
theorem RnL.next {W wr : World} {N : Nat} {kd lev : Int} {lv : Value} {xs : List Int} {j : Nat} (h : RnL W wr N kd lev lv xs j) (hj : j < xs.length) (h3 : j < 3) : RnL W (wr.setCell ⟨N, 2 + j, none⟩ (.int .i64 (xs.getD j 0))) N kd lev lv xs (j + 1) := by
  have hg : W.grownBy (wr.setCell ⟨N, 2 + j, none⟩ (.int .i64 (xs.getD j 0))) (some N) := by
    have g1 := h.g
    have g2 := grown_set wr N (2 + j) (.int .i64 (xs.getD j 0))
    exact ⟨g2.os.trans g1.os, g2.tape.trans g1.tape, g2.output.trans g1.output, Nat.le_trans g1.size g2.size, fun i hi hne => (g2.block i (Nat.lt_of_lt_of_le hi g1.size) hne).trans (g1.block i hi hne)⟩
  refine ⟨?_, hg⟩
  have hnd := h.nd
  have : j = 0 ∨ j = 1 ∨ j = 2 := by omega
  rcases this with rfl | rfl | rfl
  · match xs, hj with
    | x :: r, _ => exact hnd.set2 _
  · match xs, hj with
    | x :: y :: r, _ => exact hnd.set3 _
  · match xs, hj with
    | x :: y :: z :: r, _ => exact hnd.set4 _
theorem RnL.cell {W wr : World} {N : Nat} {kd lev : Int} {lv : Value} {xs : List Int} {j : Nat} (h : RnL W wr N kd lev lv xs j) (h3 : j < 3) : ∃ v, wr.cell? ⟨N, 2 + j, none⟩ = some (.int .i64 v) := by
  have : j = 0 ∨ j = 1 ∨ j = 2 := by omega
  rcases this with rfl | rfl | rfl
  · exact ⟨_, h.nd.c2⟩
  · exact ⟨_, h.nd.c3⟩
  · exact ⟨_, h.nd.c4⟩
/-- A node's numbers, all laid. -/
theorem RnL.all {W wr : World} {N : Nat} {kd lev : Int} {lv : Value} {xs : List Int} (h : RnL W wr N kd lev lv xs xs.length) : Nd wr N kd lev (xs.getD 0 0) (xs.getD 1 0) (xs.getD 2 0) lv := by
  have := h.nd; simpa using this
theorem Nd.cells {w : World} {N : Nat} {kd lev a b c : Int} {l : Value} {ls : List Int} (h : Nd w N kd lev a b c l) : ∀ j u, (nodeCells ⟨kd, lev, a, b, c, ls⟩ l)[j]? = some u → w.cell? ⟨N, j, none⟩ = some u := by
  intro j u hj
  simp only [nodeCells] at hj
  match j with
  | 0 => simp at hj; subst hj; exact h.c0
  | 1 => simp at hj; subst hj; exact h.c1
  | 2 => simp at hj; subst hj; exact h.c2
  | 3 => simp at hj; subst hj; exact h.c3
  | 4 => simp at hj; subst hj; exact h.c4
  | 5 => simp at hj; subst hj; exact h.c5
  | j + 6 => simp at hj

theorem fields_numF7 (k : Nat) (h : k < 8) : Fl.fields (k : Int) = if k = 7 then -1 else (numF k : Int) := by
  by_cases h7 : k = 7
  · subst h7; rw [if_pos rfl]; rfl
  · rw [if_neg h7]; exact fields_numF k h h7
/-- The table's cells of a kind. -/
theorem rule_cells {w : World} {T : Nat} (hT : w.heap[T]? = some (.cells rulesArr 88 (0, 0))) (k : Nat) (hk : k < 8) : w.cell? ⟨T, k * 4 + 1, none⟩ = some (.int .i64 (numF k : Nat)) ∧ w.cell? ⟨T, k * 4 + 2, none⟩ = some (.bool (k == 7)) := by
  rcases (show k = 0 ∨ k = 1 ∨ k = 2 ∨ k = 3 ∨ k = 4 ∨ k = 5 ∨ k = 6 ∨ k = 7 by omega) with rfl | rfl | rfl | rfl | rfl | rfl | rfl | rfl <;> exact ⟨(cell_of_row _ _ _ _ _ _ hT).trans rfl, (cell_of_row _ _ _ _ _ _ hT).trans rfl⟩
end Go.Proofs.YtbihjgfbocpobaaGreatDoor

/- A node that is handed back. -/
set_option linter.unusedSimpArgs false
set_option linter.unusedVariables false
namespace Go.Proofs.YtbihjgfbocpobaaGreatDoor
open Go.RowKit

/-- How the reading of a node ends. -/
def NodeEnds (r : Fl.Node × Int × Int) (b : Nat) (w : World) (e : Ending) (w' : World) : Prop :=
  Mv w w' b ∧ (r.2.1 < 0 → e = .panicked (stopAt 8 r.2.2)) ∧ (¬ r.2.1 < 0 → ∃ lv, e = .returned (nodeV r.1 lv) ∧ IntsAt w'.heap.size w' lv r.1.list ∧ (∀ bb, lv.ownBlock = some bb → w.heap.size ≤ bb) ∧ w'.cell? ⟨b, 1, none⟩ = some (.int .i64 r.2.1))
theorem nodeEnds_bad {r : Fl.Node × Int × Int} {pl : Int} {b : Nat} {w w' : World} (hr : r = (Fl.nd0, -1, pl)) (m : Mv w w' b) : NodeEnds r b w (.panicked (stopAt 8 pl)) w' := by
  subst hr; exact ⟨m, fun _ => rfl, fun h => absurd (show (-1 : Int) < 0 by decide) h⟩
theorem nodeEnds_six {r : Fl.Node × Int × Int} {nd : Fl.Node} {q b B : Nat} {w w1 : World} {lv v0 v1 v2 v3 v4 v5 : Value} (hr : r = (nd, (q : Int), 0)) (m : Mv w w1 b) (hb : b < w.heap.size) (hB : w.heap.size = B) (c : w1.cell? ⟨b, 1, none⟩ = some (.int .i64 (q : Int)))
    (hl : IntsAt w1.heap.size w1 lv nd.list) (hown : ∀ bb, lv.ownBlock = some bb → B < bb) :
    NodeEnds r b w (.returned (nodeV nd lv)) ((((((w1.setCell ⟨B, 0, none⟩ v0).setCell ⟨B, 1, none⟩ v1).setCell ⟨B, 2, none⟩ v2).setCell ⟨B, 3, none⟩ v3).setCell ⟨B, 4, none⟩ v4).setCell ⟨B, 5, none⟩ v5) := by
  subst hr hB
  have hne : nd.list ≠ [] → lv.ownBlock ≠ some w.heap.size := fun _ h => by have := hown _ h; omega
  have hs : ∀ {W : World} {i : Nat} {u : Value}, W.cell? ⟨b, 1, none⟩ = some (.int .i64 (q : Int)) → (W.setCell ⟨w.heap.size, i, none⟩ u).cell? ⟨b, 1, none⟩ = some (.int .i64 (q : Int)) := fun {W i u} h => (grown_set W w.heap.size i u).cell h (by simp; omega)
  refine ⟨(((((m.andSet hb (Nat.le_refl _) _ _).andSet hb (Nat.le_refl _) _ _).andSet hb (Nat.le_refl _) _ _).andSet hb (Nat.le_refl _) _ _).andSet hb (Nat.le_refl _) _ _).andSet hb (Nat.le_refl _) _ _, fun h => by simp only at h; omega, fun _ => ⟨lv, rfl, ?_, fun bb h => by have := hown bb h; omega, hs (hs (hs (hs (hs (hs c)))))⟩⟩
  exact ints_set (ints_set (ints_set (ints_set (ints_set (ints_set hl hne) hne) hne) hne) hne) hne
theorem oneFin_bad {p k : Nat} {nd : Fl.Node} {e : Int} (h : (prem nd).any (fun x => decide ((k : Int) ≤ x)) = true) : Fl.oneFin p k nd e = (Fl.nd0, -1, (p : Int)) := by unfold Fl.oneFin; rw [if_pos h]
theorem oneFin_good {p k : Nat} {nd : Fl.Node} {e : Int} (h : (prem nd).any (fun x => decide ((k : Int) ≤ x)) = false) : Fl.oneFin p k nd e = (nd, e, 0) := by unfold Fl.oneFin; rw [if_neg (by rw [h]; decide)]
end Go.Proofs.YtbihjgfbocpobaaGreatDoor
