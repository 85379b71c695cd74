/- Texts Cde CdNd CdOne CdNl. -/
import Derived.Test.YtbihjgfbocpobaaGreatDoorM15
/- The program: the nodes that a node is by. -/
set_option linter.unusedSimpArgs false
set_option linter.unusedVariables false
namespace Go.Proofs.YtbihjgfbocpobaaGreatDoor
open Go.RowKit

/-- A node in memory. -/
structure NodeAt (w : World) (nb no : Nat) (nd : Fl.Node) (lv : Value) : Prop where
  c0 : w.cell? ⟨nb, no, none⟩ = some (.int .i64 nd.kind)
  c1 : w.cell? ⟨nb, no + 1, none⟩ = some (.int .i64 nd.level)
  c2 : w.cell? ⟨nb, no + 2, none⟩ = some (.int .i64 nd.a)
  c3 : w.cell? ⟨nb, no + 3, none⟩ = some (.int .i64 nd.b)
  c4 : w.cell? ⟨nb, no + 4, none⟩ = some (.int .i64 nd.c)
  c5 : w.cell? ⟨nb, no + 5, none⟩ = some lv
  hl : IntsAt w.heap.size w lv nd.list
theorem NodeAt.below {w w' : World} {nb no : Nat} {nd : Fl.Node} {lv : Value} (h : NodeAt w nb no nd lv) (hb : Below w.heap.size w w') : NodeAt w' nb no nd lv := by
  have hn : nb < w.heap.size := World.block_lt_of_cell? w _ h.c0
  have q : ∀ o, w'.cell? ⟨nb, o, none⟩ = w.cell? ⟨nb, o, none⟩ := fun o => hb.cell (p := ⟨nb, o, none⟩) hn
  exact ⟨(q _).trans h.c0, (q _).trans h.c1, (q _).trans h.c2, (q _).trans h.c3, (q _).trans h.c4, (q _).trans h.c5, (h.hl.below hb).mono hb.size⟩

/-- Which function tells the nodes that a kind is by. -/
def byF (k : Int) : FuncId :=
  if k = 2 then 62 else if k = 3 then 61 else if k = 4 then 61 else if k = 5 then 63 else if k = 6 then 64 else if k = 7 then 65 else 60

def ByEnds (ps : List Int) (w : World) (e : Ending) (w' : World) : Prop := ∃ pv, e = .returned pv ∧ IntsAt w'.heap.size w' pv ps ∧ Below w.heap.size w w'

set_option maxRecDepth 100000 in
set_option maxHeartbeats 2000000 in
theorem by1 (v : Value) (w : World) : Calls Tryz.prog 60 #[v] w (ByEnds [] w) := by
  go_enter Tryz.func60, Tryz.ntmps60
  go_wp2
  go_ret
  exact ⟨_, rfl, IntsAt.nil _ _, Below.refl _ _⟩
theorem ByEnds.fresh (w : World) (xs : List Int) (e : TypeId) (hl : xs.length ≤ maxLen) : ByEnds xs w (.returned (.slice (some ⟨w.heap.size, 0, none⟩) xs.length xs.length)) (w.alloc (.cells (xs.map (Value.int .i64)).toArray e)) :=
  ⟨_, rfl, IntsAt.fresh xs e hl _ (by simp), (Below.refl _ _).alloc (Nat.le_refl _) _⟩
theorem ByEnds.freshD (w : World) (xs : List Int) (e : TypeId) (hl : xs.length ≤ maxLen) : ByEnds xs w (.returned (.slice (some ⟨w.heap.size, 0, none⟩) xs.length xs.length)) (w.alloc (.cells (xs.map (Value.int .i64)).toArray e)).drew := by
  obtain ⟨pv, h1, h2, h3⟩ := ByEnds.fresh w xs e hl
  exact ⟨pv, h1, h2.below ((Below.refl _ _).drew), h3.drew⟩
set_option maxRecDepth 100000 in
set_option maxHeartbeats 2000000 in
theorem by2 {w : World} {nb no : Nat} {nd : Fl.Node} {lv : Value} (h : NodeAt w nb no nd lv) : Calls Tryz.prog 61 #[.pointer (some ⟨nb, no, none⟩)] w (ByEnds [nd.b] w) := by
  have c3 := h.c3
  go_enter Tryz.func61, Tryz.ntmps61
  go_wp2
  go_ret
  exact ByEnds.fresh _ [nd.b] _ (by simp [maxLen])
set_option maxRecDepth 100000 in
set_option maxHeartbeats 2000000 in
theorem by3 {w : World} {nb no : Nat} {nd : Fl.Node} {lv : Value} (h : NodeAt w nb no nd lv) : Calls Tryz.prog 62 #[.pointer (some ⟨nb, no, none⟩)] w (ByEnds [nd.b, nd.c] w) := by
  have c3 := h.c3
  have c4 := h.c4
  go_enter Tryz.func62, Tryz.ntmps62
  go_wp2_with fail
  go_still_tail 8, (by kernel_rfl)
  go_wp2
  go_ret
  exact ByEnds.freshD _ [nd.b, nd.c] _ (by simp [maxLen])
set_option maxRecDepth 100000 in
set_option maxHeartbeats 2000000 in
theorem by4 {w : World} {nb no : Nat} {nd : Fl.Node} {lv : Value} (h : NodeAt w nb no nd lv) : Calls Tryz.prog 63 #[.pointer (some ⟨nb, no, none⟩)] w (ByEnds [nd.a, nd.b, nd.c] w) := by
  have c2 := h.c2
  have c3 := h.c3
  have c4 := h.c4
  go_enter Tryz.func63, Tryz.ntmps63
  go_wp2_with fail
  go_still_tail 12, (by kernel_rfl)
  go_wp2
  go_ret
  exact ByEnds.freshD _ [nd.a, nd.b, nd.c] _ (by simp [maxLen])
set_option maxRecDepth 100000 in
set_option maxHeartbeats 2000000 in
theorem by5 {w : World} {nb no : Nat} {nd : Fl.Node} {lv : Value} (h : NodeAt w nb no nd lv) : Calls Tryz.prog 64 #[.pointer (some ⟨nb, no, none⟩)] w (ByEnds [nd.a, nd.b] w) := by
  have c2 := h.c2
  have c3 := h.c3
  go_enter Tryz.func64, Tryz.ntmps64
  go_wp2_with fail
  go_still_tail 8, (by kernel_rfl)
  go_wp2
  go_ret
  exact ByEnds.freshD _ [nd.a, nd.b] _ (by simp [maxLen])
set_option maxRecDepth 100000 in
set_option maxHeartbeats 2000000 in
theorem by6 {w : World} {nb no : Nat} {nd : Fl.Node} {lv : Value} (h : NodeAt w nb no nd lv) : Calls Tryz.prog 65 #[.pointer (some ⟨nb, no, none⟩)] w (ByEnds nd.list w) := by
  have c5 := h.c5
  have HL : Hid (IntsAt w.heap.size w lv nd.list) := h.hl
  obtain ⟨ao, cap, rfl, _⟩ := h.hl
  clear h
  go_enter Tryz.func65, Tryz.ntmps65
  go_wp2
  go_ret
  exact ⟨_, rfl, HL.out, Below.refl _ _⟩
theorem by_any {w : World} {nb no : Nat} {nd : Fl.Node} {lv : Value} (h : NodeAt w nb no nd lv) : Calls Tryz.prog (byF nd.kind) #[.pointer (some ⟨nb, no, none⟩)] w (ByEnds (prem nd) w) := by
  unfold byF prem
  by_cases h2 : nd.kind = 2
  · rw [if_pos h2, if_pos h2]; exact by3 h
  rw [if_neg h2, if_neg h2]
  by_cases h3 : nd.kind = 3
  · rw [if_pos h3, if_pos (Or.inl h3)]; exact by2 h
  rw [if_neg h3]
  by_cases h4 : nd.kind = 4
  · rw [if_pos h4, if_pos (Or.inr h4)]; exact by2 h
  rw [if_neg h4, if_neg (show ¬ (nd.kind = 3 ∨ nd.kind = 4) from fun h => h.elim h3 h4)]
  by_cases h5 : nd.kind = 5
  · rw [if_pos h5, if_pos h5]; exact by4 h
  rw [if_neg h5, if_neg h5]
  by_cases h6 : nd.kind = 6
  · rw [if_pos h6, if_pos h6]; exact by5 h
  rw [if_neg h6, if_neg h6]
  by_cases h7 : nd.kind = 7
  · rw [if_pos h7, if_pos h7]; exact by6 h
  rw [if_neg h7, if_neg h7]; exact by1 _ _

theorem by_enter (k : Int) (v : Value) (w : World) : (callFunc (byF k) #[v]).run Tryz.prog w = .ok (.enter (byF k) #[v]) w := by
  unfold byF
  repeat' split
  all_goals kernel_rfl

set_option maxRecDepth 100000 in
set_option maxHeartbeats 4000000 in
theorem isBehind_any (rb ro f k : Nat) (np : Value) (ps : List Int) (w : World) (hf : w.cell? ⟨rb, ro + 3, none⟩ = some (.func (.func f) #[] #[])) (hin : (callFunc f #[np]).run Tryz.prog w = .ok (.enter f #[np]) w) (hc : Calls Tryz.prog f #[np] w (ByEnds ps w)) :
    Calls Tryz.prog 85 #[.pointer (some ⟨rb, ro, none⟩), np, .int .i64 k] w fun e w' => e = .returned (.bool (!ps.any (fun x => decide ((k : Int) ≤ x)))) ∧ Below w.heap.size w w' := by
  have HC : Hid (Calls Tryz.prog f #[np] w (ByEnds ps w)) := hc
  clear hc
  go_enter Tryz.func85, Tryz.ntmps85
  go_wp2_with fail
  refine (HC.out).mono ?_
  rintro e w1 ⟨pv, rfl, hp, hb1⟩
  obtain ⟨pao, pcap, rfl, _, hpm, hpc⟩ := hp
  unfold maxLen at hpm
  have HPC : Hid (ps ≠ [] → ∃ b off, pao = some ⟨b, off, none⟩ ∧ b < w1.heap.size ∧ ∀ i, i < ps.length → w1.cell? ⟨b, off + i, none⟩ = some (.int .i64 (ps.getD i 0))) := hpc
  have HB1 : Hid (Below w.heap.size w w1) := hb1
  clear hpc hb1
  go_wp2_with fail
  go_loop [16] (fun i => ∃ j : Nat, j ≤ ps.length ∧ i = .int .i64 j ∧ ∀ t, t < j → ¬ (k : Int) ≤ ps.getD t 0) (fun i => ps.length - (intOf i).toNat)
  case atStart => exact ⟨0, by omega, rfl, fun t ht => by omega⟩
  case round =>
    obtain ⟨j, hj, rfl, hsm⟩ := hrel
    have HSM : Hid (∀ t, t < j → ¬ (k : Int) ≤ ps.getD t 0) := hsm
    clear hsm
    by_cases hjl : j < ps.length
    · obtain ⟨pb, po, rfl, hpb, hpcell⟩ := HPC.out (by intro h; rw [h] at hjl; simp at hjl)
      have hcj := hpcell j hjl
      obtain ⟨x, hx⟩ : ∃ x, x = ps.getD j 0 := ⟨_, rfl⟩
      rw [← hx] at hcj
      have HXJ : Hid (x = ps.getD j 0) := hx
      have hji : (j : Int) < (ps.length : Int) := by omega
      clear hpcell hx
      by_cases hkx : (k : Int) ≤ x
      · have HAN : Hid ((!ps.any (fun x => decide ((k : Int) ≤ x))) = false) := by
          show (!ps.any (fun x => decide ((k : Int) ≤ x))) = false
          rw [Bool.not_eq_false', List.any_eq_true]; exact ⟨x, by rw [HXJ.out]; exact getD_mem hjl, by simpa using hkx⟩
        go_wp2
        go_ret
        exact ⟨ret_bool HAN.out.symm, HB1.out⟩
      · go_wp2
        go_round
        case rel => exact ⟨j + 1, by omega, by go_num, fun t ht => by
          by_cases h : t < j
          · exact HSM.out t h
          · have : t = j := by omega
            subst this; rw [← HXJ.out]; omega⟩
        case measure => simp [intOf]; omega
    · have HAN : Hid ((!ps.any (fun x => decide ((k : Int) ≤ x))) = true) := by
        show (!ps.any (fun x => decide ((k : Int) ≤ x))) = true
        rw [Bool.not_eq_true', List.any_eq_false]; intro x hx
        obtain ⟨i, hi, rfl⟩ := List.getElem_of_mem hx
        have := HSM.out i (by omega)
        rw [List.getD_eq_getElem?_getD, List.getElem?_eq_getElem hi] at this
        simpa using this
      go_wp2
      go_ret
      exact ⟨ret_bool HAN.out.symm, HB1.out⟩
end Go.Proofs.YtbihjgfbocpobaaGreatDoor

/- A node that is being made, in a block of its own. -/
set_option linter.unusedSimpArgs false
set_option linter.unusedVariables false
namespace Go.Proofs.YtbihjgfbocpobaaGreatDoor
open Go.RowKit

structure Nd (w : World) (N : Nat) (kd lev a b c : Int) (l : Value) : Prop where
  c0 : w.cell? ⟨N, 0, none⟩ = some (.int .i64 kd)
  c1 : w.cell? ⟨N, 1, none⟩ = some (.int .i64 lev)
  c2 : w.cell? ⟨N, 2, none⟩ = some (.int .i64 a)
  c3 : w.cell? ⟨N, 3, none⟩ = some (.int .i64 b)
  c4 : w.cell? ⟨N, 4, none⟩ = some (.int .i64 c)
  c5 : w.cell? ⟨N, 5, none⟩ = some l
  f : ∀ j, w.frozen? ⟨N, j, none⟩ = false
section
variable {w w' : World} {N : Nat} {kd lev a b c : Int} {l : Value}
theorem Nd.lt (h : Nd w N kd lev a b c l) : N < w.heap.size := World.block_lt_of_cell? w _ h.c0
theorem Nd.new (w : World) (kd lev a b c : Int) (l : Value) (e : TypeId) : Nd (w.alloc (.cells #[.int .i64 kd, .int .i64 lev, .int .i64 a, .int .i64 b, .int .i64 c, l] e)) w.heap.size kd lev a b c l := by
  refine ⟨?_, ?_, ?_, ?_, ?_, ?_, fun j => by simp⟩ <;> (rw [World.cell?_alloc_new]; rfl)
theorem Nd.grown (h : Nd w N kd lev a b c l) {row : Option Nat} (g : w.grownBy w' row) (hne : some N ≠ row) : Nd w' N kd lev a b c l :=
  ⟨g.cell h.c0 hne, g.cell h.c1 hne, g.cell h.c2 hne, g.cell h.c3 hne, g.cell h.c4 hne, g.cell h.c5 hne, fun j => (World.frozen?_of_block (w := w) (a := ⟨N, j, none⟩) (g.block N h.lt hne)).trans (h.f j)⟩
theorem Nd.drewN (h : Nd w N kd lev a b c l) (n : Nat) : Nd (w.drewN n) N kd lev a b c l := ⟨h.c0, h.c1, h.c2, h.c3, h.c4, h.c5, h.f⟩
theorem Nd.drew (h : Nd w N kd lev a b c l) : Nd w.drew N kd lev a b c l := ⟨h.c0, h.c1, h.c2, h.c3, h.c4, h.c5, h.f⟩
theorem nd_off {w : World} {N i j : Nat} {v : Value} (hne : i ≠ j) : (w.setCell ⟨N, i, none⟩ v).cell? ⟨N, j, none⟩ = w.cell? ⟨N, j, none⟩ := by
  apply World.cell?_setCell_other; intro hh; injection hh with _ h2; exact hne h2
theorem nd_same {w : World} {N i : Nat} {v u : Value} (h : w.cell? ⟨N, i, none⟩ = some u) : (w.setCell ⟨N, i, none⟩ v).cell? ⟨N, i, none⟩ = some v := World.cell?_setCell_same' _ _ _ (by simp [h])
theorem Nd.set1 (h : Nd w N kd lev a b c l) (x : Int) : Nd (w.setCell ⟨N, 1, none⟩ (.int .i64 x)) N kd x a b c l :=
  ⟨(nd_off (by decide)).trans h.c0, nd_same h.c1, (nd_off (by decide)).trans h.c2, (nd_off (by decide)).trans h.c3, (nd_off (by decide)).trans h.c4, (nd_off (by decide)).trans h.c5, fun j => (World.frozen?_setCell _ _ _ _).trans (h.f j)⟩
theorem Nd.set2 (h : Nd w N kd lev a b c l) (x : Int) : Nd (w.setCell ⟨N, 2, none⟩ (.int .i64 x)) N kd lev x b c l :=
  ⟨(nd_off (by decide)).trans h.c0, (nd_off (by decide)).trans h.c1, nd_same h.c2, (nd_off (by decide)).trans h.c3, (nd_off (by decide)).trans h.c4, (nd_off (by decide)).trans h.c5, fun j => (World.frozen?_setCell _ _ _ _).trans (h.f j)⟩
theorem Nd.set3 (h : Nd w N kd lev a b c l) (x : Int) : Nd (w.setCell ⟨N, 3, none⟩ (.int .i64 x)) N kd lev a x c l :=
  ⟨(nd_off (by decide)).trans h.c0, (nd_off (by decide)).trans h.c1, (nd_off (by decide)).trans h.c2, nd_same h.c3, (nd_off (by decide)).trans h.c4, (nd_off (by decide)).trans h.c5, fun j => (World.frozen?_setCell _ _ _ _).trans (h.f j)⟩
theorem Nd.set4 (h : Nd w N kd lev a b c l) (x : Int) : Nd (w.setCell ⟨N, 4, none⟩ (.int .i64 x)) N kd lev a b x l :=
  ⟨(nd_off (by decide)).trans h.c0, (nd_off (by decide)).trans h.c1, (nd_off (by decide)).trans h.c2, (nd_off (by decide)).trans h.c3, nd_same h.c4, (nd_off (by decide)).trans h.c5, fun j => (World.frozen?_setCell _ _ _ _).trans (h.f j)⟩
theorem Nd.set5 (h : Nd w N kd lev a b c l) (x : Value) : Nd (w.setCell ⟨N, 5, none⟩ x) N kd lev a b c x :=
  ⟨(nd_off (by decide)).trans h.c0, (nd_off (by decide)).trans h.c1, (nd_off (by decide)).trans h.c2, (nd_off (by decide)).trans h.c3, (nd_off (by decide)).trans h.c4, nd_same h.c5, fun j => (World.frozen?_setCell _ _ _ _).trans (h.f j)⟩
theorem Nd.nodeAt (h : Nd w N kd lev a b c l) {ls : List Int} (hl : IntsAt w.heap.size w l ls) : NodeAt w N 0 ⟨kd, lev, a, b, c, ls⟩ l := ⟨h.c0, h.c1, h.c2, h.c3, h.c4, h.c5, hl⟩
end
/-- A store into a block of the call's own. -/
theorem grown_set (w : World) (N i : Nat) (v : Value) : w.grownBy (w.setCell ⟨N, i, none⟩ v) (some N) :=
  ⟨rfl, rfl, rfl, by simp [World.setCell], fun k hk hne => Below.heap_setCell _ _ _ _ (by intro h; exact hne (by rw [h]))⟩
theorem Mv.andSet {w w1 : World} {b N : Nat} (h : Mv w w1 b) (hb : b < w.heap.size) (hN : w.heap.size ≤ N) (i : Nat) (v : Value) : Mv w (w1.setCell ⟨N, i, none⟩ v) b :=
  h.andGrown (grown_set w1 N i v) hb (fun k e => by injection e with e; omega)
end Go.Proofs.YtbihjgfbocpobaaGreatDoor

/- One node's bytes, in the order in which the program reads them. -/
set_option linter.unusedSimpArgs false
set_option linter.unusedVariables false
namespace Go.Proofs.YtbihjgfbocpobaaGreatDoor
open Go.RowKit

/-- How many numbers a kind has. -/
def numF (k : Nat) : Nat := if k = 0 then 1 else if k = 1 then 1 else if k = 2 then 3 else if k = 3 then 2 else if k = 4 then 2 else if k = 5 then 3 else if k = 6 then 2 else 0
theorem numF_le (k : Nat) : numF k ≤ 3 := by unfold numF; (repeat' split) <;> omega
theorem fields_numF (k : Nat) (h : k < 8) (h7 : k ≠ 7) : Fl.fields (k : Int) = (numF k : Int) := by
  have : k = 0 ∨ k = 1 ∨ k = 2 ∨ k = 3 ∨ k = 4 ∨ k = 5 ∨ k = 6 := by omega
  rcases this with rfl | rfl | rfl | rfl | rfl | rfl | rfl <;> rfl
theorem num_split (s : List UInt8) (p : Nat) (h : p ≤ s.length) (hq : ¬ (Fl.num s p).2.1 < 0) : ∃ v q : Nat, Fl.num s p = ((v : Int), (q : Int), 0) ∧ p < q ∧ q ≤ s.length ∧ v < 2147483648 := by
  have h1 := Fl.num_ok s p h
  generalize Fl.num s p = r at *
  obtain ⟨a, b, c⟩ := r
  simp only at h1 hq
  rcases h1 with h1 | h1
  · omega
  · obtain ⟨h2, h3, h4, h5, rfl⟩ := h1
    exact ⟨a.toNat, b.toNat, by rw [Int.toNat_of_nonneg h4, Int.toNat_of_nonneg (by omega)], by omega, by omega, by omega⟩
theorem numB_split (s : List UInt8) (p : Nat) (lo hi : Int) (h : p ≤ s.length) (hq : ¬ (Fl.numB s p lo hi).2.1 < 0) : ∃ v q : Nat, Fl.numB s p lo hi = ((v : Int), (q : Int), 0) ∧ Fl.num s p = ((v : Int), (q : Int), 0) ∧ p < q ∧ q ≤ s.length ∧ lo ≤ (v : Int) ∧ (v : Int) ≤ hi := by
  unfold Fl.numB at *
  by_cases h1 : (Fl.num s p).2.1 < 0
  · rw [if_pos h1] at hq; exact absurd (show (-1 : Int) < 0 by decide) hq
  · rw [if_neg h1] at hq ⊢
    by_cases h2 : (Fl.num s p).1 < lo ∨ hi < (Fl.num s p).1
    · rw [if_pos h2] at hq; exact absurd (show (-1 : Int) < 0 by decide) hq
    · rw [if_neg h2]
      obtain ⟨v, q, h3, h4, h5, h6⟩ := num_split s p h h1
      rw [h3] at h2 ⊢
      simp only at h2 ⊢
      exact ⟨v, q, rfl, rfl, h4, h5, by omega, by omega⟩
section
variable {s : List UInt8} {p k x v q : Nat}
theorem one_level_bad (hlt : p < s.length) (hx : x = (s.getD p 0).toNat) (hx8 : x < 8) (hn : (Fl.num s (p + 1)).2.1 < 0) : Fl.one s p k = (Fl.nd0, -1, (Fl.num s (p + 1)).2.2) := by
  unfold Fl.one; rw [if_neg (by omega)]
  simp only [← hx]
  rw [if_neg (by unfold Fl.fields; repeat' split <;> omega), if_pos hn]
theorem one_plain (hlt : p < s.length) (hx : x = (s.getD p 0).toNat) (hx8 : x < 8) (h7 : x ≠ 7) (hn : Fl.num s (p + 1) = ((v : Int), (q : Int), 0)) :
    Fl.one s p k = if (Fl.nums s q (numF x)).2.1 < 0 then (Fl.nd0, -1, (Fl.nums s q (numF x)).2.2) else Fl.oneFin p k ⟨x, v, (Fl.nums s q (numF x)).1.getD 0 0, (Fl.nums s q (numF x)).1.getD 1 0, (Fl.nums s q (numF x)).1.getD 2 0, []⟩ (Fl.nums s q (numF x)).2.1 := by
  unfold Fl.one; rw [if_neg (by omega)]
  simp only [← hx, hn]
  rw [fields_numF x hx8 h7, if_neg (by omega), if_neg (by omega), if_neg (by omega)]
  simp only [Int.toNat_natCast]
theorem one_list_bad (hlt : p < s.length) (hx : 7 = (s.getD p 0).toNat) (hn : Fl.num s (p + 1) = ((v : Int), (q : Int), 0)) (hm : (Fl.numB s q 0 16).2.1 < 0) (hq : q ≤ s.length) :
    Fl.one s p k = (Fl.nd0, -1, (Fl.numB s q 0 16).2.2) := by
  have hok := Fl.num_ok s q hq
  unfold Fl.one; rw [if_neg (by omega)]
  simp only [← hx, hn]
  rw [if_neg (by decide), if_neg (by omega), if_pos (by decide)]
  simp only [Int.toNat_natCast]
  unfold Fl.numB at *
  by_cases h1 : (Fl.num s q).2.1 < 0
  · rw [if_pos h1, if_pos h1]
  · rw [if_neg h1] at hm
    rw [if_neg h1, if_neg h1]
    by_cases h2 : (Fl.num s q).1 < 0 ∨ 16 < (Fl.num s q).1
    · rw [if_pos h2, if_pos (by omega)]
    · rw [if_neg h2] at hm; exact absurd hm h1
theorem cone_list (hlt : p < s.length) (hx : 7 = (s.getD p 0).toNat) (hn : Fl.num s (p + 1) = ((v : Int), (q : Int), 0)) {m q2 : Nat} (hm : Fl.num s q = ((m : Int), (q2 : Int), 0)) (hm16 : m ≤ 16) :
    Fl.one s p k = if (Fl.nums s q2 m).2.1 < 0 then (Fl.nd0, -1, (Fl.nums s q2 m).2.2) else Fl.oneFin p k ⟨7, v, 0, 0, 0, (Fl.nums s q2 m).1⟩ (Fl.nums s q2 m).2.1 := by
  unfold Fl.one; rw [if_neg (by omega)]
  simp only [← hx, hn]
  rw [if_neg (by decide), if_neg (by omega), if_pos (by decide)]
  simp only [Int.toNat_natCast, hm]
  rw [if_neg (by omega), if_neg (by omega)]
  rfl
end
end Go.Proofs.YtbihjgfbocpobaaGreatDoor

/- The loop in which a node's numbers are read. -/
set_option linter.unusedSimpArgs false
set_option linter.unusedVariables false
namespace Go.Proofs.YtbihjgfbocpobaaGreatDoor
open Go.RowKit

/-- What each kind has lies in a block. -/
def RulesAt (w : World) (b ro : Nat) : Prop := ∀ k : Nat, k < 8 → w.cell? ⟨b, ro + k * 4 + 1, none⟩ = some (.int .i64 (numF k : Nat)) ∧ w.cell? ⟨b, ro + k * 4 + 2, none⟩ = some (.bool (k == 7)) ∧ w.cell? ⟨b, ro + k * 4 + 3, none⟩ = some (.func (.func (byF k)) #[] #[])
theorem RulesAt.move {w w' : World} {b ro : Nat} (h : RulesAt w b ro) (m : Mv w w' b) (hro : 1 ≤ ro) : RulesAt w' b ro := fun k hk => by
  obtain ⟨h1, h2, h3⟩ := h k hk
  exact ⟨(m.o _ (by omega)).trans h1, (m.o _ (by omega)).trans h2, (m.o _ (by omega)).trans h3⟩

structure NodeLoop (s : List UInt8) (q f : Nat) (w wr : World) (b N PB x v j q' : Nat) (xs : List Int) : Prop where
  hn : NumsL s q f j q' xs
  hm : Mv w wr b
  hc : wr.cell? ⟨b, 1, none⟩ = some (.int .i64 (q' : Int))
  nd : Nd wr N x v (xs.getD 0 0) (xs.getD 1 0) (xs.getD 2 0) (.slice none 0 0)
  rs : Nd wr w.heap.size 0 0 0 0 0 (.slice none 0 0)
  p0 : wr.cell? ⟨PB, 0, none⟩ = some (.pointer (some ⟨N, 2, none⟩))
  p1 : wr.cell? ⟨PB, 1, none⟩ = some (.pointer (some ⟨N, 3, none⟩))
  p2 : wr.cell? ⟨PB, 2, none⟩ = some (.pointer (some ⟨N, 4, none⟩))
  hN : w.heap.size < N
  hP : N < PB
theorem NodeLoop.ptr {s : List UInt8} {q f : Nat} {w wr : World} {b N PB x v j q' : Nat} {xs : List Int} (h : NodeLoop s q f w wr b N PB x v j q' xs) (hj : j < 3) : wr.cell? ⟨PB, j, none⟩ = some (.pointer (some ⟨N, 2 + j, none⟩)) := by
  have : j = 0 ∨ j = 1 ∨ j = 2 := by omega
  rcases this with rfl | rfl | rfl
  · exact h.p0
  · exact h.p1
  · exact h.p2
theorem NodeLoop.cell {s : List UInt8} {q f : Nat} {w wr : World} {b N PB x v j q' : Nat} {xs : List Int} (h : NodeLoop s q f w wr b N PB x v j q' xs) (hj : j < 3) : wr.cell? ⟨N, 2 + j, none⟩ = some (.int .i64 (xs.getD j 0)) := by
  have : j = 0 ∨ j = 1 ∨ j = 2 := by omega
  rcases this with rfl | rfl | rfl
  · exact h.nd.c2
  · exact h.nd.c3
  · exact h.nd.c4
theorem NodeLoop.next {s : List UInt8} {q f : Nat} {w wr w1 : World} {b N PB x v j q' : Nat} {xs : List Int} (h : NodeLoop s q f w wr b N PB x v j q' xs) (hb : b < w.heap.size) (hjf : j < f) (hj : j < 3) {y m : Nat} (hn : Fl.num s q' = ((y : Int), (m : Int), 0)) (m1 : Mv wr w1 b) (c1 : w1.cell? ⟨b, 1, none⟩ = some (.int .i64 (m : Int))) :
    NodeLoop s q f w (w1.setCell ⟨N, 2 + j, none⟩ (.int .i64 y)) b N PB x v (j + 1) m (xs ++ [(y : Int)]) := by
  have hN := h.hN
  have hP := h.hP
  have g1 := m1.g
  have g2 := grown_set w1 N (2 + j) (.int .i64 y)
  have hnb : some N ≠ some b := by simp; omega
  have hpb : some PB ≠ some b := by simp; omega
  have hwb : some w.heap.size ≠ some b := by simp; omega
  have hpN : some PB ≠ some N := by simp; omega
  have hwN : some w.heap.size ≠ some N := by simp; omega
  refine ⟨by have := h.hn.step hjf hn (by omega); simpa using this, (h.hm.trans m1).andSet hb (by omega) _ _, g2.cell c1 (by simp; omega), ?_, (h.rs.grown g1 hwb).grown g2 hwN, g2.cell (g1.cell h.p0 hpb) hpN, g2.cell (g1.cell h.p1 hpb) hpN, g2.cell (g1.cell h.p2 hpb) hpN, hN, hP⟩
  have hnd := h.nd.grown g1 hnb
  have hlen := h.hn.2.2.1
  have : j = 0 ∨ j = 1 ∨ j = 2 := by omega
  rcases this with rfl | rfl | rfl
  · match xs, hlen with
    | [], _ => exact hnd.set2 _
  · match xs, hlen with
    | [a], _ => exact hnd.set3 _
  · match xs, hlen with
    | [a, b'], _ => exact hnd.set4 _
end Go.Proofs.YtbihjgfbocpobaaGreatDoor
