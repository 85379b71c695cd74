/- Texts RefN RefO RefP RefQ. -/
import Derived.Test.YtbihjgfbocpobaaGreatDoorM11
/- The reference's one. -/
set_option linter.unusedSimpArgs false
set_option linter.unusedVariables false
namespace Go.Proofs.YtbihjgfbocpobaaGreatDoor
open Go.RowKit

/-- What one answers. -/
def OneEnds (r : Fl.Node × Int × Int) (w : World) (e : Ending) (w' : World) : Prop :=
  Below w.heap.size w w' ∧ ∃ nv, e = .returned (.tuple #[nv, .int .i64 r.2.1, .int .i64 r.2.2]) ∧ (∃ nd ao n cap, nv = nodeV nd (.slice ao n cap)) ∧ (0 ≤ r.2.1 → ∃ lv, nv = nodeV r.1 lv ∧ IntsAt w'.heap.size w' lv r.1.list ∧ ∀ b, lv.ownBlock = some b → w.heap.size ≤ b)

theorem one_bad {w w' : World} {nv : Value} {b : Int} {r : Fl.Node × Int × Int} {e : Ending} (hr : r = (Fl.nd0, -1, b)) (he : e = .returned (.tuple #[nv, .int .i64 (-1), .int .i64 b])) (hv : ∃ nd ao n cap, nv = nodeV nd (.slice ao n cap)) (hb : Below w.heap.size w w') : OneEnds r w e w' := by
  subst hr; exact ⟨hb, nv, he, hv, fun h => absurd (show (0 : Int) ≤ -1 from h) (by decide)⟩

set_option maxRecDepth 100000 in
set_option maxHeartbeats 4000000 in
theorem one_end (s : ByteArray) (k : Nat) (w : World) (hs : s.size ≤ 4611686018427387904) :
    Calls Tryz.prog 17 #[.string s, .int .i64 s.size, .int .i64 k] w fun e w' => OneEnds (Fl.nd0, -1, (s.size : Int)) w e w' := by
  have b1 : ((s.size : Int) == (s.size : Int)) = true := by simp
  go_enter Tryz.func17, Tryz.ntmps17
  go_wp2
  exact bodyPost_ret (v := .tuple #[.agg #[.int .i64 0, .int .i64 0, .int .i64 0, .int .i64 0, .int .i64 0, .slice none 0 0], .int .i64 (-1), .int .i64 s.size]) (by simp [results, Tryz.results17, go_sem]) rfl (one_bad rfl rfl ⟨⟨_, _, _, _, _, []⟩, _, _, _, rfl⟩ (((Below.refl _ _).alloc (Nat.le_refl _) _).alloc (by simp) _))

theorem num_i (s : ByteArray) (q : Int) (w : World) (hs : s.size ≤ 4611686018427387904) (h0 : 0 ≤ q) (hq : q ≤ s.size) (v n b : Int) (h : Fl.num s.toList q.toNat = (v, n, b)) :
    Calls Tryz.prog 15 #[.string s, .int .i64 q] w fun e w' => e = .returned (.tuple #[.int .i64 v, .int .i64 n, .int .i64 b]) ∧ w' = w := by
  obtain ⟨m, rfl⟩ := Int.eq_ofNat_of_zero_le h0
  exact num_l s m w hs (by omega) v n b (by simpa using h)
theorem nums_i (s : ByteArray) (q m : Int) (w : World) (hs : s.size ≤ 4611686018427387904) (h0 : 0 ≤ q) (hq : q ≤ s.size) (hm0 : 0 ≤ m) (hm : m ≤ 1000) (l : List Int) (n b : Int) (h : Fl.nums s.toList q.toNat m.toNat = (l, n, b)) :
    Calls Tryz.prog 16 #[.string s, .int .i64 q, .int .i64 m] w fun e w' => ∃ v, e = .returned (.tuple #[v, .int .i64 n, .int .i64 b]) ∧ w'.ownsRow w.heap.size 3 1 v l.length (l.map (Value.int .i64)) ∧ Below w.heap.size w w' := by
  obtain ⟨q, rfl⟩ := Int.eq_ofNat_of_zero_le h0
  obtain ⟨m, rfl⟩ := Int.eq_ofNat_of_zero_le hm0
  have := nums_walk s q m w hs (by omega) (by omega)
  rw [show Fl.nums s.toList q m = (l, n, b) from by simpa using h] at this
  exact this

set_option maxRecDepth 100000 in
set_option maxHeartbeats 4000000 in
theorem one_kind (s : ByteArray) (p k : Nat) (w : World) (hs : s.size ≤ 4611686018427387904) (hp : p < s.size)
    (H : Hid (∀ w, Calls Tryz.prog 21 #[.int .i64 s[p].toNat] w fun e w' => e = .returned (.int .i64 (-2)) ∧ w' = w)) :
    Calls Tryz.prog 17 #[.string s, .int .i64 p, .int .i64 k] w fun e w' => OneEnds (Fl.nd0, -1, (p : Int)) w e w' := by
  have b1 : ((p : Int) == (s.size : Int)) = false := beq_eq_false_iff_ne.2 (by omega)
  have hc : s[p].toNat < 256 := s[p].toNat_lt
  go_enter Tryz.func17, Tryz.ntmps17
  go_wp2_with (go_at_call 21; refine (H.out _).mono ?_; rintro e w' ⟨rfl, rfl⟩)
  exact bodyPost_ret (v := .tuple #[.agg #[.int .i64 s[p].toNat, .int .i64 0, .int .i64 0, .int .i64 0, .int .i64 0, .slice none 0 0], .int .i64 (-1), .int .i64 p]) (by simp [results, Tryz.results17, go_sem]) rfl (one_bad rfl rfl ⟨⟨_, _, _, _, _, []⟩, _, _, _, rfl⟩ (((Below.refl _ _).alloc (Nat.le_refl _) _).alloc (by simp) _))

set_option maxRecDepth 100000 in
set_option maxHeartbeats 4000000 in
theorem one_lev (s : ByteArray) (p k : Nat) (F v n b : Int) (w : World) (hs : s.size ≤ 4611686018427387904) (hp : p < s.size) (hF : F ≠ -2) (hn : n < 0)
    (H : Hid (∀ w, Calls Tryz.prog 21 #[.int .i64 s[p].toNat] w fun e w' => e = .returned (.int .i64 F) ∧ w' = w))
    (H1 : Hid (∀ w, Calls Tryz.prog 15 #[.string s, .int .i64 ((p : Int) + 1)] w fun e w' => e = .returned (.tuple #[.int .i64 v, .int .i64 n, .int .i64 b]) ∧ w' = w)) :
    Calls Tryz.prog 17 #[.string s, .int .i64 p, .int .i64 k] w fun e w' => OneEnds (Fl.nd0, -1, b) w e w' := by
  have b1 : ((p : Int) == (s.size : Int)) = false := beq_eq_false_iff_ne.2 (by omega)
  have b2 : (F == -2) = false := beq_eq_false_iff_ne.2 hF
  have hc : s[p].toNat < 256 := s[p].toNat_lt
  clear hF
  go_enter Tryz.func17, Tryz.ntmps17
  go_wp2_with (first | (go_at_call 21; refine (H.out _).mono ?_; rintro e w' ⟨rfl, rfl⟩) | (go_at_call 15; refine (H1.out _).mono ?_; rintro e w' ⟨rfl, rfl⟩))
  exact bodyPost_ret (v := .tuple #[.agg #[.int .i64 s[p].toNat, .int .i64 0, .int .i64 0, .int .i64 0, .int .i64 0, .slice none 0 0], .int .i64 (-1), .int .i64 b]) (by simp [results, Tryz.results17, go_sem]) rfl (one_bad rfl rfl ⟨⟨_, _, _, _, _, []⟩, _, _, _, rfl⟩ (((Below.refl _ _).alloc (Nat.le_refl _) _).alloc (by simp) _))

set_option maxRecDepth 100000 in
set_option maxHeartbeats 4000000 in
theorem one_cnt (s : ByteArray) (p k : Nat) (v n b v2 n2 b2 r : Int) (w : World) (hs : s.size ≤ 4611686018427387904) (hp : p < s.size) (hn : ¬ n < 0) (hn2 : (n2 < 0 ∧ r = b2) ∨ (¬ n2 < 0 ∧ 16 < v2 ∧ r = n))
    (H : Hid (∀ w, Calls Tryz.prog 21 #[.int .i64 s[p].toNat] w fun e w' => e = .returned (.int .i64 (-1)) ∧ w' = w))
    (H1 : Hid (∀ w, Calls Tryz.prog 15 #[.string s, .int .i64 ((p : Int) + 1)] w fun e w' => e = .returned (.tuple #[.int .i64 v, .int .i64 n, .int .i64 b]) ∧ w' = w))
    (H2 : Hid (∀ w, Calls Tryz.prog 15 #[.string s, .int .i64 n] w fun e w' => e = .returned (.tuple #[.int .i64 v2, .int .i64 n2, .int .i64 b2]) ∧ w' = w)) :
    Calls Tryz.prog 17 #[.string s, .int .i64 p, .int .i64 k] w fun e w' => OneEnds (Fl.nd0, -1, r) w e w' := by
  have b1 : ((p : Int) == (s.size : Int)) = false := beq_eq_false_iff_ne.2 (by omega)
  have hc : s[p].toNat < 256 := s[p].toNat_lt
  rcases hn2 with ⟨hn2, rfl⟩ | ⟨hn2, hv2, rfl⟩
  · go_enter Tryz.func17, Tryz.ntmps17
    go_wp2_with (go_at_call 21; refine (H.out _).mono ?_; rintro e w' ⟨rfl, rfl⟩)
    refine (H1.out _).mono ?_; rintro e w' ⟨rfl, rfl⟩
    go_wp2_with fail
    refine (H2.out _).mono ?_; rintro e w' ⟨rfl, rfl⟩
    go_wp2
    exact bodyPost_ret (v := .tuple #[.agg #[.int .i64 s[p].toNat, .int .i64 v, .int .i64 0, .int .i64 0, .int .i64 0, .slice none 0 0], .int .i64 (-1), .int .i64 r]) (by simp [results, Tryz.results17, go_sem]) rfl (one_bad rfl rfl ⟨⟨_, _, _, _, _, []⟩, _, _, _, rfl⟩ (((Below.refl _ _).alloc (Nat.le_refl _) _).alloc (by simp) _))
  · go_enter Tryz.func17, Tryz.ntmps17
    go_wp2_with (go_at_call 21; refine (H.out _).mono ?_; rintro e w' ⟨rfl, rfl⟩)
    refine (H1.out _).mono ?_; rintro e w' ⟨rfl, rfl⟩
    go_wp2_with fail
    refine (H2.out _).mono ?_; rintro e w' ⟨rfl, rfl⟩
    go_wp2
    exact bodyPost_ret (v := .tuple #[.agg #[.int .i64 s[p].toNat, .int .i64 v, .int .i64 0, .int .i64 0, .int .i64 0, .slice none 0 0], .int .i64 (-1), .int .i64 r]) (by simp [results, Tryz.results17, go_sem]) rfl (one_bad rfl rfl ⟨⟨_, _, _, _, _, []⟩, _, _, _, rfl⟩ (((Below.refl _ _).alloc (Nat.le_refl _) _).alloc (by simp) _))
end Go.Proofs.YtbihjgfbocpobaaGreatDoor

/- The reference's one, of a Block. -/
set_option linter.unusedSimpArgs false
set_option linter.unusedVariables false
namespace Go.Proofs.YtbihjgfbocpobaaGreatDoor
open Go.RowKit

theorem cell_self {W : World} {a : Addr} {o v : Value} (h : W.cell? a = some o) : (W.setCell a v).cell? a = some v := World.cell?_setCell_same' W a v (by simp [h])
theorem cell_off {W : World} {B i j : Nat} {v : Value} (h : i ≠ j) : (W.setCell ⟨B, j, none⟩ v).cell? ⟨B, i, none⟩ = W.cell? ⟨B, i, none⟩ := by
  apply World.cell?_setCell_other; intro hh; apply h; injection hh with _ h2; exact h2.symm
theorem six_same {w1 : World} {B : Nat} (v0 v1 v2 v3 v4 v5 : Value) {o0 o1 o2 o3 o4 o5 : Value} (h0 : w1.cell? ⟨B, 0, none⟩ = some o0) (h1 : w1.cell? ⟨B, 1, none⟩ = some o1) (h2 : w1.cell? ⟨B, 2, none⟩ = some o2) (h3 : w1.cell? ⟨B, 3, none⟩ = some o3) (h4 : w1.cell? ⟨B, 4, none⟩ = some o4) (h5 : w1.cell? ⟨B, 5, none⟩ = some o5) :
    (w1.setCell ⟨B, 0, none⟩ v0).cell? ⟨B, 0, none⟩ = some v0 ∧ ((w1.setCell ⟨B, 0, none⟩ v0).setCell ⟨B, 1, none⟩ v1).cell? ⟨B, 1, none⟩ = some v1 ∧ (((w1.setCell ⟨B, 0, none⟩ v0).setCell ⟨B, 1, none⟩ v1).setCell ⟨B, 2, none⟩ v2).cell? ⟨B, 2, none⟩ = some v2 ∧ ((((w1.setCell ⟨B, 0, none⟩ v0).setCell ⟨B, 1, none⟩ v1).setCell ⟨B, 2, none⟩ v2).setCell ⟨B, 3, none⟩ v3).cell? ⟨B, 3, none⟩ = some v3 ∧ (((((w1.setCell ⟨B, 0, none⟩ v0).setCell ⟨B, 1, none⟩ v1).setCell ⟨B, 2, none⟩ v2).setCell ⟨B, 3, none⟩ v3).setCell ⟨B, 4, none⟩ v4).cell? ⟨B, 4, none⟩ = some v4 ∧ ((((((w1.setCell ⟨B, 0, none⟩ v0).setCell ⟨B, 1, none⟩ v1).setCell ⟨B, 2, none⟩ v2).setCell ⟨B, 3, none⟩ v3).setCell ⟨B, 4, none⟩ v4).setCell ⟨B, 5, none⟩ v5).cell? ⟨B, 5, none⟩ = some v5 := by
  refine ⟨cell_self h0, cell_self (o := o1) ?_, cell_self (o := o2) ?_, cell_self (o := o3) ?_, cell_self (o := o4) ?_, cell_self (o := o5) ?_⟩ <;> repeat (rw [cell_off (by decide)])
  all_goals assumption

theorem six_below {B : Nat} {w w1 : World} {v0 v1 v2 v3 v4 v5 : Value} (h : Below B w w1) :
    Below B w ((((((w1.setCell ⟨B, 0, none⟩ v0).setCell ⟨B, 1, none⟩ v1).setCell ⟨B, 2, none⟩ v2).setCell ⟨B, 3, none⟩ v3).setCell ⟨B, 4, none⟩ v4).setCell ⟨B, 5, none⟩ v5) :=
  (((((h.setCell (Nat.le_refl _) _).setCell (Nat.le_refl _) _).setCell (Nat.le_refl _) _).setCell (Nat.le_refl _) _).setCell (Nat.le_refl _) _).setCell (Nat.le_refl _) _

set_option maxRecDepth 100000 in
set_option maxHeartbeats 4000000 in
theorem one_lbad (s : ByteArray) (p k : Nat) (v n b v2 n2 b2 n3 b3 : Int) (w : World) (hs : s.size ≤ 4611686018427387904) (hp : p < s.size) (hn : ¬ n < 0) (hn2 : ¬ n2 < 0) (hv2 : ¬ 16 < v2) (hn3 : n3 < 0)
    (H : Hid (∀ w, Calls Tryz.prog 21 #[.int .i64 s[p].toNat] w fun e w' => e = .returned (.int .i64 (-1)) ∧ w' = w))
    (H1 : Hid (∀ w, Calls Tryz.prog 15 #[.string s, .int .i64 ((p : Int) + 1)] w fun e w' => e = .returned (.tuple #[.int .i64 v, .int .i64 n, .int .i64 b]) ∧ w' = w))
    (H2 : Hid (∀ w, Calls Tryz.prog 15 #[.string s, .int .i64 n] w fun e w' => e = .returned (.tuple #[.int .i64 v2, .int .i64 n2, .int .i64 b2]) ∧ w' = w))
    (H3 : Hid (∀ w, Calls Tryz.prog 16 #[.string s, .int .i64 n2, .int .i64 v2] w fun e w' => ∃ lv, e = .returned (.tuple #[lv, .int .i64 n3, .int .i64 b3]) ∧ Below w.heap.size w w')) :
    Calls Tryz.prog 17 #[.string s, .int .i64 p, .int .i64 k] w fun e w' => OneEnds (Fl.nd0, -1, b3) w e w' := by
  have b1 : ((p : Int) == (s.size : Int)) = false := beq_eq_false_iff_ne.2 (by omega)
  have hc : s[p].toNat < 256 := s[p].toNat_lt
  go_enter Tryz.func17, Tryz.ntmps17
  go_wp2_with (go_at_call 21; refine (H.out _).mono ?_; rintro e w' ⟨rfl, rfl⟩)
  refine (H1.out _).mono ?_; rintro e w' ⟨rfl, rfl⟩
  go_wp2_with fail
  refine (H2.out _).mono ?_; rintro e w' ⟨rfl, rfl⟩
  go_wp2_with fail
  refine (H3.out _).mono ?_; rintro e w1 ⟨lv, rfl, hb1⟩
  obtain ⟨hcB, hfB⟩ := bcell hb1
  simp only [World.size_alloc] at hcB hfB
  have hz : w.heap.size + 1 < w1.heap.size := by have := hb1.size; simp at this; omega
  obtain ⟨q0, q1, q2, q3, q4, q5⟩ := six_same (w1 := w1) (B := w.heap.size) (o0 := .int .i64 0) (o1 := .int .i64 0) (o2 := .int .i64 0) (o3 := .int .i64 0) (o4 := .int .i64 0) (o5 := .slice none 0 0) (.int .i64 s[p].toNat) (.int .i64 v) (.int .i64 0) (.int .i64 0) (.int .i64 0) (.slice none 0 0) (by rw [hcB _ _ (by omega)]; simp) (by rw [hcB _ _ (by omega)]; simp) (by rw [hcB _ _ (by omega)]; simp) (by rw [hcB _ _ (by omega)]; simp) (by rw [hcB _ _ (by omega)]; simp) (by rw [hcB _ _ (by omega)]; simp)
  go_wp2
  exact bodyPost_ret (v := .tuple #[.agg #[.int .i64 s[p].toNat, .int .i64 v, .int .i64 0, .int .i64 0, .int .i64 0, .slice none 0 0], .int .i64 (-1), .int .i64 b3]) (by simp [results, Tryz.results17, go_sem, q0, q1, q2, q3, q4, q5]) rfl (one_bad rfl rfl ⟨⟨_, _, _, _, _, []⟩, _, _, _, rfl⟩ (six_below ((((Below.refl _ _).alloc (Nat.le_refl _) _).alloc (by simp) _).trans (hb1.mono (by simp; omega)))))
end Go.Proofs.YtbihjgfbocpobaaGreatDoor

/- The reference's one, of a Block, read to its end. -/
set_option linter.unusedSimpArgs false
set_option linter.unusedVariables false
namespace Go.Proofs.YtbihjgfbocpobaaGreatDoor
open Go.RowKit

theorem own_below {w w' : World} {base : Nat} {e : TypeId} {size : Nat} {v : Value} {n : Nat} {xs : List Value} (h : w.ownsRow base e size v n xs) (hb : Below w.heap.size w w') : w'.ownsRow base e size v n xs :=
  h.kept (row := none) ⟨hb.os, hb.tape, hb.output, hb.size, fun k hk _ => hb.block k hk⟩ (by cases v.ownBlock <;> simp)
theorem own_six {w1 : World} {base : Nat} {e : TypeId} {size : Nat} {v : Value} {n : Nat} {xs : List Value} {B : Nat} {v0 v1 v2 v3 v4 v5 : Value} (h : w1.ownsRow base e size v n xs) (hB : B < base) :
    ((((((w1.setCell ⟨B, 0, none⟩ v0).setCell ⟨B, 1, none⟩ v1).setCell ⟨B, 2, none⟩ v2).setCell ⟨B, 3, none⟩ v3).setCell ⟨B, 4, none⟩ v4).setCell ⟨B, 5, none⟩ v5).ownsRow base e size v n xs :=
  ownsRow_setCell_below (ownsRow_setCell_below (ownsRow_setCell_below (ownsRow_setCell_below (ownsRow_setCell_below (ownsRow_setCell_below h hB _) hB _) hB _) hB _) hB _) hB _
theorem own_shape {w : World} {base : Nat} {e : TypeId} {v : Value} {n : Nat} {xs : List Value} (h : w.ownsRow base e 1 v n xs) : ∃ ao cap, v = .slice ao n cap := by
  rcases h.2 with ⟨rfl, rfl⟩ | ⟨g, cap, cur, rfl, _⟩
  · exact ⟨_, _, rfl⟩
  · exact ⟨_, _, rfl⟩
theorem one_good {w w' : World} {nv lv : Value} {r : Fl.Node × Int × Int} {nd : Fl.Node} {x : Int} {e : Ending} (hr : r = (nd, x, 0)) (he : e = .returned (.tuple #[nv, .int .i64 x, .int .i64 0])) (hnv : nv = nodeV nd lv) (hl : IntsAt w'.heap.size w' lv nd.list) (hf : ∀ b, lv.ownBlock = some b → w.heap.size ≤ b) (hb : Below w.heap.size w w') : OneEnds r w e w' := by
  subst hr
  have hl2 := hl
  obtain ⟨ao, cap, hlv, _⟩ := hl2
  exact ⟨hb, nv, he, ⟨nd, ao, _, cap, by rw [hnv, hlv]⟩, fun _ => ⟨lv, hnv, hl, hf⟩⟩

set_option maxRecDepth 100000 in
set_option maxHeartbeats 8000000 in
theorem one_list (s : ByteArray) (p k : Nat) (v n b v2 n2 b2 n3 b3 : Int) (l : List Int) (w : World) (hn2 : ¬ n2 < 0) (hv2 : ¬ 16 < v2) (hn3 : ¬ n3 < 0) (hll : l.length ≤ 16) (hs : s.size ≤ 4611686018427387904) (hp : p < s.size) (hn : ¬ n < 0)
    (H1 : Hid (∀ w, Calls Tryz.prog 15 #[.string s, .int .i64 ((p : Int) + 1)] w fun e w' => e = .returned (.tuple #[.int .i64 v, .int .i64 n, .int .i64 b]) ∧ w' = w))
    (H : Hid (∀ w, Calls Tryz.prog 21 #[.int .i64 s[p].toNat] w fun e w' => e = .returned (.int .i64 (-1)) ∧ w' = w))
    (H2 : Hid (∀ w, Calls Tryz.prog 15 #[.string s, .int .i64 n] w fun e w' => e = .returned (.tuple #[.int .i64 v2, .int .i64 n2, .int .i64 b2]) ∧ w' = w))
    (H3 : Hid (∀ w, Calls Tryz.prog 16 #[.string s, .int .i64 n2, .int .i64 v2] w fun e w' => ∃ lv, e = .returned (.tuple #[lv, .int .i64 n3, .int .i64 b3]) ∧ w'.ownsRow w.heap.size 3 1 lv l.length (l.map (Value.int .i64)) ∧ Below w.heap.size w w')) :
    Calls Tryz.prog 17 #[.string s, .int .i64 p, .int .i64 k] w fun e w' => OneEnds (Fl.oneFin p k ⟨s[p].toNat, v, 0, 0, 0, l⟩ n3) w e w' := by
  have b1 : ((p : Int) == (s.size : Int)) = false := beq_eq_false_iff_ne.2 (by omega)
  have hc : s[p].toNat < 256 := s[p].toNat_lt
  go_enter Tryz.func17, Tryz.ntmps17
  go_wp2_with (go_at_call 21; refine (H.out _).mono ?_; rintro e w' ⟨rfl, rfl⟩)
  refine (H1.out _).mono ?_; rintro e w' ⟨rfl, rfl⟩
  go_wp2_with fail
  refine (H2.out _).mono ?_; rintro e w' ⟨rfl, rfl⟩
  go_wp2_with fail
  refine (H3.out _).mono ?_; rintro e w1 ⟨lv, rfl, hown, hb1⟩
  obtain ⟨hcB, hfB⟩ := bcell hb1
  simp only [World.size_alloc] at hcB hfB hown
  have hz : w.heap.size + 1 < w1.heap.size := by have := hb1.size; simp at this; omega
  have hbw1 : Below w.heap.size w w1 := (((Below.refl _ _).alloc (Nat.le_refl _) _).alloc (by simp) _).trans (hb1.mono (by simp; omega))
  have HOS : Hid ((w1.setCell ⟨w.heap.size + 1, 5, none⟩ lv).ownsRow (w.heap.size + 1 + 1) 3 1 lv l.length (l.map (Value.int .i64))) := ownsRow_setCell_below hown (by simp) _
  obtain ⟨lao, lcap, rfl⟩ := own_shape hown
  have HP : Hid (Calls Tryz.prog 32 #[nodeV ⟨s[p].toNat, v, 0, 0, 0, l⟩ (.slice lao l.length lcap)] (w1.setCell ⟨w.heap.size + 1, 5, none⟩ (.slice lao l.length lcap)) fun e w' => ∃ pv, e = .returned pv ∧ IntsAt w'.heap.size w' pv (prem ⟨s[p].toNat, v, 0, 0, 0, l⟩) ∧ Below (w1.setCell ⟨w.heap.size + 1, 5, none⟩ (.slice lao l.length lcap)).heap.size (w1.setCell ⟨w.heap.size + 1, 5, none⟩ (.slice lao l.length lcap)) w') :=
    premises_any _ _ _ _ (Nat.le_refl _) (IntsAt.of_own HOS.out)
  have HW1 : Hid (Below w.heap.size w (w1.setCell ⟨w.heap.size + 1, 5, none⟩ (.slice lao l.length lcap))) := hbw1.setCell (by simp) _
  have g0 : (w1.setCell ⟨w.heap.size + 1, 5, none⟩ (.slice lao l.length lcap)).cell? ⟨w.heap.size + 1, 5, none⟩ = some (.slice lao l.length lcap) := cell_self (o := .slice none 0 0) (by rw [hcB _ _ (by omega)]; simp)
  clear hown hbw1
  go_wp2_with fail
  refine (HP.out).mono ?_; rintro e w2 ⟨pv, rfl, hpi, hb2⟩
  obtain ⟨hcC, hfC⟩ := bcell hb2
  have hsz2 : (w1.setCell ⟨w.heap.size + 1, 5, none⟩ (Value.slice lao l.length lcap)).heap.size = w1.heap.size := by simp [World.setCell]
  rw [hsz2] at hcC hfC
  have hz2 : w.heap.size + 1 < w2.heap.size := by have := hb2.size; rw [hsz2] at this; omega
  have hbw2 : Below w.heap.size w w2 := HW1.out.trans (hb2.mono (by rw [hsz2]; omega))
  have HO2 : Hid (w2.ownsRow (w.heap.size + 1 + 1) 3 1 (.slice lao l.length lcap) l.length (l.map (Value.int .i64))) := own_below HOS.out hb2
  have c0 : w2.cell? ⟨w.heap.size + 1, 0, none⟩ = some (.int .i64 s[p].toNat) := by rw [hcC _ _ (by omega), cell_off (by decide), hcB _ _ (by omega)]; simp
  have c1 : w2.cell? ⟨w.heap.size + 1, 1, none⟩ = some (.int .i64 v) := by rw [hcC _ _ (by omega), cell_off (by decide), hcB _ _ (by omega)]; simp
  have c2 : w2.cell? ⟨w.heap.size + 1, 2, none⟩ = some (.int .i64 0) := by rw [hcC _ _ (by omega), cell_off (by decide), hcB _ _ (by omega)]; simp
  have c3 : w2.cell? ⟨w.heap.size + 1, 3, none⟩ = some (.int .i64 0) := by rw [hcC _ _ (by omega), cell_off (by decide), hcB _ _ (by omega)]; simp
  have c4 : w2.cell? ⟨w.heap.size + 1, 4, none⟩ = some (.int .i64 0) := by rw [hcC _ _ (by omega), cell_off (by decide), hcB _ _ (by omega)]; simp
  have c5 : w2.cell? ⟨w.heap.size + 1, 5, none⟩ = some (.slice lao l.length lcap) := by rw [hcC _ _ (by omega)]; exact g0
  have hblk : ∀ j, j < 6 → (w1.setCell ⟨w.heap.size + 1, 5, none⟩ (Value.slice lao l.length lcap)).cell? ⟨w.heap.size, j, none⟩ = w1.cell? ⟨w.heap.size, j, none⟩ := fun j _ => by apply World.cell?_setCell_other; intro hh; injection hh with h2; omega
  have d0 : w2.cell? ⟨w.heap.size, 0, none⟩ = some (.int .i64 0) := by rw [hcC _ _ (by omega), hblk _ (by omega), hcB _ _ (by omega)]; simp
  have d1 : w2.cell? ⟨w.heap.size, 1, none⟩ = some (.int .i64 0) := by rw [hcC _ _ (by omega), hblk _ (by omega), hcB _ _ (by omega)]; simp
  have d2 : w2.cell? ⟨w.heap.size, 2, none⟩ = some (.int .i64 0) := by rw [hcC _ _ (by omega), hblk _ (by omega), hcB _ _ (by omega)]; simp
  have d3 : w2.cell? ⟨w.heap.size, 3, none⟩ = some (.int .i64 0) := by rw [hcC _ _ (by omega), hblk _ (by omega), hcB _ _ (by omega)]; simp
  have d4 : w2.cell? ⟨w.heap.size, 4, none⟩ = some (.int .i64 0) := by rw [hcC _ _ (by omega), hblk _ (by omega), hcB _ _ (by omega)]; simp
  have d5 : w2.cell? ⟨w.heap.size, 5, none⟩ = some (.slice none 0 0) := by rw [hcC _ _ (by omega), hblk _ (by omega), hcB _ _ (by omega)]; simp
  have hfr : ∀ j, w2.frozen? ⟨w.heap.size, j, none⟩ = false := fun j => by
    rw [hfC _ _ (by omega), World.frozen?_setCell, hfB _ _ (by omega)]; simp
  obtain ⟨q0, q1, q2, q3, q4, q5⟩ := six_same (w1 := w2) (B := w.heap.size) (.int .i64 s[p].toNat) (.int .i64 v) (.int .i64 0) (.int .i64 0) (.int .i64 0) (.slice lao l.length lcap) d0 d1 d2 d3 d4 d5
  obtain ⟨pao, pcap, rfl, _, hpm, hpc⟩ := hpi
  generalize hps : prem ⟨s[p].toNat, v, 0, 0, 0, l⟩ = ps at *
  have HPS : Hid (prem ⟨s[p].toNat, v, 0, 0, 0, l⟩ = ps) := hps
  have HPC : Hid (ps ≠ [] → ∃ b off, pao = some ⟨b, off, none⟩ ∧ b < w2.heap.size ∧ ∀ i, i < ps.length → w2.cell? ⟨b, off + i, none⟩ = some (.int .i64 (ps.getD i 0))) := hpc
  clear hps hpc hb2 hb1 hcB hfB hcC hfC HP g0 hblk HOS HW1
  unfold maxLen at hpm
  go_wp2
  go_loop [23] (fun i => ∃ j : Nat, j ≤ ps.length ∧ i = .int .i64 j ∧ ∀ t, t < j → ¬ (k : Int) ≤ ps.getD t 0) (fun i => ps.length - (intOf i).toNat)
  case atStart => exact ⟨0, by omega, rfl, fun t ht => by omega⟩
  case round =>
    obtain ⟨j, hj, rfl, hsm⟩ := hrel
    have HSM : Hid (∀ t, t < j → ¬ (k : Int) ≤ ps.getD t 0) := hsm
    clear hsm
    by_cases hjl : j < ps.length
    · obtain ⟨pb, po, rfl, hpb, hpcell⟩ := HPC.out (by intro h; rw [h] at hjl; simp at hjl)
      have hcj := hpcell j hjl
      obtain ⟨x, hx⟩ : ∃ x, x = ps.getD j 0 := ⟨_, rfl⟩
      rw [← hx] at hcj
      have HXJ : Hid (x = ps.getD j 0) := hx
      have hji : (j : Int) < (ps.length : Int) := by omega
      clear hpcell hx
      by_cases hkx : (k : Int) ≤ x
      · have hany : Fl.oneFin p k ⟨s[p].toNat, v, 0, 0, 0, l⟩ n3 = (Fl.nd0, -1, (p : Int)) := by
          unfold Fl.oneFin; rw [HPS.out, if_pos]
          rw [List.any_eq_true]; exact ⟨x, by rw [HXJ.out]; exact getD_mem hjl, by simpa using hkx⟩
        have HAN : Hid (Fl.oneFin p k ⟨s[p].toNat, v, 0, 0, 0, l⟩ n3 = (Fl.nd0, -1, (p : Int))) := hany
        clear hany
        go_wp2
        exact bodyPost_ret (v := .tuple #[.agg #[.int .i64 s[p].toNat, .int .i64 v, .int .i64 0, .int .i64 0, .int .i64 0, .slice lao l.length lcap], .int .i64 (-1), .int .i64 p]) (by simp [results, Tryz.results17, go_sem, q0, q1, q2, q3, q4, q5]) rfl (one_bad HAN.out rfl ⟨⟨_, _, _, _, _, []⟩, _, _, _, rfl⟩ (six_below hbw2))
      · go_wp2
        go_round
        case rel => exact ⟨j + 1, by omega, by go_num, fun t ht => by
          by_cases h : t < j
          · exact HSM.out t h
          · have : t = j := by omega
            subst this; rw [← HXJ.out]; omega⟩
        case measure => simp [intOf]; omega
    · have hany : Fl.oneFin p k ⟨s[p].toNat, v, 0, 0, 0, l⟩ n3 = (⟨s[p].toNat, v, 0, 0, 0, l⟩, n3, 0) := by
        unfold Fl.oneFin; rw [HPS.out, if_neg]
        rw [Bool.not_eq_true, List.any_eq_false]; intro x hx
        obtain ⟨i, hi, rfl⟩ := List.getElem_of_mem hx
        have := HSM.out i (by omega)
        rw [List.getD_eq_getElem?_getD, List.getElem?_eq_getElem hi] at this
        simpa using this
      have HAN : Hid (Fl.oneFin p k ⟨s[p].toNat, v, 0, 0, 0, l⟩ n3 = (⟨s[p].toNat, v, 0, 0, 0, l⟩, n3, 0)) := hany
      clear hany HSM HPC
      go_wp2
      exact bodyPost_ret (v := .tuple #[.agg #[.int .i64 s[p].toNat, .int .i64 v, .int .i64 0, .int .i64 0, .int .i64 0, .slice lao l.length lcap], .int .i64 n3, .int .i64 0]) (by simp [results, Tryz.results17, go_sem, q0, q1, q2, q3, q4, q5]) rfl (one_good HAN.out rfl rfl (IntsAt.of_own (own_six HO2.out (by omega))) (fun b hb => by have := (HO2.out.lt b hb).1; omega) (six_below hbw2))
end Go.Proofs.YtbihjgfbocpobaaGreatDoor

/- The reference's one, of the other kinds. -/
set_option linter.unusedSimpArgs false
set_option linter.unusedVariables false
namespace Go.Proofs.YtbihjgfbocpobaaGreatDoor
open Go.RowKit

theorem own_some {w : World} {base : Nat} {e : TypeId} {v : Value} {n : Nat} {xs : List Value} (h : w.ownsRow base e 1 v n xs) (hn : 0 < n) : ∃ g cap, v = .slice (some ⟨g, 0, none⟩) n cap ∧ base ≤ g ∧ g < w.heap.size ∧ ∀ j u, xs[j]? = some u → w.cell? ⟨g, j, none⟩ = some u := by
  rcases h.2 with ⟨rfl, h0⟩ | ⟨g, cap, cur, rfl, hb, hg, _⟩
  · omega
  · refine ⟨g, cap, rfl, hb, (Array.getElem?_eq_some_iff.1 hg).1, fun j u hu => ?_⟩
    have h1 := h.cells (g := g) rfl j u hu
    have h2 : (⟨g, 0, none⟩ : Addr).add j = ⟨g, j, none⟩ := by unfold Addr.add; split <;> simp_all
    rw [h2] at h1; exact h1
theorem two_cells_new {w : World} {e : TypeId} {x y : Value} : ∀ j u, [x, y][j]? = some u → (w.alloc (.cells #[x, y] e)).cell? ((⟨w.heap.size, 0, none⟩ : Addr).add j) = some u := by
  intro j u hj
  match j, hj with
  | 0, hj => simp at hj; subst hj; simp [Addr.add]
  | 1, hj => simp at hj; subst hj; simp [Addr.add]

set_option maxRecDepth 100000 in
set_option maxHeartbeats 4000000 in
theorem one_fbad (s : ByteArray) (p k : Nat) (F v n b n3 b3 : Int) (w : World) (hs : s.size ≤ 4611686018427387904) (hp : p < s.size) (hn : ¬ n < 0) (hF1 : 0 ≤ F) (hF3 : F ≤ 3) (hn3 : n3 < 0)
    (H : Hid (∀ w, Calls Tryz.prog 21 #[.int .i64 s[p].toNat] w fun e w' => e = .returned (.int .i64 F) ∧ w' = w))
    (H1 : Hid (∀ w, Calls Tryz.prog 15 #[.string s, .int .i64 ((p : Int) + 1)] w fun e w' => e = .returned (.tuple #[.int .i64 v, .int .i64 n, .int .i64 b]) ∧ w' = w))
    (H3 : Hid (∀ w, Calls Tryz.prog 16 #[.string s, .int .i64 n, .int .i64 F] w fun e w' => ∃ lv, e = .returned (.tuple #[lv, .int .i64 n3, .int .i64 b3]) ∧ Below w.heap.size w w')) :
    Calls Tryz.prog 17 #[.string s, .int .i64 p, .int .i64 k] w fun e w' => OneEnds (Fl.nd0, -1, b3) w e w' := by
  have b1 : ((p : Int) == (s.size : Int)) = false := beq_eq_false_iff_ne.2 (by omega)
  have b2 : (F == -2) = false := beq_eq_false_iff_ne.2 (by omega)
  have b4 : (F == -1) = false := beq_eq_false_iff_ne.2 (by omega)
  have hc : s[p].toNat < 256 := s[p].toNat_lt
  go_enter Tryz.func17, Tryz.ntmps17
  go_wp2_with (go_at_call 21; refine (H.out _).mono ?_; rintro e w' ⟨rfl, rfl⟩)
  refine (H1.out _).mono ?_; rintro e w' ⟨rfl, rfl⟩
  go_wp2_with fail
  refine (H3.out _).mono ?_; rintro e w1 ⟨lv, rfl, hb1⟩
  obtain ⟨hcB, hfB⟩ := bcell hb1
  simp only [World.size_alloc] at hcB hfB
  have hz : w.heap.size + 1 < w1.heap.size := by have := hb1.size; simp at this; omega
  obtain ⟨q0, q1, q2, q3, q4, q5⟩ := six_same (w1 := w1) (B := w.heap.size) (o0 := .int .i64 0) (o1 := .int .i64 0) (o2 := .int .i64 0) (o3 := .int .i64 0) (o4 := .int .i64 0) (o5 := .slice none 0 0) (.int .i64 s[p].toNat) (.int .i64 v) (.int .i64 0) (.int .i64 0) (.int .i64 0) (.slice none 0 0) (by rw [hcB _ _ (by omega)]; simp) (by rw [hcB _ _ (by omega)]; simp) (by rw [hcB _ _ (by omega)]; simp) (by rw [hcB _ _ (by omega)]; simp) (by rw [hcB _ _ (by omega)]; simp) (by rw [hcB _ _ (by omega)]; simp)
  go_wp2
  exact bodyPost_ret (v := .tuple #[.agg #[.int .i64 s[p].toNat, .int .i64 v, .int .i64 0, .int .i64 0, .int .i64 0, .slice none 0 0], .int .i64 (-1), .int .i64 b3]) (by simp [results, Tryz.results17, go_sem, q0, q1, q2, q3, q4, q5]) rfl (one_bad rfl rfl ⟨⟨_, _, _, _, _, []⟩, _, _, _, rfl⟩ (six_below ((((Below.refl _ _).alloc (Nat.le_refl _) _).alloc (by simp) _).trans (hb1.mono (by simp; omega)))))

set_option maxRecDepth 100000 in
set_option maxHeartbeats 8000000 in
theorem one_f1 (s : ByteArray) (p k : Nat) (v n b n3 b3 : Int) (x : Int) (w : World) (hs : s.size ≤ 4611686018427387904) (hp : p < s.size) (hn : ¬ n < 0) (hn3 : ¬ n3 < 0)
    (H : Hid (∀ w, Calls Tryz.prog 21 #[.int .i64 s[p].toNat] w fun e w' => e = .returned (.int .i64 1) ∧ w' = w))
    (H1 : Hid (∀ w, Calls Tryz.prog 15 #[.string s, .int .i64 ((p : Int) + 1)] w fun e w' => e = .returned (.tuple #[.int .i64 v, .int .i64 n, .int .i64 b]) ∧ w' = w))
    (H3 : Hid (∀ w, Calls Tryz.prog 16 #[.string s, .int .i64 n, .int .i64 1] w fun e w' => ∃ lv, e = .returned (.tuple #[lv, .int .i64 n3, .int .i64 b3]) ∧ w'.ownsRow w.heap.size 3 1 lv 1 [.int .i64 x] ∧ Below w.heap.size w w')) :
    Calls Tryz.prog 17 #[.string s, .int .i64 p, .int .i64 k] w fun e w' => OneEnds (Fl.oneFin p k ⟨s[p].toNat, v, x, 0, 0, []⟩ n3) w e w' := by
  obtain ⟨i0, hi, hz0, hz1, hz2⟩ := info_parts Tryz.infoInt
  have b1 : ((p : Int) == (s.size : Int)) = false := beq_eq_false_iff_ne.2 (by omega)
  have hc : s[p].toNat < 256 := s[p].toNat_lt
  go_enter Tryz.func17, Tryz.ntmps17
  go_wp2_with (go_at_call 21; refine (H.out _).mono ?_; rintro e w' ⟨rfl, rfl⟩)
  refine (H1.out _).mono ?_; rintro e w' ⟨rfl, rfl⟩
  go_wp2_with fail
  refine (H3.out _).mono ?_; rintro e w1 ⟨lv, rfl, hown, hb1⟩
  simp only [World.size_alloc] at hown
  have hsz1 := hb1.size
  simp only [World.size_alloc] at hsz1
  go_wp2_with (at_builtin; refine wpList_append_own _ rfl _ _ 29 rfl (w.heap.size + 1 + 1) 3 i0 (.int .i64 0) 1 8 Tryz.underlying29 hi hz0 hz1 hz2 rfl (by decide) _ _ _ rfl (hown.alloc _) ⟨_, 0, none⟩ 2 2 [.int .i64 0, .int .i64 0] rfl rfl two_cells_new ?c2 ?c3 ?c4 ?c5 ?_)
  case c2 => intro u hu; simp at hu; subst hu; rfl
  case c3 => unfold maxLen; omega
  case c4 => omega
  case c5 => simp; omega
  intro lv' w3 hown' hgrow _
  have hb3 := (((hb1.mono (Nat.le_refl _)).alloc (by simp; omega) _).grown hgrow (by simp; omega) (fun g hg => by have := (hown.lt g hg).1; simp; omega))
  obtain ⟨g, gcap, rfl, hgb, hgl, hgc⟩ := own_some hown' (by omega)
  have e0 := hgc 0 (.int .i64 x) (by simp)
  have e1 := hgc 1 (.int .i64 0) (by simp)
  have e2 := hgc 2 (.int .i64 0) (by simp)
  have hgne : ∀ (W : World) (o : Nat) (u : Value) (j : Nat), (W.setCell ⟨w.heap.size + 1, o, none⟩ u).cell? ⟨g, j, none⟩ = W.cell? ⟨g, j, none⟩ := fun W o u j => by apply World.cell?_setCell_other; intro hh; injection hh with h2; omega
  have hcB : ∀ b o, b < w.heap.size + 1 + 1 → w3.cell? ⟨b, o, none⟩ = _ := fun b o h => hb3.cell (p := ⟨b, o, none⟩) (by simpa using h)
  have hfB : ∀ b o, b < w.heap.size + 1 + 1 → w3.frozen? ⟨b, o, none⟩ = _ := fun b o h => hb3.frozen (p := ⟨b, o, none⟩) (by simpa using h)
  have hbw3 : Below w.heap.size w w3 := (((Below.refl _ _).alloc (Nat.le_refl _) _).alloc (by simp) _).trans (hb3.mono (by simp; omega))
  clear hown hown' hgrow hgc hb3 hb1
  have f0 : (((w3.setCell ⟨w.heap.size + 1, 2, none⟩ (.int .i64 x)).setCell ⟨w.heap.size + 1, 3, none⟩ (.int .i64 0)).setCell ⟨w.heap.size + 1, 3, none⟩ (.int .i64 0)).cell? ⟨w.heap.size + 1, 0, none⟩ = some (.int .i64 s[p].toNat) := ((cell_off (by decide)).trans ((cell_off (by decide)).trans ((cell_off (by decide)).trans (by rw [hcB _ _ (by omega)]; simp))))
  have f1 : (((w3.setCell ⟨w.heap.size + 1, 2, none⟩ (.int .i64 x)).setCell ⟨w.heap.size + 1, 3, none⟩ (.int .i64 0)).setCell ⟨w.heap.size + 1, 3, none⟩ (.int .i64 0)).cell? ⟨w.heap.size + 1, 1, none⟩ = some (.int .i64 v) := ((cell_off (by decide)).trans ((cell_off (by decide)).trans ((cell_off (by decide)).trans (by rw [hcB _ _ (by omega)]; simp))))
  have f2 : (((w3.setCell ⟨w.heap.size + 1, 2, none⟩ (.int .i64 x)).setCell ⟨w.heap.size + 1, 3, none⟩ (.int .i64 0)).setCell ⟨w.heap.size + 1, 3, none⟩ (.int .i64 0)).cell? ⟨w.heap.size + 1, 2, none⟩ = some (.int .i64 x) := ((cell_off (by decide)).trans ((cell_off (by decide)).trans (cell_self (o := .int .i64 0) (by rw [hcB _ _ (by omega)]; simp))))
  have f3 : (((w3.setCell ⟨w.heap.size + 1, 2, none⟩ (.int .i64 x)).setCell ⟨w.heap.size + 1, 3, none⟩ (.int .i64 0)).setCell ⟨w.heap.size + 1, 3, none⟩ (.int .i64 0)).cell? ⟨w.heap.size + 1, 3, none⟩ = some (.int .i64 0) := (cell_self (o := .int .i64 0) (cell_self (o := .int .i64 0) ((cell_off (by decide)).trans (by rw [hcB _ _ (by omega)]; simp))))
  have f4 : (((w3.setCell ⟨w.heap.size + 1, 2, none⟩ (.int .i64 x)).setCell ⟨w.heap.size + 1, 3, none⟩ (.int .i64 0)).setCell ⟨w.heap.size + 1, 3, none⟩ (.int .i64 0)).cell? ⟨w.heap.size + 1, 4, none⟩ = some (.int .i64 0) := ((cell_off (by decide)).trans ((cell_off (by decide)).trans ((cell_off (by decide)).trans (by rw [hcB _ _ (by omega)]; simp))))
  have f5 : (((w3.setCell ⟨w.heap.size + 1, 2, none⟩ (.int .i64 x)).setCell ⟨w.heap.size + 1, 3, none⟩ (.int .i64 0)).setCell ⟨w.heap.size + 1, 3, none⟩ (.int .i64 0)).cell? ⟨w.heap.size + 1, 5, none⟩ = some (.slice none 0 0) := ((cell_off (by decide)).trans ((cell_off (by decide)).trans ((cell_off (by decide)).trans (by rw [hcB _ _ (by omega)]; simp))))
  have HP : Hid (Calls Tryz.prog 32 #[nodeV ⟨s[p].toNat, v, x, 0, 0, []⟩ (.slice none 0 0)] (((w3.setCell ⟨w.heap.size + 1, 2, none⟩ (.int .i64 x)).setCell ⟨w.heap.size + 1, 3, none⟩ (.int .i64 0)).setCell ⟨w.heap.size + 1, 3, none⟩ (.int .i64 0)) fun e w' => ∃ pv, e = .returned pv ∧ IntsAt w'.heap.size w' pv (prem ⟨s[p].toNat, v, x, 0, 0, []⟩) ∧ Below (((w3.setCell ⟨w.heap.size + 1, 2, none⟩ (.int .i64 x)).setCell ⟨w.heap.size + 1, 3, none⟩ (.int .i64 0)).setCell ⟨w.heap.size + 1, 3, none⟩ (.int .i64 0)).heap.size (((w3.setCell ⟨w.heap.size + 1, 2, none⟩ (.int .i64 x)).setCell ⟨w.heap.size + 1, 3, none⟩ (.int .i64 0)).setCell ⟨w.heap.size + 1, 3, none⟩ (.int .i64 0)) w') :=
    premises_any _ _ _ _ (Nat.le_refl _) (IntsAt.nil _ _)
  have HW1 : Hid (Below w.heap.size w (((w3.setCell ⟨w.heap.size + 1, 2, none⟩ (.int .i64 x)).setCell ⟨w.heap.size + 1, 3, none⟩ (.int .i64 0)).setCell ⟨w.heap.size + 1, 3, none⟩ (.int .i64 0))) := (((hbw3.setCell (by simp) _).setCell (by simp) _).setCell (by simp) _)
  have hsz3 : w.heap.size + 1 < w3.heap.size := by omega
  have hblk : ∀ j, (((w3.setCell ⟨w.heap.size + 1, 2, none⟩ (.int .i64 x)).setCell ⟨w.heap.size + 1, 3, none⟩ (.int .i64 0)).setCell ⟨w.heap.size + 1, 3, none⟩ (.int .i64 0)).cell? ⟨w.heap.size, j, none⟩ = w3.cell? ⟨w.heap.size, j, none⟩ := fun j => by
    repeat (rw [World.cell?_setCell_other _ _ _ _ (by intro hh; injection hh with h2; omega)])
  go_wp2_with fail
  refine (HP.out).mono ?_; rintro e w2 ⟨pv, rfl, hpi, hb2⟩
  obtain ⟨hcC, hfC⟩ := bcell hb2
  have hsz2 : (((w3.setCell ⟨w.heap.size + 1, 2, none⟩ (.int .i64 x)).setCell ⟨w.heap.size + 1, 3, none⟩ (.int .i64 0)).setCell ⟨w.heap.size + 1, 3, none⟩ (.int .i64 0)).heap.size = w3.heap.size := by simp [World.setCell]
  rw [hsz2] at hcC hfC
  have hz2 : w.heap.size + 1 < w2.heap.size := by have := hb2.size; rw [hsz2] at this; omega
  have hbw2 : Below w.heap.size w w2 := HW1.out.trans (hb2.mono (by rw [hsz2]; omega))
  have c0 : w2.cell? ⟨w.heap.size + 1, 0, none⟩ = some (.int .i64 s[p].toNat) := by rw [hcC _ _ (by omega)]; exact f0
  have c1 : w2.cell? ⟨w.heap.size + 1, 1, none⟩ = some (.int .i64 v) := by rw [hcC _ _ (by omega)]; exact f1
  have c2 : w2.cell? ⟨w.heap.size + 1, 2, none⟩ = some (.int .i64 x) := by rw [hcC _ _ (by omega)]; exact f2
  have c3 : w2.cell? ⟨w.heap.size + 1, 3, none⟩ = some (.int .i64 0) := by rw [hcC _ _ (by omega)]; exact f3
  have c4 : w2.cell? ⟨w.heap.size + 1, 4, none⟩ = some (.int .i64 0) := by rw [hcC _ _ (by omega)]; exact f4
  have c5 : w2.cell? ⟨w.heap.size + 1, 5, none⟩ = some (.slice none 0 0) := by rw [hcC _ _ (by omega)]; exact f5
  have d0 : w2.cell? ⟨w.heap.size, 0, none⟩ = some (.int .i64 0) := by rw [hcC _ _ (by omega), hblk, hcB _ _ (by omega)]; simp
  have d1 : w2.cell? ⟨w.heap.size, 1, none⟩ = some (.int .i64 0) := by rw [hcC _ _ (by omega), hblk, hcB _ _ (by omega)]; simp
  have d2 : w2.cell? ⟨w.heap.size, 2, none⟩ = some (.int .i64 0) := by rw [hcC _ _ (by omega), hblk, hcB _ _ (by omega)]; simp
  have d3 : w2.cell? ⟨w.heap.size, 3, none⟩ = some (.int .i64 0) := by rw [hcC _ _ (by omega), hblk, hcB _ _ (by omega)]; simp
  have d4 : w2.cell? ⟨w.heap.size, 4, none⟩ = some (.int .i64 0) := by rw [hcC _ _ (by omega), hblk, hcB _ _ (by omega)]; simp
  have d5 : w2.cell? ⟨w.heap.size, 5, none⟩ = some (.slice none 0 0) := by rw [hcC _ _ (by omega), hblk, hcB _ _ (by omega)]; simp
  have hfr : ∀ j, w2.frozen? ⟨w.heap.size, j, none⟩ = false := fun j => by
    rw [hfC _ _ (by omega)]; repeat (rw [World.frozen?_setCell])
    rw [hfB _ _ (by omega)]; simp
  obtain ⟨q0, q1, q2, q3, q4, q5⟩ := six_same (w1 := w2) (B := w.heap.size) (.int .i64 s[p].toNat) (.int .i64 v) (.int .i64 x) (.int .i64 0) (.int .i64 0) (.slice none 0 0) d0 d1 d2 d3 d4 d5
  obtain ⟨pao, pcap, rfl, _, hpm, hpc⟩ := hpi
  generalize hps : prem ⟨s[p].toNat, v, x, 0, 0, []⟩ = ps at *
  have HPS : Hid (prem ⟨s[p].toNat, v, x, 0, 0, []⟩ = ps) := hps
  have HPC : Hid (ps ≠ [] → ∃ b off, pao = some ⟨b, off, none⟩ ∧ b < w2.heap.size ∧ ∀ i, i < ps.length → w2.cell? ⟨b, off + i, none⟩ = some (.int .i64 (ps.getD i 0))) := hpc
  clear hps hpc hb2 hcB hfB hcC hfC HP hblk HW1 f0 f1 f2 f3 f4 f5 e0 e1 e2 hgne
  unfold maxLen at hpm
  go_wp2
  go_loop [23] (fun i => ∃ j : Nat, j ≤ ps.length ∧ i = .int .i64 j ∧ ∀ t, t < j → ¬ (k : Int) ≤ ps.getD t 0) (fun i => ps.length - (intOf i).toNat)
  case atStart => exact ⟨0, by omega, rfl, fun t ht => by omega⟩
  case round =>
    obtain ⟨j, hj, rfl, hsm⟩ := hrel
    have HSM : Hid (∀ t, t < j → ¬ (k : Int) ≤ ps.getD t 0) := hsm
    clear hsm
    by_cases hjl : j < ps.length
    · obtain ⟨pb, po, rfl, hpb, hpcell⟩ := HPC.out (by intro h; rw [h] at hjl; simp at hjl)
      have hcj := hpcell j hjl
      obtain ⟨xv, hx⟩ : ∃ x, x = ps.getD j 0 := ⟨_, rfl⟩
      rw [← hx] at hcj
      have HXJ : Hid (xv = ps.getD j 0) := hx
      have hji : (j : Int) < (ps.length : Int) := by omega
      clear hpcell hx
      by_cases hkx : (k : Int) ≤ xv
      · have hany : Fl.oneFin p k ⟨s[p].toNat, v, x, 0, 0, []⟩ n3 = (Fl.nd0, -1, (p : Int)) := by
          unfold Fl.oneFin; rw [HPS.out, if_pos]
          rw [List.any_eq_true]; exact ⟨xv, by rw [HXJ.out]; exact getD_mem hjl, by simpa using hkx⟩
        have HAN : Hid (Fl.oneFin p k ⟨s[p].toNat, v, x, 0, 0, []⟩ n3 = (Fl.nd0, -1, (p : Int))) := hany
        clear hany
        go_wp2
        exact bodyPost_ret (v := .tuple #[.agg #[.int .i64 s[p].toNat, .int .i64 v, .int .i64 x, .int .i64 0, .int .i64 0, .slice none 0 0], .int .i64 (-1), .int .i64 p]) (by simp [results, Tryz.results17, go_sem, q0, q1, q2, q3, q4, q5]) rfl (one_bad HAN.out rfl ⟨⟨_, _, _, _, _, []⟩, _, _, _, rfl⟩ (six_below hbw2))
      · go_wp2
        go_round
        case rel => exact ⟨j + 1, by omega, by go_num, fun t ht => by
          by_cases h : t < j
          · exact HSM.out t h
          · have : t = j := by omega
            subst this; rw [← HXJ.out]; omega⟩
        case measure => simp [intOf]; omega
    · have hany : Fl.oneFin p k ⟨s[p].toNat, v, x, 0, 0, []⟩ n3 = (⟨s[p].toNat, v, x, 0, 0, []⟩, n3, 0) := by
        unfold Fl.oneFin; rw [HPS.out, if_neg]
        rw [Bool.not_eq_true, List.any_eq_false]; intro x hx
        obtain ⟨i, hi, rfl⟩ := List.getElem_of_mem hx
        have := HSM.out i (by omega)
        rw [List.getD_eq_getElem?_getD, List.getElem?_eq_getElem hi] at this
        simpa using this
      have HAN : Hid (Fl.oneFin p k ⟨s[p].toNat, v, x, 0, 0, []⟩ n3 = (⟨s[p].toNat, v, x, 0, 0, []⟩, n3, 0)) := hany
      clear hany HSM HPC
      go_wp2
      exact bodyPost_ret (v := .tuple #[.agg #[.int .i64 s[p].toNat, .int .i64 v, .int .i64 x, .int .i64 0, .int .i64 0, .slice none 0 0], .int .i64 n3, .int .i64 0]) (by simp [results, Tryz.results17, go_sem, q0, q1, q2, q3, q4, q5]) rfl (one_good HAN.out rfl rfl (IntsAt.nil _ _) (fun b hb => by simp [Value.ownBlock] at hb) (six_below hbw2))
set_option maxRecDepth 100000 in
set_option maxHeartbeats 8000000 in
theorem one_f2 (s : ByteArray) (p k : Nat) (v n b n3 b3 : Int) (x y : Int) (w : World) (hs : s.size ≤ 4611686018427387904) (hp : p < s.size) (hn : ¬ n < 0) (hn3 : ¬ n3 < 0)
    (H : Hid (∀ w, Calls Tryz.prog 21 #[.int .i64 s[p].toNat] w fun e w' => e = .returned (.int .i64 2) ∧ w' = w))
    (H1 : Hid (∀ w, Calls Tryz.prog 15 #[.string s, .int .i64 ((p : Int) + 1)] w fun e w' => e = .returned (.tuple #[.int .i64 v, .int .i64 n, .int .i64 b]) ∧ w' = w))
    (H3 : Hid (∀ w, Calls Tryz.prog 16 #[.string s, .int .i64 n, .int .i64 2] w fun e w' => ∃ lv, e = .returned (.tuple #[lv, .int .i64 n3, .int .i64 b3]) ∧ w'.ownsRow w.heap.size 3 1 lv 2 [.int .i64 x, .int .i64 y] ∧ Below w.heap.size w w')) :
    Calls Tryz.prog 17 #[.string s, .int .i64 p, .int .i64 k] w fun e w' => OneEnds (Fl.oneFin p k ⟨s[p].toNat, v, x, y, 0, []⟩ n3) w e w' := by
  obtain ⟨i0, hi, hz0, hz1, hz2⟩ := info_parts Tryz.infoInt
  have b1 : ((p : Int) == (s.size : Int)) = false := beq_eq_false_iff_ne.2 (by omega)
  have hc : s[p].toNat < 256 := s[p].toNat_lt
  go_enter Tryz.func17, Tryz.ntmps17
  go_wp2_with (go_at_call 21; refine (H.out _).mono ?_; rintro e w' ⟨rfl, rfl⟩)
  refine (H1.out _).mono ?_; rintro e w' ⟨rfl, rfl⟩
  go_wp2_with fail
  refine (H3.out _).mono ?_; rintro e w1 ⟨lv, rfl, hown, hb1⟩
  simp only [World.size_alloc] at hown
  have hsz1 := hb1.size
  simp only [World.size_alloc] at hsz1
  go_wp2_with (at_builtin; refine wpList_append_own _ rfl _ _ 29 rfl (w.heap.size + 1 + 1) 3 i0 (.int .i64 0) 1 8 Tryz.underlying29 hi hz0 hz1 hz2 rfl (by decide) _ _ _ rfl (hown.alloc _) ⟨_, 0, none⟩ 2 2 [.int .i64 0, .int .i64 0] rfl rfl two_cells_new ?c2 ?c3 ?c4 ?c5 ?_)
  case c2 => intro u hu; simp at hu; subst hu; rfl
  case c3 => unfold maxLen; omega
  case c4 => omega
  case c5 => simp; omega
  intro lv' w3 hown' hgrow _
  have hb3 := (((hb1.mono (Nat.le_refl _)).alloc (by simp; omega) _).grown hgrow (by simp; omega) (fun g hg => by have := (hown.lt g hg).1; simp; omega))
  obtain ⟨g, gcap, rfl, hgb, hgl, hgc⟩ := own_some hown' (by omega)
  have e0 := hgc 0 (.int .i64 x) (by simp)
  have e1 := hgc 1 (.int .i64 y) (by simp)
  have e2 := hgc 2 (.int .i64 0) (by simp)
  have hgne : ∀ (W : World) (o : Nat) (u : Value) (j : Nat), (W.setCell ⟨w.heap.size + 1, o, none⟩ u).cell? ⟨g, j, none⟩ = W.cell? ⟨g, j, none⟩ := fun W o u j => by apply World.cell?_setCell_other; intro hh; injection hh with h2; omega
  have hcB : ∀ b o, b < w.heap.size + 1 + 1 → w3.cell? ⟨b, o, none⟩ = _ := fun b o h => hb3.cell (p := ⟨b, o, none⟩) (by simpa using h)
  have hfB : ∀ b o, b < w.heap.size + 1 + 1 → w3.frozen? ⟨b, o, none⟩ = _ := fun b o h => hb3.frozen (p := ⟨b, o, none⟩) (by simpa using h)
  have hbw3 : Below w.heap.size w w3 := (((Below.refl _ _).alloc (Nat.le_refl _) _).alloc (by simp) _).trans (hb3.mono (by simp; omega))
  clear hown hown' hgrow hgc hb3 hb1
  have f0 : ((((w3.setCell ⟨w.heap.size + 1, 2, none⟩ (.int .i64 x)).setCell ⟨w.heap.size + 1, 3, none⟩ (.int .i64 y)).setCell ⟨w.heap.size + 1, 4, none⟩ (.int .i64 0)).setCell ⟨w.heap.size + 1, 4, none⟩ (.int .i64 0)).cell? ⟨w.heap.size + 1, 0, none⟩ = some (.int .i64 s[p].toNat) := ((cell_off (by decide)).trans ((cell_off (by decide)).trans ((cell_off (by decide)).trans ((cell_off (by decide)).trans (by rw [hcB _ _ (by omega)]; simp)))))
  have f1 : ((((w3.setCell ⟨w.heap.size + 1, 2, none⟩ (.int .i64 x)).setCell ⟨w.heap.size + 1, 3, none⟩ (.int .i64 y)).setCell ⟨w.heap.size + 1, 4, none⟩ (.int .i64 0)).setCell ⟨w.heap.size + 1, 4, none⟩ (.int .i64 0)).cell? ⟨w.heap.size + 1, 1, none⟩ = some (.int .i64 v) := ((cell_off (by decide)).trans ((cell_off (by decide)).trans ((cell_off (by decide)).trans ((cell_off (by decide)).trans (by rw [hcB _ _ (by omega)]; simp)))))
  have f2 : ((((w3.setCell ⟨w.heap.size + 1, 2, none⟩ (.int .i64 x)).setCell ⟨w.heap.size + 1, 3, none⟩ (.int .i64 y)).setCell ⟨w.heap.size + 1, 4, none⟩ (.int .i64 0)).setCell ⟨w.heap.size + 1, 4, none⟩ (.int .i64 0)).cell? ⟨w.heap.size + 1, 2, none⟩ = some (.int .i64 x) := ((cell_off (by decide)).trans ((cell_off (by decide)).trans ((cell_off (by decide)).trans (cell_self (o := .int .i64 0) (by rw [hcB _ _ (by omega)]; simp)))))
  have f3 : ((((w3.setCell ⟨w.heap.size + 1, 2, none⟩ (.int .i64 x)).setCell ⟨w.heap.size + 1, 3, none⟩ (.int .i64 y)).setCell ⟨w.heap.size + 1, 4, none⟩ (.int .i64 0)).setCell ⟨w.heap.size + 1, 4, none⟩ (.int .i64 0)).cell? ⟨w.heap.size + 1, 3, none⟩ = some (.int .i64 y) := ((cell_off (by decide)).trans ((cell_off (by decide)).trans (cell_self (o := .int .i64 0) ((cell_off (by decide)).trans (by rw [hcB _ _ (by omega)]; simp)))))
  have f4 : ((((w3.setCell ⟨w.heap.size + 1, 2, none⟩ (.int .i64 x)).setCell ⟨w.heap.size + 1, 3, none⟩ (.int .i64 y)).setCell ⟨w.heap.size + 1, 4, none⟩ (.int .i64 0)).setCell ⟨w.heap.size + 1, 4, none⟩ (.int .i64 0)).cell? ⟨w.heap.size + 1, 4, none⟩ = some (.int .i64 0) := (cell_self (o := .int .i64 0) (cell_self (o := .int .i64 0) ((cell_off (by decide)).trans ((cell_off (by decide)).trans (by rw [hcB _ _ (by omega)]; simp)))))
  have f5 : ((((w3.setCell ⟨w.heap.size + 1, 2, none⟩ (.int .i64 x)).setCell ⟨w.heap.size + 1, 3, none⟩ (.int .i64 y)).setCell ⟨w.heap.size + 1, 4, none⟩ (.int .i64 0)).setCell ⟨w.heap.size + 1, 4, none⟩ (.int .i64 0)).cell? ⟨w.heap.size + 1, 5, none⟩ = some (.slice none 0 0) := ((cell_off (by decide)).trans ((cell_off (by decide)).trans ((cell_off (by decide)).trans ((cell_off (by decide)).trans (by rw [hcB _ _ (by omega)]; simp)))))
  have HP : Hid (Calls Tryz.prog 32 #[nodeV ⟨s[p].toNat, v, x, y, 0, []⟩ (.slice none 0 0)] ((((w3.setCell ⟨w.heap.size + 1, 2, none⟩ (.int .i64 x)).setCell ⟨w.heap.size + 1, 3, none⟩ (.int .i64 y)).setCell ⟨w.heap.size + 1, 4, none⟩ (.int .i64 0)).setCell ⟨w.heap.size + 1, 4, none⟩ (.int .i64 0)) fun e w' => ∃ pv, e = .returned pv ∧ IntsAt w'.heap.size w' pv (prem ⟨s[p].toNat, v, x, y, 0, []⟩) ∧ Below ((((w3.setCell ⟨w.heap.size + 1, 2, none⟩ (.int .i64 x)).setCell ⟨w.heap.size + 1, 3, none⟩ (.int .i64 y)).setCell ⟨w.heap.size + 1, 4, none⟩ (.int .i64 0)).setCell ⟨w.heap.size + 1, 4, none⟩ (.int .i64 0)).heap.size ((((w3.setCell ⟨w.heap.size + 1, 2, none⟩ (.int .i64 x)).setCell ⟨w.heap.size + 1, 3, none⟩ (.int .i64 y)).setCell ⟨w.heap.size + 1, 4, none⟩ (.int .i64 0)).setCell ⟨w.heap.size + 1, 4, none⟩ (.int .i64 0)) w') :=
    premises_any _ _ _ _ (Nat.le_refl _) (IntsAt.nil _ _)
  have HW1 : Hid (Below w.heap.size w ((((w3.setCell ⟨w.heap.size + 1, 2, none⟩ (.int .i64 x)).setCell ⟨w.heap.size + 1, 3, none⟩ (.int .i64 y)).setCell ⟨w.heap.size + 1, 4, none⟩ (.int .i64 0)).setCell ⟨w.heap.size + 1, 4, none⟩ (.int .i64 0))) := ((((hbw3.setCell (by simp) _).setCell (by simp) _).setCell (by simp) _).setCell (by simp) _)
  have hsz3 : w.heap.size + 1 < w3.heap.size := by omega
  have hblk : ∀ j, ((((w3.setCell ⟨w.heap.size + 1, 2, none⟩ (.int .i64 x)).setCell ⟨w.heap.size + 1, 3, none⟩ (.int .i64 y)).setCell ⟨w.heap.size + 1, 4, none⟩ (.int .i64 0)).setCell ⟨w.heap.size + 1, 4, none⟩ (.int .i64 0)).cell? ⟨w.heap.size, j, none⟩ = w3.cell? ⟨w.heap.size, j, none⟩ := fun j => by
    repeat (rw [World.cell?_setCell_other _ _ _ _ (by intro hh; injection hh with h2; omega)])
  go_wp2_with fail
  refine (HP.out).mono ?_; rintro e w2 ⟨pv, rfl, hpi, hb2⟩
  obtain ⟨hcC, hfC⟩ := bcell hb2
  have hsz2 : ((((w3.setCell ⟨w.heap.size + 1, 2, none⟩ (.int .i64 x)).setCell ⟨w.heap.size + 1, 3, none⟩ (.int .i64 y)).setCell ⟨w.heap.size + 1, 4, none⟩ (.int .i64 0)).setCell ⟨w.heap.size + 1, 4, none⟩ (.int .i64 0)).heap.size = w3.heap.size := by simp [World.setCell]
  rw [hsz2] at hcC hfC
  have hz2 : w.heap.size + 1 < w2.heap.size := by have := hb2.size; rw [hsz2] at this; omega
  have hbw2 : Below w.heap.size w w2 := HW1.out.trans (hb2.mono (by rw [hsz2]; omega))
  have c0 : w2.cell? ⟨w.heap.size + 1, 0, none⟩ = some (.int .i64 s[p].toNat) := by rw [hcC _ _ (by omega)]; exact f0
  have c1 : w2.cell? ⟨w.heap.size + 1, 1, none⟩ = some (.int .i64 v) := by rw [hcC _ _ (by omega)]; exact f1
  have c2 : w2.cell? ⟨w.heap.size + 1, 2, none⟩ = some (.int .i64 x) := by rw [hcC _ _ (by omega)]; exact f2
  have c3 : w2.cell? ⟨w.heap.size + 1, 3, none⟩ = some (.int .i64 y) := by rw [hcC _ _ (by omega)]; exact f3
  have c4 : w2.cell? ⟨w.heap.size + 1, 4, none⟩ = some (.int .i64 0) := by rw [hcC _ _ (by omega)]; exact f4
  have c5 : w2.cell? ⟨w.heap.size + 1, 5, none⟩ = some (.slice none 0 0) := by rw [hcC _ _ (by omega)]; exact f5
  have d0 : w2.cell? ⟨w.heap.size, 0, none⟩ = some (.int .i64 0) := by rw [hcC _ _ (by omega), hblk, hcB _ _ (by omega)]; simp
  have d1 : w2.cell? ⟨w.heap.size, 1, none⟩ = some (.int .i64 0) := by rw [hcC _ _ (by omega), hblk, hcB _ _ (by omega)]; simp
  have d2 : w2.cell? ⟨w.heap.size, 2, none⟩ = some (.int .i64 0) := by rw [hcC _ _ (by omega), hblk, hcB _ _ (by omega)]; simp
  have d3 : w2.cell? ⟨w.heap.size, 3, none⟩ = some (.int .i64 0) := by rw [hcC _ _ (by omega), hblk, hcB _ _ (by omega)]; simp
  have d4 : w2.cell? ⟨w.heap.size, 4, none⟩ = some (.int .i64 0) := by rw [hcC _ _ (by omega), hblk, hcB _ _ (by omega)]; simp
  have d5 : w2.cell? ⟨w.heap.size, 5, none⟩ = some (.slice none 0 0) := by rw [hcC _ _ (by omega), hblk, hcB _ _ (by omega)]; simp
  have hfr : ∀ j, w2.frozen? ⟨w.heap.size, j, none⟩ = false := fun j => by
    rw [hfC _ _ (by omega)]; repeat (rw [World.frozen?_setCell])
    rw [hfB _ _ (by omega)]; simp
  obtain ⟨q0, q1, q2, q3, q4, q5⟩ := six_same (w1 := w2) (B := w.heap.size) (.int .i64 s[p].toNat) (.int .i64 v) (.int .i64 x) (.int .i64 y) (.int .i64 0) (.slice none 0 0) d0 d1 d2 d3 d4 d5
  obtain ⟨pao, pcap, rfl, _, hpm, hpc⟩ := hpi
  generalize hps : prem ⟨s[p].toNat, v, x, y, 0, []⟩ = ps at *
  have HPS : Hid (prem ⟨s[p].toNat, v, x, y, 0, []⟩ = ps) := hps
  have HPC : Hid (ps ≠ [] → ∃ b off, pao = some ⟨b, off, none⟩ ∧ b < w2.heap.size ∧ ∀ i, i < ps.length → w2.cell? ⟨b, off + i, none⟩ = some (.int .i64 (ps.getD i 0))) := hpc
  clear hps hpc hb2 hcB hfB hcC hfC HP hblk HW1 f0 f1 f2 f3 f4 f5 e0 e1 e2 hgne
  unfold maxLen at hpm
  go_wp2
  go_loop [23] (fun i => ∃ j : Nat, j ≤ ps.length ∧ i = .int .i64 j ∧ ∀ t, t < j → ¬ (k : Int) ≤ ps.getD t 0) (fun i => ps.length - (intOf i).toNat)
  case atStart => exact ⟨0, by omega, rfl, fun t ht => by omega⟩
  case round =>
    obtain ⟨j, hj, rfl, hsm⟩ := hrel
    have HSM : Hid (∀ t, t < j → ¬ (k : Int) ≤ ps.getD t 0) := hsm
    clear hsm
    by_cases hjl : j < ps.length
    · obtain ⟨pb, po, rfl, hpb, hpcell⟩ := HPC.out (by intro h; rw [h] at hjl; simp at hjl)
      have hcj := hpcell j hjl
      obtain ⟨xv, hx⟩ : ∃ x, x = ps.getD j 0 := ⟨_, rfl⟩
      rw [← hx] at hcj
      have HXJ : Hid (xv = ps.getD j 0) := hx
      have hji : (j : Int) < (ps.length : Int) := by omega
      clear hpcell hx
      by_cases hkx : (k : Int) ≤ xv
      · have hany : Fl.oneFin p k ⟨s[p].toNat, v, x, y, 0, []⟩ n3 = (Fl.nd0, -1, (p : Int)) := by
          unfold Fl.oneFin; rw [HPS.out, if_pos]
          rw [List.any_eq_true]; exact ⟨xv, by rw [HXJ.out]; exact getD_mem hjl, by simpa using hkx⟩
        have HAN : Hid (Fl.oneFin p k ⟨s[p].toNat, v, x, y, 0, []⟩ n3 = (Fl.nd0, -1, (p : Int))) := hany
        clear hany
        go_wp2
        exact bodyPost_ret (v := .tuple #[.agg #[.int .i64 s[p].toNat, .int .i64 v, .int .i64 x, .int .i64 y, .int .i64 0, .slice none 0 0], .int .i64 (-1), .int .i64 p]) (by simp [results, Tryz.results17, go_sem, q0, q1, q2, q3, q4, q5]) rfl (one_bad HAN.out rfl ⟨⟨_, _, _, _, _, []⟩, _, _, _, rfl⟩ (six_below hbw2))
      · go_wp2
        go_round
        case rel => exact ⟨j + 1, by omega, by go_num, fun t ht => by
          by_cases h : t < j
          · exact HSM.out t h
          · have : t = j := by omega
            subst this; rw [← HXJ.out]; omega⟩
        case measure => simp [intOf]; omega
    · have hany : Fl.oneFin p k ⟨s[p].toNat, v, x, y, 0, []⟩ n3 = (⟨s[p].toNat, v, x, y, 0, []⟩, n3, 0) := by
        unfold Fl.oneFin; rw [HPS.out, if_neg]
        rw [Bool.not_eq_true, List.any_eq_false]; intro x hx
        obtain ⟨i, hi, rfl⟩ := List.getElem_of_mem hx
        have := HSM.out i (by omega)
        rw [List.getD_eq_getElem?_getD, List.getElem?_eq_getElem hi] at this
        simpa using this
      have HAN : Hid (Fl.oneFin p k ⟨s[p].toNat, v, x, y, 0, []⟩ n3 = (⟨s[p].toNat, v, x, y, 0, []⟩, n3, 0)) := hany
      clear hany HSM HPC
      go_wp2
      exact bodyPost_ret (v := .tuple #[.agg #[.int .i64 s[p].toNat, .int .i64 v, .int .i64 x, .int .i64 y, .int .i64 0, .slice none 0 0], .int .i64 n3, .int .i64 0]) (by simp [results, Tryz.results17, go_sem, q0, q1, q2, q3, q4, q5]) rfl (one_good HAN.out rfl rfl (IntsAt.nil _ _) (fun b hb => by simp [Value.ownBlock] at hb) (six_below hbw2))
set_option maxRecDepth 100000 in
set_option maxHeartbeats 8000000 in
theorem one_f3 (s : ByteArray) (p k : Nat) (v n b n3 b3 : Int) (x y z : Int) (w : World) (hs : s.size ≤ 4611686018427387904) (hp : p < s.size) (hn : ¬ n < 0) (hn3 : ¬ n3 < 0)
    (H : Hid (∀ w, Calls Tryz.prog 21 #[.int .i64 s[p].toNat] w fun e w' => e = .returned (.int .i64 3) ∧ w' = w))
    (H1 : Hid (∀ w, Calls Tryz.prog 15 #[.string s, .int .i64 ((p : Int) + 1)] w fun e w' => e = .returned (.tuple #[.int .i64 v, .int .i64 n, .int .i64 b]) ∧ w' = w))
    (H3 : Hid (∀ w, Calls Tryz.prog 16 #[.string s, .int .i64 n, .int .i64 3] w fun e w' => ∃ lv, e = .returned (.tuple #[lv, .int .i64 n3, .int .i64 b3]) ∧ w'.ownsRow w.heap.size 3 1 lv 3 [.int .i64 x, .int .i64 y, .int .i64 z] ∧ Below w.heap.size w w')) :
    Calls Tryz.prog 17 #[.string s, .int .i64 p, .int .i64 k] w fun e w' => OneEnds (Fl.oneFin p k ⟨s[p].toNat, v, x, y, z, []⟩ n3) w e w' := by
  obtain ⟨i0, hi, hz0, hz1, hz2⟩ := info_parts Tryz.infoInt
  have b1 : ((p : Int) == (s.size : Int)) = false := beq_eq_false_iff_ne.2 (by omega)
  have hc : s[p].toNat < 256 := s[p].toNat_lt
  go_enter Tryz.func17, Tryz.ntmps17
  go_wp2_with (go_at_call 21; refine (H.out _).mono ?_; rintro e w' ⟨rfl, rfl⟩)
  refine (H1.out _).mono ?_; rintro e w' ⟨rfl, rfl⟩
  go_wp2_with fail
  refine (H3.out _).mono ?_; rintro e w1 ⟨lv, rfl, hown, hb1⟩
  simp only [World.size_alloc] at hown
  have hsz1 := hb1.size
  simp only [World.size_alloc] at hsz1
  go_wp2_with (at_builtin; refine wpList_append_own _ rfl _ _ 29 rfl (w.heap.size + 1 + 1) 3 i0 (.int .i64 0) 1 8 Tryz.underlying29 hi hz0 hz1 hz2 rfl (by decide) _ _ _ rfl (hown.alloc _) ⟨_, 0, none⟩ 2 2 [.int .i64 0, .int .i64 0] rfl rfl two_cells_new ?c2 ?c3 ?c4 ?c5 ?_)
  case c2 => intro u hu; simp at hu; subst hu; rfl
  case c3 => unfold maxLen; omega
  case c4 => omega
  case c5 => simp; omega
  intro lv' w3 hown' hgrow _
  have hb3 := (((hb1.mono (Nat.le_refl _)).alloc (by simp; omega) _).grown hgrow (by simp; omega) (fun g hg => by have := (hown.lt g hg).1; simp; omega))
  obtain ⟨g, gcap, rfl, hgb, hgl, hgc⟩ := own_some hown' (by omega)
  have e0 := hgc 0 (.int .i64 x) (by simp)
  have e1 := hgc 1 (.int .i64 y) (by simp)
  have e2 := hgc 2 (.int .i64 z) (by simp)
  have hgne : ∀ (W : World) (o : Nat) (u : Value) (j : Nat), (W.setCell ⟨w.heap.size + 1, o, none⟩ u).cell? ⟨g, j, none⟩ = W.cell? ⟨g, j, none⟩ := fun W o u j => by apply World.cell?_setCell_other; intro hh; injection hh with h2; omega
  have hcB : ∀ b o, b < w.heap.size + 1 + 1 → w3.cell? ⟨b, o, none⟩ = _ := fun b o h => hb3.cell (p := ⟨b, o, none⟩) (by simpa using h)
  have hfB : ∀ b o, b < w.heap.size + 1 + 1 → w3.frozen? ⟨b, o, none⟩ = _ := fun b o h => hb3.frozen (p := ⟨b, o, none⟩) (by simpa using h)
  have hbw3 : Below w.heap.size w w3 := (((Below.refl _ _).alloc (Nat.le_refl _) _).alloc (by simp) _).trans (hb3.mono (by simp; omega))
  clear hown hown' hgrow hgc hb3 hb1
  have f0 : (((w3.setCell ⟨w.heap.size + 1, 2, none⟩ (.int .i64 x)).setCell ⟨w.heap.size + 1, 3, none⟩ (.int .i64 y)).setCell ⟨w.heap.size + 1, 4, none⟩ (.int .i64 z)).cell? ⟨w.heap.size + 1, 0, none⟩ = some (.int .i64 s[p].toNat) := ((cell_off (by decide)).trans ((cell_off (by decide)).trans ((cell_off (by decide)).trans (by rw [hcB _ _ (by omega)]; simp))))
  have f1 : (((w3.setCell ⟨w.heap.size + 1, 2, none⟩ (.int .i64 x)).setCell ⟨w.heap.size + 1, 3, none⟩ (.int .i64 y)).setCell ⟨w.heap.size + 1, 4, none⟩ (.int .i64 z)).cell? ⟨w.heap.size + 1, 1, none⟩ = some (.int .i64 v) := ((cell_off (by decide)).trans ((cell_off (by decide)).trans ((cell_off (by decide)).trans (by rw [hcB _ _ (by omega)]; simp))))
  have f2 : (((w3.setCell ⟨w.heap.size + 1, 2, none⟩ (.int .i64 x)).setCell ⟨w.heap.size + 1, 3, none⟩ (.int .i64 y)).setCell ⟨w.heap.size + 1, 4, none⟩ (.int .i64 z)).cell? ⟨w.heap.size + 1, 2, none⟩ = some (.int .i64 x) := ((cell_off (by decide)).trans ((cell_off (by decide)).trans (cell_self (o := .int .i64 0) (by rw [hcB _ _ (by omega)]; simp))))
  have f3 : (((w3.setCell ⟨w.heap.size + 1, 2, none⟩ (.int .i64 x)).setCell ⟨w.heap.size + 1, 3, none⟩ (.int .i64 y)).setCell ⟨w.heap.size + 1, 4, none⟩ (.int .i64 z)).cell? ⟨w.heap.size + 1, 3, none⟩ = some (.int .i64 y) := ((cell_off (by decide)).trans (cell_self (o := .int .i64 0) ((cell_off (by decide)).trans (by rw [hcB _ _ (by omega)]; simp))))
  have f4 : (((w3.setCell ⟨w.heap.size + 1, 2, none⟩ (.int .i64 x)).setCell ⟨w.heap.size + 1, 3, none⟩ (.int .i64 y)).setCell ⟨w.heap.size + 1, 4, none⟩ (.int .i64 z)).cell? ⟨w.heap.size + 1, 4, none⟩ = some (.int .i64 z) := (cell_self (o := .int .i64 0) ((cell_off (by decide)).trans ((cell_off (by decide)).trans (by rw [hcB _ _ (by omega)]; simp))))
  have f5 : (((w3.setCell ⟨w.heap.size + 1, 2, none⟩ (.int .i64 x)).setCell ⟨w.heap.size + 1, 3, none⟩ (.int .i64 y)).setCell ⟨w.heap.size + 1, 4, none⟩ (.int .i64 z)).cell? ⟨w.heap.size + 1, 5, none⟩ = some (.slice none 0 0) := ((cell_off (by decide)).trans ((cell_off (by decide)).trans ((cell_off (by decide)).trans (by rw [hcB _ _ (by omega)]; simp))))
  have HP : Hid (Calls Tryz.prog 32 #[nodeV ⟨s[p].toNat, v, x, y, z, []⟩ (.slice none 0 0)] (((w3.setCell ⟨w.heap.size + 1, 2, none⟩ (.int .i64 x)).setCell ⟨w.heap.size + 1, 3, none⟩ (.int .i64 y)).setCell ⟨w.heap.size + 1, 4, none⟩ (.int .i64 z)) fun e w' => ∃ pv, e = .returned pv ∧ IntsAt w'.heap.size w' pv (prem ⟨s[p].toNat, v, x, y, z, []⟩) ∧ Below (((w3.setCell ⟨w.heap.size + 1, 2, none⟩ (.int .i64 x)).setCell ⟨w.heap.size + 1, 3, none⟩ (.int .i64 y)).setCell ⟨w.heap.size + 1, 4, none⟩ (.int .i64 z)).heap.size (((w3.setCell ⟨w.heap.size + 1, 2, none⟩ (.int .i64 x)).setCell ⟨w.heap.size + 1, 3, none⟩ (.int .i64 y)).setCell ⟨w.heap.size + 1, 4, none⟩ (.int .i64 z)) w') :=
    premises_any _ _ _ _ (Nat.le_refl _) (IntsAt.nil _ _)
  have HW1 : Hid (Below w.heap.size w (((w3.setCell ⟨w.heap.size + 1, 2, none⟩ (.int .i64 x)).setCell ⟨w.heap.size + 1, 3, none⟩ (.int .i64 y)).setCell ⟨w.heap.size + 1, 4, none⟩ (.int .i64 z))) := (((hbw3.setCell (by simp) _).setCell (by simp) _).setCell (by simp) _)
  have hsz3 : w.heap.size + 1 < w3.heap.size := by omega
  have hblk : ∀ j, (((w3.setCell ⟨w.heap.size + 1, 2, none⟩ (.int .i64 x)).setCell ⟨w.heap.size + 1, 3, none⟩ (.int .i64 y)).setCell ⟨w.heap.size + 1, 4, none⟩ (.int .i64 z)).cell? ⟨w.heap.size, j, none⟩ = w3.cell? ⟨w.heap.size, j, none⟩ := fun j => by
    repeat (rw [World.cell?_setCell_other _ _ _ _ (by intro hh; injection hh with h2; omega)])
  go_wp2_with fail
  refine (HP.out).mono ?_; rintro e w2 ⟨pv, rfl, hpi, hb2⟩
  obtain ⟨hcC, hfC⟩ := bcell hb2
  have hsz2 : (((w3.setCell ⟨w.heap.size + 1, 2, none⟩ (.int .i64 x)).setCell ⟨w.heap.size + 1, 3, none⟩ (.int .i64 y)).setCell ⟨w.heap.size + 1, 4, none⟩ (.int .i64 z)).heap.size = w3.heap.size := by simp [World.setCell]
  rw [hsz2] at hcC hfC
  have hz2 : w.heap.size + 1 < w2.heap.size := by have := hb2.size; rw [hsz2] at this; omega
  have hbw2 : Below w.heap.size w w2 := HW1.out.trans (hb2.mono (by rw [hsz2]; omega))
  have c0 : w2.cell? ⟨w.heap.size + 1, 0, none⟩ = some (.int .i64 s[p].toNat) := by rw [hcC _ _ (by omega)]; exact f0
  have c1 : w2.cell? ⟨w.heap.size + 1, 1, none⟩ = some (.int .i64 v) := by rw [hcC _ _ (by omega)]; exact f1
  have c2 : w2.cell? ⟨w.heap.size + 1, 2, none⟩ = some (.int .i64 x) := by rw [hcC _ _ (by omega)]; exact f2
  have c3 : w2.cell? ⟨w.heap.size + 1, 3, none⟩ = some (.int .i64 y) := by rw [hcC _ _ (by omega)]; exact f3
  have c4 : w2.cell? ⟨w.heap.size + 1, 4, none⟩ = some (.int .i64 z) := by rw [hcC _ _ (by omega)]; exact f4
  have c5 : w2.cell? ⟨w.heap.size + 1, 5, none⟩ = some (.slice none 0 0) := by rw [hcC _ _ (by omega)]; exact f5
  have d0 : w2.cell? ⟨w.heap.size, 0, none⟩ = some (.int .i64 0) := by rw [hcC _ _ (by omega), hblk, hcB _ _ (by omega)]; simp
  have d1 : w2.cell? ⟨w.heap.size, 1, none⟩ = some (.int .i64 0) := by rw [hcC _ _ (by omega), hblk, hcB _ _ (by omega)]; simp
  have d2 : w2.cell? ⟨w.heap.size, 2, none⟩ = some (.int .i64 0) := by rw [hcC _ _ (by omega), hblk, hcB _ _ (by omega)]; simp
  have d3 : w2.cell? ⟨w.heap.size, 3, none⟩ = some (.int .i64 0) := by rw [hcC _ _ (by omega), hblk, hcB _ _ (by omega)]; simp
  have d4 : w2.cell? ⟨w.heap.size, 4, none⟩ = some (.int .i64 0) := by rw [hcC _ _ (by omega), hblk, hcB _ _ (by omega)]; simp
  have d5 : w2.cell? ⟨w.heap.size, 5, none⟩ = some (.slice none 0 0) := by rw [hcC _ _ (by omega), hblk, hcB _ _ (by omega)]; simp
  have hfr : ∀ j, w2.frozen? ⟨w.heap.size, j, none⟩ = false := fun j => by
    rw [hfC _ _ (by omega)]; repeat (rw [World.frozen?_setCell])
    rw [hfB _ _ (by omega)]; simp
  obtain ⟨q0, q1, q2, q3, q4, q5⟩ := six_same (w1 := w2) (B := w.heap.size) (.int .i64 s[p].toNat) (.int .i64 v) (.int .i64 x) (.int .i64 y) (.int .i64 z) (.slice none 0 0) d0 d1 d2 d3 d4 d5
  obtain ⟨pao, pcap, rfl, _, hpm, hpc⟩ := hpi
  generalize hps : prem ⟨s[p].toNat, v, x, y, z, []⟩ = ps at *
  have HPS : Hid (prem ⟨s[p].toNat, v, x, y, z, []⟩ = ps) := hps
  have HPC : Hid (ps ≠ [] → ∃ b off, pao = some ⟨b, off, none⟩ ∧ b < w2.heap.size ∧ ∀ i, i < ps.length → w2.cell? ⟨b, off + i, none⟩ = some (.int .i64 (ps.getD i 0))) := hpc
  clear hps hpc hb2 hcB hfB hcC hfC HP hblk HW1 f0 f1 f2 f3 f4 f5 e0 e1 e2 hgne
  unfold maxLen at hpm
  go_wp2
  go_loop [23] (fun i => ∃ j : Nat, j ≤ ps.length ∧ i = .int .i64 j ∧ ∀ t, t < j → ¬ (k : Int) ≤ ps.getD t 0) (fun i => ps.length - (intOf i).toNat)
  case atStart => exact ⟨0, by omega, rfl, fun t ht => by omega⟩
  case round =>
    obtain ⟨j, hj, rfl, hsm⟩ := hrel
    have HSM : Hid (∀ t, t < j → ¬ (k : Int) ≤ ps.getD t 0) := hsm
    clear hsm
    by_cases hjl : j < ps.length
    · obtain ⟨pb, po, rfl, hpb, hpcell⟩ := HPC.out (by intro h; rw [h] at hjl; simp at hjl)
      have hcj := hpcell j hjl
      obtain ⟨xv, hx⟩ : ∃ x, x = ps.getD j 0 := ⟨_, rfl⟩
      rw [← hx] at hcj
      have HXJ : Hid (xv = ps.getD j 0) := hx
      have hji : (j : Int) < (ps.length : Int) := by omega
      clear hpcell hx
      by_cases hkx : (k : Int) ≤ xv
      · have hany : Fl.oneFin p k ⟨s[p].toNat, v, x, y, z, []⟩ n3 = (Fl.nd0, -1, (p : Int)) := by
          unfold Fl.oneFin; rw [HPS.out, if_pos]
          rw [List.any_eq_true]; exact ⟨xv, by rw [HXJ.out]; exact getD_mem hjl, by simpa using hkx⟩
        have HAN : Hid (Fl.oneFin p k ⟨s[p].toNat, v, x, y, z, []⟩ n3 = (Fl.nd0, -1, (p : Int))) := hany
        clear hany
        go_wp2
        exact bodyPost_ret (v := .tuple #[.agg #[.int .i64 s[p].toNat, .int .i64 v, .int .i64 x, .int .i64 y, .int .i64 z, .slice none 0 0], .int .i64 (-1), .int .i64 p]) (by simp [results, Tryz.results17, go_sem, q0, q1, q2, q3, q4, q5]) rfl (one_bad HAN.out rfl ⟨⟨_, _, _, _, _, []⟩, _, _, _, rfl⟩ (six_below hbw2))
      · go_wp2
        go_round
        case rel => exact ⟨j + 1, by omega, by go_num, fun t ht => by
          by_cases h : t < j
          · exact HSM.out t h
          · have : t = j := by omega
            subst this; rw [← HXJ.out]; omega⟩
        case measure => simp [intOf]; omega
    · have hany : Fl.oneFin p k ⟨s[p].toNat, v, x, y, z, []⟩ n3 = (⟨s[p].toNat, v, x, y, z, []⟩, n3, 0) := by
        unfold Fl.oneFin; rw [HPS.out, if_neg]
        rw [Bool.not_eq_true, List.any_eq_false]; intro x hx
        obtain ⟨i, hi, rfl⟩ := List.getElem_of_mem hx
        have := HSM.out i (by omega)
        rw [List.getD_eq_getElem?_getD, List.getElem?_eq_getElem hi] at this
        simpa using this
      have HAN : Hid (Fl.oneFin p k ⟨s[p].toNat, v, x, y, z, []⟩ n3 = (⟨s[p].toNat, v, x, y, z, []⟩, n3, 0)) := hany
      clear hany HSM HPC
      go_wp2
      exact bodyPost_ret (v := .tuple #[.agg #[.int .i64 s[p].toNat, .int .i64 v, .int .i64 x, .int .i64 y, .int .i64 z, .slice none 0 0], .int .i64 n3, .int .i64 0]) (by simp [results, Tryz.results17, go_sem, q0, q1, q2, q3, q4, q5]) rfl (one_good HAN.out rfl rfl (IntsAt.nil _ _) (fun b hb => by simp [Value.ownBlock] at hb) (six_below hbw2))
end Go.Proofs.YtbihjgfbocpobaaGreatDoor
