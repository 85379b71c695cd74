/- Texts RefI RefJ RefK RefL. -/
import Derived.Test.YtbihjgfbocpobaaGreatDoorM10
import Derived.Deep.QuietTactic
import Derived.BigQuiet
/- The reference's Equal. -/
set_option linter.unusedSimpArgs false
set_option linter.unusedVariables false
namespace Go.Proofs.YtbihjgfbocpobaaGreatDoor
open Go.RowKit

theorem eq_not {x y : Fl.Node} (h : ¬ x = y) : Fl.eqNode x y = false := by
  rw [Bool.eq_false_iff]; intro hh; exact h ((Fl.eqNode_iff x y).1 hh)

theorem drewN_add (w : World) (m n : Nat) : (w.drewN m).drewN n = w.drewN (m + n) := by
  induction n with
  | zero => rfl
  | succ n ih => show ((w.drewN m).drewN n).drew = (w.drewN (m + n)).drew; rw [ih]
theorem Below.drewN_of {B : Nat} {w w' : World} (h : Below B w w') (m : Nat) : Below B w (w'.drewN m) := by
  induction m with
  | zero => exact h
  | succ m ih => exact ih.drew

set_option maxRecDepth 100000 in
set_option maxHeartbeats 2000000 in
theorem equal_part (k l a b c k' l' a' b' c' : Int) (n n' : Nat) (ao ao' : Option Addr) (cap cap' : Nat) (w : World) (h : ¬ (k = k' ∧ l = l' ∧ a = a' ∧ b = b' ∧ c = c' ∧ n = n')) :
    Calls Tryz.prog 34 #[.agg #[.int .i64 k, .int .i64 l, .int .i64 a, .int .i64 b, .int .i64 c, .slice ao n cap], .agg #[.int .i64 k', .int .i64 l', .int .i64 a', .int .i64 b', .int .i64 c', .slice ao' n' cap']] w
      fun e w' => e = .returned (.bool false) ∧ Below w.heap.size w w' := by
  by_cases h1 : k = k'
  · have e1 : (k != k') = false := by simp [h1]
    by_cases h2 : l = l'
    · have e2 : (l != l') = false := by simp [h2]
      by_cases h3 : a = a'
      · have e3 : (a != a') = false := by simp [h3]
        by_cases h4 : b = b'
        · have e4 : (b != b') = false := by simp [h4]
          by_cases h5 : c = c'
          · have e5 : (c != c') = false := by simp [h5]
            have e6 : ((n : Int) != (n' : Int)) = true := by rw [bne_iff_ne]; intro hh; exact h ⟨h1, h2, h3, h4, h5, by omega⟩
            clear h h1 h2 h3 h4 h5
            go_enter Tryz.func34, Tryz.ntmps34
            go_wp2
            go_ret
            exact ⟨rfl, ((Below.refl _ _).alloc (Nat.le_refl _) _).alloc (by simp) _⟩
          · have e5 : (c != c') = true := by rw [bne_iff_ne]; exact h5
            clear h h1 h2 h3 h4 h5
            go_enter Tryz.func34, Tryz.ntmps34
            go_wp2
            go_ret
            exact ⟨rfl, ((Below.refl _ _).alloc (Nat.le_refl _) _).alloc (by simp) _⟩
        · have e4 : (b != b') = true := by rw [bne_iff_ne]; exact h4
          clear h h1 h2 h3 h4
          go_enter Tryz.func34, Tryz.ntmps34
          go_wp2
          go_ret
          exact ⟨rfl, ((Below.refl _ _).alloc (Nat.le_refl _) _).alloc (by simp) _⟩
      · have e3 : (a != a') = true := by rw [bne_iff_ne]; exact h3
        clear h h1 h2 h3
        go_enter Tryz.func34, Tryz.ntmps34
        go_wp2
        go_ret
        exact ⟨rfl, ((Below.refl _ _).alloc (Nat.le_refl _) _).alloc (by simp) _⟩
    · have e2 : (l != l') = true := by rw [bne_iff_ne]; exact h2
      clear h h1 h2
      go_enter Tryz.func34, Tryz.ntmps34
      go_wp2
      go_ret
      exact ⟨rfl, ((Below.refl _ _).alloc (Nat.le_refl _) _).alloc (by simp) _⟩
  · have e1 : (k != k') = true := by rw [bne_iff_ne]; exact h1
    clear h h1
    go_enter Tryz.func34, Tryz.ntmps34
    go_wp2
    go_ret
    exact ⟨rfl, ((Below.refl _ _).alloc (Nat.le_refl _) _).alloc (by simp) _⟩

set_option maxRecDepth 100000 in
set_option maxHeartbeats 2000000 in
theorem equal_list (k l a b c : Int) (xs ys : List Int) (n : Nat) (hx : xs.length = n) (hy : ys.length = n) (hm : n ≤ 9223372036854775807) (ao ao' : Option Addr) (cap cap' : Nat) (w : World)
    (hcx : ∀ o o', xs ≠ [] → ∃ p q, ao = some ⟨p, q, none⟩ ∧ ∀ i, i < n → ((w.alloc o).alloc o').cell? ⟨p, q + i, none⟩ = some (.int .i64 (xs.getD i 0)))
    (hcy : ∀ o o', ys ≠ [] → ∃ p q, ao' = some ⟨p, q, none⟩ ∧ ∀ i, i < n → ((w.alloc o).alloc o').cell? ⟨p, q + i, none⟩ = some (.int .i64 (ys.getD i 0))) :
    Calls Tryz.prog 34 #[.agg #[.int .i64 k, .int .i64 l, .int .i64 a, .int .i64 b, .int .i64 c, .slice ao n cap], .agg #[.int .i64 k, .int .i64 l, .int .i64 a, .int .i64 b, .int .i64 c, .slice ao' n cap']] w
      fun e w' => e = .returned (.bool (xs == ys)) ∧ Below w.heap.size w w' := by
  have HX : Hid (∀ o o', xs ≠ [] → ∃ p q, ao = some ⟨p, q, none⟩ ∧ ∀ i, i < n → ((w.alloc o).alloc o').cell? ⟨p, q + i, none⟩ = some (.int .i64 (xs.getD i 0))) := hcx
  have HY : Hid (∀ o o', ys ≠ [] → ∃ p q, ao' = some ⟨p, q, none⟩ ∧ ∀ i, i < n → ((w.alloc o).alloc o').cell? ⟨p, q + i, none⟩ = some (.int .i64 (ys.getD i 0))) := hcy
  have HXL : Hid (xs.length = n) := hx
  have HYL : Hid (ys.length = n) := hy
  clear hcx hcy hx hy
  go_enter Tryz.func34, Tryz.ntmps34
  go_wp2
  go_loopw [5] (fun i wr => ∃ (j : Nat), j ≤ n ∧ i = .int .i64 j ∧ (∃ m, wr = ((w.alloc (.cells #[.int .i64 k, .int .i64 l, .int .i64 a, .int .i64 b, .int .i64 c, .slice ao n cap] 53)).alloc (.cells #[.int .i64 k, .int .i64 l, .int .i64 a, .int .i64 b, .int .i64 c, .slice ao' n cap'] 53)).drewN m) ∧ ∀ i, i < j → xs.getD i 0 = ys.getD i 0) (fun i _ => n - (intOf i).toNat)
  case atStart => exact ⟨0, by omega, rfl, ⟨0, rfl⟩, fun i hi => by omega⟩
  case round =>
    obtain ⟨j, hj, rfl, ⟨m, rfl⟩, hsame⟩ := hrel
    have HS : Hid (∀ i, i < j → xs.getD i 0 = ys.getD i 0) := hsame
    clear hsame
    by_cases hlt : j < n
    · obtain ⟨p, q, rfl, hc⟩ := HX.out (.cells #[.int .i64 k, .int .i64 l, .int .i64 a, .int .i64 b, .int .i64 c, .slice ao n cap] 53) (.cells #[.int .i64 k, .int .i64 l, .int .i64 a, .int .i64 b, .int .i64 c, .slice ao' n cap'] 53) (by intro h; have := HXL.out; rw [h] at this; simp at this; omega)
      obtain ⟨p', q', rfl, hc'⟩ := HY.out (.cells #[.int .i64 k, .int .i64 l, .int .i64 a, .int .i64 b, .int .i64 c, .slice (some ⟨p, q, none⟩) n cap] 53) (.cells #[.int .i64 k, .int .i64 l, .int .i64 a, .int .i64 b, .int .i64 c, .slice ao' n cap'] 53) (by intro h; have := HYL.out; rw [h] at this; simp at this; omega)
      have hcj := hc j hlt
      have hcj' := hc' j hlt
      obtain ⟨x, hx⟩ : ∃ x, x = xs.getD j 0 := ⟨_, rfl⟩
      obtain ⟨y, hy⟩ : ∃ y, y = ys.getD j 0 := ⟨_, rfl⟩
      rw [← hx] at hcj
      rw [← hy] at hcj'
      have HXJ : Hid (x = xs.getD j 0) := hx
      have HYJ : Hid (y = ys.getD j 0) := hy
      have hji : (j : Int) < (n : Int) := by omega
      clear hc hc' hx hy HX HY
      go_wp2_with fail
      go_quiet (fail)
      go_wp2
      · have hne : (x != y) = true := by assumption
        go_ret
        refine ⟨ret_bool ?_, by repeat (first | exact ((Below.refl _ _).alloc (Nat.le_refl _) _).alloc (by simp) _ | apply Below.drewN_of)⟩
        rw [eq_comm, beq_eq_false_iff_ne]; intro hh
        rw [bne_iff_ne] at hne; apply hne; rw [HXJ.out, HYJ.out, hh]
      · have hne : (x != y) = false := by assumption
        go_roundw
        case rel => exact ⟨j + 1, by omega, by go_num, ⟨_, rfl⟩, fun i hi => by
          by_cases hij : i < j
          · exact HS.out i hij
          · have : i = j := by omega
            subst this; rw [← HXJ.out, ← HYJ.out]; simpa using hne⟩
        case measure => simp [intOf]; omega
    · have hall : xs = ys := by
        have h1 := HXL.out; have h2 := HYL.out; have h3 := HS.out
        apply List.ext_getElem (by omega)
        intro i hi hi'
        have := h3 i (by omega)
        simpa [List.getD_eq_getElem?_getD, hi, hi'] using this
      have HE : Hid (xs = ys) := hall
      clear hall
      go_wp2
      go_ret
      exact ⟨ret_bool (by rw [HE.out]; simp), Below.drewN_of (((Below.refl _ _).alloc (Nat.le_refl _) _).alloc (by simp) _) _⟩

/-- Equal, of every two nodes. -/
theorem equal_any (x y : Fl.Node) (lv lv' : Value) (B : Nat) (w : World) (hB : B ≤ w.heap.size) (hx : IntsAt B w lv x.list) (hy : IntsAt B w lv' y.list) :
    Calls Tryz.prog 34 #[nodeV x lv, nodeV y lv'] w fun e w' => e = .returned (.bool (Fl.eqNode x y)) ∧ Below w.heap.size w w' := by
  obtain ⟨k, l, a, b, c, xs⟩ := x
  obtain ⟨k', l', a', b', c', ys⟩ := y
  unfold nodeV
  simp only at hx hy ⊢
  by_cases h : k = k' ∧ l = l' ∧ a = a' ∧ b = b' ∧ c = c' ∧ xs.length = ys.length
  · obtain ⟨rfl, rfl, rfl, rfl, rfl, hlen⟩ := h
    have he : Fl.eqNode ⟨k, l, a, b, c, xs⟩ ⟨k, l, a, b, c, ys⟩ = (xs == ys) := by simp [Fl.eqNode]
    rw [he]
    have hb2 : ∀ o o', Below B w ((w.alloc o).alloc o') := fun o o' => ((Below.refl _ _).alloc hB _).alloc (by simp; omega) _
    obtain ⟨ao, cap, rfl, _, hm, _⟩ := id hx
    obtain ⟨ao', cap', rfl, _, hm', _⟩ := id hy
    rw [← hlen]
    refine equal_list k l a b c xs ys xs.length rfl hlen.symm (by unfold maxLen at hm; omega) ao ao' cap cap' w ?_ ?_
    · intro o o' hne
      obtain ⟨ao2, cap2, hv, _, _, hc⟩ := hx.below (hb2 o o')
      obtain ⟨p, q, ha, _, hcell⟩ := hc hne
      simp only [Value.slice.injEq] at hv
      exact ⟨p, q, hv.1.trans ha, hcell⟩
    · intro o o' hne
      obtain ⟨ao2, cap2, hv, _, _, hc⟩ := hy.below (hb2 o o')
      obtain ⟨p, q, ha, _, hcell⟩ := hc hne
      simp only [Value.slice.injEq] at hv
      exact ⟨p, q, hv.1.trans ha, fun i hi => hcell i (by omega)⟩
  · obtain ⟨ao, cap, rfl, _⟩ := hx
    obtain ⟨ao', cap', rfl, _⟩ := hy
    rw [eq_not (by intro hh; simp only [Fl.Node.mk.injEq] at hh; obtain ⟨a1, a2, a3, a4, a5, a6⟩ := hh; exact h ⟨a1, a2, a3, a4, a5, by rw [a6]⟩)]
    exact equal_part k l a b c k' l' a' b' c' _ _ ao ao' cap cap' w h
end Go.Proofs.YtbihjgfbocpobaaGreatDoor

/- The reference's sound. -/
set_option linter.unusedSimpArgs false
set_option linter.unusedVariables false
namespace Go.Proofs.YtbihjgfbocpobaaGreatDoor
open Go.RowKit

set_option maxRecDepth 100000 in
set_option maxHeartbeats 2000000 in
theorem sound_early (k l a b c F : Int) (n : Nat) (ao : Option Addr) (cap : Nat) (w : World) (hn : n ≤ 9223372036854775807)
    (H : Hid (∀ w, Calls Tryz.prog 21 #[.int .i64 k] w fun e w' => e = .returned (.int .i64 F) ∧ w' = w)) (h : F = -2 ∨ l < 0 ∨ 2147483648 ≤ l ∨ 16 < n) :
    Calls Tryz.prog 33 #[.agg #[.int .i64 k, .int .i64 l, .int .i64 a, .int .i64 b, .int .i64 c, .slice ao n cap]] w fun e w' => e = .returned (.bool false) ∧ Below w.heap.size w w' := by
  by_cases h0 : F = -2
  · have b0 : (F == -2) = true := by simp [h0]
    clear h0 h
    go_enter Tryz.func33, Tryz.ntmps33
    go_wp2_with (go_at_call 21; refine (H.out _).mono ?_; rintro e w' ⟨rfl, rfl⟩)
    go_ret
    exact ⟨rfl, (Below.refl _ _).alloc (Nat.le_refl _) _⟩
  · have b0 : (F == -2) = false := by simp [h0]
    by_cases h1 : l < 0
    · clear h0 h
      go_enter Tryz.func33, Tryz.ntmps33
      go_wp2_with (go_at_call 21; refine (H.out _).mono ?_; rintro e w' ⟨rfl, rfl⟩)
      go_ret
      exact ⟨rfl, (Below.refl _ _).alloc (Nat.le_refl _) _⟩
    · by_cases h2 : 2147483648 ≤ l
      · clear h0 h
        go_enter Tryz.func33, Tryz.ntmps33
        go_wp2_with (go_at_call 21; refine (H.out _).mono ?_; rintro e w' ⟨rfl, rfl⟩)
        go_ret
        exact ⟨rfl, (Below.refl _ _).alloc (Nat.le_refl _) _⟩
      · have h3 : (16 : Int) < (n : Int) := by omega
        clear h0 h
        go_enter Tryz.func33, Tryz.ntmps33
        go_wp2_with (go_at_call 21; refine (H.out _).mono ?_; rintro e w' ⟨rfl, rfl⟩)
        go_ret
        exact ⟨rfl, (Below.refl _ _).alloc (Nat.le_refl _) _⟩

theorem okV_bad1 {F i x : Int} (hF : F ≤ i) (h : (x < 0 ∨ 2147483648 ≤ x) ∨ (x != 0) = true) : Fl.okV F i x = false := by
  unfold Fl.okV Fl.inR
  rcases h with (h | h) | h
  · rw [decide_eq_false (by omega : ¬ 0 ≤ x)]; simp
  · rw [decide_eq_false (by omega : ¬ x < 2147483648)]; simp
  · rw [decide_eq_false (by omega : ¬ i < F)]; rw [bne_iff_ne] at h; simp [h]
theorem okV_bad2 {F i x : Int} (h : 2147483648 ≤ x) : Fl.okV F i x = false := by
  unfold Fl.okV Fl.inR; rw [decide_eq_false (by omega : ¬ x < 2147483648)]; simp
theorem okV_bad3 {F i x : Int} (h : x < 0) : Fl.okV F i x = false := by
  unfold Fl.okV Fl.inR; rw [decide_eq_false (by omega : ¬ 0 ≤ x)]; simp
theorem okV_ok {F i x : Int} (h0 : 0 ≤ x) (h1 : x < 2147483648) (h : i < F ∨ (x != 0) = false) : Fl.okV F i x = true := by
  unfold Fl.okV Fl.inR; rw [decide_eq_true h0, decide_eq_true h1]
  rcases h with h | h
  · simp [h]
  · have : x = 0 := by simpa using h
    simp [this]
theorem okV_ok' {F i x : Int} (h0 : 0 ≤ x) (h1 : x < 2147483648) (h : ¬ F ≤ i) : Fl.okV F i x = true := okV_ok h0 h1 (Or.inl (by omega))

theorem inR_bad {x : Int} (h : x < 0 ∨ 2147483648 ≤ x) : Fl.inR x = false := by
  unfold Fl.inR; rcases h with h | h
  · rw [decide_eq_false (by omega : ¬ 0 ≤ x)]; simp
  · rw [decide_eq_false (by omega : ¬ x < 2147483648)]; simp
theorem inR_ok {x : Int} (h : 0 ≤ x ∧ x < 2147483648) : Fl.inR x = true := by
  unfold Fl.inR; rw [decide_eq_true h.1, decide_eq_true h.2]; rfl
theorem getD_mem {xs : List Int} {j : Nat} (h : j < xs.length) : xs.getD j 0 ∈ xs := by
  rw [List.getD_eq_getElem?_getD, List.getElem?_eq_getElem h]; exact List.getElem_mem h
theorem all_bad {xs : List Int} {j : Nat} {p : Int → Bool} (h : j < xs.length) (hp : p (xs.getD j 0) = false) : xs.all p = false := by
  rw [Bool.eq_false_iff]; intro hh; rw [List.all_eq_true.1 hh _ (getD_mem h)] at hp; exact absurd hp (by simp)
theorem all_good {xs : List Int} {p : Int → Bool} (h : ∀ t, t < xs.length → p (xs.getD t 0) = true) : xs.all p = true := by
  rw [List.all_eq_true]; intro x hx
  obtain ⟨i, hi, rfl⟩ := List.getElem_of_mem hx
  have := h i hi; rwa [List.getD_eq_getElem?_getD, List.getElem?_eq_getElem hi] at this

/-- Of A, B, C the j-th. -/
def abc (a b c : Int) (j : Nat) : Int := if j = 0 then a else if j = 1 then b else c

set_option maxRecDepth 100000 in
set_option maxHeartbeats 4000000 in
theorem sound_late (k l a b c F : Int) (xs : List Int) (n : Nat) (ao : Option Addr) (cap : Nat) (w : World) (hx : xs.length = n) (hF : -2 < F) (hF3 : F ≤ 3) (hl0 : ¬ l < 0) (hl1 : ¬ 2147483648 ≤ l) (hn : n ≤ 16)
    (H : Hid (∀ w, Calls Tryz.prog 21 #[.int .i64 k] w fun e w' => e = .returned (.int .i64 F) ∧ w' = w))
    (hcx : ∀ o o', xs ≠ [] → ∃ p q, ao = some ⟨p, q, none⟩ ∧ ∀ i, i < n → ((w.alloc o).alloc o').cell? ⟨p, q + i, none⟩ = some (.int .i64 (xs.getD i 0))) :
    Calls Tryz.prog 33 #[.agg #[.int .i64 k, .int .i64 l, .int .i64 a, .int .i64 b, .int .i64 c, .slice ao n cap]] w
      fun e w' => e = .returned (.bool (Fl.okV F 0 a && (Fl.okV F 1 b && (Fl.okV F 2 c && (xs.all Fl.inR && (decide (F = -1) || decide (xs = []))))))) ∧ Below w.heap.size w w' := by
  have HX : Hid (∀ o o', xs ≠ [] → ∃ p q, ao = some ⟨p, q, none⟩ ∧ ∀ i, i < n → ((w.alloc o).alloc o').cell? ⟨p, q + i, none⟩ = some (.int .i64 (xs.getD i 0))) := hcx
  have HXL : Hid (xs.length = n) := hx
  clear hcx hx
  have b0 : (F == -2) = false := beq_eq_false_iff_ne.2 (by omega)
  have hn16 : ¬ (16 : Int) < (n : Int) := by omega
  go_enter Tryz.func33, Tryz.ntmps33
  go_wp2_with (go_at_call 21; refine (H.out _).mono ?_; rintro e w' ⟨rfl, rfl⟩)
  go_loop [5] (fun i => ∃ j : Nat, j ≤ 3 ∧ i = .int .i64 j ∧ ∀ t : Nat, t < j → Fl.okV F t (abc a b c t) = true) (fun i => 3 - (intOf i).toNat)
  case atStart => exact ⟨0, by omega, rfl, fun t ht => by omega⟩
  case round =>
    obtain ⟨j, hj, rfl, hall⟩ := hrel
    have HA : Hid (∀ t : Nat, t < j → Fl.okV F t (abc a b c t) = true) := hall
    clear hall
    rcases (show j = 0 ∨ j = 1 ∨ j = 2 ∨ j = 3 from by omega) with rfl | rfl | rfl | rfl
    · go_wp2
      · have hb : Fl.okV F 0 a = false := okV_bad1 (by assumption) (by assumption)
        go_ret
        exact ⟨ret_bool (by rw [hb]; simp), ((Below.refl _ _).alloc (Nat.le_refl _) _).alloc (by simp) _⟩
      · have hb : Fl.okV F 0 a = true := okV_ok (by assumption) (by assumption) (Or.inr (And.right (a := 0 ≤ a ∧ a < 2147483648) (by assumption)))
        go_round
        case rel => exact ⟨1, by omega, rfl, fun t ht => by
          by_cases h : t < 0
          · exact HA.out t h
          · have : t = 0 := by omega
            subst this; simpa [abc] using hb⟩
        case measure => simp [intOf]
      · have hb : Fl.okV F 0 a = true := okV_ok' (by assumption) (by assumption) (by assumption)
        go_round
        case rel => exact ⟨1, by omega, rfl, fun t ht => by
          by_cases h : t < 0
          · exact HA.out t h
          · have : t = 0 := by omega
            subst this; simpa [abc] using hb⟩
        case measure => simp [intOf]
      · have hb : Fl.okV F 0 a = false := okV_bad2 (by assumption)
        go_ret
        exact ⟨ret_bool (by rw [hb]; simp), ((Below.refl _ _).alloc (Nat.le_refl _) _).alloc (by simp) _⟩
      · have hb : Fl.okV F 0 a = false := okV_bad3 (by assumption)
        go_ret
        exact ⟨ret_bool (by rw [hb]; simp), ((Below.refl _ _).alloc (Nat.le_refl _) _).alloc (by simp) _⟩
    · go_wp2
      · have hb : Fl.okV F 1 b = false := okV_bad1 (by assumption) (by assumption)
        go_ret
        exact ⟨ret_bool (by rw [hb]; simp), ((Below.refl _ _).alloc (Nat.le_refl _) _).alloc (by simp) _⟩
      · have hb : Fl.okV F 1 b = true := okV_ok (by assumption) (by assumption) (Or.inr (And.right (a := 0 ≤ b ∧ b < 2147483648) (by assumption)))
        go_round
        case rel => exact ⟨2, by omega, rfl, fun t ht => by
          by_cases h : t < 1
          · exact HA.out t h
          · have : t = 1 := by omega
            subst this; simpa [abc] using hb⟩
        case measure => simp [intOf]
      · have hb : Fl.okV F 1 b = true := okV_ok' (by assumption) (by assumption) (by assumption)
        go_round
        case rel => exact ⟨2, by omega, rfl, fun t ht => by
          by_cases h : t < 1
          · exact HA.out t h
          · have : t = 1 := by omega
            subst this; simpa [abc] using hb⟩
        case measure => simp [intOf]
      · have hb : Fl.okV F 1 b = false := okV_bad2 (by assumption)
        go_ret
        exact ⟨ret_bool (by rw [hb]; simp), ((Below.refl _ _).alloc (Nat.le_refl _) _).alloc (by simp) _⟩
      · have hb : Fl.okV F 1 b = false := okV_bad3 (by assumption)
        go_ret
        exact ⟨ret_bool (by rw [hb]; simp), ((Below.refl _ _).alloc (Nat.le_refl _) _).alloc (by simp) _⟩
    · go_wp2
      · have hb : Fl.okV F 2 c = false := okV_bad1 (by assumption) (by assumption)
        go_ret
        exact ⟨ret_bool (by rw [hb]; simp), ((Below.refl _ _).alloc (Nat.le_refl _) _).alloc (by simp) _⟩
      · have hb : Fl.okV F 2 c = true := okV_ok (by assumption) (by assumption) (Or.inr (And.right (a := 0 ≤ c ∧ c < 2147483648) (by assumption)))
        go_round
        case rel => exact ⟨3, by omega, rfl, fun t ht => by
          by_cases h : t < 2
          · exact HA.out t h
          · have : t = 2 := by omega
            subst this; simpa [abc] using hb⟩
        case measure => simp [intOf]
      · have hb : Fl.okV F 2 c = true := okV_ok' (by assumption) (by assumption) (by assumption)
        go_round
        case rel => exact ⟨3, by omega, rfl, fun t ht => by
          by_cases h : t < 2
          · exact HA.out t h
          · have : t = 2 := by omega
            subst this; simpa [abc] using hb⟩
        case measure => simp [intOf]
      · have hb : Fl.okV F 2 c = false := okV_bad2 (by assumption)
        go_ret
        exact ⟨ret_bool (by rw [hb]; simp), ((Below.refl _ _).alloc (Nat.le_refl _) _).alloc (by simp) _⟩
      · have hb : Fl.okV F 2 c = false := okV_bad3 (by assumption)
        go_ret
        exact ⟨ret_bool (by rw [hb]; simp), ((Below.refl _ _).alloc (Nat.le_refl _) _).alloc (by simp) _⟩
    · have q0 : Fl.okV F 0 a = true := HA.out 0 (by omega)
      have q1 : Fl.okV F 1 b = true := HA.out 1 (by omega)
      have q2 : Fl.okV F 2 c = true := HA.out 2 (by omega)
      have HQ : Hid ((Fl.okV F 0 a && (Fl.okV F 1 b && (Fl.okV F 2 c && (xs.all Fl.inR && (decide (F = -1) || decide (xs = [])))))) = (xs.all Fl.inR && (decide (F = -1) || decide (xs = [])))) := by rw [q0, q1, q2]; simp [Hid]
      clear q0 q1 q2
      go_wp2
      go_loop [6] (fun i => ∃ j : Nat, j ≤ n ∧ i = .int .i64 j ∧ ∀ t : Nat, t < j → Fl.inR (xs.getD t 0) = true) (fun i => n - (intOf i).toNat)
      case atStart => exact ⟨0, by omega, rfl, fun t ht => by omega⟩
      case round =>
        obtain ⟨j, hj, rfl, hall⟩ := hrel
        have HB : Hid (∀ t : Nat, t < j → Fl.inR (xs.getD t 0) = true) := hall
        clear hall
        by_cases hlt : j < n
        · obtain ⟨p, q, rfl, hc⟩ := HX.out (.cells #[.int .i64 k, .int .i64 l, .int .i64 a, .int .i64 b, .int .i64 c, .slice ao n cap] 53) (.cells #[.int .i64 a, .int .i64 b, .int .i64 c] 3) (by intro h; have := HXL.out; rw [h] at this; simp at this; omega)
          have hcj := hc j hlt
          obtain ⟨x, hx⟩ : ∃ x, x = xs.getD j 0 := ⟨_, rfl⟩
          rw [← hx] at hcj
          have HXJ : Hid (x = xs.getD j 0) := hx
          have hji : (j : Int) < (n : Int) := by omega
          clear hc hx HX
          go_wp2
          · have hb : xs.all Fl.inR = false := all_bad (j := j) (by have := HXL.out; omega) (by rw [← HXJ.out]; exact inR_bad (by assumption))
            go_ret
            exact ⟨ret_bool (by rw [HQ.out, hb]; simp), ((Below.refl _ _).alloc (Nat.le_refl _) _).alloc (by simp) _⟩
          · have hb : Fl.inR x = true := inR_ok (by assumption)
            go_round
            case rel => exact ⟨j + 1, by omega, by go_num, fun t ht => by
              by_cases h : t < j
              · exact HB.out t h
              · have : t = j := by omega
                subst this; rw [← HXJ.out]; exact hb⟩
            case measure => simp [intOf]; omega
          · have hb : xs.all Fl.inR = false := all_bad (j := j) (by have := HXL.out; omega) (by rw [← HXJ.out]; exact inR_bad (Or.inl (by assumption)))
            go_ret
            exact ⟨ret_bool (by rw [HQ.out, hb]; simp), ((Below.refl _ _).alloc (Nat.le_refl _) _).alloc (by simp) _⟩
        · have hb : xs.all Fl.inR = true := all_good (fun t ht => HB.out t (by have := HXL.out; omega))
          have HBB : Hid (xs.all Fl.inR = true) := hb
          clear hb
          go_wp2
          · have hF1 : F = -1 := by assumption
            go_ret
            have q0 : Fl.okV F 0 a = true := HA.out 0 (by omega)
            have q1 : Fl.okV F 1 b = true := HA.out 1 (by omega)
            have q2 : Fl.okV F 2 c = true := HA.out 2 (by omega)
            rw [hF1] at q0 q1 q2
            exact ⟨ret_bool (by rw [q0, q1, q2, HBB.out]; rfl), ((Below.refl _ _).alloc (Nat.le_refl _) _).alloc (by simp) _⟩
          · have hF1 : ¬ F = -1 := by assumption
            go_ret
            refine ⟨ret_bool ?_, ((Below.refl _ _).alloc (Nat.le_refl _) _).alloc (by simp) _⟩
            have q0 : Fl.okV F 0 a = true := HA.out 0 (by omega)
            have q1 : Fl.okV F 1 b = true := HA.out 1 (by omega)
            have q2 : Fl.okV F 2 c = true := HA.out 2 (by omega)
            rw [q0, q1, q2, HBB.out, Bool.true_and, Bool.true_and, Bool.true_and, Bool.true_and, Bool.eq_iff_iff]
            have := HXL.out
            simp only [Bool.or_eq_true, beq_iff_eq, decide_eq_true_eq]
            rw [← List.length_eq_zero_iff]; omega

/-- sound, of every node. -/
theorem sound_any (x : Fl.Node) (lv : Value) (B : Nat) (w : World) (hB : B ≤ w.heap.size) (hx : IntsAt B w lv x.list) :
    Calls Tryz.prog 33 #[nodeV x lv] w fun e w' => e = .returned (.bool (Fl.sound x)) ∧ Below w.heap.size w w' := by
  obtain ⟨k, l, a, b, c, xs⟩ := x
  unfold nodeV
  simp only at hx ⊢
  obtain ⟨ao, cap, rfl, _, hm, _⟩ := id hx
  unfold maxLen at hm
  have H : Hid (∀ w, Calls Tryz.prog 21 #[.int .i64 k] w fun e w' => e = .returned (.int .i64 (Fl.fields k)) ∧ w' = w) := fun w => fields_any k w
  have hf := Fl.fields_lt k
  by_cases h : Fl.fields k = -2 ∨ l < 0 ∨ 2147483648 ≤ l ∨ 16 < xs.length
  · have he : Fl.sound ⟨k, l, a, b, c, xs⟩ = false := by
      unfold Fl.sound Fl.inR
      rcases h with h | h | h | h
      · simp [h]
      · simp only [decide_eq_false (by omega : ¬ 0 ≤ l)]; simp
      · simp only [decide_eq_false (by omega : ¬ l < 2147483648)]; simp
      · simp only [decide_eq_false (by omega : ¬ xs.length ≤ 16)]; simp
    rw [he]
    exact sound_early k l a b c _ _ ao cap w (by omega) H h
  · have h1 : Fl.fields k ≠ -2 := by omega
    have h2 : 0 ≤ l := by omega
    have h3 : l < 2147483648 := by omega
    have h4 : xs.length ≤ 16 := by omega
    have he : Fl.sound ⟨k, l, a, b, c, xs⟩ = (Fl.okV (Fl.fields k) 0 a && (Fl.okV (Fl.fields k) 1 b && (Fl.okV (Fl.fields k) 2 c && (xs.all Fl.inR && (decide (Fl.fields k = -1) || decide (xs = [])))))) := by
      unfold Fl.sound; simp only [decide_eq_true h1, inR_ok ⟨h2, h3⟩, decide_eq_true h4, Bool.true_and]
    rw [he]
    have hb2 : ∀ o o', Below B w ((w.alloc o).alloc o') := fun o o' => ((Below.refl _ _).alloc hB _).alloc (by simp; omega) _
    refine sound_late k l a b c _ xs xs.length ao cap w rfl (by omega) hf.2 (by omega) (by omega) h4 H ?_
    intro o o' hne
    obtain ⟨ao2, cap2, hv, _, _, hc⟩ := hx.below (hb2 o o')
    obtain ⟨p, q, ha, _, hcell⟩ := hc hne
    simp only [Value.slice.injEq] at hv
    exact ⟨p, q, hv.1.trans ha, hcell⟩
end Go.Proofs.YtbihjgfbocpobaaGreatDoor

/- The reference's node. -/
set_option linter.unusedSimpArgs false
set_option linter.unusedVariables false
namespace Go.Proofs.YtbihjgfbocpobaaGreatDoor
open Go.RowKit

theorem coded_int (v : Int) (w : World) (h0 : 0 ≤ v) (h1 : v < 2147483648) : Calls Tryz.prog 27 #[.int .i64 v] w fun e w' => e = .returned (.string ⟨(Fl.coded v.toNat).toArray⟩) ∧ Below w.heap.size w w' := by
  obtain ⟨n, rfl⟩ := Int.eq_ofNat_of_zero_le h0
  exact coded_any n w (by omega)

theorem bcell {W w1 : World} (hb : Below W.heap.size W w1) : (∀ b o, b < W.heap.size → w1.cell? ⟨b, o, none⟩ = W.cell? ⟨b, o, none⟩) ∧ (∀ b o, b < W.heap.size → w1.frozen? ⟨b, o, none⟩ = W.frozen? ⟨b, o, none⟩) :=
  ⟨fun b o h => hb.cell (p := ⟨b, o, none⟩) h, fun b o h => hb.frozen (p := ⟨b, o, none⟩) h⟩
theorem app_bytes (x y : List UInt8) : (⟨x.toArray⟩ : ByteArray) ++ ⟨y.toArray⟩ = ⟨(x ++ y).toArray⟩ := ByteArray.mk_append_mk x y

set_option maxRecDepth 100000 in
set_option maxHeartbeats 4000000 in
theorem node_some (k l a b c F : Int) (n : Nat) (ao : Option Addr) (cap : Nat) (w : World) (hk0 : 0 ≤ k) (hk1 : k ≤ 7) (hl0 : 0 ≤ l) (hl1 : l < 2147483648) (hF0 : 0 ≤ F) (hF3 : F ≤ 3)
    (ha : 0 ≤ a ∧ a < 2147483648) (hb : 0 ≤ b ∧ b < 2147483648) (hc : 0 ≤ c ∧ c < 2147483648)
    (H : Hid (∀ w, Calls Tryz.prog 21 #[.int .i64 k] w fun e w' => e = .returned (.int .i64 F) ∧ w' = w)) :
    Calls Tryz.prog 28 #[.agg #[.int .i64 k, .int .i64 l, .int .i64 a, .int .i64 b, .int .i64 c, .slice ao n cap]] w
      fun e w' => e = .returned (.string ⟨(UInt8.ofNat k.toNat :: (Fl.coded l.toNat ++ Fl.codedAll ([a, b, c].take F.toNat))).toArray⟩) ∧ Below w.heap.size w w' := by
  obtain ⟨ha0, ha1⟩ := ha
  obtain ⟨hb0, hb1⟩ := hb
  obtain ⟨hc0, hc1⟩ := hc
  have hcv := fun w => conv_byte k w
  go_enter Tryz.func28, Tryz.ntmps28
  go_wp2_with fail
  refine (coded_int l _ hl0 hl1).mono ?_
  rintro e w1 ⟨rfl, hb1w⟩
  have hz1 : w.heap.size < w1.heap.size := by have := hb1w.size; simp at this; omega
  obtain ⟨hcB, hfB⟩ := bcell hb1w
  have hcw := hcv w1
  clear hcv
  have hlen := Fl.coded_len l.toNat
  generalize hg : Fl.coded l.toNat = cl at *
  have HG : Hid (Fl.coded l.toNat = cl) := hg
  clear hg
  go_wp2_with (go_at_call 21; refine (H.out _).mono ?_; rintro e w' ⟨rfl, rfl⟩)
  go_loopw [4, 8] (fun t i wr => ∃ j : Nat, (j : Int) ≤ F ∧ i = .int .i64 j ∧ t = .string ⟨(UInt8.ofNat k.toNat :: (cl ++ Fl.codedAll ([a, b, c].take j))).toArray⟩ ∧ Below ((w1.alloc (.cells #[.int .u8 k] 5)).alloc (.cells #[.int .i64 a, .int .i64 b, .int .i64 c] 3)).heap.size ((w1.alloc (.cells #[.int .u8 k] 5)).alloc (.cells #[.int .i64 a, .int .i64 b, .int .i64 c] 3)) wr) (fun _ i _ => F.toNat - (intOf i).toNat)
  case atStart => exact ⟨0, by omega, rfl, by rw [show (⟨#[UInt8.ofNat k.toNat]⟩ : ByteArray) = ⟨[UInt8.ofNat k.toNat].toArray⟩ from rfl, app_bytes]; simp [Fl.codedAll], Below.refl _ _⟩
  case round =>
    obtain ⟨j, hj, rfl, rfl, hbr⟩ := hrel
    have hrs := hbr.size
    simp at hrs
    by_cases hlt : (j : Int) < F
    · rcases (show j = 0 ∨ j = 1 ∨ j = 2 from by omega) with rfl | rfl | rfl
      · have hcell : wr.cell? ⟨w1.heap.size + 1, 0, none⟩ = some (.int .i64 a) := (hbr.cell (p := ⟨w1.heap.size + 1, 0, none⟩) (by simp)).trans (by simp)
        have hp := Fl.codedAll_len ([a, b, c].take 0)
        have hp2 : ([a, b, c].take 0).length ≤ 3 := by simp
        generalize hq : Fl.codedAll ([a, b, c].take 0) = pre at *
        have HP : Hid (Fl.codedAll ([a, b, c].take 0) = pre) := hq
        clear hq
        have hcl := Fl.coded_len a.toNat
        go_wp2_with fail
        refine (coded_int a _ ha0 ha1).mono ?_
        rintro e w2 ⟨rfl, hb2⟩
        have HB : Hid (Below ((w1.alloc (.cells #[.int .u8 k] 5)).alloc (.cells #[.int .i64 a, .int .i64 b, .int .i64 c] 3)).heap.size ((w1.alloc (.cells #[.int .u8 k] 5)).alloc (.cells #[.int .i64 a, .int .i64 b, .int .i64 c] 3)) w2) := hbr.trans (hb2.mono (by simp; omega))
        generalize hq : Fl.coded a.toNat = cx at *
        have HX : Hid (Fl.coded a.toNat = cx) := hq
        clear hq hbr hb2 hcell hcB hfB
        go_wp2
        go_roundw
        case rel => exact ⟨1, by omega, by go_num, by rw [app_bytes, Fl.take_snocI _ 0 (by simp), Fl.codedAll_snoc, HP.out, ← HX.out]; simp, HB.out⟩
        case measure => simp [intOf]; omega
      · have hcell : wr.cell? ⟨w1.heap.size + 1, 1, none⟩ = some (.int .i64 b) := (hbr.cell (p := ⟨w1.heap.size + 1, 1, none⟩) (by simp)).trans (by simp)
        have hp := Fl.codedAll_len ([a, b, c].take 1)
        have hp2 : ([a, b, c].take 1).length ≤ 3 := by simp
        generalize hq : Fl.codedAll ([a, b, c].take 1) = pre at *
        have HP : Hid (Fl.codedAll ([a, b, c].take 1) = pre) := hq
        clear hq
        have hcl := Fl.coded_len b.toNat
        go_wp2_with fail
        refine (coded_int b _ hb0 hb1).mono ?_
        rintro e w2 ⟨rfl, hb2⟩
        have HB : Hid (Below ((w1.alloc (.cells #[.int .u8 k] 5)).alloc (.cells #[.int .i64 a, .int .i64 b, .int .i64 c] 3)).heap.size ((w1.alloc (.cells #[.int .u8 k] 5)).alloc (.cells #[.int .i64 a, .int .i64 b, .int .i64 c] 3)) w2) := hbr.trans (hb2.mono (by simp; omega))
        generalize hq : Fl.coded b.toNat = cx at *
        have HX : Hid (Fl.coded b.toNat = cx) := hq
        clear hq hbr hb2 hcell hcB hfB
        go_wp2
        go_roundw
        case rel => exact ⟨2, by omega, by go_num, by rw [app_bytes, Fl.take_snocI _ 1 (by simp), Fl.codedAll_snoc, HP.out, ← HX.out]; simp, HB.out⟩
        case measure => simp [intOf]; omega
      · have hcell : wr.cell? ⟨w1.heap.size + 1, 2, none⟩ = some (.int .i64 c) := (hbr.cell (p := ⟨w1.heap.size + 1, 2, none⟩) (by simp)).trans (by simp)
        have hp := Fl.codedAll_len ([a, b, c].take 2)
        have hp2 : ([a, b, c].take 2).length ≤ 3 := by simp
        generalize hq : Fl.codedAll ([a, b, c].take 2) = pre at *
        have HP : Hid (Fl.codedAll ([a, b, c].take 2) = pre) := hq
        clear hq
        have hcl := Fl.coded_len c.toNat
        go_wp2_with fail
        refine (coded_int c _ hc0 hc1).mono ?_
        rintro e w2 ⟨rfl, hb2⟩
        have HB : Hid (Below ((w1.alloc (.cells #[.int .u8 k] 5)).alloc (.cells #[.int .i64 a, .int .i64 b, .int .i64 c] 3)).heap.size ((w1.alloc (.cells #[.int .u8 k] 5)).alloc (.cells #[.int .i64 a, .int .i64 b, .int .i64 c] 3)) w2) := hbr.trans (hb2.mono (by simp; omega))
        generalize hq : Fl.coded c.toNat = cx at *
        have HX : Hid (Fl.coded c.toNat = cx) := hq
        clear hq hbr hb2 hcell hcB hfB
        go_wp2
        go_roundw
        case rel => exact ⟨3, by omega, by go_num, by rw [app_bytes, Fl.take_snocI _ 2 (by simp), Fl.codedAll_snoc, HP.out, ← HX.out]; simp, HB.out⟩
        case measure => simp [intOf]; omega
    · have hjF : F.toNat = j := by omega
      have HJ : Hid (F.toNat = j) := hjF
      clear hjF
      go_wp2
      go_ret
      exact ⟨ret_string (by rw [HJ.out, HG.out]), (((Below.refl _ _).alloc (Nat.le_refl _) _).trans (hb1w.mono (by simp))).trans ((((Below.refl _ _).alloc (by omega) _).alloc (by simp; omega) _).trans (hbr.mono (by simp; omega)))⟩
end Go.Proofs.YtbihjgfbocpobaaGreatDoor

/- The reference's node, of a Block; of every node. -/
set_option linter.unusedSimpArgs false
set_option linter.unusedVariables false
namespace Go.Proofs.YtbihjgfbocpobaaGreatDoor
open Go.RowKit

set_option maxRecDepth 100000 in
set_option maxHeartbeats 4000000 in
theorem node_list (k l a b c : Int) (xs : List Int) (n : Nat) (ao : Option Addr) (cap : Nat) (w : World) (hk0 : 0 ≤ k) (hk1 : k ≤ 7) (hl0 : 0 ≤ l) (hl1 : l < 2147483648) (hn : n ≤ 16) (hxl : xs.length = n) (hall : ∀ x ∈ xs, 0 ≤ x ∧ x < 2147483648)
    (H : Hid (∀ w, Calls Tryz.prog 21 #[.int .i64 k] w fun e w' => e = .returned (.int .i64 (-1)) ∧ w' = w))
    (hcx : xs ≠ [] → ∃ p q, ao = some ⟨p, q, none⟩ ∧ p < w.heap.size ∧ ∀ i, i < n → w.cell? ⟨p, q + i, none⟩ = some (.int .i64 (xs.getD i 0))) :
    Calls Tryz.prog 28 #[.agg #[.int .i64 k, .int .i64 l, .int .i64 a, .int .i64 b, .int .i64 c, .slice ao n cap]] w
      fun e w' => e = .returned (.string ⟨(UInt8.ofNat k.toNat :: (Fl.coded l.toNat ++ (Fl.coded n ++ Fl.codedAll xs))).toArray⟩) ∧ Below w.heap.size w w' := by
  have HX : Hid (xs ≠ [] → ∃ p q, ao = some ⟨p, q, none⟩ ∧ p < w.heap.size ∧ ∀ i, i < n → w.cell? ⟨p, q + i, none⟩ = some (.int .i64 (xs.getD i 0))) := hcx
  have HXL : Hid (xs.length = n) := hxl
  have HA : Hid (∀ x ∈ xs, 0 ≤ x ∧ x < 2147483648) := hall
  clear hcx hxl hall
  have hcv := fun w => conv_byte k w
  go_enter Tryz.func28, Tryz.ntmps28
  go_wp2_with fail
  refine (coded_int l _ hl0 hl1).mono ?_
  rintro e w1 ⟨rfl, hb1w⟩
  have hz1 : w.heap.size < w1.heap.size := by have := hb1w.size; simp at this; omega
  obtain ⟨hcB, hfB⟩ := bcell hb1w
  have hcw := hcv w1
  clear hcv
  have hlen := Fl.coded_len l.toNat
  generalize hg : Fl.coded l.toNat = cl at *
  have HG : Hid (Fl.coded l.toNat = cl) := hg
  clear hg
  have hnn : (0 : Int) ≤ (n : Int) := by omega
  have hnm : (n : Int) < 2147483648 := by omega
  have hlen2 := Fl.coded_len n
  generalize hg : Fl.coded n = cn at *
  have HGN : Hid (Fl.coded n = cn) := hg
  clear hg
  go_wp2_with (first | (go_at_call 21; refine (H.out _).mono ?_; rintro e w' ⟨rfl, rfl⟩) | fail)
  refine (coded_int n _ hnn hnm).mono ?_
  rintro e w2 ⟨rfl, hb2w⟩
  rw [show ((n : Int)).toNat = n from by omega, HGN.out]
  have hz2 : w1.heap.size + 1 < w2.heap.size := by have := hb2w.size; simp at this; omega
  have hbox : w2.cell? ⟨w.heap.size, 5, none⟩ = some (.slice ao n cap) := by
    rw [hb2w.cell (p := ⟨w.heap.size, 5, none⟩) (by simp; omega), World.cell?_alloc_lt _ _ _ (by simp; omega), World.cell?_alloc_lt _ _ _ (by simp; omega), hcB _ _ (by simp)]; simp
  have HB0 : Hid (Below w.heap.size w w2) := (((Below.refl _ _).alloc (Nat.le_refl _) _).trans (hb1w.mono (by simp))).trans ((((Below.refl _ _).alloc (by omega) _).alloc (by simp; omega) _).trans (hb2w.mono (by simp; omega)))
  clear hb1w hb2w hcB hfB hcw
  go_wp2
  go_loopw [4, 8] (fun t i wr => ∃ j : Nat, j ≤ n ∧ i = .int .i64 j ∧ t = .string ⟨(UInt8.ofNat k.toNat :: (cl ++ (cn ++ Fl.codedAll (xs.take j)))).toArray⟩ ∧ Below w.heap.size w wr) (fun _ i _ => n - (intOf i).toNat)
  case atStart => exact ⟨0, by omega, rfl, by rw [show (⟨#[UInt8.ofNat k.toNat]⟩ : ByteArray) = ⟨[UInt8.ofNat k.toNat].toArray⟩ from rfl, app_bytes, app_bytes]; simp [Fl.codedAll], HB0.out⟩
  case round =>
    obtain ⟨j, hj, rfl, rfl, hbr⟩ := hrel
    have hrs := hbr.size
    by_cases hlt : j < n
    · obtain ⟨p, q, rfl, hp, hc⟩ := HX.out (by intro h; have := HXL.out; rw [h] at this; simp at this; omega)
      have hcj : wr.cell? ⟨p, q + j, none⟩ = some (.int .i64 (xs.getD j 0)) := (hbr.cell (p := ⟨p, q + j, none⟩) hp).trans (hc j hlt)
      have hxb := HA.out _ (getD_mem (xs := xs) (j := j) (by have := HXL.out; omega))
      obtain ⟨x, hx⟩ : ∃ x, x = xs.getD j 0 := ⟨_, rfl⟩
      rw [← hx] at hcj hxb
      have HXJ : Hid (x = xs.getD j 0) := hx
      obtain ⟨hx0, hx1⟩ := hxb
      have hpl := Fl.codedAll_len (xs.take j)
      have hpl2 : (xs.take j).length ≤ 16 := by have := HXL.out; simp; omega
      generalize hq : Fl.codedAll (xs.take j) = pre at *
      have HP : Hid (Fl.codedAll (xs.take j) = pre) := hq
      have hcl := Fl.coded_len x.toNat
      clear hq hx hc HX hbox
      have hji : (j : Int) < (n : Int) := by omega
      go_wp2_with fail
      refine (coded_int x _ hx0 hx1).mono ?_
      rintro e w3 ⟨rfl, hb3⟩
      have HB : Hid (Below w.heap.size w w3) := hbr.trans (hb3.mono (by omega))
      generalize hq : Fl.coded x.toNat = cx at *
      have HC : Hid (Fl.coded x.toNat = cx) := hq
      clear hq hbr hb3 hcj
      go_wp2
      go_roundw
      case rel => exact ⟨j + 1, by omega, by go_num, by rw [app_bytes, Fl.take_snocI _ j (by have := HXL.out; omega), Fl.codedAll_snoc, HP.out, ← HXJ.out, HC.out]; simp, HB.out⟩
      case measure => simp [intOf]; omega
    · have hfin : xs.take j = xs := List.take_of_length_le (by have := HXL.out; omega)
      have HJ : Hid (xs.take j = xs) := hfin
      clear hfin
      go_wp2
      go_ret
      exact ⟨ret_string (by rw [HJ.out, HG.out, HGN.out]), hbr⟩

theorem inR_iff {x : Int} : Fl.inR x = true ↔ 0 ≤ x ∧ x < 2147483648 := by simp [Fl.inR]
theorem okV_range {F i x : Int} (h : Fl.okV F i x = true) : 0 ≤ x ∧ x < 2147483648 := by
  unfold Fl.okV at h; rw [Bool.and_eq_true] at h; exact inR_iff.1 h.1
theorem fields_kind {k : Int} (h : Fl.fields k ≠ -2) : 0 ≤ k ∧ k ≤ 7 := by
  unfold Fl.fields at h; repeat' split at h <;> omega
theorem fields_neg {k : Int} (h : Fl.fields k < 0) (h2 : Fl.fields k ≠ -2) : Fl.fields k = -1 := by have := Fl.fields_lt k; omega

/-- node, of every node whose numbers are as they must be. -/
theorem node_any (x : Fl.Node) (lv : Value) (B : Nat) (w : World) (hB : B ≤ w.heap.size) (hx : IntsAt B w lv x.list) (hs : Fl.sound x = true) :
    Calls Tryz.prog 28 #[nodeV x lv] w fun e w' => e = .returned (.string ⟨(Fl.nodeBytes x).toArray⟩) ∧ Below w.heap.size w w' := by
  obtain ⟨k, l, a, b, c, xs⟩ := x
  unfold nodeV
  simp only at hx ⊢
  simp only [Fl.sound, Bool.and_eq_true, decide_eq_true_eq] at hs
  obtain ⟨s1, s2, s3, s4, s5, s6, s7, s8⟩ := hs
  have hk := fields_kind s1
  have hl := inR_iff.1 s2
  obtain ⟨ao, cap, rfl, _, hm, hc⟩ := hx
  by_cases hF : Fl.fields k < 0
  · have hF1 := fields_neg hF s1
    have H : Hid (∀ w, Calls Tryz.prog 21 #[.int .i64 k] w fun e w' => e = .returned (.int .i64 (-1)) ∧ w' = w) := fun w => by have := fields_any k w; rwa [hF1] at this
    have he : Fl.nodeBytes ⟨k, l, a, b, c, xs⟩ = UInt8.ofNat k.toNat :: (Fl.coded l.toNat ++ (Fl.coded xs.length ++ Fl.codedAll xs)) := by
      simp only [Fl.nodeBytes, Fl.nodeNums, if_pos hF]
    rw [he]
    refine node_list k l a b c xs xs.length ao cap w hk.1 hk.2 hl.1 hl.2 s3 rfl (fun x hx => inR_iff.1 (List.all_eq_true.1 s7 x hx)) H ?_
    intro hne
    obtain ⟨p, q, ha, hp, hcell⟩ := hc hne
    exact ⟨p, q, ha, by omega, hcell⟩
  · have H : Hid (∀ w, Calls Tryz.prog 21 #[.int .i64 k] w fun e w' => e = .returned (.int .i64 (Fl.fields k)) ∧ w' = w) := fun w => fields_any k w
    have he : Fl.nodeBytes ⟨k, l, a, b, c, xs⟩ = UInt8.ofNat k.toNat :: (Fl.coded l.toNat ++ Fl.codedAll ([a, b, c].take (Fl.fields k).toNat)) := by
      simp only [Fl.nodeBytes, Fl.nodeNums, if_neg hF, List.nil_append]
    rw [he]
    exact node_some k l a b c _ _ ao cap w hk.1 hk.2 hl.1 hl.2 (by omega) (Fl.fields_lt k).2 (okV_range s4) (okV_range s5) (okV_range s6) H
end Go.Proofs.YtbihjgfbocpobaaGreatDoor
