/- Texts RefJ RefK RefL RefM. -/
import Derived.Test.YtbihjgfbocpobaaGreatDoorM10
import Derived.Deep.RegionWith
/- The reference's sound. -/
set_option linter.unusedSimpArgs false
set_option linter.unusedVariables false
namespace Go.Proofs.YtbihjgfbocpobaaGreatDoor
open Go.RowKit

set_option maxRecDepth 100000 in
set_option maxHeartbeats 2000000 in
theorem sound_early (k l a b c F : Int) (n : Nat) (ao : Option Addr) (cap : Nat) (w : World) (hn : n ≤ 9223372036854775807)
    (H : Hid (∀ w, Calls Tryz.prog 21 #[.int .i64 k] w fun e w' => e = .returned (.int .i64 F) ∧ w' = w)) (h : F = -2 ∨ l < 0 ∨ 2147483648 ≤ l ∨ 16 < n) :
    Calls Tryz.prog 33 #[.agg #[.int .i64 k, .int .i64 l, .int .i64 a, .int .i64 b, .int .i64 c, .slice ao n cap]] w fun e w' => e = .returned (.bool false) ∧ Below w.heap.size w w' := by
  by_cases h0 : F = -2
  · have b0 : (F == -2) = true := by simp [h0]
    clear h0 h
    go_enter Tryz.func33, Tryz.ntmps33
    go_wp2_with (go_at_call 21; refine (H.out _).mono ?_; rintro e w' ⟨rfl, rfl⟩)
    go_ret
    exact ⟨rfl, (Below.refl _ _).alloc (Nat.le_refl _) _⟩
  · have b0 : (F == -2) = false := by simp [h0]
    by_cases h1 : l < 0
    · clear h0 h
      go_enter Tryz.func33, Tryz.ntmps33
      go_wp2_with (go_at_call 21; refine (H.out _).mono ?_; rintro e w' ⟨rfl, rfl⟩)
      go_ret
      exact ⟨rfl, (Below.refl _ _).alloc (Nat.le_refl _) _⟩
    · by_cases h2 : 2147483648 ≤ l
      · clear h0 h
        go_enter Tryz.func33, Tryz.ntmps33
        go_wp2_with (go_at_call 21; refine (H.out _).mono ?_; rintro e w' ⟨rfl, rfl⟩)
        go_ret
        exact ⟨rfl, (Below.refl _ _).alloc (Nat.le_refl _) _⟩
      · have h3 : (16 : Int) < (n : Int) := by omega
        clear h0 h
        go_enter Tryz.func33, Tryz.ntmps33
        go_wp2_with (go_at_call 21; refine (H.out _).mono ?_; rintro e w' ⟨rfl, rfl⟩)
        go_ret
        exact ⟨rfl, (Below.refl _ _).alloc (Nat.le_refl _) _⟩

theorem okV_bad1 {F i x : Int} (hF : F ≤ i) (h : (x < 0 ∨ 2147483648 ≤ x) ∨ (x != 0) = true) : Fl.okV F i x = false := by
  unfold Fl.okV Fl.inR
  rcases h with (h | h) | h
  · rw [decide_eq_false (by omega : ¬ 0 ≤ x)]; simp
  · rw [decide_eq_false (by omega : ¬ x < 2147483648)]; simp
  · rw [decide_eq_false (by omega : ¬ i < F)]; rw [bne_iff_ne] at h; simp [h]
theorem okV_bad2 {F i x : Int} (h : 2147483648 ≤ x) : Fl.okV F i x = false := by
  unfold Fl.okV Fl.inR; rw [decide_eq_false (by omega : ¬ x < 2147483648)]; simp
theorem okV_bad3 {F i x : Int} (h : x < 0) : Fl.okV F i x = false := by
  unfold Fl.okV Fl.inR; rw [decide_eq_false (by omega : ¬ 0 ≤ x)]; simp
theorem okV_ok {F i x : Int} (h0 : 0 ≤ x) (h1 : x < 2147483648) (h : i < F ∨ (x != 0) = false) : Fl.okV F i x = true := by
  unfold Fl.okV Fl.inR; rw [decide_eq_true h0, decide_eq_true h1]
  rcases h with h | h
  · simp [h]
  · have : x = 0 := by simpa using h
    simp [this]
theorem okV_ok' {F i x : Int} (h0 : 0 ≤ x) (h1 : x < 2147483648) (h : ¬ F ≤ i) : Fl.okV F i x = true := okV_ok h0 h1 (Or.inl (by omega))

theorem inR_bad {x : Int} (h : x < 0 ∨ 2147483648 ≤ x) : Fl.inR x = false := by
  unfold Fl.inR; rcases h with h | h
  · rw [decide_eq_false (by omega : ¬ 0 ≤ x)]; simp
  · rw [decide_eq_false (by omega : ¬ x < 2147483648)]; simp
theorem inR_ok {x : Int} (h : 0 ≤ x ∧ x < 2147483648) : Fl.inR x = true := by
  unfold Fl.inR; rw [decide_eq_true h.1, decide_eq_true h.2]; rfl
theorem getD_mem {xs : List Int} {j : Nat} (h : j < xs.length) : xs.getD j 0 ∈ xs := by
  rw [List.getD_eq_getElem?_getD, List.getElem?_eq_getElem h]; exact List.getElem_mem h
theorem all_bad {xs : List Int} {j : Nat} {p : Int → Bool} (h : j < xs.length) (hp : p (xs.getD j 0) = false) : xs.all p = false := by
  rw [Bool.eq_false_iff]; intro hh; rw [List.all_eq_true.1 hh _ (getD_mem h)] at hp; exact absurd hp (by simp)
theorem all_good {xs : List Int} {p : Int → Bool} (h : ∀ t, t < xs.length → p (xs.getD t 0) = true) : xs.all p = true := by
  rw [List.all_eq_true]; intro x hx
  obtain ⟨i, hi, rfl⟩ := List.getElem_of_mem hx
  have := h i hi; rwa [List.getD_eq_getElem?_getD, List.getElem?_eq_getElem hi] at this

/-- Of A, B, C the j-th. -/
def abc (a b c : Int) (j : Nat) : Int := if j = 0 then a else if j = 1 then b else c

set_option maxRecDepth 100000 in
set_option maxHeartbeats 4000000 in
theorem sound_late (k l a b c F : Int) (xs : List Int) (n : Nat) (ao : Option Addr) (cap : Nat) (w : World) (hx : xs.length = n) (hF : -2 < F) (hF3 : F ≤ 3) (hl0 : ¬ l < 0) (hl1 : ¬ 2147483648 ≤ l) (hn : n ≤ 16)
    (H : Hid (∀ w, Calls Tryz.prog 21 #[.int .i64 k] w fun e w' => e = .returned (.int .i64 F) ∧ w' = w))
    (hcx : ∀ o o', xs ≠ [] → ∃ p q, ao = some ⟨p, q, none⟩ ∧ ∀ i, i < n → ((w.alloc o).alloc o').cell? ⟨p, q + i, none⟩ = some (.int .i64 (xs.getD i 0))) :
    Calls Tryz.prog 33 #[.agg #[.int .i64 k, .int .i64 l, .int .i64 a, .int .i64 b, .int .i64 c, .slice ao n cap]] w
      fun e w' => e = .returned (.bool (Fl.okV F 0 a && (Fl.okV F 1 b && (Fl.okV F 2 c && (xs.all Fl.inR && (decide (F = -1) || decide (xs = []))))))) ∧ Below w.heap.size w w' := by
  have HX : Hid (∀ o o', xs ≠ [] → ∃ p q, ao = some ⟨p, q, none⟩ ∧ ∀ i, i < n → ((w.alloc o).alloc o').cell? ⟨p, q + i, none⟩ = some (.int .i64 (xs.getD i 0))) := hcx
  have HXL : Hid (xs.length = n) := hx
  clear hcx hx
  have b0 : (F == -2) = false := beq_eq_false_iff_ne.2 (by omega)
  have hn16 : ¬ (16 : Int) < (n : Int) := by omega
  go_enter Tryz.func33, Tryz.ntmps33
  go_wp2_with (go_at_call 21; refine (H.out _).mono ?_; rintro e w' ⟨rfl, rfl⟩)
  go_loop [5] (fun i => ∃ j : Nat, j ≤ 3 ∧ i = .int .i64 j ∧ ∀ t : Nat, t < j → Fl.okV F t (abc a b c t) = true) (fun i => 3 - (intOf i).toNat)
  case atStart => exact ⟨0, by omega, rfl, fun t ht => by omega⟩
  case round =>
    obtain ⟨j, hj, rfl, hall⟩ := hrel
    have HA : Hid (∀ t : Nat, t < j → Fl.okV F t (abc a b c t) = true) := hall
    clear hall
    rcases (show j = 0 ∨ j = 1 ∨ j = 2 ∨ j = 3 from by omega) with rfl | rfl | rfl | rfl
    · go_wp2
      · have hb : Fl.okV F 0 a = false := okV_bad1 (by assumption) (by assumption)
        go_ret
        exact ⟨ret_bool (by rw [hb]; simp), ((Below.refl _ _).alloc (Nat.le_refl _) _).alloc (by simp) _⟩
      · have hb : Fl.okV F 0 a = true := okV_ok (by assumption) (by assumption) (Or.inr (And.right (a := 0 ≤ a ∧ a < 2147483648) (by assumption)))
        go_round
        case rel => exact ⟨1, by omega, rfl, fun t ht => by
          by_cases h : t < 0
          · exact HA.out t h
          · have : t = 0 := by omega
            subst this; simpa [abc] using hb⟩
        case measure => simp [intOf]
      · have hb : Fl.okV F 0 a = true := okV_ok' (by assumption) (by assumption) (by assumption)
        go_round
        case rel => exact ⟨1, by omega, rfl, fun t ht => by
          by_cases h : t < 0
          · exact HA.out t h
          · have : t = 0 := by omega
            subst this; simpa [abc] using hb⟩
        case measure => simp [intOf]
      · have hb : Fl.okV F 0 a = false := okV_bad2 (by assumption)
        go_ret
        exact ⟨ret_bool (by rw [hb]; simp), ((Below.refl _ _).alloc (Nat.le_refl _) _).alloc (by simp) _⟩
      · have hb : Fl.okV F 0 a = false := okV_bad3 (by assumption)
        go_ret
        exact ⟨ret_bool (by rw [hb]; simp), ((Below.refl _ _).alloc (Nat.le_refl _) _).alloc (by simp) _⟩
    · go_wp2
      · have hb : Fl.okV F 1 b = false := okV_bad1 (by assumption) (by assumption)
        go_ret
        exact ⟨ret_bool (by rw [hb]; simp), ((Below.refl _ _).alloc (Nat.le_refl _) _).alloc (by simp) _⟩
      · have hb : Fl.okV F 1 b = true := okV_ok (by assumption) (by assumption) (Or.inr (And.right (a := 0 ≤ b ∧ b < 2147483648) (by assumption)))
        go_round
        case rel => exact ⟨2, by omega, rfl, fun t ht => by
          by_cases h : t < 1
          · exact HA.out t h
          · have : t = 1 := by omega
            subst this; simpa [abc] using hb⟩
        case measure => simp [intOf]
      · have hb : Fl.okV F 1 b = true := okV_ok' (by assumption) (by assumption) (by assumption)
        go_round
        case rel => exact ⟨2, by omega, rfl, fun t ht => by
          by_cases h : t < 1
          · exact HA.out t h
          · have : t = 1 := by omega
            subst this; simpa [abc] using hb⟩
        case measure => simp [intOf]
      · have hb : Fl.okV F 1 b = false := okV_bad2 (by assumption)
        go_ret
        exact ⟨ret_bool (by rw [hb]; simp), ((Below.refl _ _).alloc (Nat.le_refl _) _).alloc (by simp) _⟩
      · have hb : Fl.okV F 1 b = false := okV_bad3 (by assumption)
        go_ret
        exact ⟨ret_bool (by rw [hb]; simp), ((Below.refl _ _).alloc (Nat.le_refl _) _).alloc (by simp) _⟩
    · go_wp2
      · have hb : Fl.okV F 2 c = false := okV_bad1 (by assumption) (by assumption)
        go_ret
        exact ⟨ret_bool (by rw [hb]; simp), ((Below.refl _ _).alloc (Nat.le_refl _) _).alloc (by simp) _⟩
      · have hb : Fl.okV F 2 c = true := okV_ok (by assumption) (by assumption) (Or.inr (And.right (a := 0 ≤ c ∧ c < 2147483648) (by assumption)))
        go_round
        case rel => exact ⟨3, by omega, rfl, fun t ht => by
          by_cases h : t < 2
          · exact HA.out t h
          · have : t = 2 := by omega
            subst this; simpa [abc] using hb⟩
        case measure => simp [intOf]
      · have hb : Fl.okV F 2 c = true := okV_ok' (by assumption) (by assumption) (by assumption)
        go_round
        case rel => exact ⟨3, by omega, rfl, fun t ht => by
          by_cases h : t < 2
          · exact HA.out t h
          · have : t = 2 := by omega
            subst this; simpa [abc] using hb⟩
        case measure => simp [intOf]
      · have hb : Fl.okV F 2 c = false := okV_bad2 (by assumption)
        go_ret
        exact ⟨ret_bool (by rw [hb]; simp), ((Below.refl _ _).alloc (Nat.le_refl _) _).alloc (by simp) _⟩
      · have hb : Fl.okV F 2 c = false := okV_bad3 (by assumption)
        go_ret
        exact ⟨ret_bool (by rw [hb]; simp), ((Below.refl _ _).alloc (Nat.le_refl _) _).alloc (by simp) _⟩
    · have q0 : Fl.okV F 0 a = true := HA.out 0 (by omega)
      have q1 : Fl.okV F 1 b = true := HA.out 1 (by omega)
      have q2 : Fl.okV F 2 c = true := HA.out 2 (by omega)
      have HQ : Hid ((Fl.okV F 0 a && (Fl.okV F 1 b && (Fl.okV F 2 c && (xs.all Fl.inR && (decide (F = -1) || decide (xs = [])))))) = (xs.all Fl.inR && (decide (F = -1) || decide (xs = [])))) := by rw [q0, q1, q2]; simp [Hid]
      clear q0 q1 q2
      go_wp2
      go_loop [6] (fun i => ∃ j : Nat, j ≤ n ∧ i = .int .i64 j ∧ ∀ t : Nat, t < j → Fl.inR (xs.getD t 0) = true) (fun i => n - (intOf i).toNat)
      case atStart => exact ⟨0, by omega, rfl, fun t ht => by omega⟩
      case round =>
        obtain ⟨j, hj, rfl, hall⟩ := hrel
        have HB : Hid (∀ t : Nat, t < j → Fl.inR (xs.getD t 0) = true) := hall
        clear hall
        by_cases hlt : j < n
        · obtain ⟨p, q, rfl, hc⟩ := HX.out (.cells #[.int .i64 k, .int .i64 l, .int .i64 a, .int .i64 b, .int .i64 c, .slice ao n cap] 53) (.cells #[.int .i64 a, .int .i64 b, .int .i64 c] 3) (by intro h; have := HXL.out; rw [h] at this; simp at this; omega)
          have hcj := hc j hlt
          obtain ⟨x, hx⟩ : ∃ x, x = xs.getD j 0 := ⟨_, rfl⟩
          rw [← hx] at hcj
          have HXJ : Hid (x = xs.getD j 0) := hx
          have hji : (j : Int) < (n : Int) := by omega
          clear hc hx HX
          go_wp2
          · have hb : xs.all Fl.inR = false := all_bad (j := j) (by have := HXL.out; omega) (by rw [← HXJ.out]; exact inR_bad (by assumption))
            go_ret
            exact ⟨ret_bool (by rw [HQ.out, hb]; simp), ((Below.refl _ _).alloc (Nat.le_refl _) _).alloc (by simp) _⟩
          · have hb : Fl.inR x = true := inR_ok (by assumption)
            go_round
            case rel => exact ⟨j + 1, by omega, by go_num, fun t ht => by
              by_cases h : t < j
              · exact HB.out t h
              · have : t = j := by omega
                subst this; rw [← HXJ.out]; exact hb⟩
            case measure => simp [intOf]; omega
          · have hb : xs.all Fl.inR = false := all_bad (j := j) (by have := HXL.out; omega) (by rw [← HXJ.out]; exact inR_bad (Or.inl (by assumption)))
            go_ret
            exact ⟨ret_bool (by rw [HQ.out, hb]; simp), ((Below.refl _ _).alloc (Nat.le_refl _) _).alloc (by simp) _⟩
        · have hb : xs.all Fl.inR = true := all_good (fun t ht => HB.out t (by have := HXL.out; omega))
          have HBB : Hid (xs.all Fl.inR = true) := hb
          clear hb
          go_wp2
          · have hF1 : F = -1 := by assumption
            go_ret
            have q0 : Fl.okV F 0 a = true := HA.out 0 (by omega)
            have q1 : Fl.okV F 1 b = true := HA.out 1 (by omega)
            have q2 : Fl.okV F 2 c = true := HA.out 2 (by omega)
            rw [hF1] at q0 q1 q2
            exact ⟨ret_bool (by rw [q0, q1, q2, HBB.out]; rfl), ((Below.refl _ _).alloc (Nat.le_refl _) _).alloc (by simp) _⟩
          · have hF1 : ¬ F = -1 := by assumption
            go_ret
            refine ⟨ret_bool ?_, ((Below.refl _ _).alloc (Nat.le_refl _) _).alloc (by simp) _⟩
            have q0 : Fl.okV F 0 a = true := HA.out 0 (by omega)
            have q1 : Fl.okV F 1 b = true := HA.out 1 (by omega)
            have q2 : Fl.okV F 2 c = true := HA.out 2 (by omega)
            rw [q0, q1, q2, HBB.out, Bool.true_and, Bool.true_and, Bool.true_and, Bool.true_and, Bool.eq_iff_iff]
            have := HXL.out
            simp only [Bool.or_eq_true, beq_iff_eq, decide_eq_true_eq]
            rw [← List.length_eq_zero_iff]; omega

/-- sound, of every node. -/
theorem sound_any (x : Fl.Node) (lv : Value) (B : Nat) (w : World) (hB : B ≤ w.heap.size) (hx : IntsAt B w lv x.list) :
    Calls Tryz.prog 33 #[nodeV x lv] w fun e w' => e = .returned (.bool (Fl.sound x)) ∧ Below w.heap.size w w' := by
  obtain ⟨k, l, a, b, c, xs⟩ := x
  unfold nodeV
  simp only at hx ⊢
  obtain ⟨ao, cap, rfl, _, hm, _⟩ := id hx
  unfold maxLen at hm
  have H : Hid (∀ w, Calls Tryz.prog 21 #[.int .i64 k] w fun e w' => e = .returned (.int .i64 (Fl.fields k)) ∧ w' = w) := fun w => fields_any k w
  have hf := Fl.fields_lt k
  by_cases h : Fl.fields k = -2 ∨ l < 0 ∨ 2147483648 ≤ l ∨ 16 < xs.length
  · have he : Fl.sound ⟨k, l, a, b, c, xs⟩ = false := by
      unfold Fl.sound Fl.inR
      rcases h with h | h | h | h
      · simp [h]
      · simp only [decide_eq_false (by omega : ¬ 0 ≤ l)]; simp
      · simp only [decide_eq_false (by omega : ¬ l < 2147483648)]; simp
      · simp only [decide_eq_false (by omega : ¬ xs.length ≤ 16)]; simp
    rw [he]
    exact sound_early k l a b c _ _ ao cap w (by omega) H h
  · have h1 : Fl.fields k ≠ -2 := by omega
    have h2 : 0 ≤ l := by omega
    have h3 : l < 2147483648 := by omega
    have h4 : xs.length ≤ 16 := by omega
    have he : Fl.sound ⟨k, l, a, b, c, xs⟩ = (Fl.okV (Fl.fields k) 0 a && (Fl.okV (Fl.fields k) 1 b && (Fl.okV (Fl.fields k) 2 c && (xs.all Fl.inR && (decide (Fl.fields k = -1) || decide (xs = [])))))) := by
      unfold Fl.sound; simp only [decide_eq_true h1, inR_ok ⟨h2, h3⟩, decide_eq_true h4, Bool.true_and]
    rw [he]
    have hb2 : ∀ o o', Below B w ((w.alloc o).alloc o') := fun o o' => ((Below.refl _ _).alloc hB _).alloc (by simp; omega) _
    refine sound_late k l a b c _ xs xs.length ao cap w rfl (by omega) hf.2 (by omega) (by omega) h4 H ?_
    intro o o' hne
    obtain ⟨ao2, cap2, hv, _, _, hc⟩ := hx.below (hb2 o o')
    obtain ⟨p, q, ha, _, hcell⟩ := hc hne
    simp only [Value.slice.injEq] at hv
    exact ⟨p, q, hv.1.trans ha, hcell⟩
end Go.Proofs.YtbihjgfbocpobaaGreatDoor

/- The reference's node. -/
set_option linter.unusedSimpArgs false
set_option linter.unusedVariables false
namespace Go.Proofs.YtbihjgfbocpobaaGreatDoor
open Go.RowKit

theorem coded_int (v : Int) (w : World) (h0 : 0 ≤ v) (h1 : v < 2147483648) : Calls Tryz.prog 27 #[.int .i64 v] w fun e w' => e = .returned (.string ⟨(Fl.coded v.toNat).toArray⟩) ∧ Below w.heap.size w w' := by
  obtain ⟨n, rfl⟩ := Int.eq_ofNat_of_zero_le h0
  exact coded_any n w (by omega)

theorem bcell {W w1 : World} (hb : Below W.heap.size W w1) : (∀ b o, b < W.heap.size → w1.cell? ⟨b, o, none⟩ = W.cell? ⟨b, o, none⟩) ∧ (∀ b o, b < W.heap.size → w1.frozen? ⟨b, o, none⟩ = W.frozen? ⟨b, o, none⟩) :=
  ⟨fun b o h => hb.cell (p := ⟨b, o, none⟩) h, fun b o h => hb.frozen (p := ⟨b, o, none⟩) h⟩
theorem app_bytes (x y : List UInt8) : (⟨x.toArray⟩ : ByteArray) ++ ⟨y.toArray⟩ = ⟨(x ++ y).toArray⟩ := ByteArray.mk_append_mk x y

set_option maxRecDepth 100000 in
set_option maxHeartbeats 4000000 in
theorem node_some (k l a b c F : Int) (n : Nat) (ao : Option Addr) (cap : Nat) (w : World) (hk0 : 0 ≤ k) (hk1 : k ≤ 7) (hl0 : 0 ≤ l) (hl1 : l < 2147483648) (hF0 : 0 ≤ F) (hF3 : F ≤ 3)
    (ha : 0 ≤ a ∧ a < 2147483648) (hb : 0 ≤ b ∧ b < 2147483648) (hc : 0 ≤ c ∧ c < 2147483648)
    (H : Hid (∀ w, Calls Tryz.prog 21 #[.int .i64 k] w fun e w' => e = .returned (.int .i64 F) ∧ w' = w)) :
    Calls Tryz.prog 28 #[.agg #[.int .i64 k, .int .i64 l, .int .i64 a, .int .i64 b, .int .i64 c, .slice ao n cap]] w
      fun e w' => e = .returned (.string ⟨(UInt8.ofNat k.toNat :: (Fl.coded l.toNat ++ Fl.codedAll ([a, b, c].take F.toNat))).toArray⟩) ∧ Below w.heap.size w w' := by
  obtain ⟨ha0, ha1⟩ := ha
  obtain ⟨hb0, hb1⟩ := hb
  obtain ⟨hc0, hc1⟩ := hc
  have hcv := fun w => conv_byte k w
  go_enter Tryz.func28, Tryz.ntmps28
  go_wp2_with fail
  refine (coded_int l _ hl0 hl1).mono ?_
  rintro e w1 ⟨rfl, hb1w⟩
  have hz1 : w.heap.size < w1.heap.size := by have := hb1w.size; simp at this; omega
  obtain ⟨hcB, hfB⟩ := bcell hb1w
  have hcw := hcv w1
  clear hcv
  have hlen := Fl.coded_len l.toNat
  generalize hg : Fl.coded l.toNat = cl at *
  have HG : Hid (Fl.coded l.toNat = cl) := hg
  clear hg
  go_wp2_with (go_at_call 21; refine (H.out _).mono ?_; rintro e w' ⟨rfl, rfl⟩)
  go_loopw [4, 8] (fun t i wr => ∃ j : Nat, (j : Int) ≤ F ∧ i = .int .i64 j ∧ t = .string ⟨(UInt8.ofNat k.toNat :: (cl ++ Fl.codedAll ([a, b, c].take j))).toArray⟩ ∧ Below ((w1.alloc (.cells #[.int .u8 k] 5)).alloc (.cells #[.int .i64 a, .int .i64 b, .int .i64 c] 3)).heap.size ((w1.alloc (.cells #[.int .u8 k] 5)).alloc (.cells #[.int .i64 a, .int .i64 b, .int .i64 c] 3)) wr) (fun _ i _ => F.toNat - (intOf i).toNat)
  case atStart => exact ⟨0, by omega, rfl, by rw [show (⟨#[UInt8.ofNat k.toNat]⟩ : ByteArray) = ⟨[UInt8.ofNat k.toNat].toArray⟩ from rfl, app_bytes]; simp [Fl.codedAll], Below.refl _ _⟩
  case round =>
    obtain ⟨j, hj, rfl, rfl, hbr⟩ := hrel
    have hrs := hbr.size
    simp at hrs
    by_cases hlt : (j : Int) < F
    · rcases (show j = 0 ∨ j = 1 ∨ j = 2 from by omega) with rfl | rfl | rfl
      · have hcell : wr.cell? ⟨w1.heap.size + 1, 0, none⟩ = some (.int .i64 a) := (hbr.cell (p := ⟨w1.heap.size + 1, 0, none⟩) (by simp)).trans (by simp)
        have hp := Fl.codedAll_len ([a, b, c].take 0)
        have hp2 : ([a, b, c].take 0).length ≤ 3 := by simp
        generalize hq : Fl.codedAll ([a, b, c].take 0) = pre at *
        have HP : Hid (Fl.codedAll ([a, b, c].take 0) = pre) := hq
        clear hq
        have hcl := Fl.coded_len a.toNat
        go_wp2_with fail
        refine (coded_int a _ ha0 ha1).mono ?_
        rintro e w2 ⟨rfl, hb2⟩
        have HB : Hid (Below ((w1.alloc (.cells #[.int .u8 k] 5)).alloc (.cells #[.int .i64 a, .int .i64 b, .int .i64 c] 3)).heap.size ((w1.alloc (.cells #[.int .u8 k] 5)).alloc (.cells #[.int .i64 a, .int .i64 b, .int .i64 c] 3)) w2) := hbr.trans (hb2.mono (by simp; omega))
        generalize hq : Fl.coded a.toNat = cx at *
        have HX : Hid (Fl.coded a.toNat = cx) := hq
        clear hq hbr hb2 hcell hcB hfB
        go_wp2
        go_roundw
        case rel => exact ⟨1, by omega, by go_num, by rw [app_bytes, Fl.take_snocI _ 0 (by simp), Fl.codedAll_snoc, HP.out, ← HX.out]; simp, HB.out⟩
        case measure => simp [intOf]; omega
      · have hcell : wr.cell? ⟨w1.heap.size + 1, 1, none⟩ = some (.int .i64 b) := (hbr.cell (p := ⟨w1.heap.size + 1, 1, none⟩) (by simp)).trans (by simp)
        have hp := Fl.codedAll_len ([a, b, c].take 1)
        have hp2 : ([a, b, c].take 1).length ≤ 3 := by simp
        generalize hq : Fl.codedAll ([a, b, c].take 1) = pre at *
        have HP : Hid (Fl.codedAll ([a, b, c].take 1) = pre) := hq
        clear hq
        have hcl := Fl.coded_len b.toNat
        go_wp2_with fail
        refine (coded_int b _ hb0 hb1).mono ?_
        rintro e w2 ⟨rfl, hb2⟩
        have HB : Hid (Below ((w1.alloc (.cells #[.int .u8 k] 5)).alloc (.cells #[.int .i64 a, .int .i64 b, .int .i64 c] 3)).heap.size ((w1.alloc (.cells #[.int .u8 k] 5)).alloc (.cells #[.int .i64 a, .int .i64 b, .int .i64 c] 3)) w2) := hbr.trans (hb2.mono (by simp; omega))
        generalize hq : Fl.coded b.toNat = cx at *
        have HX : Hid (Fl.coded b.toNat = cx) := hq
        clear hq hbr hb2 hcell hcB hfB
        go_wp2
        go_roundw
        case rel => exact ⟨2, by omega, by go_num, by rw [app_bytes, Fl.take_snocI _ 1 (by simp), Fl.codedAll_snoc, HP.out, ← HX.out]; simp, HB.out⟩
        case measure => simp [intOf]; omega
      · have hcell : wr.cell? ⟨w1.heap.size + 1, 2, none⟩ = some (.int .i64 c) := (hbr.cell (p := ⟨w1.heap.size + 1, 2, none⟩) (by simp)).trans (by simp)
        have hp := Fl.codedAll_len ([a, b, c].take 2)
        have hp2 : ([a, b, c].take 2).length ≤ 3 := by simp
        generalize hq : Fl.codedAll ([a, b, c].take 2) = pre at *
        have HP : Hid (Fl.codedAll ([a, b, c].take 2) = pre) := hq
        clear hq
        have hcl := Fl.coded_len c.toNat
        go_wp2_with fail
        refine (coded_int c _ hc0 hc1).mono ?_
        rintro e w2 ⟨rfl, hb2⟩
        have HB : Hid (Below ((w1.alloc (.cells #[.int .u8 k] 5)).alloc (.cells #[.int .i64 a, .int .i64 b, .int .i64 c] 3)).heap.size ((w1.alloc (.cells #[.int .u8 k] 5)).alloc (.cells #[.int .i64 a, .int .i64 b, .int .i64 c] 3)) w2) := hbr.trans (hb2.mono (by simp; omega))
        generalize hq : Fl.coded c.toNat = cx at *
        have HX : Hid (Fl.coded c.toNat = cx) := hq
        clear hq hbr hb2 hcell hcB hfB
        go_wp2
        go_roundw
        case rel => exact ⟨3, by omega, by go_num, by rw [app_bytes, Fl.take_snocI _ 2 (by simp), Fl.codedAll_snoc, HP.out, ← HX.out]; simp, HB.out⟩
        case measure => simp [intOf]; omega
    · have hjF : F.toNat = j := by omega
      have HJ : Hid (F.toNat = j) := hjF
      clear hjF
      go_wp2
      go_ret
      exact ⟨ret_string (by rw [HJ.out, HG.out]), (((Below.refl _ _).alloc (Nat.le_refl _) _).trans (hb1w.mono (by simp))).trans ((((Below.refl _ _).alloc (by omega) _).alloc (by simp; omega) _).trans (hbr.mono (by simp; omega)))⟩
end Go.Proofs.YtbihjgfbocpobaaGreatDoor

/- The reference's node, of a Block; of every node. -/
set_option linter.unusedSimpArgs false
set_option linter.unusedVariables false
namespace Go.Proofs.YtbihjgfbocpobaaGreatDoor
open Go.RowKit

set_option maxRecDepth 100000 in
set_option maxHeartbeats 4000000 in
theorem node_list (k l a b c : Int) (xs : List Int) (n : Nat) (ao : Option Addr) (cap : Nat) (w : World) (hk0 : 0 ≤ k) (hk1 : k ≤ 7) (hl0 : 0 ≤ l) (hl1 : l < 2147483648) (hn : n ≤ 16) (hxl : xs.length = n) (hall : ∀ x ∈ xs, 0 ≤ x ∧ x < 2147483648)
    (H : Hid (∀ w, Calls Tryz.prog 21 #[.int .i64 k] w fun e w' => e = .returned (.int .i64 (-1)) ∧ w' = w))
    (hcx : xs ≠ [] → ∃ p q, ao = some ⟨p, q, none⟩ ∧ p < w.heap.size ∧ ∀ i, i < n → w.cell? ⟨p, q + i, none⟩ = some (.int .i64 (xs.getD i 0))) :
    Calls Tryz.prog 28 #[.agg #[.int .i64 k, .int .i64 l, .int .i64 a, .int .i64 b, .int .i64 c, .slice ao n cap]] w
      fun e w' => e = .returned (.string ⟨(UInt8.ofNat k.toNat :: (Fl.coded l.toNat ++ (Fl.coded n ++ Fl.codedAll xs))).toArray⟩) ∧ Below w.heap.size w w' := by
  have HX : Hid (xs ≠ [] → ∃ p q, ao = some ⟨p, q, none⟩ ∧ p < w.heap.size ∧ ∀ i, i < n → w.cell? ⟨p, q + i, none⟩ = some (.int .i64 (xs.getD i 0))) := hcx
  have HXL : Hid (xs.length = n) := hxl
  have HA : Hid (∀ x ∈ xs, 0 ≤ x ∧ x < 2147483648) := hall
  clear hcx hxl hall
  have hcv := fun w => conv_byte k w
  go_enter Tryz.func28, Tryz.ntmps28
  go_wp2_with fail
  refine (coded_int l _ hl0 hl1).mono ?_
  rintro e w1 ⟨rfl, hb1w⟩
  have hz1 : w.heap.size < w1.heap.size := by have := hb1w.size; simp at this; omega
  obtain ⟨hcB, hfB⟩ := bcell hb1w
  have hcw := hcv w1
  clear hcv
  have hlen := Fl.coded_len l.toNat
  generalize hg : Fl.coded l.toNat = cl at *
  have HG : Hid (Fl.coded l.toNat = cl) := hg
  clear hg
  have hnn : (0 : Int) ≤ (n : Int) := by omega
  have hnm : (n : Int) < 2147483648 := by omega
  have hlen2 := Fl.coded_len n
  generalize hg : Fl.coded n = cn at *
  have HGN : Hid (Fl.coded n = cn) := hg
  clear hg
  go_wp2_with (first | (go_at_call 21; refine (H.out _).mono ?_; rintro e w' ⟨rfl, rfl⟩) | fail)
  refine (coded_int n _ hnn hnm).mono ?_
  rintro e w2 ⟨rfl, hb2w⟩
  rw [show ((n : Int)).toNat = n from by omega, HGN.out]
  have hz2 : w1.heap.size + 1 < w2.heap.size := by have := hb2w.size; simp at this; omega
  have hbox : w2.cell? ⟨w.heap.size, 5, none⟩ = some (.slice ao n cap) := by
    rw [hb2w.cell (p := ⟨w.heap.size, 5, none⟩) (by simp; omega), World.cell?_alloc_lt _ _ _ (by simp; omega), World.cell?_alloc_lt _ _ _ (by simp; omega), hcB _ _ (by simp)]; simp
  have HB0 : Hid (Below w.heap.size w w2) := (((Below.refl _ _).alloc (Nat.le_refl _) _).trans (hb1w.mono (by simp))).trans ((((Below.refl _ _).alloc (by omega) _).alloc (by simp; omega) _).trans (hb2w.mono (by simp; omega)))
  clear hb1w hb2w hcB hfB hcw
  go_wp2
  go_loopw [4, 8] (fun t i wr => ∃ j : Nat, j ≤ n ∧ i = .int .i64 j ∧ t = .string ⟨(UInt8.ofNat k.toNat :: (cl ++ (cn ++ Fl.codedAll (xs.take j)))).toArray⟩ ∧ Below w.heap.size w wr) (fun _ i _ => n - (intOf i).toNat)
  case atStart => exact ⟨0, by omega, rfl, by rw [show (⟨#[UInt8.ofNat k.toNat]⟩ : ByteArray) = ⟨[UInt8.ofNat k.toNat].toArray⟩ from rfl, app_bytes, app_bytes]; simp [Fl.codedAll], HB0.out⟩
  case round =>
    obtain ⟨j, hj, rfl, rfl, hbr⟩ := hrel
    have hrs := hbr.size
    by_cases hlt : j < n
    · obtain ⟨p, q, rfl, hp, hc⟩ := HX.out (by intro h; have := HXL.out; rw [h] at this; simp at this; omega)
      have hcj : wr.cell? ⟨p, q + j, none⟩ = some (.int .i64 (xs.getD j 0)) := (hbr.cell (p := ⟨p, q + j, none⟩) hp).trans (hc j hlt)
      have hxb := HA.out _ (getD_mem (xs := xs) (j := j) (by have := HXL.out; omega))
      obtain ⟨x, hx⟩ : ∃ x, x = xs.getD j 0 := ⟨_, rfl⟩
      rw [← hx] at hcj hxb
      have HXJ : Hid (x = xs.getD j 0) := hx
      obtain ⟨hx0, hx1⟩ := hxb
      have hpl := Fl.codedAll_len (xs.take j)
      have hpl2 : (xs.take j).length ≤ 16 := by have := HXL.out; simp; omega
      generalize hq : Fl.codedAll (xs.take j) = pre at *
      have HP : Hid (Fl.codedAll (xs.take j) = pre) := hq
      have hcl := Fl.coded_len x.toNat
      clear hq hx hc HX hbox
      have hji : (j : Int) < (n : Int) := by omega
      go_wp2_with fail
      refine (coded_int x _ hx0 hx1).mono ?_
      rintro e w3 ⟨rfl, hb3⟩
      have HB : Hid (Below w.heap.size w w3) := hbr.trans (hb3.mono (by omega))
      generalize hq : Fl.coded x.toNat = cx at *
      have HC : Hid (Fl.coded x.toNat = cx) := hq
      clear hq hbr hb3 hcj
      go_wp2
      go_roundw
      case rel => exact ⟨j + 1, by omega, by go_num, by rw [app_bytes, Fl.take_snocI _ j (by have := HXL.out; omega), Fl.codedAll_snoc, HP.out, ← HXJ.out, HC.out]; simp, HB.out⟩
      case measure => simp [intOf]; omega
    · have hfin : xs.take j = xs := List.take_of_length_le (by have := HXL.out; omega)
      have HJ : Hid (xs.take j = xs) := hfin
      clear hfin
      go_wp2
      go_ret
      exact ⟨ret_string (by rw [HJ.out, HG.out, HGN.out]), hbr⟩

theorem inR_iff {x : Int} : Fl.inR x = true ↔ 0 ≤ x ∧ x < 2147483648 := by simp [Fl.inR]
theorem okV_range {F i x : Int} (h : Fl.okV F i x = true) : 0 ≤ x ∧ x < 2147483648 := by
  unfold Fl.okV at h; rw [Bool.and_eq_true] at h; exact inR_iff.1 h.1
theorem fields_kind {k : Int} (h : Fl.fields k ≠ -2) : 0 ≤ k ∧ k ≤ 7 := by
  unfold Fl.fields at h; repeat' split at h <;> omega
theorem fields_neg {k : Int} (h : Fl.fields k < 0) (h2 : Fl.fields k ≠ -2) : Fl.fields k = -1 := by have := Fl.fields_lt k; omega

/-- node, of every node whose numbers are as they must be. -/
theorem node_any (x : Fl.Node) (lv : Value) (B : Nat) (w : World) (hB : B ≤ w.heap.size) (hx : IntsAt B w lv x.list) (hs : Fl.sound x = true) :
    Calls Tryz.prog 28 #[nodeV x lv] w fun e w' => e = .returned (.string ⟨(Fl.nodeBytes x).toArray⟩) ∧ Below w.heap.size w w' := by
  obtain ⟨k, l, a, b, c, xs⟩ := x
  unfold nodeV
  simp only at hx ⊢
  simp only [Fl.sound, Bool.and_eq_true, decide_eq_true_eq] at hs
  obtain ⟨s1, s2, s3, s4, s5, s6, s7, s8⟩ := hs
  have hk := fields_kind s1
  have hl := inR_iff.1 s2
  obtain ⟨ao, cap, rfl, _, hm, hc⟩ := hx
  by_cases hF : Fl.fields k < 0
  · have hF1 := fields_neg hF s1
    have H : Hid (∀ w, Calls Tryz.prog 21 #[.int .i64 k] w fun e w' => e = .returned (.int .i64 (-1)) ∧ w' = w) := fun w => by have := fields_any k w; rwa [hF1] at this
    have he : Fl.nodeBytes ⟨k, l, a, b, c, xs⟩ = UInt8.ofNat k.toNat :: (Fl.coded l.toNat ++ (Fl.coded xs.length ++ Fl.codedAll xs)) := by
      simp only [Fl.nodeBytes, Fl.nodeNums, if_pos hF]
    rw [he]
    refine node_list k l a b c xs xs.length ao cap w hk.1 hk.2 hl.1 hl.2 s3 rfl (fun x hx => inR_iff.1 (List.all_eq_true.1 s7 x hx)) H ?_
    intro hne
    obtain ⟨p, q, ha, hp, hcell⟩ := hc hne
    exact ⟨p, q, ha, by omega, hcell⟩
  · have H : Hid (∀ w, Calls Tryz.prog 21 #[.int .i64 k] w fun e w' => e = .returned (.int .i64 (Fl.fields k)) ∧ w' = w) := fun w => fields_any k w
    have he : Fl.nodeBytes ⟨k, l, a, b, c, xs⟩ = UInt8.ofNat k.toNat :: (Fl.coded l.toNat ++ Fl.codedAll ([a, b, c].take (Fl.fields k).toNat)) := by
      simp only [Fl.nodeBytes, Fl.nodeNums, if_neg hF, List.nil_append]
    rw [he]
    exact node_some k l a b c _ _ ao cap w hk.1 hk.2 hl.1 hl.2 (by omega) (Fl.fields_lt k).2 (okV_range s4) (okV_range s5) (okV_range s6) H
end Go.Proofs.YtbihjgfbocpobaaGreatDoor

/- The reference's shaped. -/
set_option linter.unusedSimpArgs false
set_option linter.unusedVariables false
namespace Go.Proofs.YtbihjgfbocpobaaGreatDoor
open Go.RowKit

/-- Is one of the nodes below j, behind k, by node k? -/
def usedTo (l : List Fl.Node) (k j : Nat) : Bool := (List.range j).any (fun j => decide (k < j) && (prem (Fl.nth l j)).any (· == (k : Int)))
theorem usedTo_start (l : List Fl.Node) (k : Nat) : usedTo l k (k + 1) = false := by
  unfold usedTo; rw [List.any_eq_false]; intro x hx
  have : ¬ k < x := by simp at hx; omega
  simp [this]
theorem usedTo_succ (l : List Fl.Node) (k j : Nat) (h : k < j) : usedTo l k (j + 1) = (usedTo l k j || (prem (Fl.nth l j)).any (· == (k : Int))) := by
  unfold usedTo; rw [List.range_succ, List.any_append]; simp [h]

set_option maxRecDepth 100000 in
set_option maxHeartbeats 8000000 in
theorem shaped_walk (ns : List Fl.Node) (v : Value) (B : Nat) (w : World) (hB : B ≤ w.heap.size) (hv : NodesAt B w v ns) :
    Calls Tryz.prog 18 #[v] w fun e w' => e = .returned (.int .i64 (Fl.shaped ns)) ∧ Below w.heap.size w w' := by
  obtain ⟨ao, cap, rfl, hc, hm, hx⟩ := hv
  unfold maxLen at hm
  have HX : Hid (NodesAt B w (.slice ao ns.length cap) ns) := ⟨ao, cap, rfl, hc, hm, hx⟩
  clear hx
  go_enter Tryz.func18, Tryz.ntmps18
  go_wp2
  go_loopw [3] (fun i wr => ∃ k : Nat, k ≤ ns.length ∧ i = .int .i64 k ∧ (∀ j, j < k → Fl.bad ns j = false) ∧ Below w.heap.size w wr) (fun i _ => ns.length - (intOf i).toNat)
  case atStart => exact ⟨0, by omega, rfl, fun j hj => by omega, Below.refl _ _⟩
  case round =>
    obtain ⟨k, hk, rfl, hno, hbr⟩ := hrel
    have HN : Hid (∀ j, j < k → Fl.bad ns j = false) := hno
    clear hno
    have hrs := hbr.size
    by_cases hlt : k < ns.length
    · obtain ⟨b, off, rfl⟩ : ∃ b off, ao = some ⟨b, off, none⟩ := by
        obtain ⟨ao', cap', hv', _, _, hx'⟩ := HX.out
        obtain ⟨b, off, ha, _⟩ := hx' (by intro h; rw [h] at hlt; simp at hlt)
        simp only [Value.slice.injEq] at hv'
        exact ⟨b, off, hv'.1.trans ha⟩
      obtain ⟨hbB, lv, h0, h1, h2, h3, h4, h5, h6⟩ := (HX.out.below (hbr.mono hB)).at hlt
      have HS : Hid (Calls Tryz.prog 33 #[nodeV (Fl.nth ns k) lv] wr fun e w' => e = .returned (.bool (Fl.sound (Fl.nth ns k))) ∧ Below wr.heap.size wr w') := sound_any _ _ B _ (by omega) h0
      clear h0
      go_wp2_with fail
      refine (HS.out).mono ?_
      rintro e w1 ⟨rfl, hb1⟩
      clear HS h1 h2 h3 h4 h5 h6
      have hbw1 : Below w.heap.size w w1 := hbr.trans (hb1.mono hrs)
      have hs1 := hbw1.size
      by_cases hsd : Fl.sound (Fl.nth ns k) = true
      · rw [hsd]
        obtain ⟨_, lv1, h0, h1, h2, h3, h4, h5, h6⟩ := (HX.out.below (hbw1.mono hB)).at hlt
        have HP : Hid (Calls Tryz.prog 32 #[nodeV (Fl.nth ns k) lv1] w1 fun e w' => ∃ v, e = .returned v ∧ IntsAt w'.heap.size w' v (prem (Fl.nth ns k)) ∧ Below w1.heap.size w1 w') := premises_any _ _ B _ (by omega) h0
        have HSD : Hid (Fl.sound (Fl.nth ns k) = true) := hsd
        clear h0 hsd
        go_wp2_with fail
        refine (HP.out).mono ?_
        rintro e w2 ⟨pv, rfl, hpi, hb2⟩
        clear HP h1 h2 h3 h4 h5 h6
        have hbw2 : Below w.heap.size w w2 := hbw1.trans (hb2.mono hs1)
        obtain ⟨pao, pcap, rfl, _, hpm, hpc⟩ := hpi
        generalize hps : prem (Fl.nth ns k) = ps at *
        have HPS : Hid (prem (Fl.nth ns k) = ps) := hps
        have HPC : Hid (ps ≠ [] → ∃ b off, pao = some ⟨b, off, none⟩ ∧ b < w2.heap.size ∧ ∀ i, i < ps.length → w2.cell? ⟨b, off + i, none⟩ = some (.int .i64 (ps.getD i 0))) := hpc
        clear hps hpc hb2 hb1 hbr hbw1
        unfold maxLen at hpm
        go_wp2
        go_loop [6] (fun i => ∃ j : Nat, j ≤ ps.length ∧ i = .int .i64 j ∧ ∀ t, t < j → ¬ (k : Int) ≤ ps.getD t 0) (fun i => ps.length - (intOf i).toNat)
        case atStart => exact ⟨0, by omega, rfl, fun t ht => by omega⟩
        case round =>
          obtain ⟨j, hj, rfl, hsm⟩ := hrel
          have HSM : Hid (∀ t, t < j → ¬ (k : Int) ≤ ps.getD t 0) := hsm
          clear hsm
          by_cases hjl : j < ps.length
          · obtain ⟨pb, po, rfl, hpb, hpcell⟩ := HPC.out (by intro h; rw [h] at hjl; simp at hjl)
            have hcj := hpcell j hjl
            obtain ⟨x, hx⟩ : ∃ x, x = ps.getD j 0 := ⟨_, rfl⟩
            rw [← hx] at hcj
            have HXJ : Hid (x = ps.getD j 0) := hx
            have hji : (j : Int) < (ps.length : Int) := by omega
            clear hpcell hx
            by_cases hkx : (k : Int) ≤ x
            · have hbad : Fl.bad ns k = true := by
                have h1 : (prem (Fl.nth ns k)).any (fun p => decide ((k : Int) ≤ p)) = true := by
                  rw [HPS.out, List.any_eq_true]; exact ⟨x, by rw [HXJ.out]; exact getD_mem hjl, by simpa using hkx⟩
                simp [Fl.bad, h1]
              have HF : Hid (Fl.shaped ns = (k : Int)) := by unfold Fl.shaped; rw [Fl.find_first _ _ k HN.out hlt hbad]; rfl
              clear hbad
              go_wp2
              go_ret
              exact ⟨ret_int HF.out.symm, hbw2⟩
            · go_wp2
              go_round
              case rel => exact ⟨j + 1, by omega, by go_num, fun t ht => by
                by_cases h : t < j
                · exact HSM.out t h
                · have : t = j := by omega
                  subst this; rw [← HXJ.out]; omega⟩
              case measure => simp [intOf]; omega
          · have hany : (prem (Fl.nth ns k)).any (fun p => decide ((k : Int) ≤ p)) = false := by
              rw [HPS.out, List.any_eq_false]; intro x hx
              obtain ⟨i, hi, rfl⟩ := List.getElem_of_mem hx
              have := HSM.out i (by omega)
              rw [List.getD_eq_getElem?_getD, List.getElem?_eq_getElem hi] at this
              simpa using this
            have HAN : Hid ((prem (Fl.nth ns k)).any (fun p => decide ((k : Int) ≤ p)) = false) := hany
            clear hany HSM HPC
            go_wp2
            go_loopw [7] (fun i wr => ∃ j : Nat, j ≤ k ∧ i = .int .i64 j ∧ (∀ t, t < j → Fl.eqNode (Fl.nth ns t) (Fl.nth ns k) = false) ∧ Below w.heap.size w wr) (fun i _ => k - (intOf i).toNat)
            case atStart => exact ⟨0, by omega, rfl, fun t ht => by omega, hbw2⟩
            case round =>
              clear hbw2
              obtain ⟨i, hi, rfl, hne, hb3⟩ := hrel
              have HNE : Hid (∀ t, t < i → Fl.eqNode (Fl.nth ns t) (Fl.nth ns k) = false) := hne
              clear hne
              have hs3 := hb3.size
              by_cases hik : i < k
              · obtain ⟨_, li, i0, i1, i2, i3, i4, i5, i6⟩ := (HX.out.below (hb3.mono hB)).at (show i < ns.length from by omega)
                obtain ⟨_, lk, k0, k1, k2, k3, k4, k5, k6⟩ := (HX.out.below (hb3.mono hB)).at hlt
                have HE : Hid (∀ wz, Below B wr wz → Calls Tryz.prog 34 #[nodeV (Fl.nth ns i) li, nodeV (Fl.nth ns k) lk] wz fun e w' => e = .returned (.bool (Fl.eqNode (Fl.nth ns i) (Fl.nth ns k))) ∧ Below wz.heap.size wz w') :=
                  fun wz hz => equal_any _ _ _ _ B _ (by have := hz.size; omega) (i0.below hz) (k0.below hz)
                clear i0 k0
                have hii : (i : Int) < (k : Int) := by omega
                have hil : (i : Int) < (ns.length : Int) := by omega
                have hkl : (k : Int) < (ns.length : Int) := by omega
                by_cases heq : Fl.eqNode (Fl.nth ns i) (Fl.nth ns k) = true
                · rw [heq] at HE
                  have hbad : Fl.bad ns k = true := by
                    have h2 : (List.range k).any (fun i => Fl.eqNode (Fl.nth ns i) (Fl.nth ns k)) = true := by
                      rw [List.any_eq_true]; exact ⟨i, by simpa using hik, heq⟩
                    simp [Fl.bad, h2]
                  have HF : Hid (Fl.shaped ns = (k : Int)) := by unfold Fl.shaped; rw [Fl.find_first _ _ k HN.out hlt hbad]; rfl
                  clear hbad heq
                  go_wp2_with fail
                  go_region_with (go_at_call 34; refine (HE.out _ (Below.refl _ _).drew).mono ?_; rintro e w4 ⟨rfl, hb4⟩)
                  all_goals
                    go_wp2
                    go_ret
                    exact ⟨ret_int HF.out.symm, hb3.trans ((Below.refl _ _).drew.trans (hb4.mono hs3))⟩
                · have heq' : Fl.eqNode (Fl.nth ns i) (Fl.nth ns k) = false := by simpa using heq
                  rw [heq'] at HE
                  have HEQ : Hid (Fl.eqNode (Fl.nth ns i) (Fl.nth ns k) = false) := heq'
                  clear heq heq'
                  go_wp2_with fail
                  go_region_with (go_at_call 34; refine (HE.out _ (Below.refl _ _).drew).mono ?_; rintro e w4 ⟨rfl, hb4⟩)
                  all_goals
                    go_wp2
                    go_roundw
                    case rel => exact ⟨i + 1, by omega, by go_num, fun t ht => by
                      by_cases h : t < i
                      · exact HNE.out t h
                      · have : t = i := by omega
                        subst this; exact HEQ.out, hb3.trans ((Below.refl _ _).drew.trans (hb4.mono hs3))⟩
                    case measure => simp [intOf]; omega
              · have hbad : Fl.bad ns k = false := by
                  have h2 : (List.range k).any (fun i => Fl.eqNode (Fl.nth ns i) (Fl.nth ns k)) = false := by
                    rw [List.any_eq_false]; intro x hx; rw [HNE.out x (by simp at hx; omega)]; simp
                  simp [Fl.bad, HSD.out, HAN.out, h2]
                have HBF : Hid (Fl.bad ns k = false) := hbad
                clear hbad
                go_wp2
                go_roundw
                case rel => exact ⟨k + 1, by omega, by go_num, fun j hj => by
                  by_cases h : j < k
                  · exact HN.out j h
                  · have : j = k := by omega
                    subst this; exact HBF.out, hb3⟩
                case measure => simp [intOf]; omega
      · have hsf : Fl.sound (Fl.nth ns k) = false := by simpa using hsd
        rw [hsf]
        have hbad : Fl.bad ns k = true := by simp [Fl.bad, hsf]
        have hfin : Fl.shaped ns = (k : Int) := by unfold Fl.shaped; rw [Fl.find_first _ _ k HN.out hlt hbad]
        have HF : Hid (Fl.shaped ns = (k : Int)) := hfin
        clear hsd hsf hbad hfin
        go_wp2
        go_ret
        exact ⟨ret_int HF.out.symm, hbw1⟩
    · have hnone : (List.range ns.length).find? (Fl.bad ns) = none := Fl.find_none _ _ (fun j hj => HN.out j (by omega))
      have HNO : Hid ((List.range ns.length).find? (Fl.bad ns) = none) := hnone
      clear hnone HN
      go_wp2
      go_loopw [9] (fun i wr => ∃ k : Nat, (k = 0 ∨ k + 1 ≤ ns.length) ∧ i = .int .i64 k ∧ (∀ j, j < k → (!Fl.used ns j) = false) ∧ Below w.heap.size w wr) (fun i _ => ns.length - (intOf i).toNat)
      case atStart => exact ⟨0, Or.inl rfl, rfl, fun j hj => by omega, hbr⟩
      case round =>
        clear hbr hk hlt
        rename_i kk0 _ _
        obtain ⟨k2, hk2, rfl, hus, hb4⟩ := hrel
        have HUS : Hid (∀ j, j < k2 → (!Fl.used ns j) = false) := hus
        clear hus
        have hs4 := hb4.size
        by_cases hkl : (k2 : Int) < (ns.length : Int) - 1
        · go_wp2
          go_loopw [10, 11] (fun u i wr => ∃ j : Nat, k2 < j ∧ j ≤ ns.length ∧ i = .int .i64 j ∧ u = .bool (usedTo ns k2 j) ∧ Below w.heap.size w wr) (fun _ i _ => ns.length - (intOf i).toNat)
          case atStart => exact ⟨k2 + 1, by omega, by omega, by go_num, by rw [usedTo_start], hb4⟩
          case round =>
            clear hb4
            obtain ⟨j, hj1, hj2, rfl, rfl, hb5⟩ := hrel
            have hs5 := hb5.size
            by_cases hjl : j < ns.length
            · obtain ⟨b, off, rfl⟩ : ∃ b off, ao = some ⟨b, off, none⟩ := by
                obtain ⟨ao', cap', hv', _, _, hx'⟩ := HX.out
                obtain ⟨b, off, ha, _⟩ := hx' (by intro h; rw [h] at hjl; simp at hjl)
                simp only [Value.slice.injEq] at hv'
                exact ⟨b, off, hv'.1.trans ha⟩
              obtain ⟨hbB, lv, h0, h1, h2, h3, h4, h5, h6⟩ := (HX.out.below (hb5.mono hB)).at hjl
              have HP : Hid (Calls Tryz.prog 32 #[nodeV (Fl.nth ns j) lv] wr fun e w' => ∃ v, e = .returned v ∧ IntsAt w'.heap.size w' v (prem (Fl.nth ns j)) ∧ Below wr.heap.size wr w') := premises_any _ _ B _ (by omega) h0
              clear h0
              have hji : (j : Int) < (ns.length : Int) := by omega
              have hus : usedTo ns k2 (j + 1) = (usedTo ns k2 j || (prem (Fl.nth ns j)).any (· == (k2 : Int))) := usedTo_succ ns k2 j hj1
              generalize hu0 : usedTo ns k2 j = u0 at *
              go_wp2_with fail
              refine (HP.out).mono ?_
              rintro e w6 ⟨pv, rfl, hpi, hb6⟩
              clear HP h1 h2 h3 h4 h5 h6 hu0
              have hbw6 : Below w.heap.size w w6 := hb5.trans (hb6.mono hs5)
              obtain ⟨pao, pcap, rfl, _, hpm, hpc⟩ := hpi
              generalize hps : prem (Fl.nth ns j) = ps at *
              have HUU : Hid (usedTo ns k2 (j + 1) = (u0 || ps.any (· == (k2 : Int)))) := hus
              have HPC : Hid (ps ≠ [] → ∃ b off, pao = some ⟨b, off, none⟩ ∧ b < w6.heap.size ∧ ∀ i, i < ps.length → w6.cell? ⟨b, off + i, none⟩ = some (.int .i64 (ps.getD i 0))) := hpc
              clear hps hpc hb6 hb5 hus
              unfold maxLen at hpm
              go_wp2
              go_loop [10, 13] (fun u i => ∃ t : Nat, t ≤ ps.length ∧ i = .int .i64 t ∧ u = .bool (u0 || (ps.take t).any (· == (k2 : Int)))) (fun _ i => ps.length - (intOf i).toNat)
              case atStart => exact ⟨0, by omega, rfl, by simp⟩
              case round =>
                obtain ⟨t, ht, rfl, rfl⟩ := hrel
                by_cases htl : t < ps.length
                · obtain ⟨pb, po, rfl, hpb, hpcell⟩ := HPC.out (by intro h; rw [h] at htl; simp at htl)
                  have hcj := hpcell t htl
                  have hsn : (ps.take (t + 1)).any (· == (k2 : Int)) = ((ps.take t).any (· == (k2 : Int)) || (ps.getD t 0 == (k2 : Int))) := by
                    rw [Fl.take_snocI _ t htl, List.any_append]; simp
                  have HSN : Hid ((ps.take (t + 1)).any (· == (k2 : Int)) = ((ps.take t).any (· == (k2 : Int)) || (ps.getD t 0 == (k2 : Int)))) := hsn
                  obtain ⟨x, hx⟩ : ∃ x, x = ps.getD t 0 := ⟨_, rfl⟩
                  rw [← hx] at hcj
                  have HXJ : Hid (x = ps.getD t 0) := hx
                  have hti : (t : Int) < (ps.length : Int) := by omega
                  clear hpcell hx hsn
                  generalize hac : (u0 || (ps.take t).any (· == (k2 : Int))) = acc at *
                  have HAC : Hid ((u0 || (ps.take t).any (· == (k2 : Int))) = acc) := hac
                  clear hac
                  cases acc
                  · go_wp2
                    go_round
                    case rel => exact ⟨t + 1, by omega, by go_num, by rw [HSN.out, ← Bool.or_assoc, HAC.out, ← HXJ.out]; simp⟩
                    case measure => simp [intOf]; omega
                  · go_wp2
                    go_round
                    case rel => exact ⟨t + 1, by omega, by go_num, by rw [HSN.out, ← Bool.or_assoc, HAC.out]; simp⟩
                    case measure => simp [intOf]; omega
                · have hall : ps.take t = ps := List.take_of_length_le (by omega)
                  have HAL : Hid (ps.take t = ps) := hall
                  clear hall HPC
                  go_wp2
                  go_roundw
                  case rel => exact ⟨j + 1, by omega, by omega, by go_num, by rw [HUU.out, HAL.out], hbw6⟩
                  case measure => simp [intOf]; omega
            · have hue : usedTo ns k2 j = Fl.used ns k2 := by have : j = ns.length := by omega
                                                              rw [this]; rfl
              generalize hu0 : usedTo ns k2 j = u0 at *
              have HUE : Hid (u0 = Fl.used ns k2) := hue
              clear hue hu0
              cases u0
              · have hfin : Fl.shaped ns = (k2 : Int) := by
                  unfold Fl.shaped; rw [HNO.out]; simp only
                  rw [Fl.find_first (fun k => !Fl.used ns k) _ k2 HUS.out (by omega) (by rw [← HUE.out]; rfl)]
                have HF : Hid (Fl.shaped ns = (k2 : Int)) := hfin
                clear hfin
                go_wp2
                go_ret
                exact ⟨ret_int HF.out.symm, hb5⟩
              · go_wp2
                go_roundw
                case rel => exact ⟨k2 + 1, Or.inr (by omega), by go_num, fun j hj => by
                  by_cases h : j < k2
                  · exact HUS.out j h
                  · have : j = k2 := by omega
                    subst this; rw [← HUE.out]; rfl, hb5⟩
                case measure => simp [intOf]; omega
        · have hfin : Fl.shaped ns = -1 := by
            unfold Fl.shaped; rw [HNO.out]; simp only
            rw [Fl.find_none (fun k => !Fl.used ns k) _ (fun j hj => HUS.out j (by omega))]
          have HF : Hid (Fl.shaped ns = -1) := hfin
          clear hfin
          go_wp2
          go_ret
          exact ⟨ret_int HF.out.symm, hb4⟩
end Go.Proofs.YtbihjgfbocpobaaGreatDoor
