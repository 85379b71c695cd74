/- Texts Cea Ceb Cec CeStep. -/
import Derived.Test.YtbihjgfbocpobaaGreatDoorM23
import Derived.StillTailTactics
/- The program: are all numbers in range? -/
set_option linter.unusedSimpArgs false
set_option linter.unusedVariables false
namespace Go.Proofs.YtbihjgfbocpobaaGreatDoor
open Go.RowKit

set_option maxRecDepth 100000 in
set_option maxHeartbeats 800000 in
theorem isNumber_any (n : Int) (w : World) : Calls Tryz.prog 98 #[.int .i64 n] w fun e w' => e = .returned (.bool (Fl.inR n)) ∧ w' = w := by
  by_cases h0 : 0 ≤ n
  · have b0 : decide ((0 : Int) ≤ n) = true := by simpa using h0
    by_cases h1 : n ≤ 2147483647
    · go_enter Tryz.func98, Tryz.ntmps98
      go_wp2
      go_ret
      exact ⟨ret_bool (by simp [Fl.inR]; omega), rfl⟩
    · go_enter Tryz.func98, Tryz.ntmps98
      go_wp2
      go_ret
      exact ⟨ret_bool (by simp [Fl.inR]; omega), rfl⟩
  · go_enter Tryz.func98, Tryz.ntmps98
    go_wp2
    go_ret
    exact ⟨ret_bool (by simp [Fl.inR]; omega), rfl⟩

set_option maxRecDepth 100000 in
set_option maxHeartbeats 800000 in
theorem pred_any (n : Int) (w : World) : Calls Tryz.prog 97 #[.int .i64 n] w fun e w' => e = .returned (.bool (!Fl.inR n)) ∧ w' = w := by
  go_enter Tryz.func97, Tryz.ntmps97
  go_wp2_with (go_at_call 98; refine (isNumber_any _ _).mono ?_; rintro e w1 ⟨rfl, rfl⟩)
  go_ret
  exact ⟨rfl, rfl⟩

set_option maxRecDepth 100000 in
set_option maxHeartbeats 2000000 in
theorem indexFunc_any (xs : List Int) (v : Value) (B : Nat) (w : World) (hx : IntsAt B w v xs) :
    Calls Tryz.prog 109 #[v, .func (.func 97) #[] #[]] w fun e w' => (xs.all Fl.inR = true → e = .returned (.int .i64 (-1))) ∧ (xs.all Fl.inR = false → ∃ j : Nat, e = .returned (.int .i64 j)) ∧ Below w.heap.size w w' := by
  obtain ⟨ao, cap, rfl, _, hm, _⟩ := id hx
  unfold maxLen at hm
  have HX : Hid (IntsAt B w (.slice ao xs.length cap) xs) := hx
  clear hx
  go_enter Tryz.func109, Tryz.ntmps109
  go_wp2_with fail
  go_loopw [8] (fun i wr => ∃ j m : Nat, j ≤ xs.length ∧ i = .int .i64 j ∧ wr = w.drewN m ∧ ∀ t, t < j → Fl.inR (xs.getD t 0) = true) (fun i _ => xs.length - (intOf i).toNat)
  case atStart => exact ⟨0, 0, by omega, rfl, rfl, fun t ht => by omega⟩
  case round =>
    obtain ⟨j, m, hj, rfl, rfl, hall⟩ := hrel
    have HA : Hid (∀ t, t < j → Fl.inR (xs.getD t 0) = true) := hall
    clear hall
    by_cases hlt : j < xs.length
    · obtain ⟨b, off, rfl, hbB, hcj⟩ := HX.out.at hlt
      have hji : (j : Int) < (xs.length : Int) := by omega
      obtain ⟨x, hx⟩ : ∃ x, x = xs.getD j 0 := ⟨_, rfl⟩
      rw [← hx] at hcj
      have HXJ : Hid (x = xs.getD j 0) := hx
      have HP : Hid (∀ (c : Bool) (W : World), Fl.inR x = !c → Calls Tryz.prog 97 #[.int .i64 x] W fun e w' => e = .returned (.bool c) ∧ w' = W) := fun c W hc => (pred_any _ W).mono (by rintro e w' ⟨rfl, rfl⟩; exact ⟨by rw [hc]; simp, rfl⟩)
      clear hx
      cases hin : Fl.inR x with
      | true =>
        have HIN : Hid (Fl.inR x = true) := hin
        clear hin
        go_wp2_with (go_at_call 97; refine (HP.out false _ HIN.out).mono ?_; rintro e w1 ⟨rfl, rfl⟩)
        go_roundw
        case rel => exact ⟨j + 1, m, by omega, by go_num, rfl, fun t ht => by
          by_cases h : t < j
          · exact HA.out t h
          · have : t = j := by omega
            subst this; rw [← HXJ.out]; exact HIN.out⟩
        case measure => simp [intOf]; omega
      | false =>
        have HIN : Hid (Fl.inR x = false) := hin
        clear hin
        go_wp2_with (go_at_call 97; refine (HP.out true _ HIN.out).mono ?_; rintro e w1 ⟨rfl, rfl⟩)
        go_ret
        refine ⟨fun h => ?_, fun _ => ⟨j, rfl⟩, by repeat (first | exact Below.refl _ _ | apply Below.drewN_of)⟩
        rw [List.all_eq_true] at h
        have := h (xs.getD j 0) (by rw [List.getD_eq_getElem?_getD, List.getElem?_eq_getElem hlt]; exact List.getElem_mem hlt)
        rw [← HXJ.out, HIN.out] at this; cases this
    · have hji : (xs.length : Int) ≤ (j : Int) := by omega
      go_wp2_with fail
      go_ret
      have hallt : xs.all Fl.inR = true := by
        rw [List.all_eq_true]; intro y hy
        obtain ⟨t, ht, rfl⟩ := List.getElem_of_mem hy
        have := HA.out t (by omega)
        rwa [List.getD_eq_getElem?_getD, List.getElem?_eq_getElem ht] at this
      refine ⟨fun _ => rfl, fun h => (by rw [hallt] at h; cases h), by repeat (first | exact Below.refl _ _ | apply Below.drewN_of)⟩

set_option maxRecDepth 100000 in
set_option maxHeartbeats 2000000 in
theorem containsFunc_any (xs : List Int) (v : Value) (B : Nat) (w : World) (hx : IntsAt B w v xs) :
    Calls Tryz.prog 96 #[v, .func (.func 97) #[] #[]] w fun e w' => e = .returned (.bool (!xs.all Fl.inR)) ∧ Below w.heap.size w w' := by
  have HI : Hid (Calls Tryz.prog 109 #[v, .func (.func 97) #[] #[]] w fun e w' => (xs.all Fl.inR = true → e = .returned (.int .i64 (-1))) ∧ (xs.all Fl.inR = false → ∃ j : Nat, e = .returned (.int .i64 j)) ∧ Below w.heap.size w w') := indexFunc_any xs v B w hx
  obtain ⟨ao, cap, rfl, _, hm, _⟩ := id hx
  clear hx hm
  go_enter Tryz.func96, Tryz.ntmps96
  go_wp2_with fail
  refine (HI.out).mono ?_
  rintro e w1 ⟨h1, h2, hb⟩
  have HB : Hid (Below w.heap.size w w1) := hb
  clear hb
  cases ha : xs.all Fl.inR with
  | true =>
    obtain rfl := h1 ha
    have HAL : Hid (xs.all Fl.inR = true) := ha
    clear h1 h2 ha
    go_wp2
    go_ret
    exact ⟨ret_bool (by rw [HAL.out]; rfl), HB.out⟩
  | false =>
    obtain ⟨j, rfl⟩ := h2 ha
    have hj0 : (0 : Int) ≤ (j : Int) := by omega
    have HAL : Hid (xs.all Fl.inR = false) := ha
    clear h1 h2 ha
    go_wp2
    go_ret
    exact ⟨ret_bool (by rw [HAL.out]; rfl), HB.out⟩

set_option maxRecDepth 100000 in
set_option maxHeartbeats 2000000 in
theorem allNumbers_any (xs : List Int) (v : Value) (B : Nat) (w : World) (hx : IntsAt B w v xs) :
    Calls Tryz.prog 82 #[v] w fun e w' => e = .returned (.bool (xs.all Fl.inR)) ∧ Below w.heap.size w w' := by
  have hmf : ∀ (fn : Fn) (first cap : Array Value) (w : World), (Instr.makeFunc fn first cap).run Tryz.prog w = .ok (.func fn first cap) w := fun _ _ _ _ => rfl
  have HI : Hid (Calls Tryz.prog 96 #[v, .func (.func 97) #[] #[]] w fun e w' => e = .returned (.bool (!xs.all Fl.inR)) ∧ Below w.heap.size w w') := containsFunc_any xs v B w hx
  obtain ⟨ao, cap, rfl, _, hm, _⟩ := id hx
  clear hx hm
  go_enter Tryz.func82, Tryz.ntmps82
  go_wp2_with fail
  refine (HI.out).mono ?_
  rintro e w1 ⟨rfl, hb⟩
  have HB : Hid (Below w.heap.size w w1) := hb
  clear hb
  cases ha : xs.all Fl.inR with
  | true =>
    have HAL : Hid (xs.all Fl.inR = true) := ha
    clear ha
    go_wp2
    go_ret
    exact ⟨ret_bool (by rw [HAL.out]), HB.out⟩
  | false =>
    have HAL : Hid (xs.all Fl.inR = false) := ha
    clear ha
    go_wp2
    go_ret
    exact ⟨ret_bool (by rw [HAL.out]), HB.out⟩
end Go.Proofs.YtbihjgfbocpobaaGreatDoor

/- The program: a node's rest is zero. -/
set_option linter.unusedSimpArgs false
set_option linter.unusedVariables false
namespace Go.Proofs.YtbihjgfbocpobaaGreatDoor
open Go.RowKit

theorem i64_or_nat (a b : Nat) (ha : a < 2147483648) (hb : b < 2147483648) : bits .or .i64 (a : Int) (b : Int) = ((a ||| b : Nat) : Int) := by
  have hx : a ||| b < 2 ^ 31 := Nat.or_lt_two_pow (by omega) (by omega)
  have o : ∀ x : Nat, x < 2147483648 → (BitVec.ofInt 64 (x : Int)).toNat = x := fun x hx => by rw [BitVec.ofInt_natCast, BitVec.toNat_ofNat]; exact Nat.mod_eq_of_lt (by omega)
  show IntKind.i64.wrap ((BitVec.ofInt 64 (a : Int) ||| BitVec.ofInt 64 (b : Int)).toNat : Int) = _
  rw [BitVec.toNat_or, o a ha, o b hb]
  generalize a ||| b = x at *
  simp [IntKind.wrap, IntKind.bits, IntKind.signed]
  omega
/-- What a node has in the places that its kind does not use. -/
def restV (n : Nat) (a b c : Int) : Int := if n = 0 then bits .or .i64 (bits .or .i64 (bits .or .i64 0 a) b) c else if n = 1 then bits .or .i64 (bits .or .i64 0 b) c else if n = 2 then bits .or .i64 0 c else 0
theorem or_zero_iff (a b : Nat) : a ||| b = 0 ↔ a = 0 ∧ b = 0 := by
  constructor
  · intro h
    have h1 : a ≤ a ||| b := Nat.left_le_or
    have h2 : b ≤ a ||| b := Nat.right_le_or
    omega
  · rintro ⟨rfl, rfl⟩; rfl
theorem restV_zero (n : Nat) (a b c : Int) (ha : Fl.inR a = true) (hb : Fl.inR b = true) (hc : Fl.inR c = true) : restV n a b c = 0 ↔ (n = 0 → a = 0) ∧ (n ≤ 1 → b = 0) ∧ (n ≤ 2 → c = 0) := by
  simp only [Fl.inR, Bool.and_eq_true, decide_eq_true_eq] at ha hb hc
  obtain ⟨A, rfl⟩ := Int.eq_ofNat_of_zero_le ha.1
  obtain ⟨B, rfl⟩ := Int.eq_ofNat_of_zero_le hb.1
  obtain ⟨C, rfl⟩ := Int.eq_ofNat_of_zero_le hc.1
  have e0 : ∀ x : Nat, x < 2147483648 → bits .or .i64 0 (x : Int) = (x : Int) := fun x hx => by have := i64_or_nat 0 x (by omega) hx; simpa using this
  have hAB : A ||| B < 2 ^ 31 := Nat.or_lt_two_pow (by omega) (by omega)
  unfold restV
  rw [e0 A (by omega), e0 B (by omega), e0 C (by omega), i64_or_nat A B (by omega) (by omega), i64_or_nat (A ||| B) C (by omega) (by omega), i64_or_nat B C (by omega) (by omega)]
  have h1 := or_zero_iff A B
  have h2 := or_zero_iff (A ||| B) C
  have h3 := or_zero_iff B C
  generalize (A ||| B) ||| C = X at *
  generalize A ||| B = Y at *
  generalize B ||| C = Z at *
  split
  · omega
  · split
    · omega
    · split <;> omega

set_option maxRecDepth 100000 in
set_option maxHeartbeats 4000000 in
theorem rest_any (rb ro nb no n : Nat) (hn : n ≤ 3) (l : Bool) (nd : Fl.Node) (lv : Value) (w : World) (h : NodeAt w nb no nd lv) (h1 : w.cell? ⟨rb, ro + 1, none⟩ = some (.int .i64 n)) (h2 : w.cell? ⟨rb, ro + 2, none⟩ = some (.bool l)) :
    Calls Tryz.prog 99 #[.pointer (some ⟨rb, ro, none⟩), .pointer (some ⟨nb, no, none⟩)] w fun e w' => e = .returned (.bool (decide (restV n nd.a nd.b nd.c = 0) && (l || decide (nd.list = [])))) ∧ Below w.heap.size w w' := by
  have c2 := h.c2
  have c3 := h.c3
  have c4 := h.c4
  have c5 := h.c5
  obtain ⟨ao, cap, rfl, _, hm, _⟩ := h.hl
  have hle : decide (nd.list = []) = ((nd.list.length : Int) == 0) := by
    cases nd.list with
    | nil => rfl
    | cons x y => simp; omega
  unfold maxLen at hm
  have HLE : Hid (decide (nd.list = []) = ((nd.list.length : Int) == 0)) := hle
  have hcase : n = 0 ∨ n = 1 ∨ n = 2 ∨ n = 3 := by omega
  clear h hn hle
  generalize nd.list.length = len at *
  rcases hcase with rfl | rfl | rfl | rfl
  · have HR : Hid (decide (restV 0 nd.a nd.b nd.c = 0) = (bits .or .i64 (bits .or .i64 (bits .or .i64 0 nd.a) nd.b) nd.c == 0)) := rfl
    cases hz : (bits .or .i64 (bits .or .i64 (bits .or .i64 0 nd.a) nd.b) nd.c == 0) with
    | true =>
      have HZ : Hid ((bits .or .i64 (bits .or .i64 (bits .or .i64 0 nd.a) nd.b) nd.c == 0) = true) := hz
      cases l with
      | true =>
        go_enter Tryz.func99, Tryz.ntmps99
        go_wp2_with fail
        go_ret
        exact ⟨ret_bool (by rw [HR.out, HZ.out]; rfl), Below.refl _ _⟩
      | false =>
        go_enter Tryz.func99, Tryz.ntmps99
        go_wp2_with fail
        go_ret
        exact ⟨ret_bool (by rw [HR.out, HZ.out, HLE.out]; simp), Below.refl _ _⟩
    | false =>
      have HZ : Hid ((bits .or .i64 (bits .or .i64 (bits .or .i64 0 nd.a) nd.b) nd.c == 0) = false) := hz
      go_enter Tryz.func99, Tryz.ntmps99
      go_wp2_with fail
      go_ret
      exact ⟨ret_bool (by rw [HR.out, HZ.out]; simp), Below.refl _ _⟩
  · have HR : Hid (decide (restV 1 nd.a nd.b nd.c = 0) = (bits .or .i64 (bits .or .i64 0 nd.b) nd.c == 0)) := rfl
    cases hz : (bits .or .i64 (bits .or .i64 0 nd.b) nd.c == 0) with
    | true =>
      have HZ : Hid ((bits .or .i64 (bits .or .i64 0 nd.b) nd.c == 0) = true) := hz
      cases l with
      | true =>
        go_enter Tryz.func99, Tryz.ntmps99
        go_wp2_with fail
        go_ret
        exact ⟨ret_bool (by rw [HR.out, HZ.out]; rfl), Below.refl _ _⟩
      | false =>
        go_enter Tryz.func99, Tryz.ntmps99
        go_wp2_with fail
        go_ret
        exact ⟨ret_bool (by rw [HR.out, HZ.out, HLE.out]; simp), Below.refl _ _⟩
    | false =>
      have HZ : Hid ((bits .or .i64 (bits .or .i64 0 nd.b) nd.c == 0) = false) := hz
      go_enter Tryz.func99, Tryz.ntmps99
      go_wp2_with fail
      go_ret
      exact ⟨ret_bool (by rw [HR.out, HZ.out]; simp), Below.refl _ _⟩
  · have HR : Hid (decide (restV 2 nd.a nd.b nd.c = 0) = (bits .or .i64 0 nd.c == 0)) := rfl
    cases hz : (bits .or .i64 0 nd.c == 0) with
    | true =>
      have HZ : Hid ((bits .or .i64 0 nd.c == 0) = true) := hz
      cases l with
      | true =>
        go_enter Tryz.func99, Tryz.ntmps99
        go_wp2_with fail
        go_ret
        exact ⟨ret_bool (by rw [HR.out, HZ.out]; rfl), Below.refl _ _⟩
      | false =>
        go_enter Tryz.func99, Tryz.ntmps99
        go_wp2_with fail
        go_ret
        exact ⟨ret_bool (by rw [HR.out, HZ.out, HLE.out]; simp), Below.refl _ _⟩
    | false =>
      have HZ : Hid ((bits .or .i64 0 nd.c == 0) = false) := hz
      go_enter Tryz.func99, Tryz.ntmps99
      go_wp2_with fail
      go_ret
      exact ⟨ret_bool (by rw [HR.out, HZ.out]; simp), Below.refl _ _⟩
  · have HR : Hid (decide (restV 3 nd.a nd.b nd.c = 0) = true) := rfl
    cases l with
    | true =>
      go_enter Tryz.func99, Tryz.ntmps99
      go_wp2_with fail
      go_ret
      exact ⟨ret_bool (by rw [HR.out]; rfl), Below.refl _ _⟩
    | false =>
      go_enter Tryz.func99, Tryz.ntmps99
      go_wp2_with fail
      go_ret
      exact ⟨ret_bool (by rw [HR.out, HLE.out]; simp), Below.refl _ _⟩
end Go.Proofs.YtbihjgfbocpobaaGreatDoor

/- The program: a node has the numbers of its kind. -/
set_option linter.unusedSimpArgs false
set_option linter.unusedVariables false
namespace Go.Proofs.YtbihjgfbocpobaaGreatDoor
open Go.RowKit

theorem sound_kind {nd : Fl.Node} {k : Nat} (hk : nd.kind = (k : Int)) (h8 : k < 8) :
    Fl.sound nd = ((Fl.inR nd.level && (Fl.inR nd.a && (Fl.inR nd.b && Fl.inR nd.c))) && ((decide (restV (numF k) nd.a nd.b nd.c = 0) && ((k == 7) || decide (nd.list = []))) && (decide (nd.list.length ≤ 16) && nd.list.all Fl.inR))) := by
  have hcase : k = 0 ∨ k = 1 ∨ k = 2 ∨ k = 3 ∨ k = 4 ∨ k = 5 ∨ k = 6 ∨ k = 7 := by omega
  cases ha : Fl.inR nd.a with
  | false => simp [Fl.sound, Fl.okV, ha]
  | true =>
    cases hb : Fl.inR nd.b with
    | false => simp [Fl.sound, Fl.okV, hb]
    | true =>
      cases hc : Fl.inR nd.c with
      | false => simp [Fl.sound, Fl.okV, hc]
      | true =>
        have hr := restV_zero (numF k) nd.a nd.b nd.c ha hb hc
        have hr' : decide (restV (numF k) nd.a nd.b nd.c = 0) = decide ((numF k = 0 → nd.a = 0) ∧ (numF k ≤ 1 → nd.b = 0) ∧ (numF k ≤ 2 → nd.c = 0)) := decide_eq_decide.2 hr
        rw [hr', Bool.eq_iff_iff]
        rcases hcase with rfl | rfl | rfl | rfl | rfl | rfl | rfl | rfl <;> simp [Fl.sound, Fl.okV, hk, ha, hb, hc, numF, Fl.fields] <;> grind
theorem sound_out {nd : Fl.Node} (h : nd.kind < 0 ∨ 8 ≤ nd.kind) : Fl.sound nd = false := by
  have : Fl.fields nd.kind = -2 := by unfold Fl.fields; (repeat' split) <;> omega
  simp [Fl.sound, this]
end Go.Proofs.YtbihjgfbocpobaaGreatDoor

/- A row that grows: what else stays. -/
set_option linter.unusedSimpArgs false
set_option linter.unusedVariables false
namespace Go.Proofs.YtbihjgfbocpobaaGreatDoor
open Go.RowKit

/-- From w, where the row is v's, to w', where it is v': no other block has changed. -/
def Step (w : World) (v : Value) (w' : World) (v' : Value) : Prop := w.grownBy w' v.ownBlock ∧ (v'.ownBlock = v.ownBlock ∨ ∃ b, v'.ownBlock = some b ∧ w.heap.size ≤ b)
theorem Step.refl (w : World) (v : Value) : Step w v w v := ⟨⟨rfl, rfl, rfl, Nat.le_refl _, fun _ _ _ => rfl⟩, .inl rfl⟩
theorem Step.trans {w w1 w2 : World} {v v1 v2 : Value} (h : Step w v w1 v1) (k : Step w1 v1 w2 v2) : Step w v w2 v2 := by
  refine ⟨⟨k.1.os.trans h.1.os, k.1.tape.trans h.1.tape, k.1.output.trans h.1.output, Nat.le_trans h.1.size k.1.size, fun g hg hne => ?_⟩, ?_⟩
  · refine (k.1.block g (Nat.lt_of_lt_of_le hg h.1.size) (fun hh => ?_)).trans (h.1.block g hg hne)
    rcases h.2 with h2 | ⟨b, hb, hlt⟩
    · rw [h2] at hh; exact hne hh
    · rw [hb] at hh; simp only [Option.some.injEq] at hh; omega
  · rcases k.2 with k2 | ⟨b, hb, hlt⟩
    · rcases h.2 with h2 | ⟨b, hb, hlt⟩
      · exact .inl (k2.trans h2)
      · exact .inr ⟨b, k2.trans hb, hlt⟩
    · exact .inr ⟨b, hb, Nat.le_trans h.1.size hlt⟩
theorem Step.below {w w1 w2 : World} {v v1 : Value} (h : Step w v w1 v1) (hb : Below w1.heap.size w1 w2) : Step w v w2 v1 :=
  h.trans ⟨⟨hb.os, hb.tape, hb.output, hb.size, fun k hk _ => hb.block k hk⟩, .inl rfl⟩
theorem Step.alloc {w w1 : World} {v v1 : Value} (h : Step w v w1 v1) (o : Obj) : Step w v (w1.alloc o) v1 := h.below ((Below.refl _ _).alloc (Nat.le_refl _) _)
theorem Step.append {w w1 w2 : World} {v v1 v2 : Value} (h : Step w v w1 v1) (hg : w1.grownBy w2 v1.ownBlock) (hw : v2.ownBlock = v1.ownBlock ∨ v2.ownBlock = some w1.heap.size) : Step w v w2 v2 :=
  h.trans ⟨hg, hw.imp id (fun hh => ⟨_, hh, Nat.le_refl _⟩)⟩
theorem Step.cell {w w' : World} {v v' : Value} (h : Step w v w' v') {b o : Nat} (hlt : b < w.heap.size) (hne : some b ≠ v.ownBlock) : w'.cell? ⟨b, o, none⟩ = w.cell? ⟨b, o, none⟩ := World.cell?_of_block (w := w) (h.1.block b hlt hne)

/-- A row of bytes that is the call's own; or one that is full (a literal's: the place behind it is marked). -/
def Holds (w : World) (base : Nat) (v : Value) (n : Nat) (xs : List Value) : Prop :=
  w.ownsRow base 5 1 v n xs ∨ ∃ g, base ≤ g ∧ g < w.heap.size ∧ v = .slice (some ⟨g, 0, none⟩) n n ∧ xs.length = n ∧ ∀ j u, xs[j]? = some u → w.cell? ((⟨g, 0, none⟩ : Addr).add j) = some u
theorem Holds.lt {w : World} {base : Nat} {v : Value} {n : Nat} {xs : List Value} (h : Holds w base v n xs) : ∀ k, v.ownBlock = some k → base ≤ k ∧ k < w.heap.size := by
  rcases h with h | ⟨g, h1, h2, rfl, _⟩
  · exact h.lt
  · intro k hk; simp only [Value.ownBlock, Option.some.injEq] at hk; subst hk; exact ⟨h1, h2⟩
theorem Holds.below {w w' : World} {base : Nat} {v : Value} {n : Nat} {xs : List Value} (h : Holds w base v n xs) (hb : Below w.heap.size w w') : Holds w' base v n xs := by
  rcases h with h | ⟨g, h1, h2, h3, h4, h5⟩
  · exact .inl (h.kept (row := none) ⟨hb.os, hb.tape, hb.output, hb.size, fun k hk _ => hb.block k hk⟩ (by cases v.ownBlock <;> simp))
  · refine .inr ⟨g, h1, Nat.lt_of_lt_of_le h2 hb.size, h3, h4, fun j u hj => ?_⟩
    have := h5 j u hj
    have h6 : ((⟨g, 0, none⟩ : Addr).add j).block = g := by unfold Addr.add; split <;> rfl
    rw [hb.cell (by rw [h6]; exact h2)]; exact this
theorem Holds.alloc {w : World} {base : Nat} {v : Value} {n : Nat} {xs : List Value} (h : Holds w base v n xs) (o : Obj) : Holds (w.alloc o) base v n xs := h.below ((Below.refl _ _).alloc (Nat.le_refl _) _)
section
variable {P : Program} (w : World)
theorem append_holds (base : Nat) (t ty : TypeId) (i : TypeInfo) (z : Value) (ht : P.underlying t = some (.slice 5)) (hi : P.info? 5 = some i) (hz : i.zero = some z)
    (hsize : i.size = 1) (hby : i.bytes = 1) (hzs : z.cells.size = 1)
    (v : Value) (n : Nat) (xs : List Value) (hown : Holds w base v n xs)
    (a : Addr) (m c : Nat) (news : List Value) (hl : news.length = m * 1) (hnews : ∀ j u, news[j]? = some u → w.cell? (a.add j) = some u) (h1 : ∀ u ∈ news, u.oneCell' = true)
    (h63 : n + m ≤ maxLen) (hbytes : (n + m) * 1 ≤ 140737488355328) (hbase : base ≤ w.heap.size) (hm : 0 < m) :
    ∃ v' w', (Builtin.append_ #[t, t] ty #[v, .slice (some a) m c]).run P w = .ok v' w' ∧ w'.ownsRow base 5 1 v' (n + m) (xs ++ news) ∧ w.grownBy w' v.ownBlock ∧ (v'.ownBlock = v.ownBlock ∨ v'.ownBlock = some w.heap.size) := by
  rcases hown with hown | ⟨g, hg1, hg2, rfl, hxl, hcells⟩
  · exact append_where (P := P) w base t ty 5 i z 1 1 ht hi hz hsize hby hzs (by decide) v n xs hown a m c news hl hnews h1 h63 hbytes hbase hm
  · have h63' : ((n + m : Nat) : Int) ≤ 9223372036854775807 := by unfold maxLen at h63; omega
    have hr := run_append_grow (P := P) w t ty 5 i z ht hi hz ⟨g, 0, none⟩ n n xs (by rw [hsize, hxl]; omega) hcells a m c news (by rw [hsize]; exact hl) hnews (by omega) h63' (growslice_fits (by omega) (by rw [hby]; exact hbytes))
    have hge := grownCap_ge w (n + m) n 5
    have hcm2 : grownCap w (n + m) n 5 ≤ maxLen := grownCap_le_maxLen w (n + m) n 5 h63
    have hlen : (xs ++ news).length = (n + m) * 1 := by rw [List.length_append, hxl, hl]; omega
    refine ⟨_, _, hr, ⟨hlen, .inr ⟨w.heap.size, _, _, rfl, hbase, heap_alloc_new w.drew _, hge, hcm2, ?_, ?_⟩⟩, ⟨rfl, rfl, rfl, by simp, fun k hk _ => heap_alloc_old w.drew _ (by exact hk)⟩, .inr rfl⟩
    · simp only [Array.size_append, List.size_toArray, size_zeroCells, hzs, hxl, hl]; omega
    · simp only [Array.toList_append, List.append_assoc]
      rw [← List.append_assoc, ← hlen]
      exact List.take_left
theorem wpList_append_holds {ops : Array Oper} {rest : List Oper} {o : Oper} {a : Act} {Q : Exit → Act → World → Prop} (hgd : o.guard = none) (s x : Operand) (t : TypeId)
    (ho : o.op = .call { callee := .builtin .append, args := #[s, x], argTypes := #[t, t] })
    (base : Nat) (i : TypeInfo) (z : Value) (ht : P.underlying t = some (.slice 5)) (hi : P.info? 5 = some i) (hz : i.zero = some z)
    (hsize : i.size = 1) (hby : i.bytes = 1) (hzs : z.cells.size = 1)
    (v : Value) (n : Nat) (xs : List Value) (hs : a.eval s = v) (hown : Holds w base v n xs)
    (ad : Addr) (m c : Nat) (news : List Value) (hx : a.eval x = .slice (some ad) m c) (hl : news.length = m * 1) (hm : 0 < m) (hnews : ∀ j u, news[j]? = some u → w.cell? (ad.add j) = some u) (h1 : ∀ u ∈ news, u.oneCell' = true)
    (h63 : n + m ≤ maxLen) (hbytes : (n + m) * 1 ≤ 140737488355328) (hbase : base ≤ w.heap.size)
    (h : ∀ v' w', w'.ownsRow base 5 1 v' (n + m) (xs ++ news) → w.grownBy w' v.ownBlock → (v'.ownBlock = v.ownBlock ∨ v'.ownBlock = some w.heap.size) → wpList P ops Q rest (a.put o.dst v') w') : wpList P ops Q (o :: rest) a w :=
  wpList_plain hgd fun _ hK => by
    obtain ⟨v', w', hr, h2, h3, h4⟩ := append_holds (P := P) w base t o.type i z ht hi hz hsize hby hzs v n xs hown ad m c news hl hnews h1 h63 hbytes hbase hm
    have hgo := hK _ _ (h v' w' h2 h3 h4)
    unfold Oper.wp execOp
    simp only [ho, resolve, invoke, builtin, Sem.run_bind, Sem.run_pure, Result.andThen_ok, List.map_toArray, List.map_cons, List.map_nil, hs, hx, hr]
    exact hgo
end
end Go.Proofs.YtbihjgfbocpobaaGreatDoor
