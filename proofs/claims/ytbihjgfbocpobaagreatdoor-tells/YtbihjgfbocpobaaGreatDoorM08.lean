/- Texts CdNum Cdb Cdc CdLaw. -/
import Derived.Test.YtbihjgfbocpobaaGreatDoorM07
import Derived.Laws.BitsAllLaws
import Derived.WalkKit
import Derived.Deep.WholeRow
import Derived.StillTailTactics
/- A number, read byte by byte. -/
set_option linter.unusedSimpArgs false
set_option linter.unusedVariables false
namespace Go.Proofs.YtbihjgfbocpobaaGreatDoor
open Go.RowKit

theorem drop_atL (s : List UInt8) (k : Nat) (h : k < s.length) : s.drop k = s.getD k 0 :: s.drop (k + 1) := by
  rw [List.drop_eq_getElem_cons h, List.getD_eq_getElem?_getD, List.getElem?_eq_getElem h]; rfl
/-- What the loop of number holds at its head: i bytes are read, they come to a. -/
def NumL (s : List UInt8) (p i a : Nat) : Prop := i ≤ 4 ∧ p + i ≤ s.length ∧ a < 128 ^ i ∧ Fl.num s p = Fl.numG p s.length i a (128 ^ i) (s.drop (p + i))
theorem NumL.start (s : List UInt8) (p : Nat) (h : p ≤ s.length) : NumL s p 0 0 := ⟨by omega, by omega, by simp, by simp [Fl.num]⟩
theorem NumL.small {s : List UInt8} {p i a : Nat} (h : NumL s p i a) : a < 268435456 ∧ 128 ^ i ≤ 268435456 := by
  have h1 : 128 ^ i ≤ 128 ^ 4 := Nat.pow_le_pow_right (by omega) h.1
  have h2 : (128 : Nat) ^ 4 = 268435456 := by decide
  have := h.2.2.1
  omega
theorem NumL.stop {s : List UInt8} {p i a : Nat} (h : NumL s p i a) (hlt : ¬ p + i < s.length) (lo hi : Int) : Fl.numB s p lo hi = (0, -1, (s.length : Int)) := by
  obtain ⟨h1, h2, h3, h4⟩ := h
  unfold Fl.numB
  rw [h4, List.drop_of_length_le (by omega)]; simp [Fl.numG]
theorem NumL.next {s : List UInt8} {p i a : Nat} (h : NumL s p i a) (hlt : p + i < s.length) (hi : i < 4) (hc : ¬ (s.getD (p + i) 0).toNat < 128) : NumL s p (i + 1) (a + (s.getD (p + i) 0).toNat % 128 * 128 ^ i) := by
  obtain ⟨h1, h2, h3, h4⟩ := h
  have hm : (s.getD (p + i) 0).toNat % 128 ≤ 127 := by omega
  have hp : (s.getD (p + i) 0).toNat % 128 * 128 ^ i ≤ 127 * 128 ^ i := Nat.mul_le_mul_right _ hm
  have h5 : 128 ^ (i + 1) = 128 ^ i * 128 := Nat.pow_succ ..
  have h6 : 128 ^ (i + 1) ≤ 128 ^ 4 := Nat.pow_le_pow_right (by omega) hi
  have h7 : (128 : Nat) ^ 4 = 268435456 := by decide
  refine ⟨by omega, by omega, by omega, ?_⟩
  rw [h4, drop_atL s (p + i) hlt]; simp only [Fl.numG]
  rw [if_neg (by omega), if_neg hc, show p + (i + 1) = p + i + 1 from by omega, h5]
theorem NumL.full {s : List UInt8} {p a : Nat} (h : NumL s p 4 a) (hlt : p + 4 < s.length) (hc : ¬ (s.getD (p + 4) 0).toNat < 128) (lo hi : Int) : Fl.numB s p lo hi = (0, -1, (p : Int)) := by
  obtain ⟨h1, h2, h3, h4⟩ := h
  have hg : Fl.num s p = (0, -1, (p : Int)) := by
    rw [h4, drop_atL s (p + 4) hlt]; unfold Fl.numG
    exact if_pos (by omega)
  unfold Fl.numB
  rw [hg]; rfl
theorem NumL.last {s : List UInt8} {p i a : Nat} (h : NumL s p i a) (hlt : p + i < s.length) (hc : (s.getD (p + i) 0).toNat < 128) (lo hi : Int) (hlo : 0 ≤ lo) (hhi : hi < 2147483648) :
    Fl.numB s p lo hi = if (0 < (s.getD (p + i) 0).toNat ∨ i = 0) ∧ lo ≤ ((a + (s.getD (p + i) 0).toNat * 128 ^ i : Nat) : Int) ∧ ((a + (s.getD (p + i) 0).toNat * 128 ^ i : Nat) : Int) ≤ hi then (((a + (s.getD (p + i) 0).toNat * 128 ^ i : Nat) : Int), ((p + i + 1 : Nat) : Int), 0) else (0, -1, (p : Int)) := by
  obtain ⟨h1, h2, h3, h4⟩ := h
  generalize hx : (s.getD (p + i) 0).toNat = x at *
  have hm : x % 128 = x := Nat.mod_eq_of_lt hc
  generalize hv : a + x * 128 ^ i = v at *
  have hg : Fl.num s p = if (x = 0 ∧ 0 < i) ∨ 2147483648 ≤ v then (0, -1, (p : Int)) else ((v : Int), ((p + i + 1 : Nat) : Int), 0) := by
    rw [h4, drop_atL s (p + i) hlt]; simp only [Fl.numG, hx, hm, hv]
    by_cases hq : (x = 0 ∧ 0 < i) ∨ 2147483648 ≤ v
    · rw [if_pos (by omega), if_pos hq]
    · rw [if_neg (by omega), if_neg hq, if_pos hc]
  unfold Fl.numB
  rw [hg]
  by_cases hq : (x = 0 ∧ 0 < i) ∨ 2147483648 ≤ v
  · rw [if_pos hq, if_pos (by simp), if_neg (by omega)]
  · rw [if_neg hq]
    rw [if_neg (show ¬ (((p + i + 1 : Nat) : Int) < 0) by omega)]
    by_cases hr : (v : Int) < lo ∨ hi < (v : Int)
    · rw [if_pos hr, if_neg (by omega)]
    · rw [if_neg hr, if_pos (by omega)]
theorem or_add (a c i : Nat) (h : a < 128 ^ i) : a ||| (c <<< (7 * i)) = a + c * 128 ^ i := by
  have h2 : (128 : Nat) ^ i = 2 ^ (7 * i) := by rw [Nat.pow_mul]
  rw [h2] at h ⊢
  rw [Nat.or_comm, ← Nat.shiftLeft_add_eq_or_of_lt h, Nat.shiftLeft_eq]; omega
theorem shift_or (a c i : Nat) (hc : c < 256) (hi : i ≤ 4) (ha : a < 128 ^ i) : bits .or .u64 (a : Int) (IntKind.u64.wrap (IntKind.u64.wrap (bits .and .u8 (c : Int) 127) * 2 ^ (7 * i))) = ((a + c % 128 * 128 ^ i : Nat) : Int) := by
  have h1 : 128 ^ i ≤ 128 ^ 4 := Nat.pow_le_pow_right (by omega) hi
  have h2 : (128 : Nat) ^ 4 = 268435456 := by decide
  have h3 : c % 128 * 128 ^ i ≤ 127 * 268435456 := Nat.mul_le_mul (by omega) (by omega)
  have e1 : bits .and .u8 (c : Int) 127 = ((c % 128 : Nat) : Int) := by
    have := u8_and_nat c 127 hc (by omega)
    rw [nat_mask7] at this; exact this
  have e2 : IntKind.u64.wrap ((c % 128 : Nat) : Int) = ((c % 128 : Nat) : Int) := by rw [IntKind.wrap_u64]; omega
  have e3 : ((c % 128 : Nat) : Int) * 2 ^ (7 * i) = ((c % 128 * 128 ^ i : Nat) : Int) := by
    rw [Int.natCast_mul, Int.natCast_pow, Int.pow_mul]; rfl
  have e4 : IntKind.u64.wrap ((c % 128 * 128 ^ i : Nat) : Int) = ((c % 128 * 128 ^ i : Nat) : Int) := by rw [IntKind.wrap_u64]; omega
  rw [e1, e2, e3, e4, u64_or_nat a (c % 128 * 128 ^ i) (by omega) (by omega)]
  have h4 : c % 128 * 128 ^ i = (c % 128) <<< (7 * i) := by rw [Nat.shiftLeft_eq, Nat.pow_mul]
  rw [← or_add a (c % 128) i ha, h4]
end Go.Proofs.YtbihjgfbocpobaaGreatDoor

/- The program: a number is read. -/
set_option linter.unusedSimpArgs false
set_option linter.unusedVariables false
namespace Go.Proofs.YtbihjgfbocpobaaGreatDoor
open Go.RowKit

/-- How the reading of a number ends. -/
def NumEnds (r : Int × Int × Int) (b : Nat) (w : World) (e : Ending) (w' : World) : Prop :=
  Mv w w' b ∧ (r.2.1 < 0 → e = .panicked (stopAt 8 r.2.2)) ∧ (¬ r.2.1 < 0 → e = .returned (.int .i64 r.1) ∧ w'.cell? ⟨b, 1, none⟩ = some (.int .i64 r.2.1))

theorem numEnds_good {r : Int × Int × Int} {v q b : Nat} {w w' : World} (hr : r = ((v : Int), (q : Int), 0)) (m : Mv w w' b) (c : w'.cell? ⟨b, 1, none⟩ = some (.int .i64 (q : Int))) : NumEnds r b w (.returned (.int .i64 (v : Int))) w' := by
  subst hr; exact ⟨m, fun h => by simp only at h; omega, fun _ => ⟨rfl, c⟩⟩
theorem numEnds_bad {r : Int × Int × Int} {pl : Int} {b : Nat} {w w' : World} (hr : r = (0, -1, pl)) (m : Mv w w' b) : NumEnds r b w (.panicked (stopAt 8 pl)) w' := by
  subst hr; exact ⟨m, fun _ => rfl, fun h => absurd (show (-1 : Int) < 0 by decide) h⟩

/-- What the loop of number holds at its head. -/
def NumLoop (s : List UInt8) (p lo hi i a : Nat) : Prop := NumL s p i a ∨ (i = 5 ∧ Fl.numB s p lo hi = (0, -1, (p : Int)))

set_option maxRecDepth 100000 in
set_option maxHeartbeats 4000000 in
theorem number_walk {b : Nat} {ao : Option Addr} {cap : Nat} {s : List UInt8} {p : Nat} {w : World} (h : Dr w b ao cap s p) (lo hi : Nat) (hhi : hi < 2147483648) (hlo : lo < 2147483648) :
    Calls Tryz.prog 70 #[.pointer (some ⟨b, 0, none⟩), .int .i64 lo, .int .i64 hi] w fun e w' => NumEnds (Fl.numB s p lo hi) b w e w' := by
  have c0 := h.c0
  have c1 := h.c1
  have hs := h.hs
  have hp := h.hp
  have HD : Hid (Dr w b ao cap s p) := h
  clear h
  go_enter Tryz.func70, Tryz.ntmps70
  go_wp2_with fail
  go_loopw [8, 16] (fun n k wr => ∃ i a : Nat, n = .int .u64 a ∧ k = .int .i64 i ∧ NumLoop s p lo hi i a ∧ Mv w wr b ∧ wr.cell? ⟨b, 1, none⟩ = some (.int .i64 ((p + i : Nat) : Int))) (fun _ k _ => 5 - (intOf k).toNat)
  case atStart => exact ⟨0, 0, rfl, rfl, .inl (NumL.start s p hp), Mv.refl _ _, c1⟩
  case round =>
    obtain ⟨i, a, rfl, rfl, hl, hm, hc1⟩ := hrel
    have HM : Hid (Mv w wr b) := hm
    have HC : Hid (wr.cell? ⟨b, 1, none⟩ = some (.int .i64 ((p + i : Nat) : Int))) := hc1
    clear hm hc1
    rcases hl with hl | ⟨rfl, hl⟩
    · have hi4 := hl.1
      have ha := hl.small.1
      have hx := hl.small.2
      have hpi := hl.2.1
      have HL : Hid (NumL s p i a) := hl
      clear hl
      have HDi : Hid (Dr wr b ao cap s (p + i)) := HD.out.move HM.out HC.out hpi
      by_cases hlt : p + i < s.length
      · obtain ⟨c, hc⟩ : ∃ c, c = (s.getD (p + i) 0).toNat := ⟨_, rfl⟩
        have hc256 : c < 256 := by rw [hc]; exact (s.getD (p + i) 0).toNat_lt
        have HN : Hid (Calls Tryz.prog 68 #[.pointer (some ⟨b, 0, none⟩)] wr fun e w' => e = .returned (.int .u8 c) ∧ Mv wr w' b ∧ w'.cell? ⟨b, 1, none⟩ = some (.int .i64 ((p + i + 1 : Nat) : Int))) := by rw [hc]; exact next_ok HDi.out hlt
        have HCC : Hid (c = (s.getD (p + i) 0).toNat) := hc
        clear hc
        obtain ⟨v, hv⟩ : ∃ v, v = a + c % 128 * 128 ^ i := ⟨_, rfl⟩
        have hor : bits .or .u64 (a : Int) (IntKind.u64.wrap (IntKind.u64.wrap (bits .and .u8 (c : Int) 127) * 2 ^ (7 * i))) = (v : Int) := by rw [hv]; exact shift_or a c i hc256 hi4 HL.out.2.2.1
        have hvs : v < 274877906944 := by
          have h3 : c % 128 * 128 ^ i ≤ 127 * 268435456 := Nat.mul_le_mul (by omega) (by omega)
          omega
        have HV : Hid (v = a + c % 128 * 128 ^ i) := hv
        clear hv
        by_cases hc : 128 ≤ c
        · go_wp2_with (go_at_call 68; refine (HN.out).mono ?_; rintro e w1 ⟨rfl, hm1, hc1⟩)
          go_roundw
          case rel =>
            refine ⟨i + 1, v, rfl, by go_num, ?_, HM.out.trans hm1, hc1⟩
            by_cases h4 : i < 4
            · left; rw [HV.out, HCC.out]; exact HL.out.next hlt h4 (by have := HCC.out; omega)
            · right
              have : i = 4 := by omega
              subst this
              exact ⟨rfl, HL.out.full hlt (by have := HCC.out; omega) _ _⟩
          case measure => simp [intOf]; omega
        · have hgv : (v : Int) = ((a + (s.getD (p + i) 0).toNat * 128 ^ i : Nat) : Int) := by
            rw [HV.out, HCC.out, Nat.mod_eq_of_lt (by have := HCC.out; omega)]
          have HLAST := HL.out.last hlt (by have := HCC.out; omega) lo hi (by omega) (by omega)
          rw [← hgv, ← HCC.out] at HLAST
          have HG : Hid (Fl.numB s p lo hi = if (0 < c ∨ i = 0) ∧ (lo : Int) ≤ (v : Int) ∧ (v : Int) ≤ (hi : Int) then ((v : Int), ((p + i + 1 : Nat) : Int), 0) else (0, -1, (p : Int))) := HLAST
          clear hgv HLAST
          by_cases hc0 : c = 0
          · have b0 : ¬ (0 : Int) < (c : Int) := by omega
            have HC0 : Hid (c = 0) := hc0
            clear hc0
            by_cases hi0 : i = 0
            · have bi : ((i : Int) == 0) = true := beq_iff_eq.2 (by omega)
              have HI0 : Hid (i = 0) := hi0
              clear hi0
              by_cases hlov : (lo : Int) ≤ (v : Int)
              · by_cases hvhi : (v : Int) ≤ (hi : Int)
                · go_wp2_with (first | (go_at_call 68; refine (HN.out).mono ?_; rintro e w1 ⟨rfl, hm1, hc1⟩) | (go_at_call 67; refine (need_ok _ _ _).mono ?_; rintro e w2 ⟨rfl, rfl⟩))
                  go_ret
                  exact numEnds_good (HG.out.trans (if_pos ⟨.inr HI0.out, hlov, hvhi⟩)) (HM.out.trans hm1) hc1
                · have bd : decide (v ≤ hi) = false := decide_eq_false (by omega)
                  have bd2 : decide ((v : Int) ≤ (hi : Int)) = false := decide_eq_false hvhi
                  go_wp2_with (first | (go_at_call 68; refine (HN.out).mono ?_; rintro e w1 ⟨rfl, hm1, hc1⟩) | (go_at_call 67; refine (need_bad _ _ _).mono ?_; rintro e w2 ⟨rfl, hb2⟩))
                  exact ⟨rfl, numEnds_bad (HG.out.trans (if_neg (by omega))) ((HM.out.trans hm1).trans (Mv.of_below hb2 (hm1.lt HDi.out.lt)))⟩
              · go_wp2_with (first | (go_at_call 68; refine (HN.out).mono ?_; rintro e w1 ⟨rfl, hm1, hc1⟩) | (go_at_call 67; refine (need_bad _ _ _).mono ?_; rintro e w2 ⟨rfl, hb2⟩))
                exact ⟨rfl, numEnds_bad (HG.out.trans (if_neg (by omega))) ((HM.out.trans hm1).trans (Mv.of_below hb2 (hm1.lt HDi.out.lt)))⟩
            · have bi : ((i : Int) == 0) = false := beq_eq_false_iff_ne.2 (by omega)
              go_wp2_with (first | (go_at_call 68; refine (HN.out).mono ?_; rintro e w1 ⟨rfl, hm1, hc1⟩) | (go_at_call 67; refine (need_bad _ _ _).mono ?_; rintro e w2 ⟨rfl, hb2⟩))
              exact ⟨rfl, numEnds_bad (HG.out.trans (if_neg (by have := HC0.out; omega))) ((HM.out.trans hm1).trans (Mv.of_below hb2 (hm1.lt HDi.out.lt)))⟩
          · have b0 : ¬ (c : Int) ≤ 0 := by omega
            by_cases hlov : (lo : Int) ≤ (v : Int)
            · by_cases hvhi : (v : Int) ≤ (hi : Int)
              · go_wp2_with (first | (go_at_call 68; refine (HN.out).mono ?_; rintro e w1 ⟨rfl, hm1, hc1⟩) | (go_at_call 67; refine (need_ok _ _ _).mono ?_; rintro e w2 ⟨rfl, rfl⟩))
                go_ret
                exact numEnds_good (HG.out.trans (if_pos ⟨.inl (by omega), hlov, hvhi⟩)) (HM.out.trans hm1) hc1
              · have bd : decide (v ≤ hi) = false := decide_eq_false (by omega)
                have bd2 : decide ((v : Int) ≤ (hi : Int)) = false := decide_eq_false hvhi
                go_wp2_with (first | (go_at_call 68; refine (HN.out).mono ?_; rintro e w1 ⟨rfl, hm1, hc1⟩) | (go_at_call 67; refine (need_bad _ _ _).mono ?_; rintro e w2 ⟨rfl, hb2⟩))
                exact ⟨rfl, numEnds_bad (HG.out.trans (if_neg (by omega))) ((HM.out.trans hm1).trans (Mv.of_below hb2 (hm1.lt HDi.out.lt)))⟩
            · go_wp2_with (first | (go_at_call 68; refine (HN.out).mono ?_; rintro e w1 ⟨rfl, hm1, hc1⟩) | (go_at_call 67; refine (need_bad _ _ _).mono ?_; rintro e w2 ⟨rfl, hb2⟩))
              exact ⟨rfl, numEnds_bad (HG.out.trans (if_neg (by omega))) ((HM.out.trans hm1).trans (Mv.of_below hb2 (hm1.lt HDi.out.lt)))⟩
      · go_wp2_with (go_at_call 68; refine (next_end HDi.out hlt).mono ?_; rintro e w1 ⟨rfl, hm1⟩)
        exact ⟨rfl, numEnds_bad (HL.out.stop hlt _ _) (HM.out.trans hm1)⟩
    · go_wp2_with (go_at_call 67; refine (need_bad _ _ _).mono ?_; rintro e w1 ⟨rfl, hb1⟩)
      exact ⟨rfl, numEnds_bad hl (HM.out.trans (Mv.of_below hb1 (HM.out.lt HD.out.lt)))⟩
end Go.Proofs.YtbihjgfbocpobaaGreatDoor

/- The program: numbers are read. -/
set_option linter.unusedSimpArgs false
set_option linter.unusedVariables false
namespace Go.Proofs.YtbihjgfbocpobaaGreatDoor
open Go.RowKit

theorem Fl.numB_max (s : List UInt8) (p : Nat) (h : p ≤ s.length) : Fl.numB s p 0 2147483647 = Fl.num s p := by
  have h1 := Fl.num_ok s p h
  unfold Fl.numB
  generalize Fl.num s p = r at *
  obtain ⟨x, y, z⟩ := r
  simp only at h1 ⊢
  rcases h1 with h1 | h1
  · rw [if_pos (by omega), h1.1, h1.2.1]
  · rw [if_neg (by omega), if_neg (by omega), h1.2.2.2.2]
/-- What the loop of numbers holds. -/
def NumsL (s : List UInt8) (p n k q : Nat) (xs : List Int) : Prop := k ≤ n ∧ q ≤ s.length ∧ xs.length = k ∧ Fl.nums s p n = Fl.numsA s (n - k) q xs
theorem NumsL.bad {s : List UInt8} {p n k q : Nat} {xs : List Int} (h : NumsL s p n k q xs) (hk : k < n) {v m b : Int} (hn : Fl.num s q = (v, m, b)) (hm : m < 0) : Fl.nums s p n = ([], -1, b) := by
  obtain ⟨h1, h2, h3, h4⟩ := h
  rw [h4, show n - k = (n - k - 1) + 1 from by omega]; simp only [Fl.numsA, hn, if_pos hm]
theorem NumsL.step {s : List UInt8} {p n k q : Nat} {xs : List Int} (h : NumsL s p n k q xs) (hk : k < n) {v m b : Int} (hn : Fl.num s q = (v, m, b)) (hm : ¬ m < 0) : NumsL s p n (k + 1) m.toNat (xs ++ [v]) := by
  obtain ⟨h1, h2, h3, h4⟩ := h
  have hok := Fl.num_ok s q h2
  rw [hn] at hok
  refine ⟨by omega, by simp only at hok; omega, by simp [h3], ?_⟩
  rw [h4, show n - k = (n - (k + 1)) + 1 from by omega]; simp only [Fl.numsA, hn, if_neg hm]

/-- How the reading of numbers ends. -/
def NumsEnds (r : List Int × Int × Int) (b : Nat) (w : World) (e : Ending) (w' : World) : Prop :=
  Mv w w' b ∧ (r.2.1 < 0 → e = .panicked (stopAt 8 r.2.2)) ∧ (¬ r.2.1 < 0 → ∃ lv, e = .returned lv ∧ w'.ownsRow w.heap.size 3 1 lv r.1.length (r.1.map (Value.int .i64)) ∧ w'.cell? ⟨b, 1, none⟩ = some (.int .i64 r.2.1))

theorem numsEnds_bad {r : List Int × Int × Int} {pl : Int} {b : Nat} {w w' : World} (hr : r = ([], -1, pl)) (m : Mv w w' b) : NumsEnds r b w (.panicked (stopAt 8 pl)) w' := by
  subst hr; exact ⟨m, fun _ => rfl, fun h => absurd (show (-1 : Int) < 0 by decide) h⟩
theorem number_max {b : Nat} {ao : Option Addr} {cap : Nat} {s : List UInt8} {p : Nat} {w : World} (h : Dr w b ao cap s p) :
    Calls Tryz.prog 70 #[.pointer (some ⟨b, 0, none⟩), .int .i64 0, .int .i64 2147483647] w fun e w' => NumEnds (Fl.num s p) b w e w' := by
  rw [← Fl.numB_max s p h.hp]; exact number_walk h 0 2147483647 (by omega) (by omega)
theorem own_ne {w : World} {base : Nat} {e : TypeId} {size : Nat} {v : Value} {n : Nat} {xs : List Value} {b : Nat} (h : w.ownsRow base e size v n xs) (hb : b < base) : v.ownBlock = none ∨ v.ownBlock ≠ some b := by
  right; intro hh; have := (h.lt b hh).1; omega

set_option maxRecDepth 100000 in
set_option maxHeartbeats 4000000 in
theorem numbers_walk {b : Nat} {ao : Option Addr} {cap : Nat} {s : List UInt8} {p : Nat} {w : World} (h : Dr w b ao cap s p) (n : Nat) (hn : n ≤ 200) :
    Calls Tryz.prog 69 #[.pointer (some ⟨b, 0, none⟩), .int .i64 n, .int .i64 2147483647] w fun e w' => NumsEnds (Fl.nums s p n) b w e w' := by
  obtain ⟨i0, hi, hz0, hz1, hz2⟩ := info_parts Tryz.infoInt
  have HD : Hid (Dr w b ao cap s p) := h
  clear h
  go_enter Tryz.func69, Tryz.ntmps69
  go_wp2_with fail
  go_loopw [7, 9] (fun v i wr => ∃ (k q : Nat) (xs : List Int), NumsL s p n k q xs ∧ i = .int .i64 k ∧ wr.ownsRow w.heap.size 3 1 v xs.length (xs.map (Value.int .i64)) ∧ Mv w wr b ∧ wr.cell? ⟨b, 1, none⟩ = some (.int .i64 (q : Int))) (fun _ i _ => n - (intOf i).toNat)
  case atStart => exact ⟨0, p, [], ⟨by omega, HD.out.hp, rfl, rfl⟩, rfl, World.ownsRow_nil _ _ _ _, Mv.refl _ _, HD.out.c1⟩
  case round =>
    obtain ⟨k, q, xs, hr, rfl, hown, hm, hc1⟩ := hrel
    have HR : Hid (NumsL s p n k q xs) := hr
    have HDq : Hid (Dr wr b ao cap s q) := HD.out.move hm hc1 hr.2.1
    have hkn := hr.1
    have hxl : xs.length ≤ 200 := by have := hr.2.2.1; omega
    have hlb := HD.out.lt
    have hbs := hm.g.size
    have HM : Hid (Mv w wr b) := hm
    have HO : Hid (wr.ownsRow w.heap.size 3 1 u7 xs.length (xs.map (Value.int .i64))) := hown
    have HC1 : Hid (wr.cell? ⟨b, 1, none⟩ = some (.int .i64 (q : Int))) := hc1
    clear hr hm hown hc1
    by_cases hlt : k < n
    · obtain ⟨x, m, y, hnum⟩ : ∃ x m y, Fl.num s q = (x, m, y) := ⟨_, _, _, rfl⟩
      have hcall := number_max HDq.out
      rw [hnum] at hcall
      have HN : Hid (Fl.num s q = (x, m, y)) := hnum
      have HCA : Hid (Calls Tryz.prog 70 #[.pointer (some ⟨b, 0, none⟩), .int .i64 0, .int .i64 2147483647] wr fun e w' => NumEnds (x, m, y) b wr e w') := hcall
      clear hnum hcall
      by_cases hm : m < 0
      · go_wp2_with (go_at_call 70; refine (HCA.out).mono ?_; rintro e w1 ⟨hm1, he, _⟩; obtain rfl := he hm)
        exact ⟨rfl, numsEnds_bad (HR.out.bad hlt HN.out hm) (HM.out.trans hm1)⟩
      · go_wp2_with (first | (go_at_call 70; refine (HCA.out).mono ?_; rintro e w1 ⟨hm1, _, he⟩; obtain ⟨rfl, hc1⟩ := he hm; have hown := HO.out.kept hm1.g (own_ne HO.out hlb)) | (at_builtin; refine wpList_append_own _ rfl _ _ 29 rfl w.heap.size 3 i0 (.int .i64 0) 1 8 Tryz.underlying29 hi hz0 hz1 hz2 rfl (by decide) _ _ _ rfl (hown.alloc _) ⟨_, 0, none⟩ 1 1 [.int .i64 x] rfl rfl one_cell_new ?c2 ?c3 ?c4 ?c5 ?_))
        case c2 => intro u hu; simp at hu; subst hu; rfl
        case c3 => unfold maxLen; omega
        case c4 => omega
        case c5 => have := hm1.g.size; simp; omega
        · intro v' w2 hown' hgrow _
          have HS : Hid (NumsL s p n (k + 1) m.toNat (xs ++ [x])) := HR.out.step hlt HN.out (by omega)
          have hm2 : Mv w w2 b := ((HM.out.trans hm1).alloc hlb _).andGrown hgrow hlb (fun g hg => (hown.lt g hg).1)
          have hc2 : w2.cell? ⟨b, 1, none⟩ = some (.int .i64 ((m.toNat : Nat) : Int)) := by
            rw [Int.toNat_of_nonneg (by omega)]
            refine hgrow.cell ((World.grownBy_alloc w1 _ none).cell hc1 (by simp)) ?_
            intro hh; have := (hown.lt b hh.symm).1; omega
          have ho1 : w2.ownsRow w.heap.size 3 1 v' (xs ++ [x]).length ((xs ++ [x]).map (Value.int .i64)) := by simpa using hown'
          clear hown' hgrow hown HCA hm1 hc1
          go_wp2
          go_roundw
          case rel => exact ⟨k + 1, m.toNat, xs ++ [x], HS.out, by go_num, ho1, hm2, hc2⟩
          case measure => simp [intOf]; omega
    · have hkn' : k = n := by omega
      have hfin : Fl.nums s p n = (xs, (q : Int), 0) := by
        have := HR.out.2.2.2; rw [this, hkn', Nat.sub_self]; rfl
      have HF : Hid (Fl.nums s p n = (xs, (q : Int), 0)) := hfin
      clear hfin hkn'
      go_wp2
      go_ret
      exact ⟨HM.out, fun h => absurd h (by rw [HF.out]; simp only; omega), fun _ => ⟨_, rfl, by rw [HF.out]; exact HO.out, by rw [HF.out]; exact HC1.out⟩⟩
end Go.Proofs.YtbihjgfbocpobaaGreatDoor

/- Laws of our own on whole rows of cells. -/
set_option linter.unusedSimpArgs false
set_option linter.unusedVariables false
namespace Go.Proofs.YtbihjgfbocpobaaGreatDoor
open Go.RowKit

section
variable {P : Program} {w : World} {ops : Array Oper} {rest : List Oper} {o : Oper} {a : Act} {Q : Exit → Act → World → Prop}
/-- A whole aggregate, built. -/
theorem wpList_build_whole (hgd : o.guard = none) (t : TypeId) (parts : Array (Nat × Operand)) (ho : o.op = .build t parts) (arr : Array Value)
    (hrun : (Instr.build t (parts.map fun (i, x) => (i, a.eval x))).run P w = .ok (.agg arr) w) (h : wpList P ops Q rest (a.put o.dst (.agg arr)) w) : wpList P ops Q (o :: rest) a w :=
  wpList_plain hgd fun _ hK => by
    have hgo := hK _ _ h
    unfold Oper.wp execOp
    simp only [ho, Sem.run_bind, hrun, Result.andThen_ok, Sem.run_pure]
    exact hgo
/-- A whole aggregate, stored into the newest block. -/
theorem wpList_store_new (hgd : o.guard = none) (x y : Operand) (t : TypeId) (ho : o.op = .store t x y) (w : World) (c c' : Array Value) (hx : a.eval x = .pointer (some ⟨w.heap.size, 0, none⟩)) (hy : a.eval y = .agg c')
    (hi : (P.info? t).map (·.size) = some c'.size) (hsz : c.size = c'.size) (h1 : c'.all (·.oneCell') = true) (h : wpList P ops Q rest (a.put o.dst undef) (w.alloc (.cells c' t))) : wpList P ops Q (o :: rest) a (w.alloc (.cells c t)) :=
  wpList_plain hgd fun _ hK => by
    have hgo := hK _ _ h
    unfold Oper.wp execOp
    simp only [ho, Sem.run_bind, hx, hy, run_storeAt_new w t c c' hi hsz h1, Result.andThen_ok, Sem.run_pure]
    exact hgo
theorem wpList_store_newN (hgd : o.guard = none) (x y : Operand) (t : TypeId) (ho : o.op = .store t x y) (w : World) (N : Nat) (c c' : Array Value) (hx : a.eval x = .pointer (some ⟨N, 0, none⟩)) (hN : w.heap.size = N) (hy : a.eval y = .agg c')
    (hi : (P.info? t).map (·.size) = some c'.size) (hsz : c.size = c'.size) (h1 : c'.all (·.oneCell') = true) (h : wpList P ops Q rest (a.put o.dst undef) (w.alloc (.cells c' t))) : wpList P ops Q (o :: rest) a (w.alloc (.cells c t)) := by
  subst hN; exact wpList_store_new hgd x y t ho w c c' hx hy hi hsz h1 h
theorem exec_store_new (x y : Operand) (t : TypeId) (ho : o.op = .store t x y) (w : World) (c c' : Array Value) (hx : a.eval x = .pointer (some ⟨w.heap.size, 0, none⟩)) (hy : a.eval y = .agg c')
    (hi : (P.info? t).map (·.size) = some c'.size) (hsz : c.size = c'.size) (h1 : c'.all (·.oneCell') = true) : (execOp a.eval o).run P (w.alloc (.cells c t)) = .ok .skip (w.alloc (.cells c' t)) := by
  unfold execOp
  simp only [ho, Sem.run_bind, hx, hy, run_storeAt_new w t c c' hi hsz h1, Result.andThen_ok, Sem.run_pure]
/-- A whole row, loaded; a whole row, stored. -/
theorem wpList_load_row (hgd : o.guard = none) (x : Operand) (t : TypeId) (ho : o.op = .load t x) (g : Nat) (hx : a.eval x = .pointer (some ⟨g, 0, none⟩)) (arr : Array Value) (te : TypeId) (fr : Nat × Nat) (hg : w.heap[g]? = some (.cells arr te fr))
    (d : TypeDesc) (hu : P.underlying t = some d) (hd : (match d with | .struct _ | .array _ _ => true | _ => false) = true) (hi : (P.info? t).map (·.size) = some arr.size) (h : wpList P ops Q rest (a.put o.dst (.agg arr)) w) : wpList P ops Q (o :: rest) a w :=
  wpList_plain hgd fun _ hK => by
    have hgo := hK _ _ h
    unfold Oper.wp execOp
    simp only [ho, Sem.run_bind, hx, Instr.loadAt, Instr.sureAddr, Sem.run_pure, Result.andThen_ok, run_loadVar_row w g te t arr fr d hg hu hd hi]
    exact hgo
theorem wpList_store_row (hgd : o.guard = none) (x y : Operand) (t : TypeId) (ho : o.op = .store t x y) (g : Nat) (hx : a.eval x = .pointer (some ⟨g, 0, none⟩)) (c c' : Array Value) (hy : a.eval y = .agg c') (te : TypeId) (hg : w.heap[g]? = some (.cells c te (0, 0)))
    (hi : (P.info? t).map (·.size) = some c'.size) (hsz : c.size = c'.size) (h1 : c'.all (·.oneCell') = true) (h : wpList P ops Q rest (a.put o.dst undef) (w.setRow g c')) : wpList P ops Q (o :: rest) a w :=
  wpList_plain hgd fun _ hK => by
    have hgo := hK _ _ h
    unfold Oper.wp execOp
    simp only [ho, Sem.run_bind, hx, hy, Instr.storeAt, Instr.sureAddr, Sem.run_pure, Result.andThen_ok, run_storeVar_row w g te t c c' hg hi hsz h1]
    exact hgo
theorem still_value {L : Act → Prop} (hgd : o.guard = none) (v : Value) (hrun : (execOp a.eval o).run P w = .ok (.value v) w) (h : wpStill P ops w L rest (a.put o.dst v)) : wpStill P ops w L (o :: rest) a := by
  unfold wpStill
  simp only [Region.wanted, hgd, if_true, Oper.still, hrun, Oper.stillUpon, true_and]
  exact h
theorem exec_load_row (x : Operand) (t : TypeId) (ho : o.op = .load t x) (g : Nat) (hx : a.eval x = .pointer (some ⟨g, 0, none⟩)) (arr : Array Value) (te : TypeId) (fr : Nat × Nat) (hg : w.heap[g]? = some (.cells arr te fr))
    (d : TypeDesc) (hu : P.underlying t = some d) (hd : (match d with | .struct _ | .array _ _ => true | _ => false) = true) (hi : (P.info? t).map (·.size) = some arr.size) : (execOp a.eval o).run P w = .ok (.value (.agg arr)) w := by
  unfold execOp
  simp only [ho, Sem.run_bind, hx, Instr.loadAt, Instr.sureAddr, Sem.run_pure, Result.andThen_ok, run_loadVar_row w g te t arr fr d hg hu hd hi]
theorem exec_lookup (m x : Operand) (t : TypeId) (ho : o.op = .lookup t m x true) (mv kv v : Value) (hm : a.eval m = mv) (hx : a.eval x = kv) (hrun : (Instr.lookup t mv kv true).run P w = .ok v w) : (execOp a.eval o).run P w = .ok (.value v) w := by
  unfold execOp
  simp only [ho, Sem.run_bind, hm, hx, hrun, Result.andThen_ok, Sem.run_pure]
/-- A result that lies in a block. -/
theorem results_cell1 {P : Program} {fn : Func} {p : Tmp} {ty : TypeId} (h : fn.results = #[.cell p ty]) (tmps : Array Value) (w : World) (ad : Addr) (v : Value) (ha : tmps.getD p undef = .pointer (some ad)) (hl : (loadVar ty ad).run P w = .ok v w) :
    (results fn tmps).run P w = .ok v w := by
  have ha' : tmps[p]?.getD undef = .pointer (some ad) := by rw [← ha, Array.getD_eq_getD_getElem?]
  simp only [results, h]
  simp [Sem.run_bind, Result.andThen, ha', asAddr, hl]
end
end Go.Proofs.YtbihjgfbocpobaaGreatDoor
