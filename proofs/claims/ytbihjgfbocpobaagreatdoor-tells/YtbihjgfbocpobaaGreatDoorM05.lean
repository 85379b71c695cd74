/- Texts RefE RefF RefG Spl. -/
import Derived.Test.YtbihjgfbocpobaaGreatDoorM04
import Derived.Lib.Split
import Derived.Lib.ItoaNum
/- Numbers as bytes: the reference's coded. -/
set_option linter.unusedSimpArgs false
set_option linter.unusedVariables false
namespace Go.Proofs.YtbihjgfbocpobaaGreatDoor
open Go.RowKit

/-- A string of one byte, out of a new list of it. -/
theorem conv_byte (x : Int) (w : World) : (convert 23 9 (.slice (some ⟨w.heap.size, 0, none⟩) 1 1)).run Tryz.prog (w.alloc (.cells #[.int .u8 x] 5)) = .ok (.string ⟨#[UInt8.ofNat x.toNat]⟩) (w.alloc (.cells #[.int .u8 x] 5)) := by
  rw [run_convert_bytes_string _ _ _ _ _ _ _ Tryz.underlying23 Tryz.underlying5 Tryz.underlying9]
  rw [run_bytesToString _ _ _ _ [x] (by simp [loadCells, loadCellsFrom, Addr.add])]
  rfl

theorem ret_string {a b : ByteArray} (h : a = b) : Ending.returned (.string a) = .returned (.string b) := by rw [h]
theorem high_bytes (v : Nat) (t : List UInt8) : (⟨#[UInt8.ofNat (v % 128) + 128]⟩ : ByteArray) ++ ⟨t.toArray⟩ = ⟨(UInt8.ofNat (v % 128 + 128) :: t).toArray⟩ := by
  have h : UInt8.ofNat (v % 128) + 128 = UInt8.ofNat (v % 128 + 128) := by rw [UInt8.ofNat_add]; rfl
  rw [h]
  exact ByteArray.mk_append_mk [UInt8.ofNat (v % 128 + 128)] t

set_option maxRecDepth 100000 in
set_option maxHeartbeats 1000000 in
theorem coded_low (v : Nat) (w : World) (hv : v < 128) : Calls Tryz.prog 27 #[.int .i64 v] w fun e w' => e = .returned (.string ⟨#[UInt8.ofNat v]⟩) ∧ Below w.heap.size w w' := by
  have hcv := conv_byte v w
  go_enter Tryz.func27, Tryz.ntmps27
  go_wp2
  go_ret
  exact ⟨rfl, (Below.refl _ _).alloc (Nat.le_refl _) _⟩

set_option maxRecDepth 100000 in
set_option maxHeartbeats 1000000 in
theorem coded_high (v : Nat) (t : List UInt8) (w : World) (hv : ¬ v < 128) (hm : v < 2147483648) (ht : t.length ≤ 100)
    (H : Hid (∀ w, Calls Tryz.prog 27 #[.int .i64 ((v : Int) / 128)] w fun e w' => e = .returned (.string ⟨t.toArray⟩) ∧ Below w.heap.size w w')) :
    Calls Tryz.prog 27 #[.int .i64 v] w fun e w' => e = .returned (.string ⟨(UInt8.ofNat (v % 128 + 128) :: t).toArray⟩) ∧ Below w.heap.size w w' := by
  have hcv := fun w => conv_byte ((v : Int) % 128 + 128) w
  go_enter Tryz.func27, Tryz.ntmps27
  go_wp2_with fail
  refine (H.out _).mono ?_
  rintro e w1 ⟨rfl, hb⟩
  have hcw := hcv w1
  clear hcv
  have hs1 : ((⟨t.toArray⟩ : ByteArray).size : Int) ≤ 100 := by show ((t.toArray.size : Nat) : Int) ≤ 100; simp; omega
  go_wp2
  go_ret
  exact ⟨ret_string (high_bytes v t), hb.trans ((Below.refl _ _).alloc hb.size _)⟩

theorem coded_walk (f : Nat) (hf : f ≤ 20) : ∀ (v : Nat) (w : World), v < 128 ^ (f + 1) → v < 2147483648 → Calls Tryz.prog 27 #[.int .i64 v] w fun e w' => e = .returned (.string ⟨(Fl.codedF f v).toArray⟩) ∧ Below w.heap.size w w' := by
  induction f with
  | zero => intro v w hv _; exact coded_low v w (by simpa using hv)
  | succ f ih =>
    intro v w hv hm
    by_cases hlt : v < 128
    · have := coded_low v w hlt
      simp only [Fl.codedF, if_pos hlt]; exact this
    · simp only [Fl.codedF, if_neg hlt]
      have hd : ((v : Int) / 128) = ((v / 128 : Nat) : Int) := by omega
      refine coded_high v _ w hlt hm (by have := Fl.codedF_len f (v / 128); omega) ?_
      intro w2
      rw [hd]
      exact ih (by omega) (v / 128) w2 (by rw [Nat.pow_succ] at hv; omega) (by omega)
/-- coded, of every number that a proof may hold. -/
theorem coded_any (v : Nat) (w : World) (hm : v < 2147483648) : Calls Tryz.prog 27 #[.int .i64 v] w fun e w' => e = .returned (.string ⟨(Fl.coded v).toArray⟩) ∧ Below w.heap.size w w' :=
  coded_walk 9 (by decide) v w (Nat.lt_of_lt_of_le hm (by decide)) hm
end Go.Proofs.YtbihjgfbocpobaaGreatDoor

/- The reference's num. -/
set_option linter.unusedSimpArgs false
set_option linter.unusedVariables false
namespace Go.Proofs.YtbihjgfbocpobaaGreatDoor
open Go.RowKit

theorem drop_at (s : ByteArray) (k : Nat) (h : k < s.size) : s.data.toList.drop k = s[k] :: s.data.toList.drop (k + 1) := by
  rw [List.drop_eq_getElem_cons (by simpa using h)]; rfl
theorem ret_iii {a b c a' b' c' : Int} (h : (a, b, c) = (a', b', c')) : Ending.returned (.tuple #[.int .i64 a, .int .i64 b, .int .i64 c]) = .returned (.tuple #[.int .i64 a', .int .i64 b', .int .i64 c']) := by
  simp only [Prod.mk.injEq] at h; obtain ⟨rfl, rfl, rfl⟩ := h; rfl
theorem ret_num {r : Int × Int × Int} {a b c : Int} (h : r = (a, b, c)) : Ending.returned (.tuple #[.int .i64 a, .int .i64 b, .int .i64 c]) = .returned (.tuple #[.int .i64 r.1, .int .i64 r.2.1, .int .i64 r.2.2]) := by
  subst h; rfl

/-- What the loop of num holds at its head. -/
def NumRel (s : ByteArray) (p q a x : Nat) : Prop := p ≤ q ∧ q ≤ p + 4 ∧ q ≤ s.size ∧ a < 2147483648 ∧ x = 128 ^ (q - p) ∧ Fl.num s.data.toList p = Fl.numG p s.size (q - p) a x (s.data.toList.drop q)
theorem num_bad {s : ByteArray} {p q a x : Nat} (h : NumRel s p q a x) (hlt : q < s.size) (hb : (s[q].toNat = 0 ∧ p < q) ∨ 2147483648 ≤ a + s[q].toNat % 128 * x ∨ (q = p + 4 ∧ 128 ≤ s[q].toNat)) : Fl.num s.data.toList p = (0, -1, (p : Int)) := by
  obtain ⟨h1, h2, h3, h4, h5, h6⟩ := h
  rw [h6, drop_at s q hlt]; simp only [Fl.numG]
  rw [if_pos (by omega)]
theorem num_good {s : ByteArray} {p q a x : Nat} (h : NumRel s p q a x) (hlt : q < s.size) (hb : ¬ ((s[q].toNat = 0 ∧ p < q) ∨ 2147483648 ≤ a + s[q].toNat % 128 * x ∨ (q = p + 4 ∧ 128 ≤ s[q].toNat))) (hc : s[q].toNat < 128) : Fl.num s.data.toList p = (((a + s[q].toNat % 128 * x : Nat) : Int), ((q + 1 : Nat) : Int), 0) := by
  obtain ⟨h1, h2, h3, h4, h5, h6⟩ := h
  rw [h6, drop_at s q hlt]; simp only [Fl.numG]
  rw [if_neg (by omega), if_pos hc]
  congr 2; omega
theorem num_next {s : ByteArray} {p q a x : Nat} (h : NumRel s p q a x) (hlt : q < s.size) (hb : ¬ ((s[q].toNat = 0 ∧ p < q) ∨ 2147483648 ≤ a + s[q].toNat % 128 * x ∨ (q = p + 4 ∧ 128 ≤ s[q].toNat))) (hc : ¬ s[q].toNat < 128) : NumRel s p (q + 1) (a + s[q].toNat % 128 * x) (x * 128) := by
  obtain ⟨h1, h2, h3, h4, h5, h6⟩ := h
  have h44 : q ≠ p + 4 := by intro e; exact hb (Or.inr (Or.inr ⟨e, by omega⟩))
  refine ⟨by omega, by omega, by omega, by omega, ?_, ?_⟩
  · rw [h5, show q + 1 - p = (q - p) + 1 from by omega, Nat.pow_succ]
  · rw [h6, drop_at s q hlt]; simp only [Fl.numG]
    rw [if_neg (by omega), if_neg hc, show q + 1 - p = (q - p) + 1 from by omega]
theorem num_stop {s : ByteArray} {p q a x : Nat} (h : NumRel s p q a x) (hlt : ¬ q < s.size) : Fl.num s.data.toList p = (0, -1, (s.size : Int)) := by
  obtain ⟨h1, h2, h3, h4, h5, h6⟩ := h
  rw [h6, List.drop_of_length_le (by simp; omega)]; rfl
theorem num_unit {s : ByteArray} {p q a x : Nat} (h : NumRel s p q a x) : x ≤ 268435456 := by
  rw [h.2.2.2.2.1]; exact Nat.le_trans (Nat.pow_le_pow_right (by omega) (show q - p ≤ 4 from by have := h.2.1; omega)) (by decide)

set_option maxRecDepth 100000 in
set_option maxHeartbeats 2000000 in
theorem num_walk (s : ByteArray) (p : Nat) (w : World) (hs : s.size ≤ 4611686018427387904) (hp : p ≤ s.size) :
    Calls Tryz.prog 15 #[.string s, .int .i64 p] w fun e w' => e = .returned (.tuple #[.int .i64 (Fl.num s.data.toList p).1, .int .i64 (Fl.num s.data.toList p).2.1, .int .i64 (Fl.num s.data.toList p).2.2]) ∧ w' = w := by
  go_enter Tryz.func15, Tryz.ntmps15
  go_wp2
  go_loop [7, 8, 9] (fun v u i => ∃ q a x : Nat, NumRel s p q a x ∧ v = .int .i64 a ∧ u = .int .i64 x ∧ i = .int .i64 q) (fun _ _ i => s.size - (intOf i).toNat)
  case atStart => exact ⟨p, 0, 1, ⟨by omega, by omega, hp, by omega, by simp, by simp [Fl.num]⟩, rfl, rfl, rfl⟩
  case round =>
    obtain ⟨q, a, x, hr, rfl, rfl, rfl⟩ := hrel
    have hx := num_unit hr
    have ha := hr.2.2.2.1
    have hpq := hr.1
    have hq4 := hr.2.1
    have HR : Hid (NumRel s p q a x) := hr
    clear hr
    by_cases hlt : q < s.size
    · have hc : s[q].toNat < 256 := s[q].toNat_lt
      have hm1 : (0 : Int) ≤ (s[q].toNat : Int) % 128 * (x : Int) := Int.mul_nonneg (by omega) (by omega)
      have hm2 : (s[q].toNat : Int) % 128 * (x : Int) ≤ 127 * 268435456 := Int.mul_le_mul (by omega) (by omega) (by omega) (by omega)
      have hmc : (((s[q].toNat % 128 * x : Nat)) : Int) = (s[q].toNat : Int) % 128 * (x : Int) := by simp
      have HM : Hid ((((s[q].toNat % 128 * x : Nat)) : Int) = (s[q].toNat : Int) % 128 * (x : Int)) := hmc
      clear hmc
      by_cases h1 : s[q].toNat = 0
      · have b1 : ((s[q].toNat : Int) == 0) = true := beq_iff_eq.2 (by omega)
        by_cases h2 : p < q
        · go_wp2
          go_ret3
          exact ⟨ret_num (num_bad HR.out hlt (by first | omega | (have := H4.out; omega))), rfl⟩
        · have hqp : q = p := by omega
          subst hqp
          clear hm1 hm2 hpq hq4 h2
          have h3 : ¬ (2147483648 : Int) ≤ (a : Int) := by omega
          go_wp2
          go_ret3
          exact ⟨ret_num (by rw [num_good HR.out hlt (by have hz : s[q].toNat % 128 * x = 0 := (by rw [h1]; simp); omega) (by omega)]; simp [h1]), rfl⟩
      · have b1 : ((s[q].toNat : Int) == 0) = false := beq_eq_false_iff_ne.2 (by omega)
        by_cases h3 : (2147483648 : Int) ≤ (a : Int) + (s[q].toNat : Int) % 128 * (x : Int)
        · go_wp2
          go_ret3
          exact ⟨ret_num (num_bad HR.out hlt (by have := HM.out; omega)), rfl⟩
        · by_cases h4 : q = p + 4
          · have b4 : ((q : Int) == (p : Int) + 4) = true := beq_iff_eq.2 (by omega)
            have H4 : Hid (q = p + 4) := h4
            clear h4
            by_cases h5 : 128 ≤ s[q].toNat
            · go_wp2
              go_ret3
              exact ⟨ret_num (num_bad HR.out hlt (by first | omega | (have := H4.out; omega))), rfl⟩
            · go_wp2
              go_ret3
              exact ⟨ret_num (by rw [num_good HR.out hlt (by have := HM.out; omega) (by omega)]; simp), rfl⟩
          · have b4 : ((q : Int) == (p : Int) + 4) = false := beq_eq_false_iff_ne.2 (by omega)
            by_cases h5 : 128 ≤ s[q].toNat
            · go_wp2
              go_round
              case rel => exact ⟨q + 1, _, _, num_next HR.out hlt (by have := HM.out; omega) (by omega), by simp, by simp, by go_num⟩
              case measure => simp [intOf]; omega
            · go_wp2
              go_ret3
              exact ⟨ret_num (by rw [num_good HR.out hlt (by have := HM.out; omega) (by omega)]; simp), rfl⟩
    · go_wp2
      go_ret3
      exact ⟨ret_num (num_stop HR.out hlt), rfl⟩
end Go.Proofs.YtbihjgfbocpobaaGreatDoor

/- The reference's nums. -/
set_option linter.unusedSimpArgs false
set_option linter.unusedVariables false
namespace Go.Proofs.YtbihjgfbocpobaaGreatDoor
open Go.RowKit

theorem Tryz.infoInt : (Tryz.prog.info? 3).map (fun i => (i.zero, i.size, i.bytes)) = some (some (.int .i64 0), 1, 8) := by kernel_rfl

theorem num_l (s : ByteArray) (p : Nat) (w : World) (hs : s.size ≤ 4611686018427387904) (hp : p ≤ s.size) (v n b : Int) (h : Fl.num s.toList p = (v, n, b)) :
    Calls Tryz.prog 15 #[.string s, .int .i64 p] w fun e w' => e = .returned (.tuple #[.int .i64 v, .int .i64 n, .int .i64 b]) ∧ w' = w := by
  have := num_walk s p w hs hp
  rw [← ByteArray.toList_eq, h] at this; exact this

theorem ret_vnum {v : Value} {r : List Int × Int × Int} {l : List Int} {a b : Int} (h : r = (l, a, b)) : Ending.returned (.tuple #[v, .int .i64 a, .int .i64 b]) = .returned (.tuple #[v, .int .i64 r.2.1, .int .i64 r.2.2]) := by
  subst h; rfl
theorem one_cell_new {w : World} {e : TypeId} {x : Value} : ∀ j u, [x][j]? = some u → (w.alloc (.cells #[x] e)).cell? ((⟨w.heap.size, 0, none⟩ : Addr).add j) = some u := by
  intro j u hj
  match j, hj with
  | 0, hj => simp at hj; subst hj; simp [Addr.add]

/-- What the loop of nums holds. -/
def NumsRel (s : ByteArray) (p n k q : Nat) (xs : List Int) : Prop := k ≤ n ∧ q ≤ s.size ∧ xs.length = k ∧ Fl.nums s.toList p n = Fl.numsA s.toList (n - k) q xs
theorem nums_bad {s : ByteArray} {p n k q : Nat} {xs : List Int} (h : NumsRel s p n k q xs) (hk : k < n) {v m b : Int} (hn : Fl.num s.toList q = (v, m, b)) (hm : m < 0) : Fl.nums s.toList p n = ([], -1, b) := by
  obtain ⟨h1, h2, h3, h4⟩ := h
  rw [h4, show n - k = (n - k - 1) + 1 from by omega]; simp only [Fl.numsA, hn, if_pos hm]
theorem nums_step {s : ByteArray} {p n k q : Nat} {xs : List Int} (h : NumsRel s p n k q xs) (hk : k < n) {v m b : Int} (hn : Fl.num s.toList q = (v, m, b)) (hm : ¬ m < 0) : NumsRel s p n (k + 1) m.toNat (xs ++ [v]) := by
  obtain ⟨h1, h2, h3, h4⟩ := h
  have hl : q ≤ s.toList.length := by rw [ByteArray.toList_eq]; simpa using h2
  have hok := Fl.num_ok s.toList q hl
  rw [hn] at hok
  have hz : s.toList.length = s.size := by rw [ByteArray.toList_eq]; simp
  rw [hz] at hok
  refine ⟨by omega, by simp only at hok; omega, by simp [h3], ?_⟩
  rw [h4, show n - k = (n - (k + 1)) + 1 from by omega]; simp only [Fl.numsA, hn, if_neg hm]

set_option maxRecDepth 100000 in
set_option maxHeartbeats 2000000 in
theorem nums_walk (s : ByteArray) (p n : Nat) (w : World) (hs : s.size ≤ 4611686018427387904) (hp : p ≤ s.size) (hn : n ≤ 1000) :
    Calls Tryz.prog 16 #[.string s, .int .i64 p, .int .i64 n] w fun e w' => ∃ v, e = .returned (.tuple #[v, .int .i64 (Fl.nums s.toList p n).2.1, .int .i64 (Fl.nums s.toList p n).2.2]) ∧ w'.ownsRow w.heap.size 3 1 v (Fl.nums s.toList p n).1.length ((Fl.nums s.toList p n).1.map (Value.int .i64)) ∧ Below w.heap.size w w' := by
  obtain ⟨i0, hi, hz0, hz1, hz2⟩ := info_parts Tryz.infoInt
  go_enter Tryz.func16, Tryz.ntmps16
  go_wp2
  go_loopw [1, 9, 10] (fun t v i wr => ∃ (k q : Nat) (xs : List Int), NumsRel s p n k q xs ∧ t = .int .i64 q ∧ i = .int .i64 k ∧ wr.ownsRow w.heap.size 3 1 v xs.length (xs.map (Value.int .i64)) ∧ Below w.heap.size w wr) (fun _ _ i _ => n - (intOf i).toNat)
  case atStart => exact ⟨0, p, [], ⟨by omega, hp, rfl, rfl⟩, rfl, rfl, World.ownsRow_nil _ _ _ _, Below.refl _ _⟩
  case round =>
    obtain ⟨k, q, xs, hr, rfl, rfl, hown, hbel⟩ := hrel
    have HR : Hid (NumsRel s p n k q xs) := hr
    have hkn := hr.1
    have hqs := hr.2.1
    have hxl : xs.length ≤ 1000 := by have := hr.2.2.1; omega
    have hbs := hbel.size
    clear hr
    by_cases hlt : k < n
    · obtain ⟨v, m, b, hnum⟩ : ∃ v m b, Fl.num s.toList q = (v, m, b) := ⟨_, _, _, rfl⟩
      have HC := num_l s q wr hs hqs v m b hnum
      have HN : Hid (Fl.num s.toList q = (v, m, b)) := hnum
      have HCH : Hid (Calls Tryz.prog 15 #[.string s, .int .i64 q] wr fun e w' => e = .returned (.tuple #[.int .i64 v, .int .i64 m, .int .i64 b]) ∧ w' = wr) := HC
      clear hnum HC
      by_cases hm : m < 0
      · go_wp2_with (go_at_call 15; refine (HCH.out).mono ?_; rintro e w' ⟨rfl, rfl⟩)
        have hfin := nums_bad HR.out hlt HN.out hm
        go_ret3
        exact ⟨_, ret_vnum hfin, by rw [hfin]; exact World.ownsRow_nil _ _ _ _, hbel⟩
      · go_wp2_with (first | (go_at_call 15; refine (HCH.out).mono ?_; rintro e w' ⟨rfl, rfl⟩) | (at_builtin; refine wpList_append_own _ rfl _ _ 29 rfl w.heap.size 3 i0 (.int .i64 0) 1 8 Tryz.underlying29 hi hz0 hz1 hz2 rfl (by decide) _ _ _ rfl (hown.alloc _) ⟨_, 0, none⟩ 1 1 [.int .i64 v] rfl rfl one_cell_new ?c2 ?c3 ?c4 ?c5 ?_))
        case c2 => intro u hu; simp at hu; subst hu; rfl
        case c3 => unfold maxLen; omega
        case c4 => omega
        case c5 => simp; omega
        · intro v' w1 hown' hgrow _
          have hstep := nums_step HR.out hlt HN.out (by omega)
          have HS : Hid (NumsRel s p n (k + 1) m.toNat (xs ++ [v])) := hstep
          have hb1 : Below w.heap.size w w1 := (hbel.alloc hbs _).grown hgrow (by simp; omega) (fun g hg => (hown.lt g hg).1)
          have ho1 : w1.ownsRow w.heap.size 3 1 v' (xs ++ [v]).length ((xs ++ [v]).map (Value.int .i64)) := by simpa using hown'
          clear hstep hown' hgrow hown HCH
          go_wp2
          go_roundw
          case rel => exact ⟨k + 1, m.toNat, xs ++ [v], HS.out, by rw [Int.toNat_of_nonneg (by omega)], by go_num, ho1, hb1⟩
          case measure => simp [intOf]; omega
    · have hkn' : k = n := by omega
      have hfin : Fl.nums s.toList p n = (xs, (q : Int), 0) := by
        have := HR.out.2.2.2; rw [this, hkn', Nat.sub_self]; rfl
      have HF : Hid (Fl.nums s.toList p n = (xs, (q : Int), 0)) := hfin
      clear hfin hkn'
      go_wp2
      go_ret3
      exact ⟨_, ret_vnum HF.out, by rw [HF.out]; exact hown, hbel⟩
end Go.Proofs.YtbihjgfbocpobaaGreatDoor

/- A text, cut at a byte: the reference's way, the library's ways. -/
set_option linter.unusedSimpArgs false
set_option linter.unusedVariables false
namespace Go.Proofs.YtbihjgfbocpobaaGreatDoor
namespace Fl

def onHead (p : List UInt8) : List (List UInt8) → List (List UInt8)
  | [] => [p]
  | h :: t => (p ++ h) :: t
/-- The text cut at c, from the front. -/
def cutR (c : UInt8) : List UInt8 → List (List UInt8)
  | [] => [[]]
  | x :: r => if x == c then [] :: cutR c r else onHead [x] (cutR c r)
theorem cutR_ne (c : UInt8) (l : List UInt8) : cutR c l ≠ [] := by
  cases l with
  | nil => simp [cutR]
  | cons x r =>
    simp only [cutR]; split
    · simp
    · cases h : cutR c r with
      | nil => simp [onHead]
      | cons a b => simp [onHead]
theorem onHead_onHead (p q : List UInt8) (l : List (List UInt8)) (h : l ≠ []) : onHead p (onHead q l) = onHead (p ++ q) l := by
  cases l with
  | nil => exact absurd rfl h
  | cons a b => simp [onHead]
theorem cut_fold (c : UInt8) (l : List UInt8) : ∀ d cur, (l.foldl (cutStep c) (d, cur)).1 ++ [(l.foldl (cutStep c) (d, cur)).2] = d ++ onHead cur (cutR c l) := by
  induction l with
  | nil => intro d cur; simp [cutR, onHead]
  | cons x r ih =>
    intro d cur
    simp only [List.foldl_cons]
    by_cases hx : (x == c) = true
    · have e : cutStep c (d, cur) x = (d ++ [cur], []) := by simp [cutStep, hx]
      rw [e, ih, cutR, if_pos hx]
      cases h : cutR c r with
      | nil => exact absurd h (cutR_ne c r)
      | cons a b => simp [onHead]
    · have e : cutStep c (d, cur) x = (d, cur ++ [x]) := by simp [cutStep, hx]
      rw [e, ih, cutR, if_neg hx, onHead_onHead _ _ _ (cutR_ne c r)]
theorem cut_cutR (c : UInt8) (l : List UInt8) : cut c l = cutR c l := by
  have := cut_fold c l [] []
  simp only [cut, cutTo]
  rw [this, List.nil_append]
  cases h : cutR c l with
  | nil => exact absurd h (cutR_ne c l)
  | cons a b => simp [onHead]

theorem pre_one (c b : UInt8) (l : List UInt8) : ([c] : List UInt8).isPrefixOf (b :: l) = (b == c) := by
  simp only [List.isPrefixOf, Bool.and_true]
  rw [Bool.eq_iff_iff, beq_iff_eq, beq_iff_eq]; exact eq_comm
theorem cutR_index (c : UInt8) (l : List UInt8) : (Lib.index l [c] = -1 → cutR c l = [l]) ∧ (∀ i : Nat, Lib.index l [c] = i → cutR c l = l.take i :: cutR c (l.drop (i + 1)) ∧ i < l.length) := by
  induction l with
  | nil => exact ⟨fun _ => rfl, fun i h => by simp [Lib.index] at h⟩
  | cons b r ih =>
    have hge := Lib.index_ge r [c]
    simp only [Lib.index, pre_one, cutR]
    by_cases hb : (b == c) = true
    · rw [if_pos hb, if_pos hb]
      refine ⟨fun h => by omega, fun i h => ?_⟩
      have : i = 0 := by omega
      subst this; exact ⟨by simp, by simp⟩
    · rw [if_neg hb, if_neg hb]
      by_cases h1 : Lib.index r [c] = -1
      · have e : (Lib.index r [c] == -1) = true := by rw [h1]; rfl
        rw [if_pos e]
        refine ⟨fun _ => ?_, fun i h => by omega⟩
        rw [ih.1 h1]; rfl
      · have e : ¬ (Lib.index r [c] == -1) = true := by simpa using h1
        rw [if_neg e]
        refine ⟨fun h => by omega, fun i h => ?_⟩
        obtain ⟨k, hk⟩ : ∃ k : Nat, Lib.index r [c] = (k : Int) := ⟨(Lib.index r [c]).toNat, by omega⟩
        have hi : i = k + 1 := by omega
        subst hi
        obtain ⟨h2, h3⟩ := ih.2 k hk
        rw [h2]
        exact ⟨by simp [onHead], by simp; omega⟩
theorem splitK_cutR (c : UInt8) : ∀ (fuel : Nat) (l : List UInt8), l.length < fuel → Lib.splitK [c] 0 (Lib.countFrom [c] fuel l) l = cutR c l := by
  intro fuel
  induction fuel with
  | zero => intro l h; omega
  | succ fuel ih =>
    intro l h
    have hge := Lib.index_ge l [c]
    simp only [Lib.countFrom]
    by_cases h1 : Lib.index l [c] = -1
    · have e : (Lib.index l [c] == -1) = true := by rw [h1]; rfl
      rw [if_pos e, (cutR_index c l).1 h1]; rfl
    · have e : ¬ (Lib.index l [c] == -1) = true := by simpa using h1
      rw [if_neg e, Nat.add_comm 1, Lib.splitK, if_neg e]
      obtain ⟨k, hk⟩ : ∃ k : Nat, Lib.index l [c] = (k : Int) := ⟨(Lib.index l [c]).toNat, by omega⟩
      obtain ⟨h2, h3⟩ := (cutR_index c l).2 k hk
      rw [h2, hk, Int.toNat_natCast]
      simp only [List.length_singleton, Nat.add_zero]
      rw [ih _ (by simp; omega)]
theorem split_cutR (c : UInt8) (l : List UInt8) : Lib.split l [c] = cutR c l := splitK_cutR c (l.length + 1) l (by omega)
/-- The first piece, and the rest. -/
theorem cut_found (c : UInt8) (l : List UInt8) (h : (Lib.cut l [c]).2.2 = true) : cutR c l = (Lib.cut l [c]).1 :: cutR c (Lib.cut l [c]).2.1 ∧ (Lib.cut l [c]).2.1.length < l.length := by
  unfold Lib.cut at *
  have hge := Lib.index_ge l [c]
  by_cases h0 : 0 ≤ Lib.index l [c]
  · rw [if_pos h0]
    obtain ⟨k, hk⟩ : ∃ k : Nat, Lib.index l [c] = (k : Int) := ⟨(Lib.index l [c]).toNat, by omega⟩
    obtain ⟨h2, h3⟩ := (cutR_index c l).2 k hk
    rw [hk, Int.toNat_natCast]
    exact ⟨h2, by simp; omega⟩
  · rw [if_neg h0] at h; cases h
theorem cut_missed (c : UInt8) (l : List UInt8) (h : (Lib.cut l [c]).2.2 = false) : cutR c l = [l] ∧ (Lib.cut l [c]).1 = l := by
  unfold Lib.cut at *
  have hge := Lib.index_ge l [c]
  by_cases h0 : 0 ≤ Lib.index l [c]
  · rw [if_pos h0] at h; cases h
  · rw [if_neg h0]
    exact ⟨(cutR_index c l).1 (by omega), rfl⟩

/-- The reference's numeral. -/
def decF : Nat → Nat → List UInt8
  | 0, v => [UInt8.ofNat (48 + v % 10)]
  | f + 1, v => if v < 10 then [UInt8.ofNat (48 + v)] else decF f (v / 10) ++ [UInt8.ofNat (48 + v % 10)]
theorem decF_digits (f : Nat) : ∀ v, v < 10 ^ (f + 1) → decF f v = Lib.decDigits v := by
  induction f with
  | zero => intro v h; rw [Lib.decDigits, dif_pos (by simpa using h), decF, Nat.mod_eq_of_lt (by simpa using h)]
  | succ f ih =>
    intro v h
    rw [Lib.decDigits, decF]
    by_cases hv : v < 10
    · rw [if_pos hv, dif_pos hv]
    · rw [if_neg hv, dif_neg hv, ih _ (by rw [Nat.pow_succ] at h; omega)]
end Fl
end Go.Proofs.YtbihjgfbocpobaaGreatDoor
