/- Texts SpecR Pra RefB RefU. -/
import Derived.Test.YthfacjlghcdndaaGreatDoorM04
import Derived.RegionTactic
import Derived.Lib.Strings
set_option linter.unusedSimpArgs false
set_option linter.unusedVariables false
namespace Go.Proofs.YthfacjlghcdndaaGreatDoor
namespace Fl

theorem lnum_nine (l : List UInt8) : lnum 999999999 l = if (number l 9).2 = true then some (number l 9).1 else none := by
  unfold lnum
  by_cases h0 : l = []
  · subst h0; simp [number, numOk]
  rw [if_neg h0]
  have hpos : 0 < l.length := List.length_pos_iff.2 h0
  by_cases h1 : l.headD 0 = 48 ∧ l.length ≠ 1
  · rw [if_pos h1]
    have : (number l 9).2 = false := by
      unfold number
      split
      · simp only [numOk]
        have e1 : (l.headD 0 != 48) = false := by rw [h1.1]; rfl
        have e2 : decide (l.length = 1) = false := by simp [h1.2]
        rw [e1, e2]; simp
      · rfl
    rw [this]; simp
  · rw [if_neg h1, lnumF_eq _ (by omega) _ _ (by omega)]
    cases had : l.all isDig with
    | false => simp [number, had]
    | true =>
      have hok : (l.headD 0 != 48 || decide (l.length = 1)) = true := by
        by_cases h2 : l.headD 0 = 48
        · have : l.length = 1 := by
            rcases Nat.lt_or_ge 1 l.length with h | h
            · exact absurd ⟨h2, by omega⟩ h1
            · omega
          simp [this]
        · rw [show (l.headD 0 != 48) = true from bne_iff_ne.2 h2]; rfl
      simp only [number, had, if_true, numOk, hok, Bool.and_true]
      by_cases h10 : l.length ≤ 9
      · rw [List.take_of_length_le h10]
        simp only [hpos, h10, decide_true, Bool.and_true, true_and, val_eq, if_true]
        have hv : valF 0 l ≤ 999999999 := by
          have h3 := valF_digits l 0 had
          have h4 : 10 ^ l.length ≤ 10 ^ 9 := Nat.pow_le_pow_right (by omega) h10
          omega
        rw [if_pos hv]
      · have hbig : 999999999 < valF 0 l := by
          match l, h10, had, h1, h0 with
          | c :: r, h10, had, h1, _ =>
            simp only [List.all_cons, Bool.and_eq_true] at had
            have hc := (isDig_nat c).1 had.1
            have hlen : 9 ≤ r.length := by simp only [List.length_cons] at h10; omega
            have hc1 : 1 ≤ c.toNat - 48 := by
              rcases Nat.lt_or_ge 48 c.toNat with h | h
              · omega
              · exfalso; apply h1
                refine ⟨?_, by simp only [List.length_cons]; omega⟩
                have : c.toNat = 48 := by omega
                show c = 48
                exact UInt8.toNat_inj.1 this
            have e : valF 0 (c :: r) = valF (10 * 0 + (c.toNat - 48)) r := rfl
            rw [e]
            have h5 := valF_lower r (10 * 0 + (c.toNat - 48))
            have h6 : 10 ^ 9 ≤ 10 ^ r.length := Nat.pow_le_pow_right (by omega) hlen
            have h7 : 1 * 10 ^ 9 ≤ (10 * 0 + (c.toNat - 48)) * 10 ^ r.length := Nat.mul_le_mul (by omega) h6
            omega
        rw [if_neg (by omega)]
        simp [h10]
theorem lnum_some (l : List UInt8) : (lnum 999999999 l).isSome = (number l 9).2 := by
  rw [lnum_nine]; cases (number l 9).2 <;> simp

def fit1 (c : UInt8) (w : List UInt8) : Bool := if c = 110 then named w else if c = 97 then atom w else if c = 111 then decide (0 ≤ place signs w) else false
def fitAll : List UInt8 → List (List UInt8) → Bool
  | [], [] => true
  | c :: cs, w :: ws => fit1 c w && fitAll cs ws
  | _, _ => false
def ruleL : List (List UInt8 × List UInt8 × Bool) := [(wLevel, [110], true), (wBelow, [110, 110], true), (wCell, [110, 110], true), (wChannel, [110, 110], true), (wBegin, [], true), (wSet, [110, 97], false), (wSet, [110, 97, 111, 97], false), (wOut, [110, 97], false), (wIf, [97], false), (wElse, [], false), (wWhile, [97], false), (wEnd, [], false)]
def rule (k : Nat) : List UInt8 × List UInt8 × Bool := ruleL.getD k ([], [], false)
def isRule (ws : List (List UInt8)) (k : Nat) : Bool := ws.getD 0 [] == (rule k).1 && fitAll (rule k).2.1 (ws.drop 1)
theorem fitAll_len : ∀ (cs : List UInt8) (ws : List (List UInt8)), fitAll cs ws = true → ws.length = cs.length
  | [], [], _ => rfl
  | c :: cs, w :: ws, h => by simp only [fitAll, Bool.and_eq_true] at h; simp [fitAll_len cs ws h.2]
  | [], _ :: _, h => by simp [fitAll] at h
  | _ :: _, [], h => by simp [fitAll] at h
theorem fitAll_iff : ∀ (cs : List UInt8) (ws : List (List UInt8)), ws.length = cs.length → (fitAll cs ws = true ↔ ∀ i, i < cs.length → fit1 (cs.getD i 0) (ws.getD i []) = true)
  | [], [], _ => by simp [fitAll]
  | c :: cs, w :: ws, h => by
    simp only [fitAll, Bool.and_eq_true, fitAll_iff cs ws (by simpa using h), List.length_cons]
    refine ⟨fun ⟨h1, h2⟩ i hi => ?_, fun g => ⟨by simpa using g 0 (by omega), fun i hi => by simpa using g (i + 1) (by omega)⟩⟩
    match i with
    | 0 => simpa using h1
    | i + 1 => simpa using h2 i (by omega)
  | [], _ :: _, h => by simp at h
  | _ :: _, [], h => by simp at h
theorem line_rule (ws : List (List UInt8)) (hne : ws ≠ []) : line ws = true ↔ ∃ k, k < 12 ∧ isRule ws k = true := by
  have e12 : (∃ k, k < 12 ∧ isRule ws k = true) ↔ isRule ws 0 = true ∨ isRule ws 1 = true ∨ isRule ws 2 = true ∨ isRule ws 3 = true ∨ isRule ws 4 = true ∨ isRule ws 5 = true ∨ isRule ws 6 = true ∨ isRule ws 7 = true ∨ isRule ws 8 = true ∨ isRule ws 9 = true ∨ isRule ws 10 = true ∨ isRule ws 11 = true := by
    constructor
    · rintro ⟨k, hk, h⟩
      rcases (show k = 0 ∨ k = 1 ∨ k = 2 ∨ k = 3 ∨ k = 4 ∨ k = 5 ∨ k = 6 ∨ k = 7 ∨ k = 8 ∨ k = 9 ∨ k = 10 ∨ k = 11 by omega) with rfl | rfl | rfl | rfl | rfl | rfl | rfl | rfl | rfl | rfl | rfl | rfl <;> simp [h]
    · rintro (h | h | h | h | h | h | h | h | h | h | h | h)
      · exact ⟨0, by omega, h⟩
      · exact ⟨1, by omega, h⟩
      · exact ⟨2, by omega, h⟩
      · exact ⟨3, by omega, h⟩
      · exact ⟨4, by omega, h⟩
      · exact ⟨5, by omega, h⟩
      · exact ⟨6, by omega, h⟩
      · exact ⟨7, by omega, h⟩
      · exact ⟨8, by omega, h⟩
      · exact ⟨9, by omega, h⟩
      · exact ⟨10, by omega, h⟩
      · exact ⟨11, by omega, h⟩
  rw [e12]
  match ws, hne with
  | [a], _ => simp [line, isRule, rule, ruleL, fitAll]; grind
  | [a, b], _ => simp [line, isRule, rule, ruleL, fitAll, fit1]; grind
  | [a, b, c], _ => simp [line, isRule, rule, ruleL, fitAll, fit1]; grind
  | [a, b, c, d], _ => simp [line, isRule, rule, ruleL, fitAll, fit1]
  | [a, b, c, d, e], _ => simp [line, isRule, rule, ruleL, fitAll, fit1]; grind
  | a :: b :: c :: d :: e :: f :: r, _ => simp [line, isRule, rule, ruleL, fitAll, fit1]
end Fl
end Go.Proofs.YthfacjlghcdndaaGreatDoor

namespace Go.Proofs.YthfacjlghcdndaaGreatDoor
open Go.RowKit

theorem isLow_nat (c : UInt8) : Fl.isLow c = true ↔ 97 ≤ c.toNat ∧ c.toNat ≤ 122 := by
  unfold Fl.isLow
  rw [Bool.and_eq_true, decide_eq_true_eq, decide_eq_true_eq, UInt8.le_iff_toNat_le, UInt8.le_iff_toNat_le]
  rfl
theorem all_false (p : UInt8 → Bool) (l : List UInt8) (i : Nat) (h : i < l.length) (hp : p (l.getD i 0) = false) : l.all p = false := by
  rw [Bool.eq_false_iff]; intro ha
  rw [List.all_eq_true] at ha
  have := ha (l.getD i 0) (by rw [List.getD_eq_getElem?_getD, List.getElem?_eq_getElem h]; simp)
  rw [hp] at this; cases this
theorem all_upto (p : UInt8 → Bool) (l : List UInt8) (h : ∀ i, i < l.length → p (l.getD i 0) = true) : l.all p = true := by
  rw [List.all_eq_true]; intro x hx
  obtain ⟨i, hi, rfl⟩ := List.getElem_of_mem hx
  have := h i hi
  rwa [List.getD_eq_getElem?_getD, List.getElem?_eq_getElem hi] at this

set_option maxRecDepth 100000 in
set_option maxHeartbeats 4000000 in
theorem isName_any (l : List UInt8) (w : World) (hl : l.length ≤ 100000) :
    Calls Tryz.prog 88 #[.string ⟨l.toArray⟩] w fun e w' => e = .returned (.bool (Fl.named l)) ∧ Below w.heap.size w w' := by
  have hsz : (⟨l.toArray⟩ : ByteArray).size = l.length := rfl
  have HGET : Hid (∀ pos (h : pos < l.length), ((⟨l.toArray⟩ : ByteArray)[pos]'h) = l.getD pos 0) := by
    intro pos h
    show l.toArray[pos] = _
    simp [List.getD_eq_getElem?_getD, h]
  clear hsz
  go_enter Tryz.func88, Tryz.ntmps88
  go_wp2_with fail
  go_loopw [] (fun wr => ∃ (pos : Nat), wr = w.iter ⟨l.toArray⟩ pos ∧ pos ≤ l.length ∧ ∀ i, i < pos → Fl.isLow (l.getD i 0) = true) (fun wr => l.length - wr.iterPos w.heap.size)
  case atStart => exact ⟨0, rfl, by omega, fun i hi => by omega⟩
  case round =>
    obtain ⟨pos, rfl, hpl, hr⟩ := hrel
    have HR : Hid (∀ i, i < pos → Fl.isLow (l.getD i 0) = true) := hr
    clear hr
    by_cases hp : pos < l.length
    · obtain ⟨c, hc⟩ : ∃ c, c = l.getD pos 0 := ⟨_, rfl⟩
      have hgc : (⟨l.toArray⟩ : ByteArray)[pos]'hp = c := by rw [HGET.out pos hp, hc]
      have HC : Hid (c = l.getD pos 0) := hc
      clear hc
      by_cases ha : c.toNat < 128
      · have hnx : ∀ ty, (Instr.next (.pointer (some ⟨w.heap.size, 0, none⟩)) true ty).run Tryz.prog (w.iter ⟨l.toArray⟩ pos) = .ok (.tuple #[.bool true, .int .i64 pos, .int .i32 (c.toNat : Int)]) (w.iter ⟨l.toArray⟩ (pos + 1)) := fun ty => by
          have := run_next_ascii (P := Tryz.prog) w ⟨l.toArray⟩ pos ty hp (by rw [hgc]; exact ha)
          rw [hgc] at this; exact this
        have HDG : Hid (Fl.isLow c = true ↔ 97 ≤ c.toNat ∧ c.toNat ≤ 122) := isLow_nat c
        clear hgc
        generalize hcn : c.toNat = cn at *
        by_cases hd : 97 ≤ cn ∧ cn ≤ 122
        · have hd1 : (97 : Int) ≤ (cn : Int) := by omega
          have hd2 : (cn : Int) ≤ 122 := by omega
          have HDT : Hid (Fl.isLow c = true) := HDG.out.2 hd
          clear hcn hd
          go_wp2
          go_roundw
          case rel =>
            refine ⟨pos + 1, rfl, by omega, fun i hi => ?_⟩
            by_cases hip : i = pos
            · subst hip; rw [← HC.out]; exact HDT.out
            · exact HR.out i (by omega)
          case measure => simp; omega
        · have HE : Hid (Fl.named l = false) := by
            show _ = _
            unfold Fl.named
            rw [all_false _ l pos hp (by rw [← HC.out]; rw [Bool.eq_false_iff]; intro h; exact hd (HDG.out.1 h))]; rfl
          clear hcn
          have hdI : (cn : Int) < 97 ∨ 97 ≤ (cn : Int) ∧ 122 < (cn : Int) := by omega
          rcases hdI with hdI | ⟨hdI, hdJ⟩
          all_goals
            go_wp2
            go_ret
            exact ⟨by rw [HE.out]; rfl, below_iter _ _ _⟩
      · obtain ⟨h1, h2⟩ := decode_high (⟨l.toArray⟩ : ByteArray) pos hp (by rw [hgc]; omega)
        have h3 := decode_le (⟨l.toArray⟩ : ByteArray) pos
        have hnx : ∀ ty, (Instr.next (.pointer (some ⟨w.heap.size, 0, none⟩)) true ty).run Tryz.prog (w.iter ⟨l.toArray⟩ pos) = _ := fun ty => run_next_any w ⟨l.toArray⟩ pos ty hp
        have HE : Hid (Fl.named l = false) := by
          show _ = _
          unfold Fl.named
          rw [all_false _ l pos hp (by rw [← HC.out]; rw [Bool.eq_false_iff]; intro h; have := (isLow_nat c).1 h; omega)]; rfl
        generalize (Utf8.decode (⟨l.toArray⟩ : ByteArray) pos).1 = r at *
        generalize (Utf8.decode (⟨l.toArray⟩ : ByteArray) pos).2 = rw at *
        have h1I : (128 : Int) ≤ (r : Int) := by omega
        have h3I : (r : Int) ≤ 2147483647 := by omega
        clear h1 h3 hgc
        go_wp2
        go_ret
        exact ⟨by rw [HE.out]; rfl, below_iter _ _ _⟩
    · have HA : Hid (l.all Fl.isLow = true) := all_upto _ l (fun i hi => HR.out i (by omega))
      have hnx : ∀ ty, (Instr.next (.pointer (some ⟨w.heap.size, 0, none⟩)) true ty).run Tryz.prog (w.iter ⟨l.toArray⟩ pos) = _ := fun ty => run_next_end w ⟨l.toArray⟩ pos ty hp
      by_cases h1 : 1 ≤ l.length
      · by_cases h6 : l.length ≤ 6
        · have h1I : (1 : Int) ≤ (l.length : Int) := by omega
          have h6I : (l.length : Int) ≤ 6 := by omega
          have HE : Hid (Fl.named l = true) := by show _ = _; unfold Fl.named; rw [HA.out]; simp; omega
          go_wp2
          go_ret
          exact ⟨by rw [HE.out]; rfl, below_iter _ _ _⟩
        · have h1I : (1 : Int) ≤ (l.length : Int) := by omega
          have h6I : ¬ (l.length : Int) ≤ 6 := by omega
          have HE : Hid (Fl.named l = false) := by show _ = _; unfold Fl.named; rw [HA.out]; simp; omega
          go_wp2
          go_ret
          exact ⟨by rw [HE.out]; rfl, below_iter _ _ _⟩
      · have h1I : ¬ (1 : Int) ≤ (l.length : Int) := by omega
        have HE : Hid (Fl.named l = false) := by show _ = _; unfold Fl.named; rw [HA.out]; simp; omega
        go_wp2
        go_ret
        exact ⟨by rw [HE.out]; rfl, below_iter _ _ _⟩
theorem pnumber_any (l : List UInt8) (w : World) (hl : l.length ≤ 100000) :
    Calls Tryz.prog 89 #[.string ⟨l.toArray⟩] w fun e w' => e = .returned (.tuple #[.int .i64 ((Fl.lnum 999999999 l).getD 0), .bool (Fl.lnum 999999999 l).isSome]) ∧ Below w.heap.size w w' := by
  have HN : Hid (Calls Tryz.prog 99 #[.string ⟨l.toArray⟩, .int .i64 999999999] w fun e w' => e = .returned (.tuple #[.int .i64 ((Fl.lnum 999999999 l).getD 0), .bool (Fl.lnum 999999999 l).isSome]) ∧ Below w.heap.size w w') := lnumber_any l 999999999 w hl (by decide) (by decide)
  generalize (((Fl.lnum 999999999 l).getD 0 : Nat) : Int) = v at *
  generalize (Fl.lnum 999999999 l).isSome = b at *
  go_enter Tryz.func89, Tryz.ntmps89
  go_wp2_with fail
  refine HN.out.mono ?_
  rintro e w1 ⟨rfl, hb⟩
  go_wp2
  go_ret2
  exact ⟨rfl, hb⟩
theorem sign_cases (l : List UInt8) : (l = [43] ∧ Fl.place Fl.signs l = 0) ∨ (l = [45] ∧ Fl.place Fl.signs l = 1) ∨ (l = [42] ∧ Fl.place Fl.signs l = 2) ∨ (l = [60] ∧ Fl.place Fl.signs l = 3) ∨ (l = [61, 61] ∧ Fl.place Fl.signs l = 4) ∨ ((l == [43]) = false ∧ (l == [45]) = false ∧ (l == [42]) = false ∧ (l == [60]) = false ∧ (l == [61, 61]) = false ∧ Fl.place Fl.signs l = -1) := by
  by_cases h1 : l = [43]
  · subst h1; left; exact ⟨rfl, rfl⟩
  by_cases h2 : l = [45]
  · subst h2; right; left; exact ⟨rfl, rfl⟩
  by_cases h3 : l = [42]
  · subst h3; right; right; left; exact ⟨rfl, rfl⟩
  by_cases h4 : l = [60]
  · subst h4; right; right; right; left; exact ⟨rfl, rfl⟩
  by_cases h5 : l = [61, 61]
  · subst h5; right; right; right; right; left; exact ⟨rfl, rfl⟩
  right; right; right; right; right
  refine ⟨by simpa using h1, by simpa using h2, by simpa using h3, by simpa using h4, by simpa using h5, Fl.place_miss l Fl.signs fun j hj => ?_⟩
  have hj : j < 5 := hj
  rcases (show j = 0 ∨ j = 1 ∨ j = 2 ∨ j = 3 ∨ j = 4 by omega) with rfl | rfl | rfl | rfl | rfl <;> simp [Fl.signs] <;> (intro h; exact absurd h.symm (by assumption))
set_option maxRecDepth 100000 in
set_option maxHeartbeats 1000000 in
theorem operation_any (l : List UInt8) (w : World) (hl : l.length ≤ 100000) :
    Calls Tryz.prog 90 #[.string ⟨l.toArray⟩] w fun e w' => e = .returned (.tuple #[.int .i64 ((Fl.place Fl.signs l).toNat : Int), .bool (decide (0 ≤ Fl.place Fl.signs l))]) ∧ w' = w := by
  rcases sign_cases l with ⟨rfl, h⟩ | ⟨rfl, h⟩ | ⟨rfl, h⟩ | ⟨rfl, h⟩ | ⟨rfl, h⟩ | ⟨h1, h2, h3, h4, h5, h⟩
  all_goals
    rw [h]
    clear h
    go_enter Tryz.func90, Tryz.ntmps90
    go_wp2
    go_ret2
    exact ⟨rfl, rfl⟩
end Go.Proofs.YthfacjlghcdndaaGreatDoor

namespace Go.Proofs.YthfacjlghcdndaaGreatDoor
open Go.RowKit

def StrsAt (w : World) (v : Value) (ss : List ByteArray) : Prop :=
  ∃ ao cap, v = .slice ao ss.length cap ∧ ss.length ≤ maxLen ∧ (∀ s ∈ ss, s.size ≤ maxLen) ∧
    (ss ≠ [] → ∃ b off, ao = some ⟨b, off, none⟩ ∧ ∀ i, i < ss.length → w.cell? ⟨b, off + i, none⟩ = some (.string (ss.getD i ByteArray.empty)))

def bl (ss : List ByteArray) : List (List UInt8) := ss.map ByteArray.toList
theorem bl_getD (ss : List ByteArray) (k : Nat) (h : k < ss.length) : (bl ss).getD k [] = (ss.getD k ByteArray.empty).toList := by
  simp [bl, List.getD_eq_getElem?_getD, h]
theorem bl_length (ss : List ByteArray) : (bl ss).length = ss.length := by simp [bl]

theorem number_l (s : ByteArray) (m : Nat) (w : World) (hs : s.size ≤ maxLen) (hm : m ≤ 10) : Calls Tryz.prog 35 #[.string s, .int .i64 m] w fun e w' => e = .returned (.tuple #[.int .i64 (Fl.number s.toList m).1, .bool (Fl.number s.toList m).2]) ∧ w' = w := by
  rw [ByteArray.toList_eq]; exact number_any s m w hs hm

set_option maxHeartbeats 1000000 in
theorem place_any (v : Value) (ss : List ByteArray) (s : ByteArray) (w : World) (hv : StrsAt w v ss) : Calls Tryz.prog 22 #[v, .string s] w fun e w' => e = .returned (.int .i64 (Fl.place (bl ss) s.toList)) ∧ w' = w := by
  obtain ⟨ao, cap, rfl, hl, _, hc⟩ := hv
  unfold maxLen at hl
  go_enter Tryz.func22, Tryz.ntmps22
  go_wp2
  go_loop [5] (fun i => ∃ k : Nat, k ≤ ss.length ∧ i = .int .i64 k ∧ ∀ j, j < k → ((bl ss).getD j [] == s.toList) = false) (fun i => ss.length - (intOf i).toNat)
  case atStart => exact ⟨0, Nat.zero_le _, rfl, fun j hj => by omega⟩
  case round =>
    obtain ⟨k, hk, rfl, hno⟩ := hrel
    have HN : Hid (∀ j, j < k → ((bl ss).getD j [] == s.toList) = false) := hno
    clear hno
    by_cases hlt : k < ss.length
    · obtain ⟨b, off, rfl, hcell⟩ := hc (by intro h; rw [h] at hlt; simp at hlt)
      have hck := hcell k hlt
      obtain ⟨x, hx⟩ : ∃ x, x = ss.getD k ByteArray.empty := ⟨_, rfl⟩
      rw [← hx] at hck
      have HX : Hid (x = ss.getD k ByteArray.empty) := hx
      clear hx hcell hc
      go_wp2
      · have hE : (x.toList == s.toList) = true := by assumption
        go_ret
        exact ⟨ret_int (Fl.place_hit _ _ k HN.out (by rw [bl_length]; exact hlt) (by rw [bl_getD _ _ hlt, ← HX.out]; exact hE)).symm, rfl⟩
      · have hE : (x.toList == s.toList) = false := by assumption
        go_round
        case rel => exact ⟨k + 1, by omega, by go_num, fun j hj => by
          by_cases hjk : j < k
          · exact HN.out j hjk
          · have : j = k := by omega
            rw [this, bl_getD _ _ hlt, ← HX.out]; exact hE⟩
        case measure => simp [intOf]; omega
    · go_wp2
      go_ret
      exact ⟨ret_int (Fl.place_miss _ _ (fun j hj => HN.out j (by rw [bl_length] at hj; omega))).symm, rfl⟩

end Go.Proofs.YthfacjlghcdndaaGreatDoor

namespace Go.Proofs.YthfacjlghcdndaaGreatDoor
open Go.RowKit

theorem Tryz.infoStr : (Tryz.prog.info? 9).map (fun i => (i.zero, i.size, i.bytes)) = some (some (.string ⟨#[]⟩), 1, 16) := by kernel_rfl
def strV (l : List UInt8) : Value := .string ⟨l.toArray⟩
theorem own_strs {w : World} {base : Nat} {e : TypeId} {v : Value} {n : Nat} {xs : List Value} (h : w.ownsRow base e 1 v n xs) (hn : 0 < n) : ∃ g cap, v = .slice (some ⟨g, 0, none⟩) n cap ∧ base ≤ g ∧ g < w.heap.size := by
  rcases h.2 with ⟨rfl, h0⟩ | ⟨g, cap, cur, rfl, hb, hg, _⟩
  · omega
  · exact ⟨g, cap, rfl, hb, (Array.getElem?_eq_some_iff.1 hg).1⟩
theorem ext_one (s : ByteArray) (k : Nat) (h : k < s.size) (cu : List UInt8) : Value.string (⟨cu.toArray⟩ ++ s.extract k (k + 1)) = strV (cu ++ [s[k]]) := by
  have e : s.extract k (k + 1) = ⟨[s[k]].toArray⟩ := by
    have h1 : (s.extract k (k + 1)).data.toList = [s[k]] := by
      rw [Lib.extract_data, List.drop_eq_getElem_cons (by simpa using h)]; simp; rfl
    have h2 := Lib.mk_data (s.extract k (k + 1))
    rw [h1] at h2; exact h2.symm
  rw [e]; unfold strV; rw [ByteArray.mk_append_mk]
theorem set_last (dn : List (List UInt8)) (cu cu' : List UInt8) : ((dn ++ [cu]).map strV).set dn.length (strV cu') = (dn ++ [cu']).map strV := by
  simp [List.set_append]
theorem str_cell_new {w : World} {e : TypeId} {x : Value} : ∀ j u, [x][j]? = some u → (w.alloc (.cells #[x] e)).cell? ((⟨w.heap.size, 0, none⟩ : Addr).add j) = some u := by
  intro j u hj
  match j, hj with
  | 0, hj => simp at hj; subst hj; simp [Addr.add]

set_option maxRecDepth 100000 in
set_option maxHeartbeats 4000000 in
theorem cut_walk (s : ByteArray) (c : UInt8) (w : World) (hs : s.size ≤ 100000) :
    Calls Tryz.prog 11 #[.string s, .int .u8 c.toNat] w fun e w' => ∃ v, e = .returned v ∧ w'.ownsRow w.heap.size 9 1 v (Fl.cut c s.data.toList).length ((Fl.cut c s.data.toList).map strV) ∧ Below w.heap.size w w' := by
  obtain ⟨i0, hi, hz0, hz1, hz2⟩ := info_parts Tryz.infoStr
  go_enter Tryz.func11, Tryz.ntmps11
  go_wp2
  go_loopw [5, 6] (fun v i wr => ∃ (k : Nat) (dn : List (List UInt8)) (cu : List UInt8), k ≤ s.size ∧ i = .int .i64 k ∧ Fl.cutTo c (s.data.toList.take k) = (dn, cu) ∧ wr.ownsRow w.heap.size 9 1 v (dn.length + 1) ((dn ++ [cu]).map strV) ∧ Below w.heap.size w wr) (fun _ i _ => s.size - (intOf i).toNat)
  case atStart =>
    refine ⟨0, [], [], by omega, rfl, rfl, ⟨rfl, .inr ⟨w.heap.size, 1, #[.string ⟨#[]⟩], rfl, Nat.le_refl _, heap_alloc_new w _, by simp, by simp [maxLen], rfl, rfl⟩⟩, (Below.refl _ _).alloc (Nat.le_refl _) _⟩
  case round =>
    obtain ⟨k, dn, cu, hk, rfl, hct, hown, hbel⟩ := hrel
    have HC : Hid (Fl.cutTo c (s.data.toList.take k) = (dn, cu)) := hct
    have hle := Fl.cutTo_le c (s.data.toList.take k)
    rw [hct] at hle
    simp only [List.length_take] at hle
    have hdn : dn.length ≤ k := by omega
    have hcu : cu.length ≤ k := by omega
    have hbs := hbel.size
    obtain ⟨g, cap, rfl, hgb, hgl⟩ := own_strs hown (by omega)
    clear hct hle
    by_cases hlt : k < s.size
    · by_cases hx : s[k] = c
      · have b1 : ((s[k].toNat : Int) == (c.toNat : Int)) = true := by rw [hx]; simp
        have HX : Hid (s[k] = c) := hx
        clear hx
        go_wp2_with (at_builtin; refine wpList_append_own _ rfl _ _ 48 rfl w.heap.size 9 i0 (.string ⟨#[]⟩) 1 16 Tryz.underlying48 hi hz0 hz1 hz2 rfl (by decide) _ _ _ rfl (hown.alloc _) ⟨_, 0, none⟩ 1 1 [.string ⟨#[]⟩] rfl rfl str_cell_new ?c2 ?c3 ?c4 ?c5 ?_)
        case c2 => first | rfl | (intro u hu; simp at hu; subst hu; rfl)
        case c3 => unfold maxLen; omega
        case c4 => omega
        case c5 => first | omega | (simp; omega)
        intro v' w1 hown' hgrow _
        have R1 : w1.ownsRow w.heap.size 9 1 v' ((dn ++ [cu]).length + 1) ((dn ++ [cu] ++ [[]]).map strV) := by
          have e1 : (dn ++ [cu] ++ [[]]).map strV = dn.map strV ++ [strV cu, .string ⟨#[]⟩] := by simp [strV]
          rw [e1, List.length_append, List.length_singleton]; exact hown'
        have R2 : Below w.heap.size w w1 := (hbel.alloc hbs _).grown hgrow (by simp; omega) (fun g hg => (hown.lt g hg).1)
        have HR1 : Hid (w1.ownsRow w.heap.size 9 1 v' ((dn ++ [cu]).length + 1) ((dn ++ [cu] ++ [[]]).map strV)) := R1
        clear hown' hgrow hown R1
        go_wp2
        go_roundw
        case rel => exact ⟨k + 1, dn ++ [cu], [], by omega, by go_num, by rw [take_snoc s k hlt, Fl.cutTo_snoc, HC.out]; simp [Fl.cutStep, HX.out], HR1.out, R2⟩
        case measure => simp [intOf]; omega
      · have b1 : ((s[k].toNat : Int) == (c.toNat : Int)) = false := by rw [beq_eq_false_iff_ne]; intro hh; exact hx (UInt8.toNat_inj.1 (by omega))
        have HX : Hid (¬ s[k] = c) := hx
        clear hx
        have hcell : wr.cell? ⟨g, dn.length, none⟩ = some (.string ⟨cu.toArray⟩) := by
          rw [hown.cellAt dn.length (by omega)]; simp [strV]
        have hfz : wr.frozen? ⟨g, dn.length, none⟩ = false := hown.frozenAt _
        have hst := hown.stored dn.length (.string (⟨cu.toArray⟩ ++ s.extract k (k + 1)))
        have HST : Hid ((wr.setCell ⟨g, dn.length, none⟩ (.string (⟨cu.toArray⟩ ++ s.extract k (k + 1)))).ownsRow w.heap.size 9 1 (.slice (some ⟨g, 0, none⟩) (dn.length + 1) cap) (dn.length + 1) (((dn ++ [cu]).map strV).set dn.length (.string (⟨cu.toArray⟩ ++ s.extract k (k + 1))))) := hst.1
        have HB : Hid (Below w.heap.size w (wr.setCell ⟨g, dn.length, none⟩ (.string (⟨cu.toArray⟩ ++ s.extract k (k + 1))))) := hbel.setCell hgb _
        clear hst hown hbel
        have hkI : (k : Int) < (s.size : Int) := by omega
        have hcs : ((⟨cu.toArray⟩ : ByteArray).size : Int) ≤ 100000 := by show ((cu.toArray.size : Nat) : Int) ≤ 100000; simp; omega
        go_wp2_with fail
        go_region
        all_goals
          go_wp2
          go_roundw
          case rel => exact ⟨k + 1, dn, cu ++ [s[k]], by omega, by go_num, by rw [take_snoc s k hlt, Fl.cutTo_snoc, HC.out]; simp [Fl.cutStep, HX.out], by rw [← set_last dn cu, ← ext_one s k hlt]; exact HST.out, HB.out.drew⟩
          case measure => simp [intOf]; omega
    · have hfin : Fl.cut c s.data.toList = dn ++ [cu] := by
        unfold Fl.cut; rw [← take_all s k hlt, HC.out]
      have HF : Hid (Fl.cut c s.data.toList = dn ++ [cu]) := hfin
      clear hfin
      go_wp2
      go_ret
      exact ⟨_, rfl, by rw [HF.out, List.length_append, List.length_singleton]; exact hown, hbel⟩
end Go.Proofs.YthfacjlghcdndaaGreatDoor
