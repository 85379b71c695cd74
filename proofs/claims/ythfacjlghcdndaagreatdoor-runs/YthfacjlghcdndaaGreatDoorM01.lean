/- Texts LwRow Spec RefA0 RefA. -/
import Derived.Test.YthfacjlghcdndaaGreatDoorM00
import Derived.Test.YthfacjlghcdndaaGreatDoorRows
import Derived.ChangeSame
import Derived.ChangeVars
import Derived.JoinedOf
import Derived.RowKit
import Derived.RowKitTokens
import Derived.LaidLaws
import Derived.LaidHandle
import Derived.Stop.Joined
import Derived.ChangeMaps5
import Derived.WalkKit
import Derived.Test.YthfacjlghcdndaaGreatDoorProg
import Derived.WalkSpells
import Derived.WalkLawsBesides
set_option linter.unusedSimpArgs false
set_option linter.unusedVariables false
namespace Go.Proofs.YthfacjlghcdndaaGreatDoor
open Go.ChangeShapes Go.WideShapes Go.RowKit

theorem Tryz.own : ownKnob Tryz.prog.godebug = none := by kernel_rfl
theorem Tryz.et : Tryz.prog.globalNamed "errors.errorType" = some 0 := by kernel_rfl
theorem Tryz.rt : (Tryz.prog.cutTypes.find? (·.1 == "internal/reflectlite.rtype")).map (·.2) = some 143 := by kernel_rfl
theorem Tryz.oneRow : ((List.range 239).filter fun t => Tryz.prog.rowNamed t [101, 114, 114, 111, 114]) = [43] := by kernel_rfl
theorem Tryz.tsize : Tryz.prog.types.size = 239 := by kernel_rfl

theorem handle_of_laid {W : World} (h : laidMetH Tryz.prog [("errors.errorType", Rows.laid_errors_errorType)] W) : ErrType W := by
  have h' : laidMet Tryz.prog [] W ∧ handlesMet Tryz.prog [("errors.errorType", Rows.laid_errors_errorType)] W := h
  obtain ⟨name, u, ty, e1, e2, e3, e4, e5⟩ := h'.2 _ (List.mem_singleton.2 rfl)
  have en : name = [101, 114, 114, 111, 114] := (Option.some.inj e1).symm
  subst en
  obtain rfl := Option.some.inj (Tryz.rt.symm.trans e2)
  have hm : ty ∈ (List.range 239).filter fun t => Tryz.prog.rowNamed t [101, 114, 114, 111, 114] := List.mem_filter.2 ⟨List.mem_range.2 (by rw [← Tryz.tsize]; exact e3), e4⟩
  rw [Tryz.oneRow] at hm
  obtain rfl := List.mem_singleton.1 hm
  have hh : typeHandle Tryz.prog 43 = .pointer (some ⟨4, 43, none⟩) := by kernel_rfl
  rw [hh] at e5
  show W.cell? _ = _
  simpa using World.var?_cell Tryz.et e5 0

theorem laidWorld_met (os : Os) (args : Array Value) : laidMetH Tryz.prog [("errors.errorType", Rows.laid_errors_errorType)] ((({ World.holding Tryz.prog os ⟨#[], #[], []⟩ with heap := (World.holding Tryz.prog os ⟨#[], #[], []⟩).heap.modify 0 fun
      | .cells _ t frozen => .cells #[.iface 143 (.agg #[.pointer (some ⟨4, 43, none⟩)])] t frozen
      | o => o } : World)).forCall (fun _ _ => 0) ⟨#[], args, []⟩).memory :=
  laidMetH_of_parts (laidMet_nil _ _) (by kernel_rfl)
end Go.Proofs.YthfacjlghcdndaaGreatDoor

namespace Go.Proofs.YthfacjlghcdndaaGreatDoor
namespace Fl

structure Node where
  kind : Int
  level : Int
  a : Int
  b : Int
  c : Int
  list : List Int

def fields (k : Int) : Int :=
  if k = 0 ∨ k = 1 then 1 else if k = 3 ∨ k = 4 ∨ k = 6 then 2 else if k = 2 ∨ k = 5 then 3 else if k = 7 then -1 else -2

def isLow (c : UInt8) : Bool := 97 ≤ c && c ≤ 122
def isDig (c : UInt8) : Bool := 48 ≤ c && c ≤ 57

def named (l : List UInt8) : Bool := l.all isLow && (decide (0 < l.length) && decide (l.length ≤ 6))

def val (l : List UInt8) : Nat := l.foldl (fun v c => 10 * v + (c.toNat - 48)) 0

def numOk (l : List UInt8) (most : Nat) : Bool := decide (0 < l.length) && (decide (l.length ≤ most) && (l.headD 0 != 48 || decide (l.length = 1)))
def number (l : List UInt8) (most : Nat) : Nat × Bool := if l.all isDig then (val (l.take most), numOk l most) else (0, false)

def placeFrom (i : Nat) (w : List UInt8) : List (List UInt8) → Int
  | [] => -1
  | x :: r => if x == w then (i : Int) else placeFrom (i + 1) w r
def place (l : List (List UInt8)) (w : List UInt8) : Int := placeFrom 0 w l

def atom (l : List UInt8) : Bool := named l || (number l 9).2
def signs : List (List UInt8) := [[43], [45], [42], [60], [61, 61]]
def wLevel : List UInt8 := [108, 101, 118, 101, 108]
def wBelow : List UInt8 := [98, 101, 108, 111, 119]
def wCell : List UInt8 := [99, 101, 108, 108]
def wChannel : List UInt8 := [99, 104, 97, 110, 110, 101, 108]
def wBegin : List UInt8 := [98, 101, 103, 105, 110]
def wElse : List UInt8 := [101, 108, 115, 101]
def wEnd : List UInt8 := [101, 110, 100]
def wIf : List UInt8 := [105, 102]
def wWhile : List UInt8 := [119, 104, 105, 108, 101]
def wOut : List UInt8 := [111, 117, 116]
def wSet : List UInt8 := [115, 101, 116]
def line : List (List UInt8) → Bool
  | [a] => a == wBegin || a == wElse || a == wEnd
  | [a, b] => (a == wLevel && named b) || ((a == wIf || a == wWhile) && atom b)
  | [a, b, c] => ((a == wBelow || a == wCell || a == wChannel) && named b && named c) || ((a == wOut || a == wSet) && named b && atom c)
  | [a, b, c, d, e] => a == wSet && named b && atom c && decide (0 ≤ place signs d) && atom e
  | _ => false

theorem placeFrom_hit (w : List UInt8) (l : List (List UInt8)) : ∀ (i k : Nat), (∀ j, j < k → (l.getD j [] == w) = false) → k < l.length → (l.getD k [] == w) = true → placeFrom i w l = ((i + k : Nat) : Int) := by
  induction l with
  | nil => intro i k _ h; simp at h
  | cons x r ih =>
    intro i k hn hk hw
    match k with
    | 0 => simp only [List.getD_cons_zero] at hw; simp [placeFrom, hw]
    | k + 1 =>
      have h0 := hn 0 (by omega)
      simp only [List.getD_cons_zero] at h0
      simp only [placeFrom, h0]
      rw [if_neg (by simp), ih (i + 1) k (fun j hj => by simpa using hn (j + 1) (by omega)) (by simpa using hk) (by simpa using hw)]
      omega
theorem placeFrom_miss (w : List UInt8) (l : List (List UInt8)) : ∀ (i : Nat), (∀ j, j < l.length → (l.getD j [] == w) = false) → placeFrom i w l = -1 := by
  induction l with
  | nil => intro i _; rfl
  | cons x r ih =>
    intro i hn
    have h0 := hn 0 (by simp)
    simp only [List.getD_cons_zero] at h0
    simp only [placeFrom, h0]
    rw [if_neg (by simp), ih (i + 1) (fun j hj => by simpa using hn (j + 1) (by simpa using hj))]
theorem place_hit (w : List UInt8) (l : List (List UInt8)) (k : Nat) (h : ∀ j, j < k → (l.getD j [] == w) = false) (hk : k < l.length) (hw : (l.getD k [] == w) = true) : place l w = (k : Int) := by
  have := placeFrom_hit w l 0 k h hk hw; simpa [place] using this
theorem place_miss (w : List UInt8) (l : List (List UInt8)) (h : ∀ j, j < l.length → (l.getD j [] == w) = false) : place l w = -1 := placeFrom_miss w l 0 h

theorem val_snoc (l : List UInt8) (c : UInt8) : val (l ++ [c]) = 10 * val l + (c.toNat - 48) := by
  simp [val, List.foldl_append]
theorem val_from (l : List UInt8) : ∀ v, l.all isDig = true → l.foldl (fun v c => 10 * v + (c.toNat - 48)) v < (v + 1) * 10 ^ l.length := by
  induction l with
  | nil => intro v _; simp
  | cons c l ih =>
    intro v h
    rw [List.all_cons, Bool.and_eq_true] at h
    have h2 : c.toNat - 48 < 10 := by
      have := h.1; simp [isDig, UInt8.le_iff_toNat_le] at this; omega
    have h1 := ih (10 * v + (c.toNat - 48)) h.2
    rw [List.foldl_cons, List.length_cons, Nat.pow_succ]
    refine Nat.lt_of_lt_of_le h1 ?_
    rw [Nat.mul_comm (10 ^ l.length) 10, ← Nat.mul_assoc]
    exact Nat.mul_le_mul_right _ (by omega)
theorem val_lt (l : List UInt8) (h : l.all isDig = true) : val l < 10 ^ l.length := by
  have := val_from l 0 h; simpa [val] using this
theorem val_le (l : List UInt8) (m : Nat) (h : l.all isDig = true) (hm : l.length ≤ m) (hm2 : m ≤ 10) : val l < 10000000000 := by
  have h1 := val_lt l h
  have h2 : 10 ^ l.length ≤ 10 ^ 10 := Nat.pow_le_pow_right (by omega) (by omega)
  omega

end Fl
end Go.Proofs.YthfacjlghcdndaaGreatDoor

namespace Go.Proofs.YthfacjlghcdndaaGreatDoor
open Go.RowKit

theorem ret_int {k : IntKind} {a b : Int} (h : a = b) : Ending.returned (.int k a) = .returned (.int k b) := by rw [h]
theorem ret_bool {a b : Bool} (h : a = b) : Ending.returned (.bool a) = .returned (.bool b) := by rw [h]

theorem take_snoc (s : ByteArray) (k : Nat) (h : k < s.size) : s.data.toList.take (k + 1) = s.data.toList.take k ++ [s[k]] := by
  rw [List.take_succ_eq_append_getElem (by simpa using h)]; rfl
theorem take_all (s : ByteArray) (k : Nat) (h : ¬ k < s.size) : s.data.toList.take k = s.data.toList := by
  rw [List.take_of_length_le]; simp; exact Nat.le_of_not_lt h
theorem mem_at (s : ByteArray) (k : Nat) (h : k < s.size) : s[k] ∈ s.data.toList := by
  have : s[k] = s.data.toList[k]'(by simpa using h) := rfl
  rw [this]; exact List.getElem_mem _

theorem ret_ib {k : IntKind} {a b : Int} {p q : Bool} (h : a = b) (h' : p = q) : Ending.returned (.tuple #[.int k a, .bool p]) = .returned (.tuple #[.int k b, .bool q]) := by rw [h, h']

end Go.Proofs.YthfacjlghcdndaaGreatDoor

namespace Go.Proofs.YthfacjlghcdndaaGreatDoor
open Go.RowKit

theorem low_iff (c : UInt8) : Fl.isLow c = true ↔ (97 : Int) ≤ (c.toNat : Int) ∧ (c.toNat : Int) ≤ 122 := by
  simp [Fl.isLow, UInt8.le_iff_toNat_le]; omega
theorem dig_iff (c : UInt8) : Fl.isDig c = true ↔ (48 : Int) ≤ (c.toNat : Int) ∧ (c.toNat : Int) ≤ 57 := by
  simp [Fl.isDig, UInt8.le_iff_toNat_le]; omega
theorem all_snoc (p : UInt8 → Bool) (s : ByteArray) (k : Nat) (h : k < s.size) (ha : (s.data.toList.take k).all p = true) (hp : p s[k] = true) : (s.data.toList.take (k + 1)).all p = true := by
  rw [take_snoc s k h, List.all_append, ha]; simpa using hp
theorem all_not (p : UInt8 → Bool) (s : ByteArray) (k : Nat) (h : k < s.size) (hp : ¬ p s[k] = true) : s.data.toList.all p = false := by
  rw [Bool.eq_false_iff]; intro hall; exact hp (List.all_eq_true.1 hall _ (mem_at s k h))
theorem number_not (s : ByteArray) (m k : Nat) (h : k < s.size) (hp : (s[k].toNat : Int) < 48 ∨ 57 < (s[k].toNat : Int)) : Fl.number s.data.toList m = (0, false) := by
  unfold Fl.number; rw [all_not Fl.isDig s k h (by rw [dig_iff]; omega)]; rfl

theorem number_end (s : ByteArray) (m v : Nat) (h : s.data.toList.all Fl.isDig = true) (hv : Fl.val (s.data.toList.take m) = v) : Fl.number s.data.toList m = (v, Fl.numOk s.data.toList m) := by
  unfold Fl.number; rw [if_pos h, hv]
theorem headD_get (l : List UInt8) (h : 0 < l.length) : l.headD 0 = l[0] := by
  match l, h with
  | a :: l, _ => rfl
theorem headD_at (s : ByteArray) (h : 0 < s.size) : s.data.toList.headD 0 = s[0] := by
  rw [headD_get _ (by simpa using h)]; rfl
theorem numOk_48 (s : ByteArray) (m : Nat) (h : 0 < s.size) (h2 : s.size ≤ m) (h3 : (s[0].toNat : Int) = 48) : Fl.numOk s.data.toList m = ((s.size : Int) == 1) := by
  have e : s.data.toList.length = s.size := by simp
  have e2 : s[0] = 48 := by rw [← UInt8.toNat_inj]; show s[0].toNat = 48; omega
  unfold Fl.numOk; rw [headD_at s h, e, e2, decide_eq_true h, decide_eq_true h2]
  rw [Bool.eq_iff_iff]; simp; omega
theorem numOk_no48 (s : ByteArray) (m : Nat) (h : 0 < s.size) (h2 : s.size ≤ m) (h3 : ¬ (s[0].toNat : Int) = 48) : Fl.numOk s.data.toList m = true := by
  have e : s.data.toList.length = s.size := by simp
  have e2 : s[0] ≠ 48 := by intro hh; apply h3; rw [hh]; rfl
  unfold Fl.numOk; rw [headD_at s h, e, decide_eq_true h, decide_eq_true h2]
  simp [e2]
theorem numOk_long (s : ByteArray) (m : Nat) (h2 : ¬ s.size ≤ m) : Fl.numOk s.data.toList m = false := by
  have e : s.data.toList.length = s.size := by simp
  unfold Fl.numOk; rw [e, decide_eq_false h2]; simp
theorem numOk_none (s : ByteArray) (m : Nat) (h2 : ¬ 0 < s.size) : Fl.numOk s.data.toList m = false := by
  have e : s.data.toList.length = s.size := by simp
  unfold Fl.numOk; rw [e, decide_eq_false h2]; simp
set_option maxHeartbeats 1000000 in
theorem number_any (s : ByteArray) (m : Nat) (w : World) (hs : s.size ≤ maxLen) (hm : m ≤ 10) : Calls Tryz.prog 35 #[.string s, .int .i64 m] w fun e w' => e = .returned (.tuple #[.int .i64 (Fl.number s.data.toList m).1, .bool (Fl.number s.data.toList m).2]) ∧ w' = w := by
  unfold maxLen at hs
  go_enter Tryz.func35, Tryz.ntmps35
  go_wp2
  go_loop [6, 7] (fun v i => ∃ k : Nat, k ≤ s.size ∧ i = .int .i64 k ∧ (s.data.toList.take k).all Fl.isDig = true ∧ v = .int .i64 (Fl.val ((s.data.toList.take k).take m))) (fun _ i => s.size - (intOf i).toNat)
  case atStart => exact ⟨0, Nat.zero_le _, rfl, rfl, by simp [Fl.val]⟩
  case round =>
    obtain ⟨k, hk, rfl, hall, rfl⟩ := hrel
    have HA : Hid ((s.data.toList.take k).all Fl.isDig = true) := hall
    have hv : Fl.val ((s.data.toList.take k).take m) < 10000000000 := Fl.val_le _ m (by rw [List.all_eq_true] at hall ⊢; intro x hx; exact hall x (List.mem_of_mem_take hx)) (by simp; omega) hm
    clear hall
    generalize hg : Fl.val ((s.data.toList.take k).take m) = v at *
    have HG : Hid (Fl.val ((s.data.toList.take k).take m) = v) := hg
    clear hg
    by_cases hlt : k < s.size
    · by_cases hkm : k < m
      · go_wp2
        · go_ret2; exact ⟨by rw [number_not s m k hlt (by omega)]; rfl, rfl⟩
        · go_round
          case rel =>
            refine ⟨k + 1, by omega, by go_num, all_snoc _ s k hlt HA.out (by rw [dig_iff]; omega), ?_⟩
            have h1 := HG.out
            rw [List.take_of_length_le (by simp; omega)] at h1
            rw [List.take_of_length_le (by simp; omega), take_snoc s k hlt, Fl.val_snoc, h1]
            congr 1; omega
          case measure => simp [intOf]; omega
        · go_ret2; exact ⟨by rw [number_not s m k hlt (by omega)]; rfl, rfl⟩
      · go_wp2
        · go_ret2; exact ⟨by rw [number_not s m k hlt (by omega)]; rfl, rfl⟩
        · go_round
          case rel =>
            refine ⟨k + 1, by omega, by go_num, all_snoc _ s k hlt HA.out (by rw [dig_iff]; omega), ?_⟩
            have h1 := HG.out
            rw [List.take_take, Nat.min_eq_left (by omega)] at h1 ⊢
            rw [h1]
          case measure => simp [intOf]; omega
        · go_ret2; exact ⟨by rw [number_not s m k hlt (by omega)]; rfl, rfl⟩
    · have HN : Hid (Fl.number s.data.toList m = (v, Fl.numOk s.data.toList m)) := number_end s m v (by rw [← take_all s k hlt]; exact HA.out) (by have := HG.out; rwa [take_all s k hlt] at this)
      go_wp2
      · go_ret2; exact ⟨by rw [HN.out]; exact ret_ib rfl (numOk_48 s m (by assumption) (by assumption) (by assumption)).symm, rfl⟩
      · go_ret2; exact ⟨by rw [HN.out]; exact ret_ib rfl (numOk_no48 s m (by assumption) (by assumption) (by assumption)).symm, rfl⟩
      · go_ret2; exact ⟨by rw [HN.out]; exact ret_ib rfl (numOk_long s m (by assumption)).symm, rfl⟩
      · go_ret2; exact ⟨by rw [HN.out]; exact ret_ib rfl (numOk_none s m (by assumption)).symm, rfl⟩
end Go.Proofs.YthfacjlghcdndaaGreatDoor
