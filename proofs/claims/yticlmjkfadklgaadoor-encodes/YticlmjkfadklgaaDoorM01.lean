/- Texts LwRow Spec RefA0 Spec2. -/
import Derived.Test.YticlmjkfadklgaaDoorM00
import Derived.Test.YticlmjkfadklgaaDoorRows
import Derived.ChangeSame
import Derived.ChangeVars
import Derived.JoinedOf
import Derived.RowKit
import Derived.RowKitTokens
import Derived.LaidLaws
import Derived.LaidHandle
import Derived.Stop.Joined
import Derived.ChangeMaps5
import Derived.WalkKit
import Derived.Test.YticlmjkfadklgaaDoorProg
import Derived.WalkSpells
import Derived.WalkLawsBesides
/- What the row's condition on errors' variable gives a walk; a world that meets it. -/
set_option linter.unusedSimpArgs false
set_option linter.unusedVariables false
namespace Go.Proofs.YticlmjkfadklgaaDoor
open Go.ChangeShapes Go.WideShapes Go.RowKit

theorem Tryd.own : ownKnob Tryd.prog.godebug = none := by kernel_rfl
theorem Tryd.et : Tryd.prog.globalNamed "errors.errorType" = some 0 := by kernel_rfl
theorem Tryd.rt : (Tryd.prog.cutTypes.find? (·.1 == "internal/reflectlite.rtype")).map (·.2) = some 111 := by kernel_rfl
theorem Tryd.oneRow : ((List.range 183).filter fun t => Tryd.prog.rowNamed t [101, 114, 114, 111, 114]) = [51] := by kernel_rfl
theorem Tryd.tsize : Tryd.prog.types.size = 183 := by kernel_rfl

theorem handle_of_laid {W : World} (h : laidMetH Tryd.prog [("errors.errorType", Rows.laid_errors_errorType)] W) : ErrType W := by
  have h' : laidMet Tryd.prog [] W ∧ handlesMet Tryd.prog [("errors.errorType", Rows.laid_errors_errorType)] W := h
  obtain ⟨name, u, ty, e1, e2, e3, e4, e5⟩ := h'.2 _ (List.mem_singleton.2 rfl)
  have en : name = [101, 114, 114, 111, 114] := (Option.some.inj e1).symm
  subst en
  obtain rfl := Option.some.inj (Tryd.rt.symm.trans e2)
  have hm : ty ∈ (List.range 183).filter fun t => Tryd.prog.rowNamed t [101, 114, 114, 111, 114] := List.mem_filter.2 ⟨List.mem_range.2 (by rw [← Tryd.tsize]; exact e3), e4⟩
  rw [Tryd.oneRow] at hm
  obtain rfl := List.mem_singleton.1 hm
  have hh : typeHandle Tryd.prog 51 = .pointer (some ⟨1, 51, none⟩) := by kernel_rfl
  rw [hh] at e5
  show W.cell? _ = _
  simpa using World.var?_cell Tryd.et e5 0

/-- A world that meets the condition: the settled one, the variable's cell laid. -/
theorem laidWorld_met (os : Os) (args : Array Value) : laidMetH Tryd.prog [("errors.errorType", Rows.laid_errors_errorType)] ((({ World.holding Tryd.prog os ⟨#[], #[], []⟩ with heap := (World.holding Tryd.prog os ⟨#[], #[], []⟩).heap.modify 0 fun
      | .cells _ t frozen => .cells #[.iface 111 (.agg #[.pointer (some ⟨1, 51, none⟩)])] t frozen
      | o => o } : World)).forCall (fun _ _ => 0) ⟨#[], args, []⟩).memory :=
  laidMetH_of_parts (laidMet_nil _ _) (by kernel_rfl)
end Go.Proofs.YticlmjkfadklgaaDoor

/- The reference's plain functions, as functions on lists and numbers. Nothing of the program is imported here. -/
namespace Go.Proofs.YticlmjkfadklgaaDoor
namespace Fl

/-- A node of a proof, in plain numbers. -/
structure Node where
  kind : Int
  level : Int
  a : Int
  b : Int
  c : Int
  list : List Int

/-- How many of A, B, C a kind has; -1: a list; -2: no such kind. -/
def fields (k : Int) : Int :=
  if k = 0 ∨ k = 1 then 1 else if k = 3 ∨ k = 4 ∨ k = 6 then 2 else if k = 2 ∨ k = 5 then 3 else if k = 7 then -1 else -2

def isLow (c : UInt8) : Bool := 97 ≤ c && c ≤ 122
def isDig (c : UInt8) : Bool := 48 ≤ c && c ≤ 57

/-- One to six small letters. -/
def named (l : List UInt8) : Bool := l.all isLow && (decide (0 < l.length) && decide (l.length ≤ 6))

/-- The value of digits. -/
def val (l : List UInt8) : Nat := l.foldl (fun v c => 10 * v + (c.toNat - 48)) 0

/-- A number's value and whether it is one: digits, no nought ahead, at most so many. -/
def numOk (l : List UInt8) (most : Nat) : Bool := decide (0 < l.length) && (decide (l.length ≤ most) && (l.headD 0 != 48 || decide (l.length = 1)))
def number (l : List UInt8) (most : Nat) : Nat × Bool := if l.all isDig then (val (l.take most), numOk l most) else (0, false)

/-- The first place of a word in a list, counted from i; -1: none. -/
def placeFrom (i : Nat) (w : List UInt8) : List (List UInt8) → Int
  | [] => -1
  | x :: r => if x == w then (i : Int) else placeFrom (i + 1) w r
def place (l : List (List UInt8)) (w : List UInt8) : Int := placeFrom 0 w l

def atom (l : List UInt8) : Bool := named l || (number l 9).2
def signs : List (List UInt8) := [[43], [45], [42], [60], [61, 61]]
/-- The words, as bytes. -/
def wLevel : List UInt8 := [108, 101, 118, 101, 108]
def wBelow : List UInt8 := [98, 101, 108, 111, 119]
def wCell : List UInt8 := [99, 101, 108, 108]
def wChannel : List UInt8 := [99, 104, 97, 110, 110, 101, 108]
def wBegin : List UInt8 := [98, 101, 103, 105, 110]
def wElse : List UInt8 := [101, 108, 115, 101]
def wEnd : List UInt8 := [101, 110, 100]
def wIf : List UInt8 := [105, 102]
def wWhile : List UInt8 := [119, 104, 105, 108, 101]
def wOut : List UInt8 := [111, 117, 116]
def wSet : List UInt8 := [115, 101, 116]
/-- Is it a line of a program? -/
def line : List (List UInt8) → Bool
  | [a] => a == wBegin || a == wElse || a == wEnd
  | [a, b] => (a == wLevel && named b) || ((a == wIf || a == wWhile) && atom b)
  | [a, b, c] => ((a == wBelow || a == wCell || a == wChannel) && named b && named c) || ((a == wOut || a == wSet) && named b && atom c)
  | [a, b, c, d, e] => a == wSet && named b && atom c && decide (0 ≤ place signs d) && atom e
  | _ => false

theorem placeFrom_hit (w : List UInt8) (l : List (List UInt8)) : ∀ (i k : Nat), (∀ j, j < k → (l.getD j [] == w) = false) → k < l.length → (l.getD k [] == w) = true → placeFrom i w l = ((i + k : Nat) : Int) := by
  induction l with
  | nil => intro i k _ h; simp at h
  | cons x r ih =>
    intro i k hn hk hw
    match k with
    | 0 => simp only [List.getD_cons_zero] at hw; simp [placeFrom, hw]
    | k + 1 =>
      have h0 := hn 0 (by omega)
      simp only [List.getD_cons_zero] at h0
      simp only [placeFrom, h0]
      rw [if_neg (by simp), ih (i + 1) k (fun j hj => by simpa using hn (j + 1) (by omega)) (by simpa using hk) (by simpa using hw)]
      omega
theorem placeFrom_miss (w : List UInt8) (l : List (List UInt8)) : ∀ (i : Nat), (∀ j, j < l.length → (l.getD j [] == w) = false) → placeFrom i w l = -1 := by
  induction l with
  | nil => intro i _; rfl
  | cons x r ih =>
    intro i hn
    have h0 := hn 0 (by simp)
    simp only [List.getD_cons_zero] at h0
    simp only [placeFrom, h0]
    rw [if_neg (by simp), ih (i + 1) (fun j hj => by simpa using hn (j + 1) (by simpa using hj))]
theorem place_hit (w : List UInt8) (l : List (List UInt8)) (k : Nat) (h : ∀ j, j < k → (l.getD j [] == w) = false) (hk : k < l.length) (hw : (l.getD k [] == w) = true) : place l w = (k : Int) := by
  have := placeFrom_hit w l 0 k h hk hw; simpa [place] using this
theorem place_miss (w : List UInt8) (l : List (List UInt8)) (h : ∀ j, j < l.length → (l.getD j [] == w) = false) : place l w = -1 := placeFrom_miss w l 0 h

theorem val_snoc (l : List UInt8) (c : UInt8) : val (l ++ [c]) = 10 * val l + (c.toNat - 48) := by
  simp [val, List.foldl_append]
theorem val_from (l : List UInt8) : ∀ v, l.all isDig = true → l.foldl (fun v c => 10 * v + (c.toNat - 48)) v < (v + 1) * 10 ^ l.length := by
  induction l with
  | nil => intro v _; simp
  | cons c l ih =>
    intro v h
    rw [List.all_cons, Bool.and_eq_true] at h
    have h2 : c.toNat - 48 < 10 := by
      have := h.1; simp [isDig, UInt8.le_iff_toNat_le] at this; omega
    have h1 := ih (10 * v + (c.toNat - 48)) h.2
    rw [List.foldl_cons, List.length_cons, Nat.pow_succ]
    refine Nat.lt_of_lt_of_le h1 ?_
    rw [Nat.mul_comm (10 ^ l.length) 10, ← Nat.mul_assoc]
    exact Nat.mul_le_mul_right _ (by omega)
theorem val_lt (l : List UInt8) (h : l.all isDig = true) : val l < 10 ^ l.length := by
  have := val_from l 0 h; simpa [val] using this
theorem val_le (l : List UInt8) (m : Nat) (h : l.all isDig = true) (hm : l.length ≤ m) (hm2 : m ≤ 10) : val l < 10000000000 := by
  have h1 := val_lt l h
  have h2 : 10 ^ l.length ≤ 10 ^ 10 := Nat.pow_le_pow_right (by omega) (by omega)
  omega

end Fl
end Go.Proofs.YticlmjkfadklgaaDoor

/- What kind has which fields; small facts. -/
namespace Go.Proofs.YticlmjkfadklgaaDoor
open Go.RowKit

theorem ret_int {k : IntKind} {a b : Int} (h : a = b) : Ending.returned (.int k a) = .returned (.int k b) := by rw [h]
theorem ret_bool {a b : Bool} (h : a = b) : Ending.returned (.bool a) = .returned (.bool b) := by rw [h]

set_option maxHeartbeats 400000 in
theorem fields_any (k : Int) (w : World) : Calls Tryd.prog 28 #[.int .i64 k] w fun e w' => e = .returned (.int .i64 (Fl.fields k)) ∧ w' = w := by
  go_enter Tryd.func28, Tryd.ntmps28
  go_wp2
  all_goals go_ret
  all_goals exact ⟨ret_int (by simp_all [Fl.fields]), rfl⟩

theorem take_snoc (s : ByteArray) (k : Nat) (h : k < s.size) : s.data.toList.take (k + 1) = s.data.toList.take k ++ [s[k]] := by
  rw [List.take_succ_eq_append_getElem (by simpa using h)]; rfl
theorem take_all (s : ByteArray) (k : Nat) (h : ¬ k < s.size) : s.data.toList.take k = s.data.toList := by
  rw [List.take_of_length_le]; simp; exact Nat.le_of_not_lt h
theorem mem_at (s : ByteArray) (k : Nat) (h : k < s.size) : s[k] ∈ s.data.toList := by
  have : s[k] = s.data.toList[k]'(by simpa using h) := rfl
  rw [this]; exact List.getElem_mem _

theorem ret_ib {k : IntKind} {a b : Int} {p q : Bool} (h : a = b) (h' : p = q) : Ending.returned (.tuple #[.int k a, .bool p]) = .returned (.tuple #[.int k b, .bool q]) := by rw [h, h']

end Go.Proofs.YticlmjkfadklgaaDoor

/- Proofs as bytes: the reference's plain functions. -/
namespace Go.Proofs.YticlmjkfadklgaaDoor
namespace Fl

/-- A number in bytes of seven bits, the lowest first. -/
def codedF : Nat → Nat → List UInt8
  | 0, v => [UInt8.ofNat v]
  | f + 1, v => if v < 128 then [UInt8.ofNat v] else UInt8.ofNat (v % 128 + 128) :: codedF f (v / 128)
def coded (v : Nat) : List UInt8 := codedF 9 v

theorem codedF_len (f : Nat) : ∀ v, (codedF f v).length ≤ f + 1 := by
  induction f with
  | zero => intro v; simp [codedF]
  | succ f ih =>
    intro v; simp only [codedF]; split
    · simp
    · have := ih (v / 128); simp only [List.length_cons]; omega
theorem codedF_pos (f : Nat) : ∀ v, 0 < (codedF f v).length := by
  intro v; cases f with
  | zero => simp [codedF]
  | succ f => simp only [codedF]; split <;> simp

/-- The number that bytes open with: its value, where the next one is, 0; or 0, -1, and where it fails. -/
def numG (at_ len k v unit : Nat) : List UInt8 → Int × Int × Int
  | [] => (0, -1, (len : Int))
  | c :: r =>
    if (c.toNat = 0 ∧ 0 < k) ∨ 2147483648 ≤ v + c.toNat % 128 * unit ∨ (k = 4 ∧ 128 ≤ c.toNat) then (0, -1, (at_ : Int))
    else if c.toNat < 128 then (((v + c.toNat % 128 * unit : Nat) : Int), ((at_ + k + 1 : Nat) : Int), 0)
    else numG at_ len (k + 1) (v + c.toNat % 128 * unit) (unit * 128) r
def num (s : List UInt8) (at_ : Nat) : Int × Int × Int := numG at_ s.length 0 0 1 (s.drop at_)

theorem numG_ok (at_ len : Nat) (l : List UInt8) : ∀ k v unit, at_ + k + l.length = len →
    ((numG at_ len k v unit l).2.1 = -1 ∧ (numG at_ len k v unit l).1 = 0 ∧ 0 ≤ (numG at_ len k v unit l).2.2 ∧ (numG at_ len k v unit l).2.2 ≤ len) ∨
    ((at_ + k : Int) < (numG at_ len k v unit l).2.1 ∧ (numG at_ len k v unit l).2.1 ≤ len ∧ 0 ≤ (numG at_ len k v unit l).1 ∧ (numG at_ len k v unit l).1 < 2147483648 ∧ (numG at_ len k v unit l).2.2 = 0) := by
  induction l with
  | nil => intro k v unit h; left; simp [numG]
  | cons c r ih =>
    intro k v unit h
    simp only [List.length_cons] at h
    by_cases h1 : (c.toNat = 0 ∧ 0 < k) ∨ 2147483648 ≤ v + c.toNat % 128 * unit ∨ (k = 4 ∧ 128 ≤ c.toNat)
    · left; simp only [numG, if_pos h1]; refine ⟨by trivial, by trivial, by omega, by omega⟩
    · by_cases h2 : c.toNat < 128
      · right; simp only [numG, if_neg h1, if_pos h2]; refine ⟨by omega, by omega, by omega, by omega, by trivial⟩
      · simp only [numG, if_neg h1, if_neg h2]
        rcases ih (k + 1) (v + c.toNat % 128 * unit) (unit * 128) (by omega) with h3 | h3
        · left; exact h3
        · right; obtain ⟨a, b, c, d⟩ := h3; exact ⟨by omega, b, c, d⟩
theorem num_ok (s : List UInt8) (at_ : Nat) (h : at_ ≤ s.length) :
    ((num s at_).2.1 = -1 ∧ (num s at_).1 = 0 ∧ 0 ≤ (num s at_).2.2 ∧ (num s at_).2.2 ≤ s.length) ∨ ((at_ : Int) < (num s at_).2.1 ∧ (num s at_).2.1 ≤ s.length ∧ 0 ≤ (num s at_).1 ∧ (num s at_).1 < 2147483648 ∧ (num s at_).2.2 = 0) := by
  have := numG_ok at_ s.length (s.drop at_) 0 0 1 (by simp; omega)
  simpa [num] using this

/-- So many numbers, one behind the other; what came so far. -/
def numsA (s : List UInt8) : Nat → Nat → List Int → List Int × Int × Int
  | 0, at_, acc => (acc, (at_ : Int), 0)
  | n + 1, at_, acc => if (num s at_).2.1 < 0 then ([], -1, (num s at_).2.2) else numsA s n (num s at_).2.1.toNat (acc ++ [(num s at_).1])
def nums (s : List UInt8) (at_ n : Nat) : List Int × Int × Int := numsA s n at_ []

theorem numsA_ok (s : List UInt8) (n : Nat) : ∀ at_ acc, at_ ≤ s.length → (∀ x ∈ acc, 0 ≤ x ∧ x < 2147483648) →
    ((numsA s n at_ acc).2.1 = -1 ∧ (numsA s n at_ acc).1 = [] ∧ 0 ≤ (numsA s n at_ acc).2.2 ∧ (numsA s n at_ acc).2.2 ≤ s.length) ∨
    ((at_ : Int) ≤ (numsA s n at_ acc).2.1 ∧ (numsA s n at_ acc).2.1 ≤ s.length ∧ (numsA s n at_ acc).1.length = acc.length + n ∧ (∀ x ∈ (numsA s n at_ acc).1, 0 ≤ x ∧ x < 2147483648)) := by
  induction n with
  | zero => intro at_ acc h ha; right; simp only [numsA]; exact ⟨by omega, by omega, by simp, ha⟩
  | succ n ih =>
    intro at_ acc h ha
    rcases num_ok s at_ h with h1 | h1
    · left; have h2 : (num s at_).2.1 < 0 := by omega
      simp only [numsA, if_pos h2]; exact ⟨by trivial, by trivial, h1.2.2.1, h1.2.2.2⟩
    · obtain ⟨a1, a2, a3, a4, a5⟩ := h1
      have h2 : ¬ (num s at_).2.1 < 0 := by omega
      simp only [numsA, if_neg h2]
      rcases ih (num s at_).2.1.toNat (acc ++ [(num s at_).1]) (by omega) (by intro x hx; simp only [List.mem_append, List.mem_singleton] at hx; rcases hx with hx | hx; exact ha x hx; subst hx; exact ⟨a3, a4⟩) with h3 | h3
      · left; exact h3
      · right; obtain ⟨b1, b2, b3, b4⟩ := h3
        exact ⟨by omega, b2, by rw [b3]; simp; omega, b4⟩
theorem nums_ok (s : List UInt8) (at_ n : Nat) (h : at_ ≤ s.length) :
    ((nums s at_ n).2.1 = -1 ∧ (nums s at_ n).1 = [] ∧ 0 ≤ (nums s at_ n).2.2 ∧ (nums s at_ n).2.2 ≤ s.length) ∨
    ((at_ : Int) ≤ (nums s at_ n).2.1 ∧ (nums s at_ n).2.1 ≤ s.length ∧ (nums s at_ n).1.length = n ∧ (∀ x ∈ (nums s at_ n).1, 0 ≤ x ∧ x < 2147483648)) := by
  have := numsA_ok s n at_ [] h (by simp)
  simpa [nums] using this

/-- Are two nodes the same? -/
def eqNode (x y : Node) : Bool := x.kind == y.kind && (x.level == y.level && (x.a == y.a && (x.b == y.b && (x.c == y.c && x.list == y.list))))
theorem eqNode_iff (x y : Node) : eqNode x y = true ↔ x = y := by
  obtain ⟨a, b, c, d, e, f⟩ := x; obtain ⟨a', b', c', d', e', f'⟩ := y
  simp [eqNode]

/-- Is it a number that a proof may hold? -/
def inR (x : Int) : Bool := decide (0 ≤ x) && decide (x < 2147483648)
/-- Of the numbers A, B, C (i: which) of a kind that has f of them: may it be x? -/
def okV (f i x : Int) : Bool := inR x && (decide (i < f) || decide (x = 0))
/-- A node's numbers. -/
def sound (n : Node) : Bool :=
  decide (fields n.kind ≠ -2) && (inR n.level && (decide (n.list.length ≤ 16) && (okV (fields n.kind) 0 n.a && (okV (fields n.kind) 1 n.b && (okV (fields n.kind) 2 n.c && (n.list.all inR && (decide (fields n.kind = -1) || decide (n.list = []))))))))
theorem fields_lt (k : Int) : -2 ≤ fields k ∧ fields k ≤ 3 := by unfold fields; repeat' split <;> omega

/-- Numbers, one behind the other. -/
def codedAll (l : List Int) : List UInt8 := l.flatMap fun x => coded x.toNat
/-- The numbers of a node behind its level. -/
def nodeNums (n : Node) : List Int := if fields n.kind < 0 then n.list else [n.a, n.b, n.c].take (fields n.kind).toNat
/-- A node's bytes. -/
def nodeBytes (n : Node) : List UInt8 :=
  UInt8.ofNat n.kind.toNat :: (coded n.level.toNat ++ ((if fields n.kind < 0 then coded n.list.length else []) ++ codedAll (nodeNums n)))

theorem coded_len (v : Nat) : (coded v).length ≤ 10 := codedF_len 9 v
theorem coded_pos (v : Nat) : 0 < (coded v).length := codedF_pos 9 v
theorem codedAll_len (l : List Int) : (codedAll l).length ≤ 10 * l.length := by
  induction l with
  | nil => simp [codedAll]
  | cons x l ih => have := coded_len x.toNat; simp only [codedAll, List.flatMap_cons, List.length_append, List.length_cons] at ih ⊢; omega
theorem codedAll_snoc (l : List Int) (x : Int) : codedAll (l ++ [x]) = codedAll l ++ coded x.toNat := by simp [codedAll]
theorem take_snocI (l : List Int) (j : Nat) (h : j < l.length) : l.take (j + 1) = l.take j ++ [l.getD j 0] := by
  rw [List.take_succ_eq_append_getElem h, List.getD_eq_getElem?_getD, List.getElem?_eq_getElem h]; rfl

end Fl
end Go.Proofs.YticlmjkfadklgaaDoor
