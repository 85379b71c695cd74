/- Texts Words RefC RefD Rea. -/
import Derived.Test.YthfacjlghcdndaaGreatDoorM20
import Derived.Deep.RegionWith
namespace Go.Proofs.YthfacjlghcdndaaGreatDoor
namespace Fl
def IsLevel (l : List UInt8) : Prop := (l == [108, 101, 118, 101, 108]) = true ∧ (l == [98, 101, 108, 111, 119]) = false ∧ (l == [99, 101, 108, 108]) = false ∧ (l == [99, 104, 97, 110, 110, 101, 108]) = false ∧ (l == [98, 101, 103, 105, 110]) = false ∧ (l == [101, 108, 115, 101]) = false ∧ (l == [101, 110, 100]) = false ∧ (l == [105, 102]) = false ∧ (l == [119, 104, 105, 108, 101]) = false ∧ (l == [111, 117, 116]) = false ∧ (l == [115, 101, 116]) = false
def IsBelow (l : List UInt8) : Prop := (l == [108, 101, 118, 101, 108]) = false ∧ (l == [98, 101, 108, 111, 119]) = true ∧ (l == [99, 101, 108, 108]) = false ∧ (l == [99, 104, 97, 110, 110, 101, 108]) = false ∧ (l == [98, 101, 103, 105, 110]) = false ∧ (l == [101, 108, 115, 101]) = false ∧ (l == [101, 110, 100]) = false ∧ (l == [105, 102]) = false ∧ (l == [119, 104, 105, 108, 101]) = false ∧ (l == [111, 117, 116]) = false ∧ (l == [115, 101, 116]) = false
def IsCell (l : List UInt8) : Prop := (l == [108, 101, 118, 101, 108]) = false ∧ (l == [98, 101, 108, 111, 119]) = false ∧ (l == [99, 101, 108, 108]) = true ∧ (l == [99, 104, 97, 110, 110, 101, 108]) = false ∧ (l == [98, 101, 103, 105, 110]) = false ∧ (l == [101, 108, 115, 101]) = false ∧ (l == [101, 110, 100]) = false ∧ (l == [105, 102]) = false ∧ (l == [119, 104, 105, 108, 101]) = false ∧ (l == [111, 117, 116]) = false ∧ (l == [115, 101, 116]) = false
def IsChannel (l : List UInt8) : Prop := (l == [108, 101, 118, 101, 108]) = false ∧ (l == [98, 101, 108, 111, 119]) = false ∧ (l == [99, 101, 108, 108]) = false ∧ (l == [99, 104, 97, 110, 110, 101, 108]) = true ∧ (l == [98, 101, 103, 105, 110]) = false ∧ (l == [101, 108, 115, 101]) = false ∧ (l == [101, 110, 100]) = false ∧ (l == [105, 102]) = false ∧ (l == [119, 104, 105, 108, 101]) = false ∧ (l == [111, 117, 116]) = false ∧ (l == [115, 101, 116]) = false
def IsBegin (l : List UInt8) : Prop := (l == [108, 101, 118, 101, 108]) = false ∧ (l == [98, 101, 108, 111, 119]) = false ∧ (l == [99, 101, 108, 108]) = false ∧ (l == [99, 104, 97, 110, 110, 101, 108]) = false ∧ (l == [98, 101, 103, 105, 110]) = true ∧ (l == [101, 108, 115, 101]) = false ∧ (l == [101, 110, 100]) = false ∧ (l == [105, 102]) = false ∧ (l == [119, 104, 105, 108, 101]) = false ∧ (l == [111, 117, 116]) = false ∧ (l == [115, 101, 116]) = false
def IsElse (l : List UInt8) : Prop := (l == [108, 101, 118, 101, 108]) = false ∧ (l == [98, 101, 108, 111, 119]) = false ∧ (l == [99, 101, 108, 108]) = false ∧ (l == [99, 104, 97, 110, 110, 101, 108]) = false ∧ (l == [98, 101, 103, 105, 110]) = false ∧ (l == [101, 108, 115, 101]) = true ∧ (l == [101, 110, 100]) = false ∧ (l == [105, 102]) = false ∧ (l == [119, 104, 105, 108, 101]) = false ∧ (l == [111, 117, 116]) = false ∧ (l == [115, 101, 116]) = false
def IsEnd (l : List UInt8) : Prop := (l == [108, 101, 118, 101, 108]) = false ∧ (l == [98, 101, 108, 111, 119]) = false ∧ (l == [99, 101, 108, 108]) = false ∧ (l == [99, 104, 97, 110, 110, 101, 108]) = false ∧ (l == [98, 101, 103, 105, 110]) = false ∧ (l == [101, 108, 115, 101]) = false ∧ (l == [101, 110, 100]) = true ∧ (l == [105, 102]) = false ∧ (l == [119, 104, 105, 108, 101]) = false ∧ (l == [111, 117, 116]) = false ∧ (l == [115, 101, 116]) = false
def IsIf (l : List UInt8) : Prop := (l == [108, 101, 118, 101, 108]) = false ∧ (l == [98, 101, 108, 111, 119]) = false ∧ (l == [99, 101, 108, 108]) = false ∧ (l == [99, 104, 97, 110, 110, 101, 108]) = false ∧ (l == [98, 101, 103, 105, 110]) = false ∧ (l == [101, 108, 115, 101]) = false ∧ (l == [101, 110, 100]) = false ∧ (l == [105, 102]) = true ∧ (l == [119, 104, 105, 108, 101]) = false ∧ (l == [111, 117, 116]) = false ∧ (l == [115, 101, 116]) = false
def IsWhile (l : List UInt8) : Prop := (l == [108, 101, 118, 101, 108]) = false ∧ (l == [98, 101, 108, 111, 119]) = false ∧ (l == [99, 101, 108, 108]) = false ∧ (l == [99, 104, 97, 110, 110, 101, 108]) = false ∧ (l == [98, 101, 103, 105, 110]) = false ∧ (l == [101, 108, 115, 101]) = false ∧ (l == [101, 110, 100]) = false ∧ (l == [105, 102]) = false ∧ (l == [119, 104, 105, 108, 101]) = true ∧ (l == [111, 117, 116]) = false ∧ (l == [115, 101, 116]) = false
def IsOut (l : List UInt8) : Prop := (l == [108, 101, 118, 101, 108]) = false ∧ (l == [98, 101, 108, 111, 119]) = false ∧ (l == [99, 101, 108, 108]) = false ∧ (l == [99, 104, 97, 110, 110, 101, 108]) = false ∧ (l == [98, 101, 103, 105, 110]) = false ∧ (l == [101, 108, 115, 101]) = false ∧ (l == [101, 110, 100]) = false ∧ (l == [105, 102]) = false ∧ (l == [119, 104, 105, 108, 101]) = false ∧ (l == [111, 117, 116]) = true ∧ (l == [115, 101, 116]) = false
def IsSet (l : List UInt8) : Prop := (l == [108, 101, 118, 101, 108]) = false ∧ (l == [98, 101, 108, 111, 119]) = false ∧ (l == [99, 101, 108, 108]) = false ∧ (l == [99, 104, 97, 110, 110, 101, 108]) = false ∧ (l == [98, 101, 103, 105, 110]) = false ∧ (l == [101, 108, 115, 101]) = false ∧ (l == [101, 110, 100]) = false ∧ (l == [105, 102]) = false ∧ (l == [119, 104, 105, 108, 101]) = false ∧ (l == [111, 117, 116]) = false ∧ (l == [115, 101, 116]) = true
def IsNone (l : List UInt8) : Prop := (l == [108, 101, 118, 101, 108]) = false ∧ (l == [98, 101, 108, 111, 119]) = false ∧ (l == [99, 101, 108, 108]) = false ∧ (l == [99, 104, 97, 110, 110, 101, 108]) = false ∧ (l == [98, 101, 103, 105, 110]) = false ∧ (l == [101, 108, 115, 101]) = false ∧ (l == [101, 110, 100]) = false ∧ (l == [105, 102]) = false ∧ (l == [119, 104, 105, 108, 101]) = false ∧ (l == [111, 117, 116]) = false ∧ (l == [115, 101, 116]) = false
theorem word_cases (l : List UInt8) : IsLevel l ∨ IsBelow l ∨ IsCell l ∨ IsChannel l ∨ IsBegin l ∨ IsElse l ∨ IsEnd l ∨ IsIf l ∨ IsWhile l ∨ IsOut l ∨ IsSet l ∨ IsNone l := by
  by_cases hLevel : l = [108, 101, 118, 101, 108]
  · subst hLevel; exact Or.inl (by unfold IsLevel; decide)
  by_cases hBelow : l = [98, 101, 108, 111, 119]
  · subst hBelow; exact Or.inr (Or.inl (by unfold IsBelow; decide))
  by_cases hCell : l = [99, 101, 108, 108]
  · subst hCell; exact Or.inr (Or.inr (Or.inl (by unfold IsCell; decide)))
  by_cases hChannel : l = [99, 104, 97, 110, 110, 101, 108]
  · subst hChannel; exact Or.inr (Or.inr (Or.inr (Or.inl (by unfold IsChannel; decide))))
  by_cases hBegin : l = [98, 101, 103, 105, 110]
  · subst hBegin; exact Or.inr (Or.inr (Or.inr (Or.inr (Or.inl (by unfold IsBegin; decide)))))
  by_cases hElse : l = [101, 108, 115, 101]
  · subst hElse; exact Or.inr (Or.inr (Or.inr (Or.inr (Or.inr (Or.inl (by unfold IsElse; decide))))))
  by_cases hEnd : l = [101, 110, 100]
  · subst hEnd; exact Or.inr (Or.inr (Or.inr (Or.inr (Or.inr (Or.inr (Or.inl (by unfold IsEnd; decide)))))))
  by_cases hIf : l = [105, 102]
  · subst hIf; exact Or.inr (Or.inr (Or.inr (Or.inr (Or.inr (Or.inr (Or.inr (Or.inl (by unfold IsIf; decide))))))))
  by_cases hWhile : l = [119, 104, 105, 108, 101]
  · subst hWhile; exact Or.inr (Or.inr (Or.inr (Or.inr (Or.inr (Or.inr (Or.inr (Or.inr (Or.inl (by unfold IsWhile; decide)))))))))
  by_cases hOut : l = [111, 117, 116]
  · subst hOut; exact Or.inr (Or.inr (Or.inr (Or.inr (Or.inr (Or.inr (Or.inr (Or.inr (Or.inr (Or.inl (by unfold IsOut; decide))))))))))
  by_cases hSet : l = [115, 101, 116]
  · subst hSet; exact Or.inr (Or.inr (Or.inr (Or.inr (Or.inr (Or.inr (Or.inr (Or.inr (Or.inr (Or.inr (Or.inl (by unfold IsSet; decide)))))))))))
  exact Or.inr (Or.inr (Or.inr (Or.inr (Or.inr (Or.inr (Or.inr (Or.inr (Or.inr (Or.inr (Or.inr (by unfold IsNone; simp [hLevel, hBelow, hCell, hChannel, hBegin, hElse, hEnd, hIf, hWhile, hOut, hSet])))))))))))
end Fl
end Go.Proofs.YthfacjlghcdndaaGreatDoor

set_option linter.unusedSimpArgs false
set_option linter.unusedVariables false
namespace Go.Proofs.YthfacjlghcdndaaGreatDoor
open Go.RowKit

set_option maxHeartbeats 4000000 in
theorem line_1 (b off cap : Nat) (x0 : ByteArray) (w : World) (h0 : x0.size ≤ maxLen) (c0 : w.cell? ⟨b, off, none⟩ = some (.string x0)) :
    Calls Tryz.prog 12 #[.slice (some ⟨b, off, none⟩) 1 cap] w fun e w' => e = .returned (.bool (Fl.line [x0.toList])) ∧ w' = w := by
  rcases Fl.word_cases x0.toList with h | h | h | h | h | h | h | h | h | h | h | h
  all_goals obtain ⟨k1, k2, k3, k4, k5, k6, k7, k8, k9, k10, k11⟩ := h
  all_goals
    go_enter Tryz.func12, Tryz.ntmps12
    go_wp2
    all_goals (go_ret; exact ⟨ret_bool (by simp_all [Fl.line, Fl.wLevel, Fl.wBelow, Fl.wCell, Fl.wChannel, Fl.wBegin, Fl.wElse, Fl.wEnd, Fl.wIf, Fl.wWhile, Fl.wOut, Fl.wSet]), rfl⟩)
set_option maxHeartbeats 4000000 in
theorem line_2 (b off cap : Nat) (x0 x1 : ByteArray) (w : World) (h0 : x0.size ≤ maxLen) (c0 : w.cell? ⟨b, off, none⟩ = some (.string x0)) (h1 : x1.size ≤ maxLen) (c1 : w.cell? ⟨b, off + 1, none⟩ = some (.string x1)) :
    Calls Tryz.prog 12 #[.slice (some ⟨b, off, none⟩) 2 cap] w fun e w' => e = .returned (.bool (Fl.line [x0.toList, x1.toList])) ∧ w' = w := by
  rcases Fl.word_cases x0.toList with h | h | h | h | h | h | h | h | h | h | h | h
  all_goals obtain ⟨k1, k2, k3, k4, k5, k6, k7, k8, k9, k10, k11⟩ := h
  all_goals
    go_enter Tryz.func12, Tryz.ntmps12
    go_wp2_with (first | (go_at_call_of 19 (Value.string x1); refine (named_l x1 _ h1).mono ?_; rintro e w' ⟨rfl, rfl⟩) | (go_at_call 20; refine (atom_any x1 _ h1).mono ?_; rintro e w' ⟨rfl, rfl⟩))
    all_goals (go_ret; exact ⟨ret_bool (by simp_all [Fl.line, Fl.wLevel, Fl.wBelow, Fl.wCell, Fl.wChannel, Fl.wBegin, Fl.wElse, Fl.wEnd, Fl.wIf, Fl.wWhile, Fl.wOut, Fl.wSet]), rfl⟩)
set_option maxHeartbeats 4000000 in
theorem line_3 (b off cap : Nat) (x0 x1 x2 : ByteArray) (w : World) (h0 : x0.size ≤ maxLen) (c0 : w.cell? ⟨b, off, none⟩ = some (.string x0)) (h1 : x1.size ≤ maxLen) (c1 : w.cell? ⟨b, off + 1, none⟩ = some (.string x1)) (h2 : x2.size ≤ maxLen) (c2 : w.cell? ⟨b, off + 2, none⟩ = some (.string x2)) :
    Calls Tryz.prog 12 #[.slice (some ⟨b, off, none⟩) 3 cap] w fun e w' => e = .returned (.bool (Fl.line [x0.toList, x1.toList, x2.toList])) ∧ w' = w := by
  rcases Fl.word_cases x0.toList with h | h | h | h | h | h | h | h | h | h | h | h
  all_goals obtain ⟨k1, k2, k3, k4, k5, k6, k7, k8, k9, k10, k11⟩ := h
  all_goals
    go_enter Tryz.func12, Tryz.ntmps12
    go_wp2_with (first | (go_at_call_of 19 (Value.string x1); refine (named_l x1 _ h1).mono ?_; rintro e w' ⟨rfl, rfl⟩) | (go_at_call_of 19 (Value.string x2); refine (named_l x2 _ h2).mono ?_; rintro e w' ⟨rfl, rfl⟩) | (go_at_call 20; refine (atom_any x2 _ h2).mono ?_; rintro e w' ⟨rfl, rfl⟩))
    all_goals (go_ret; exact ⟨ret_bool (by simp_all [Fl.line, Fl.wLevel, Fl.wBelow, Fl.wCell, Fl.wChannel, Fl.wBegin, Fl.wElse, Fl.wEnd, Fl.wIf, Fl.wWhile, Fl.wOut, Fl.wSet]), rfl⟩)
set_option maxHeartbeats 4000000 in
theorem line_4 (b off cap : Nat) (x0 x1 x2 x3 : ByteArray) (w : World) (h0 : x0.size ≤ maxLen) (c0 : w.cell? ⟨b, off, none⟩ = some (.string x0)) (h1 : x1.size ≤ maxLen) (c1 : w.cell? ⟨b, off + 1, none⟩ = some (.string x1)) (h2 : x2.size ≤ maxLen) (c2 : w.cell? ⟨b, off + 2, none⟩ = some (.string x2)) (h3 : x3.size ≤ maxLen) (c3 : w.cell? ⟨b, off + 3, none⟩ = some (.string x3)) :
    Calls Tryz.prog 12 #[.slice (some ⟨b, off, none⟩) 4 cap] w fun e w' => e = .returned (.bool (Fl.line [x0.toList, x1.toList, x2.toList, x3.toList])) ∧ w' = w := by
  rcases Fl.word_cases x0.toList with h | h | h | h | h | h | h | h | h | h | h | h
  all_goals obtain ⟨k1, k2, k3, k4, k5, k6, k7, k8, k9, k10, k11⟩ := h
  all_goals
    go_enter Tryz.func12, Tryz.ntmps12
    go_wp2_with (first | (go_at_call_of 19 (Value.string x1); refine (named_l x1 _ h1).mono ?_; rintro e w' ⟨rfl, rfl⟩) | (go_at_call_of 19 (Value.string x2); refine (named_l x2 _ h2).mono ?_; rintro e w' ⟨rfl, rfl⟩) | (go_at_call 20; refine (atom_any x2 _ h2).mono ?_; rintro e w' ⟨rfl, rfl⟩))
    all_goals (go_ret; exact ⟨ret_bool (by simp_all [Fl.line, Fl.wLevel, Fl.wBelow, Fl.wCell, Fl.wChannel, Fl.wBegin, Fl.wElse, Fl.wEnd, Fl.wIf, Fl.wWhile, Fl.wOut, Fl.wSet]), rfl⟩)
end Go.Proofs.YthfacjlghcdndaaGreatDoor

namespace Go.Proofs.YthfacjlghcdndaaGreatDoor
open Go.RowKit

def signList : List ByteArray := [⟨#[43]⟩, ⟨#[45]⟩, ⟨#[42]⟩, ⟨#[60]⟩, ⟨#[61, 61]⟩]
theorem bl_signs : bl signList = Fl.signs := by
  simp [bl, signList, Fl.signs, ByteArray.toList_eq]
theorem signs_at (w : World) : StrsAt (w.alloc (.cells #[.string ⟨#[43]⟩, .string ⟨#[45]⟩, .string ⟨#[42]⟩, .string ⟨#[60]⟩, .string ⟨#[61, 61]⟩] 9)) (.slice (some ⟨w.heap.size, 0, none⟩) 5 5) signList := by
  refine ⟨_, _, rfl, by decide, ?_, fun _ => ⟨_, _, rfl, ?_⟩⟩
  · intro s hs; simp [signList] at hs; rcases hs with rfl | rfl | rfl | rfl | rfl <;> decide
  · intro i hi
    have : i < 5 := hi
    match i, this with
    | 0, _ => simp [signList]
    | 1, _ => simp [signList]
    | 2, _ => simp [signList]
    | 3, _ => simp [signList]
    | 4, _ => simp [signList]

set_option maxHeartbeats 4000000 in
theorem line_5 (b off cap : Nat) (x0 x1 x2 x3 x4 : ByteArray) (w : World) (h1 : x1.size ≤ maxLen) (h2 : x2.size ≤ maxLen) (h4 : x4.size ≤ maxLen)
    (c0 : w.cell? ⟨b, off, none⟩ = some (.string x0)) (c1 : w.cell? ⟨b, off + 1, none⟩ = some (.string x1)) (c2 : w.cell? ⟨b, off + 2, none⟩ = some (.string x2))
    (c3 : ∀ o, (w.alloc o).cell? ⟨b, off + 3, none⟩ = some (.string x3)) (c4 : ∀ o, (w.alloc o).cell? ⟨b, off + 4, none⟩ = some (.string x4)) :
    Calls Tryz.prog 12 #[.slice (some ⟨b, off, none⟩) 5 cap] w fun e w' => e = .returned (.bool (Fl.line [x0.toList, x1.toList, x2.toList, x3.toList, x4.toList])) ∧ Below w.heap.size w w' := by
  rcases Fl.word_cases x0.toList with h | h | h | h | h | h | h | h | h | h | h | h
  all_goals obtain ⟨k1, k2, k3, k4, k5, k6, k7, k8, k9, k10, k11⟩ := h
  case inr.inr.inr.inr.inr.inr.inr.inr.inr.inr.inl =>
    go_enter Tryz.func12, Tryz.ntmps12
    go_wp2_with (first | (go_at_call_of 19 (Value.string x1); refine (named_l x1 _ h1).mono ?_; rintro e w' ⟨rfl, rfl⟩) | (go_at_call_of 19 (Value.string x2); refine (named_l x2 _ h2).mono ?_; rintro e w' ⟨rfl, rfl⟩) | (go_at_call_of 20 (Value.string x2); refine (atom_any x2 _ h2).mono ?_; rintro e w' ⟨rfl, rfl⟩) | (go_at_call_of 20 (Value.string x4); refine (atom_any x4 _ h4).mono ?_; rintro e w' ⟨rfl, rfl⟩) | (go_at_call 21; refine (signs_any _).mono ?_; rintro e w' ⟨rfl, rfl⟩) | (go_at_call 22; refine (place_any _ signList x3 _ (signs_at _)).mono ?_; rintro e w' ⟨rfl, rfl⟩))
    all_goals (go_ret; exact ⟨ret_bool (by simp_all [Fl.line, bl_signs, Fl.wLevel, Fl.wBelow, Fl.wCell, Fl.wChannel, Fl.wBegin, Fl.wElse, Fl.wEnd, Fl.wIf, Fl.wWhile, Fl.wOut, Fl.wSet] <;> omega), (Below.refl _ _).alloc (Nat.le_refl _) _⟩)
  all_goals
    go_enter Tryz.func12, Tryz.ntmps12
    go_wp2_with (first | (go_at_call_of 19 (Value.string x1); refine (named_l x1 _ h1).mono ?_; rintro e w' ⟨rfl, rfl⟩) | (go_at_call_of 19 (Value.string x2); refine (named_l x2 _ h2).mono ?_; rintro e w' ⟨rfl, rfl⟩) | (go_at_call_of 20 (Value.string x2); refine (atom_any x2 _ h2).mono ?_; rintro e w' ⟨rfl, rfl⟩))
    all_goals (go_ret; exact ⟨ret_bool (by simp_all [Fl.line, Fl.wLevel, Fl.wBelow, Fl.wCell, Fl.wChannel, Fl.wBegin, Fl.wElse, Fl.wEnd, Fl.wIf, Fl.wWhile, Fl.wOut, Fl.wSet]), Below.refl _ _⟩)

set_option maxHeartbeats 4000000 in
theorem line_6 (b off n cap : Nat) (x0 x1 x2 : ByteArray) (w : World) (hn : 6 ≤ n) (hm : n ≤ maxLen) (h1 : x1.size ≤ maxLen) (h2 : x2.size ≤ maxLen)
    (c0 : w.cell? ⟨b, off, none⟩ = some (.string x0)) (c1 : w.cell? ⟨b, off + 1, none⟩ = some (.string x1)) (c2 : w.cell? ⟨b, off + 2, none⟩ = some (.string x2)) :
    Calls Tryz.prog 12 #[.slice (some ⟨b, off, none⟩) n cap] w fun e w' => e = .returned (.bool false) ∧ w' = w := by
  unfold maxLen at hm
  have n1 : ((n : Int) == 1) = false := beq_eq_false_iff_ne.2 (by omega)
  have n2 : ((n : Int) == 2) = false := beq_eq_false_iff_ne.2 (by omega)
  have n3 : ((n : Int) == 3) = false := beq_eq_false_iff_ne.2 (by omega)
  have n5 : ((n : Int) != 5) = true := by rw [bne_iff_ne]; omega
  rcases Fl.word_cases x0.toList with h | h | h | h | h | h | h | h | h | h | h | h
  all_goals obtain ⟨k1, k2, k3, k4, k5, k6, k7, k8, k9, k10, k11⟩ := h
  all_goals
    go_enter Tryz.func12, Tryz.ntmps12
    go_wp2_with (first | (go_at_call_of 19 (Value.string x1); refine (named_l x1 _ h1).mono ?_; rintro e w' ⟨rfl, rfl⟩) | (go_at_call_of 19 (Value.string x2); refine (named_l x2 _ h2).mono ?_; rintro e w' ⟨rfl, rfl⟩) | (go_at_call_of 20 (Value.string x2); refine (atom_any x2 _ h2).mono ?_; rintro e w' ⟨rfl, rfl⟩))
    all_goals (go_ret; exact ⟨rfl, rfl⟩)

theorem block_lt {w : World} {a : Addr} {v : Value} (h : w.cell? a = some v) : a.block < w.heap.size := World.block_lt_of_cell? w a h

theorem line_any (v : Value) (ss : List ByteArray) (w : World) (hv : StrsAt w v ss) (hne : ss ≠ []) : Calls Tryz.prog 12 #[v] w fun e w' => e = .returned (.bool (Fl.line (bl ss))) ∧ Below w.heap.size w w' := by
  obtain ⟨ao, cap, rfl, hl, hsz, hc⟩ := hv
  obtain ⟨b, off, rfl, hcell⟩ := hc hne
  match ss, hne with
  | [x0], _ =>
    refine (line_1 b off cap x0 w (hsz x0 (by simp)) (by simpa using hcell 0 (by simp))).mono ?_
    rintro e w' ⟨rfl, rfl⟩; exact ⟨rfl, Below.refl _ _⟩
  | [x0, x1], _ =>
    refine (line_2 b off cap x0 x1 w (hsz x0 (by simp)) (by simpa using hcell 0 (by simp)) (hsz x1 (by simp)) (by simpa using hcell 1 (by simp))).mono ?_
    rintro e w' ⟨rfl, rfl⟩; exact ⟨rfl, Below.refl _ _⟩
  | [x0, x1, x2], _ =>
    refine (line_3 b off cap x0 x1 x2 w (hsz x0 (by simp)) (by simpa using hcell 0 (by simp)) (hsz x1 (by simp)) (by simpa using hcell 1 (by simp)) (hsz x2 (by simp)) (by simpa using hcell 2 (by simp))).mono ?_
    rintro e w' ⟨rfl, rfl⟩; exact ⟨rfl, Below.refl _ _⟩
  | [x0, x1, x2, x3], _ =>
    refine (line_4 b off cap x0 x1 x2 x3 w (hsz x0 (by simp)) (by simpa using hcell 0 (by simp)) (hsz x1 (by simp)) (by simpa using hcell 1 (by simp)) (hsz x2 (by simp)) (by simpa using hcell 2 (by simp)) (hsz x3 (by simp)) (by simpa using hcell 3 (by simp))).mono ?_
    rintro e w' ⟨rfl, rfl⟩; exact ⟨rfl, Below.refl _ _⟩
  | [x0, x1, x2, x3, x4], _ =>
    have d3 : w.cell? ⟨b, off + 3, none⟩ = some (.string x3) := by simpa using hcell 3 (by simp)
    have d4 : w.cell? ⟨b, off + 4, none⟩ = some (.string x4) := by simpa using hcell 4 (by simp)
    exact line_5 b off cap x0 x1 x2 x3 x4 w (hsz x1 (by simp)) (hsz x2 (by simp)) (hsz x4 (by simp)) (by simpa using hcell 0 (by simp)) (by simpa using hcell 1 (by simp)) (by simpa using hcell 2 (by simp))
      (fun o => by rw [World.cell?_alloc_lt w o _ (block_lt d3)]; exact d3) (fun o => by rw [World.cell?_alloc_lt w o _ (block_lt d4)]; exact d4)
  | x0 :: x1 :: x2 :: x3 :: x4 :: x5 :: r, _ =>
    refine (line_6 b off _ cap x0 x1 x2 w (by simp) hl (hsz x1 (by simp)) (hsz x2 (by simp)) (by simpa using hcell 0 (by simp)) (by simpa using hcell 1 (by simp)) (by simpa using hcell 2 (by simp))).mono ?_
    rintro e w' ⟨rfl, rfl⟩; exact ⟨by simp [bl, Fl.line], Below.refl _ _⟩
end Go.Proofs.YthfacjlghcdndaaGreatDoor

namespace Go.Proofs.YthfacjlghcdndaaGreatDoor
open Go.RowKit
def isRow (j : Nat) : Prop := 1 ≤ j ∧ j ≤ 13 ∧ j ≠ 7 ∧ j ≠ 9 ∧ j ≠ 11
def rTy (j : Nat) : TypeId := if j ≤ 4 then 9 else if j = 8 then 5 else if j = 10 then 87 else 3
def rSz (j : Nat) : Nat := if j = 10 then 10 else 1
structure RMem where
  n : Nat → Nat
  xs : Nat → List Value
  v : Nat → Value
  begun : Bool
  stmts : Nat
  N : Nat
  leq : Value
  loc : Nat
  body : Value
def rrC (Pb : Nat) (m : RMem) (j : Nat) : Value := if j = 0 then ptr Pb else if j = 7 then .bool m.begun else if j = 9 then .int .i64 m.stmts else m.v j
def rpC (m : RMem) (j : Nat) : Value := if j = 0 then .int .i64 m.N else if j = 1 then m.leq else if j = 4 then .int .i64 m.loc else if j = 5 then m.body else m.v (10 + j)
structure RefAt (lo base Rb Pb : Nat) (w0 w : World) (m : RMem) : Prop where
  bel : Below lo w0 w
  hba : lo ≤ Rb ∧ lo ≤ Pb ∧ Rb < base ∧ Pb < base ∧ Rb ≠ Pb ∧ base ≤ w.heap.size ∧ lo ≤ base
  cR : Cells w Rb 11 (rrC Pb m)
  cP : Cells w Pb 6 (rpC m)
  own : ∀ j, isRow j → w.ownsRow base (rTy j) (rSz j) (m.v j) (m.n j) (m.xs j)
  dis : ∀ i j b, isRow i → isRow j → i ≠ j → (m.v i).ownBlock = some b → (m.v j).ownBlock ≠ some b
def RMem.app (m : RMem) (j : Nat) (v : Value) (news : List Value) : RMem := { m with n := fun i => if i = j then m.n j + 1 else m.n i, xs := fun i => if i = j then m.xs j ++ news else m.xs i, v := fun i => if i = j then v else m.v i }
section
variable {lo base Rb Pb : Nat} {w0 w w' : World} {m : RMem}
theorem RefAt.below (h : RefAt lo base Rb Pb w0 w m) (hb : Below w.heap.size w w') : RefAt lo base Rb Pb w0 w' m := by
  obtain ⟨b1, b2, b3, b4, b5, b6, b7⟩ := h.hba
  have hz := hb.size
  have q : ∀ b, b < w.heap.size → w'.heap[b]? = w.heap[b]? := fun b hlt => hb.block b hlt
  exact { bel := h.bel.trans (hb.mono (by omega)), hba := ⟨b1, b2, b3, b4, b5, by omega, b7⟩, cR := h.cR.block (q _ (by omega)), cP := h.cP.block (q _ (by omega)), own := fun j hj => own_same (h.own j hj) (fun b hb => q b ((h.own j hj).lt b hb).2), dis := h.dis }
theorem RefAt.drew (h : RefAt lo base Rb Pb w0 w m) : RefAt lo base Rb Pb w0 w.drew m := h.below (Below.refl _ _).drew
theorem RefAt.shape (h : RefAt lo base Rb Pb w0 w m) (j : Nat) (hj : isRow j) : ∃ a c, m.v j = .slice a (m.n j) c := by
  rcases (h.own j hj).2 with ⟨h1, h2⟩ | ⟨g, cp, cur, h1, _⟩
  · exact ⟨none, 0, by rw [h1, h2]⟩
  · exact ⟨_, cp, h1⟩
theorem RefAt.grow (h : RefAt lo base Rb Pb w0 w m) (j : Nat) (hj : isRow j) {W3 W4 : World} {v' : Value} {news : List Value} (hb3 : Below w.heap.size w W3) (ho4 : W4.ownsRow base (rTy j) (rSz j) v' (m.n j + 1) (m.xs j ++ news)) (hg4 : W3.grownBy W4 (m.v j).ownBlock) (hwh : v'.ownBlock = (m.v j).ownBlock ∨ v'.ownBlock = some W3.heap.size) :
    Below lo w0 W4 ∧ base ≤ W4.heap.size ∧ (∀ b, b < base → W4.heap[b]? = W3.heap[b]?) ∧ (∀ i, isRow i → W4.ownsRow base (rTy i) (rSz i) ((m.app j v' news).v i) ((m.app j v' news).n i) ((m.app j v' news).xs i)) ∧
    (∀ i k b, isRow i → isRow k → i ≠ k → ((m.app j v' news).v i).ownBlock = some b → ((m.app j v' news).v k).ownBlock ≠ some b) := by
  have hw3 := h.below hb3
  obtain ⟨b1, b2, b3, b4, b5, b6, b7⟩ := hw3.hba
  have hlt := fun i hi => (h.own i hi).lt
  have hz4 := hg4.size
  have hz3 := hb3.size
  refine ⟨hw3.bel.grown hg4 (by omega) (fun k hk => by have := (hlt j hj k hk).1; omega), by omega, fun b hb => hg4.block b (by omega) (fun hh => by have := (hlt j hj b hh.symm).1; omega), fun i hi => ?_, fun i k b hi hk hne hbi hbk => ?_⟩
  · show W4.ownsRow base (rTy i) (rSz i) (if i = j then v' else m.v i) (if i = j then m.n j + 1 else m.n i) (if i = j then m.xs j ++ news else m.xs i)
    by_cases hij : i = j
    · subst hij; simp only [if_true]; exact ho4
    · simp only [hij, if_false]
      refine own_same (hw3.own i hi) (fun b hb => hg4.block b ((hw3.own i hi).lt b hb).2 (fun hh => h.dis i j b hi hj hij hb hh.symm))
  · have hv : ∀ t, (m.app j v' news).v t = if t = j then v' else m.v t := fun _ => rfl
    rw [hv] at hbi hbk
    by_cases hij : i = j
    · have hkj : k ≠ j := fun hh => hne (hij.trans hh.symm)
      rw [if_pos hij] at hbi
      rw [if_neg hkj] at hbk
      rcases hwh with h1 | h1
      · rw [h1] at hbi; exact h.dis j k b hj hk (Ne.symm hkj) hbi hbk
      · rw [h1] at hbi; simp only [Option.some.injEq] at hbi
        have := (hlt k hk b hbk).2; omega
    · rw [if_neg hij] at hbi
      by_cases hkj : k = j
      · rw [if_pos hkj] at hbk
        rcases hwh with h1 | h1
        · rw [h1] at hbk; exact h.dis i j b hi hj hij hbi hbk
        · rw [h1] at hbk; simp only [Option.some.injEq] at hbk
          have := (hlt i hi b hbi).2; omega
      · rw [if_neg hkj] at hbk; exact h.dis i k b hi hk hne hbi hbk
theorem RefAt.appR (h : RefAt lo base Rb Pb w0 w m) (j : Nat) (hj : isRow j) (hj10 : j ≤ 10) {W3 W4 : World} {v' : Value} {news : List Value} (hb3 : Below w.heap.size w W3) (ho4 : W4.ownsRow base (rTy j) (rSz j) v' (m.n j + 1) (m.xs j ++ news)) (hg4 : W3.grownBy W4 (m.v j).ownBlock) (hwh : v'.ownBlock = (m.v j).ownBlock ∨ v'.ownBlock = some W3.heap.size) :
    RefAt lo base Rb Pb w0 (W4.setCell ⟨Rb, j, none⟩ v') (m.app j v' news) := by
  have hw3 := h.below hb3
  obtain ⟨b1, b2, b3, b4, b5, b6, b7⟩ := hw3.hba
  obtain ⟨g1, g2, g3, g4, g5⟩ := h.grow j hj hb3 ho4 hg4 hwh
  refine { bel := g1.setCell (by show lo ≤ Rb; omega) _, hba := ⟨b1, b2, b3, b4, b5, by rw [setCell_size]; omega, b7⟩, cR := ?_, cP := ?_, own := fun i hi => own_same (g4 i hi) (fun b hb => setCell_block _ _ _ _ _ (by have := ((g4 i hi).lt b hb).1; omega)), dis := g5 }
  · refine ((hw3.cR.block (g3 _ b3)).set (j := j) (by have := hj.2.1; omega) v').congr (fun i hi => ?_)
    obtain ⟨h1, h2, h3, h4, h5⟩ := hj
    by_cases hij : i = j
    · subst hij
      rw [if_pos rfl]
      show v' = rrC Pb (m.app i v' news) i
      unfold rrC
      rw [if_neg (by omega), if_neg (by omega), if_neg (by omega)]
      show v' = if i = i then v' else m.v i
      rw [if_pos rfl]
    · rw [if_neg hij]
      show rrC Pb m i = rrC Pb (m.app j v' news) i
      unfold rrC
      by_cases i0 : i = 0
      · rw [if_pos i0, if_pos i0]
      · by_cases i7 : i = 7
        · rw [if_neg i0, if_neg i0, if_pos i7, if_pos i7]; rfl
        · by_cases i9 : i = 9
          · rw [if_neg i0, if_neg i0, if_neg i7, if_neg i7, if_pos i9, if_pos i9]; rfl
          · rw [if_neg i0, if_neg i0, if_neg i7, if_neg i7, if_neg i9, if_neg i9]
            show m.v i = if i = j then v' else m.v i
            rw [if_neg hij]
  · refine ((hw3.cP.block (g3 _ b4)).block (setCell_block _ _ _ _ _ (Ne.symm b5))).congr (fun i hi => ?_)
    show rpC m i = rpC (m.app j v' news) i
    unfold rpC
    show (if i = 0 then _ else if i = 1 then m.leq else if i = 4 then _ else if i = 5 then m.body else m.v (10 + i)) = (if i = 0 then _ else if i = 1 then m.leq else if i = 4 then _ else if i = 5 then m.body else (if 10 + i = j then v' else m.v (10 + i)))
    by_cases i0 : i = 0
    · rw [if_pos i0, if_pos i0]; rfl
    · rw [if_neg (show ¬ 10 + i = j by omega)]; rfl
theorem RefAt.appP (h : RefAt lo base Rb Pb w0 w m) (j : Nat) (hj : isRow j) (hj10 : j = 12 ∨ j = 13) {W3 W4 : World} {v' : Value} {news : List Value} (hb3 : Below w.heap.size w W3) (ho4 : W4.ownsRow base (rTy j) (rSz j) v' (m.n j + 1) (m.xs j ++ news)) (hg4 : W3.grownBy W4 (m.v j).ownBlock) (hwh : v'.ownBlock = (m.v j).ownBlock ∨ v'.ownBlock = some W3.heap.size) :
    RefAt lo base Rb Pb w0 (W4.setCell ⟨Pb, j - 10, none⟩ v') (m.app j v' news) := by
  have hw3 := h.below hb3
  obtain ⟨b1, b2, b3, b4, b5, b6, b7⟩ := hw3.hba
  obtain ⟨g1, g2, g3, g4, g5⟩ := h.grow j hj hb3 ho4 hg4 hwh
  refine { bel := g1.setCell (by show lo ≤ Pb; omega) _, hba := ⟨b1, b2, b3, b4, b5, by rw [setCell_size]; omega, b7⟩, cR := ?_, cP := ?_, own := fun i hi => own_same (g4 i hi) (fun b hb => setCell_block _ _ _ _ _ (by have := ((g4 i hi).lt b hb).1; omega)), dis := g5 }
  · refine ((hw3.cR.block (g3 _ b3)).block (setCell_block _ _ _ _ _ b5)).congr (fun i hi => ?_)
    show rrC Pb m i = rrC Pb (m.app j v' news) i
    unfold rrC
    show (if i = 0 then ptr Pb else if i = 7 then .bool m.begun else if i = 9 then .int .i64 m.stmts else m.v i) = (if i = 0 then ptr Pb else if i = 7 then .bool m.begun else if i = 9 then .int .i64 m.stmts else (if i = j then v' else m.v i))
    rw [if_neg (show ¬ i = j by omega)]
  · refine ((hw3.cP.block (g3 _ b4)).set (j := j - 10) (by omega) v').congr (fun i hi => ?_)
    show (if i = j - 10 then v' else rpC m i) = rpC (m.app j v' news) i
    rcases hj10 with rfl | rfl
    · rcases (show i = 0 ∨ i = 1 ∨ i = 2 ∨ i = 3 ∨ i = 4 ∨ i = 5 by omega) with rfl | rfl | rfl | rfl | rfl | rfl <;> rfl
    · rcases (show i = 0 ∨ i = 1 ∨ i = 2 ∨ i = 3 ∨ i = 4 ∨ i = 5 by omega) with rfl | rfl | rfl | rfl | rfl | rfl <;> rfl
end
theorem toList_mk (l : List UInt8) : (⟨l.toArray⟩ : ByteArray).toList = l := by rw [ByteArray.toList_eq]
theorem bl_mk (ws : List (List UInt8)) : bl (ws.map fun l => (⟨l.toArray⟩ : ByteArray)) = ws := by
  unfold bl
  rw [List.map_map]
  conv => rhs; rw [← List.map_id ws]
  apply List.map_congr_left
  intro l _
  exact toList_mk l
theorem WordsAt.strs {B : Nat} {w : World} {v : Value} {ws : List (List UInt8)} (h : WordsAt B w v ws) : StrsAt w v (ws.map fun l => (⟨l.toArray⟩ : ByteArray)) := by
  obtain ⟨ao, cap, h1, h2, h3, h4, h5, h6⟩ := h
  refine ⟨ao, cap, by rw [List.length_map]; exact h1, by rw [List.length_map]; omega, fun s hs => ?_, fun hne => ?_⟩
  · simp only [List.mem_map] at hs
    obtain ⟨l, hl, rfl⟩ := hs
    have := h5 l hl
    show l.toArray.size ≤ maxLen
    simp [maxLen]; omega
  · obtain ⟨b, off, e, hb, hc⟩ := h6 (by intro hh; apply hne; rw [hh]; rfl)
    refine ⟨b, off, e, fun i hi => ?_⟩
    rw [List.length_map] at hi
    rw [hc i hi]
    simp [strV, List.getD_eq_getElem?_getD, hi]
theorem place_words {B : Nat} {w : World} {v : Value} {ws : List (List UInt8)} (h : WordsAt B w v ws) (x : List UInt8) : Calls Tryz.prog 22 #[v, .string ⟨x.toArray⟩] w fun e w' => e = .returned (.int .i64 (Fl.place ws x)) ∧ w' = w := by
  have := place_any v _ (⟨x.toArray⟩ : ByteArray) w h.strs
  rw [bl_mk, toList_mk] at this
  exact this
theorem number_words (x : List UInt8) (w : World) (hx : x.length ≤ 100000) : Calls Tryz.prog 35 #[.string ⟨x.toArray⟩, .int .i64 9] w fun e w' => e = .returned (.tuple #[.int .i64 (Fl.number x 9).1, .bool (Fl.number x 9).2]) ∧ w' = w := by
  have := number_l (⟨x.toArray⟩ : ByteArray) 9 w (by show x.toArray.size ≤ maxLen; simp [maxLen]; omega) (by omega)
  rw [toList_mk] at this
  exact this
end Go.Proofs.YthfacjlghcdndaaGreatDoor
