/- Texts SpecP Spl SpecQ SpecL. -/
import Derived.Test.YthfacjlghcdndaaGreatDoorM03
import Derived.Lib.Split
import Derived.Lib.ItoaNum
namespace Go.Proofs.YthfacjlghcdndaaGreatDoor
namespace Fl
def cutStep (c : UInt8) (st : List (List UInt8) × List UInt8) (x : UInt8) : List (List UInt8) × List UInt8 := if x == c then (st.1 ++ [st.2], []) else (st.1, st.2 ++ [x])
def cutTo (c : UInt8) (l : List UInt8) : List (List UInt8) × List UInt8 := l.foldl (cutStep c) ([], [])
def cut (c : UInt8) (l : List UInt8) : List (List UInt8) := (cutTo c l).1 ++ [(cutTo c l).2]
theorem cutTo_snoc (c : UInt8) (l : List UInt8) (x : UInt8) : cutTo c (l ++ [x]) = cutStep c (cutTo c l) x := by simp [cutTo, List.foldl_append]
theorem cutTo_len (c : UInt8) (l : List UInt8) : ∀ st : List (List UInt8) × List UInt8, (l.foldl (cutStep c) st).1.length ≤ st.1.length + l.length ∧ (l.foldl (cutStep c) st).2.length ≤ st.2.length + l.length := by
  induction l with
  | nil => intro st; simp
  | cons x r ih =>
    intro st
    simp only [List.foldl_cons, List.length_cons]
    have h := ih (cutStep c st x)
    by_cases hx : (x == c) = true
    · have h1 : (cutStep c st x).1.length = st.1.length + 1 := by simp [cutStep, hx]
      have h2 : (cutStep c st x).2.length = 0 := by simp [cutStep, hx]
      omega
    · have h1 : (cutStep c st x).1.length = st.1.length := by simp [cutStep, hx]
      have h2 : (cutStep c st x).2.length = st.2.length + 1 := by simp [cutStep, hx]
      omega
theorem cutTo_le (c : UInt8) (l : List UInt8) : (cutTo c l).1.length ≤ l.length ∧ (cutTo c l).2.length ≤ l.length := by
  have := cutTo_len c l ([], []); simpa [cutTo] using this
end Fl
end Go.Proofs.YthfacjlghcdndaaGreatDoor

set_option linter.unusedSimpArgs false
set_option linter.unusedVariables false
namespace Go.Proofs.YthfacjlghcdndaaGreatDoor
namespace Fl

def onHead (p : List UInt8) : List (List UInt8) → List (List UInt8)
  | [] => [p]
  | h :: t => (p ++ h) :: t
def cutR (c : UInt8) : List UInt8 → List (List UInt8)
  | [] => [[]]
  | x :: r => if x == c then [] :: cutR c r else onHead [x] (cutR c r)
theorem cutR_ne (c : UInt8) (l : List UInt8) : cutR c l ≠ [] := by
  cases l with
  | nil => simp [cutR]
  | cons x r =>
    simp only [cutR]; split
    · simp
    · cases h : cutR c r with
      | nil => simp [onHead]
      | cons a b => simp [onHead]
theorem onHead_onHead (p q : List UInt8) (l : List (List UInt8)) (h : l ≠ []) : onHead p (onHead q l) = onHead (p ++ q) l := by
  cases l with
  | nil => exact absurd rfl h
  | cons a b => simp [onHead]
theorem cut_fold (c : UInt8) (l : List UInt8) : ∀ d cur, (l.foldl (cutStep c) (d, cur)).1 ++ [(l.foldl (cutStep c) (d, cur)).2] = d ++ onHead cur (cutR c l) := by
  induction l with
  | nil => intro d cur; simp [cutR, onHead]
  | cons x r ih =>
    intro d cur
    simp only [List.foldl_cons]
    by_cases hx : (x == c) = true
    · have e : cutStep c (d, cur) x = (d ++ [cur], []) := by simp [cutStep, hx]
      rw [e, ih, cutR, if_pos hx]
      cases h : cutR c r with
      | nil => exact absurd h (cutR_ne c r)
      | cons a b => simp [onHead]
    · have e : cutStep c (d, cur) x = (d, cur ++ [x]) := by simp [cutStep, hx]
      rw [e, ih, cutR, if_neg hx, onHead_onHead _ _ _ (cutR_ne c r)]
theorem cut_cutR (c : UInt8) (l : List UInt8) : cut c l = cutR c l := by
  have := cut_fold c l [] []
  simp only [cut, cutTo]
  rw [this, List.nil_append]
  cases h : cutR c l with
  | nil => exact absurd h (cutR_ne c l)
  | cons a b => simp [onHead]

theorem pre_one (c b : UInt8) (l : List UInt8) : ([c] : List UInt8).isPrefixOf (b :: l) = (b == c) := by
  simp only [List.isPrefixOf, Bool.and_true]
  rw [Bool.eq_iff_iff, beq_iff_eq, beq_iff_eq]; exact eq_comm
theorem cutR_index (c : UInt8) (l : List UInt8) : (Lib.index l [c] = -1 → cutR c l = [l]) ∧ (∀ i : Nat, Lib.index l [c] = i → cutR c l = l.take i :: cutR c (l.drop (i + 1)) ∧ i < l.length) := by
  induction l with
  | nil => exact ⟨fun _ => rfl, fun i h => by simp [Lib.index] at h⟩
  | cons b r ih =>
    have hge := Lib.index_ge r [c]
    simp only [Lib.index, pre_one, cutR]
    by_cases hb : (b == c) = true
    · rw [if_pos hb, if_pos hb]
      refine ⟨fun h => by omega, fun i h => ?_⟩
      have : i = 0 := by omega
      subst this; exact ⟨by simp, by simp⟩
    · rw [if_neg hb, if_neg hb]
      by_cases h1 : Lib.index r [c] = -1
      · have e : (Lib.index r [c] == -1) = true := by rw [h1]; rfl
        rw [if_pos e]
        refine ⟨fun _ => ?_, fun i h => by omega⟩
        rw [ih.1 h1]; rfl
      · have e : ¬ (Lib.index r [c] == -1) = true := by simpa using h1
        rw [if_neg e]
        refine ⟨fun h => by omega, fun i h => ?_⟩
        obtain ⟨k, hk⟩ : ∃ k : Nat, Lib.index r [c] = (k : Int) := ⟨(Lib.index r [c]).toNat, by omega⟩
        have hi : i = k + 1 := by omega
        subst hi
        obtain ⟨h2, h3⟩ := ih.2 k hk
        rw [h2]
        exact ⟨by simp [onHead], by simp; omega⟩
theorem splitK_cutR (c : UInt8) : ∀ (fuel : Nat) (l : List UInt8), l.length < fuel → Lib.splitK [c] 0 (Lib.countFrom [c] fuel l) l = cutR c l := by
  intro fuel
  induction fuel with
  | zero => intro l h; omega
  | succ fuel ih =>
    intro l h
    have hge := Lib.index_ge l [c]
    simp only [Lib.countFrom]
    by_cases h1 : Lib.index l [c] = -1
    · have e : (Lib.index l [c] == -1) = true := by rw [h1]; rfl
      rw [if_pos e, (cutR_index c l).1 h1]; rfl
    · have e : ¬ (Lib.index l [c] == -1) = true := by simpa using h1
      rw [if_neg e, Nat.add_comm 1, Lib.splitK, if_neg e]
      obtain ⟨k, hk⟩ : ∃ k : Nat, Lib.index l [c] = (k : Int) := ⟨(Lib.index l [c]).toNat, by omega⟩
      obtain ⟨h2, h3⟩ := (cutR_index c l).2 k hk
      rw [h2, hk, Int.toNat_natCast]
      simp only [List.length_singleton, Nat.add_zero]
      rw [ih _ (by simp; omega)]
theorem split_cutR (c : UInt8) (l : List UInt8) : Lib.split l [c] = cutR c l := splitK_cutR c (l.length + 1) l (by omega)
theorem cut_found (c : UInt8) (l : List UInt8) (h : (Lib.cut l [c]).2.2 = true) : cutR c l = (Lib.cut l [c]).1 :: cutR c (Lib.cut l [c]).2.1 ∧ (Lib.cut l [c]).2.1.length < l.length := by
  unfold Lib.cut at *
  have hge := Lib.index_ge l [c]
  by_cases h0 : 0 ≤ Lib.index l [c]
  · rw [if_pos h0]
    obtain ⟨k, hk⟩ : ∃ k : Nat, Lib.index l [c] = (k : Int) := ⟨(Lib.index l [c]).toNat, by omega⟩
    obtain ⟨h2, h3⟩ := (cutR_index c l).2 k hk
    rw [hk, Int.toNat_natCast]
    exact ⟨h2, by simp; omega⟩
  · rw [if_neg h0] at h; cases h
theorem cut_missed (c : UInt8) (l : List UInt8) (h : (Lib.cut l [c]).2.2 = false) : cutR c l = [l] ∧ (Lib.cut l [c]).1 = l := by
  unfold Lib.cut at *
  have hge := Lib.index_ge l [c]
  by_cases h0 : 0 ≤ Lib.index l [c]
  · rw [if_pos h0] at h; cases h
  · rw [if_neg h0]
    exact ⟨(cutR_index c l).1 (by omega), rfl⟩

def decF : Nat → Nat → List UInt8
  | 0, v => [UInt8.ofNat (48 + v % 10)]
  | f + 1, v => if v < 10 then [UInt8.ofNat (48 + v)] else decF f (v / 10) ++ [UInt8.ofNat (48 + v % 10)]
theorem decF_digits (f : Nat) : ∀ v, v < 10 ^ (f + 1) → decF f v = Lib.decDigits v := by
  induction f with
  | zero => intro v h; rw [Lib.decDigits, dif_pos (by simpa using h), decF, Nat.mod_eq_of_lt (by simpa using h)]
  | succ f ih =>
    intro v h
    rw [Lib.decDigits, decF]
    by_cases hv : v < 10
    · rw [if_pos hv, dif_pos hv]
    · rw [if_neg hv, dif_neg hv, ih _ (by rw [Nat.pow_succ] at h; omega)]
end Fl
end Go.Proofs.YthfacjlghcdndaaGreatDoor

namespace Go.Proofs.YthfacjlghcdndaaGreatDoor
namespace Fl

structure Atom where
  var : Bool
  v : Nat
structure Expr where
  op : Int
  a : Atom
  b : Atom
structure Stmt where
  kind : Nat
  x : Nat
  line : Nat
  e : Expr
  body : List Stmt
  other : List Stmt
structure Frame where
  kind : Nat
  line : Nat
  e : Expr
  first : List Stmt
  had : Bool
  els : List Stmt

abbrev Tab := Nat → Nat → Bool
def tab0 (low high : List Nat) : Tab := fun i j => i == j || (low.zip high).any fun p => p.1 == i && p.2 == j
def fwStep (k : Nat) (t : Tab) : Tab := fun i j => t i j || (t i k && t k j)
def fw : Nat → Tab → Tab
  | 0, t => t
  | k + 1, t => fwStep k (fw k t)
def firstK (p : Nat → Bool) (n : Nat) : Int := match (List.range n).find? p with
  | some k => (k : Int)
  | none => -1
def isJoin (n : Nat) (t : Tab) (a b k : Nat) : Bool := t a k && t b k && (List.range n).all fun j => !(t a j) || !(t b j) || t k j
def join (n : Nat) (t : Tab) (a b : Nat) : Int := firstK (isJoin n t a b) n
def meet (n : Nat) (t : Tab) (a b : Nat) : Int := firstK (isJoin n (fun i j => t j i) a b) n
def pairOk (n : Nat) (t : Tab) (i j : Nat) : Bool := !(i != j && t i j && t j i) && (decide (0 ≤ join n t i j) && decide (0 ≤ meet n t i j))
def lattice (n : Nat) (t : Tab) : Bool := decide (0 < n) && (List.range n).all fun i => (List.range n).all fun j => pairOk n t i j
def bottom (n : Nat) (t : Tab) : Nat := (firstK (fun k => (List.range n).all fun j => t k j) n).toNat

structure RS where
  levels : List (List UInt8)
  cells : List (List UInt8)
  chans : List (List UInt8)
  locals : List (List UInt8)
  low : List Nat
  high : List Nat
  cellLv : List Nat
  chanLv : List Nat
  begun : Bool
  stmts : Nat
  top : List Stmt
  fr : List Frame
def RS.zero : RS := ⟨[], [], [], [], [], [], [], [], false, 0, [], []⟩
def RS.tab (r : RS) : Tab := fw r.levels.length (tab0 r.low r.high)
def RS.atom (r : RS) (s : List UInt8) : Option Atom :=
  if (number s 9).2 then some ⟨false, (number s 9).1⟩
  else if 0 ≤ place r.cells s then some ⟨true, (place r.cells s).toNat⟩
  else if 0 ≤ place r.locals s then some ⟨true, r.cells.length + (place r.locals s).toNat⟩ else none
def no0 : Atom := ⟨false, 0⟩
def RS.value (r : RS) : List (List UInt8) → Option Expr
  | [a] => (r.atom a).map fun x => ⟨-1, x, no0⟩
  | [a, o, b] => (r.atom a).bind fun x => (r.atom b).map fun y => ⟨place signs o, x, y⟩
  | _ => none
def RS.put (r : RS) (s : Stmt) : RS :=
  match r.fr with
  | [] => { r with top := r.top ++ [s], stmts := r.stmts + 1 }
  | f :: fs => { r with fr := (if f.had then { f with els := f.els ++ [s] } else { f with first := f.first ++ [s] }) :: fs, stmts := r.stmts + 1 }
def RS.opens (r : RS) (kind line : Nat) (e : Expr) : RS := { r with fr := ⟨kind, line, e, [], false, []⟩ :: r.fr, stmts := r.stmts + 1 }
def Frame.done (f : Frame) : Stmt := ⟨f.kind, 0, f.line, f.e, f.first, f.els⟩
def RS.ends (r : RS) : RS :=
  match r.fr with
  | [] => r
  | f :: [] => { r with top := r.top ++ [f.done], fr := [] }
  | f :: g :: fs => { r with fr := (if g.had then { g with els := g.els ++ [f.done] } else { g with first := g.first ++ [f.done] }) :: fs }
def RS.elses (r : RS) : RS :=
  match r.fr with
  | [] => r
  | f :: fs => { r with fr := { f with had := true } :: fs }
def RS.target (r : RS) (n : List UInt8) : Option (Nat × RS) :=
  if 0 ≤ place r.cells n then some ((place r.cells n).toNat, r)
  else if 0 ≤ place r.locals n then some (r.cells.length + (place r.locals n).toNat, r)
  else if r.locals.length = 4 then none else some (r.cells.length + r.locals.length, { r with locals := r.locals ++ [n] })
def isHead (w : List UInt8) : Bool := w == wLevel || w == wBelow || w == wCell || w == wChannel || w == wBegin
def RS.head (r : RS) : List (List UInt8) → Nat × RS
  | [_] => if lattice r.levels.length r.tab then (0, { r with begun := true }) else (6, r)
  | [_, n] => if 0 ≤ place r.levels n then (4, r) else if r.levels.length = 6 then (5, r) else (0, { r with levels := r.levels ++ [n] })
  | [k, n, l] =>
    if k == wBelow then
      if place r.levels n < 0 ∨ place r.levels l < 0 then (4, r) else (0, { r with low := r.low ++ [(place r.levels n).toNat], high := r.high ++ [(place r.levels l).toNat] })
    else if place r.levels l < 0 ∨ 0 ≤ place r.cells n ∨ 0 ≤ place r.chans n then (4, r)
    else if k == wCell then
      if r.cells.length = 6 then (5, r) else (0, { r with cells := r.cells ++ [n], cellLv := r.cellLv ++ [(place r.levels l).toNat] })
    else if r.chans.length = 3 then (5, r) else (0, { r with chans := r.chans ++ [n], chanLv := r.chanLv ++ [(place r.levels l).toNat] })
  | _ => (2, r)
def RS.stmt (r : RS) (at_ : Nat) : List (List UInt8) → Nat × RS
  | [k] =>
    match r.fr with
    | [] => (3, r)
    | f :: _ => if k == wElse then (if f.kind = 5 ∧ f.had = false then (0, r.elses) else (3, r)) else (0, r.ends)
  | [k, a] =>
    match r.value [a] with
    | none => (4, r)
    | some e => if 16 ≤ r.stmts ∨ 3 ≤ r.fr.length then (5, r) else (0, r.opens (if k == wIf then 5 else 6) at_ e)
  | k :: n :: v =>
    match r.value v with
    | none => (4, r)
    | some e =>
      if k == wOut then
        if place r.chans n < 0 then (4, r) else if 16 ≤ r.stmts then (5, r) else (0, r.put ⟨4, (place r.chans n).toNat, at_, e, [], []⟩)
      else if 0 ≤ place r.chans n then (4, r)
      else match r.target n with
        | none => (5, r)
        | some (x, r') => if 16 ≤ r.stmts then (5, r) else (0, r'.put ⟨3, x, at_, e, [], []⟩)
  | _ => (2, r)
def RS.row (r : RS) (w : List (List UInt8)) (at_ : Nat) : Nat × RS :=
  if isHead (w.getD 0 []) = r.begun then (3, r) else if isHead (w.getD 0 []) then r.head w else r.stmt at_ w
structure Prog where
  n : Nat
  leq : Tab
  cells : List Nat
  chans : List Nat
  locals : Nat
  body : List Stmt
def RS.prog (r : RS) : Prog := ⟨r.levels.length, r.tab, r.cellLv, r.chanLv, r.locals.length, r.top⟩
def rows : RS → Nat → List (List UInt8) → Nat × Nat × RS
  | r, i, [] => (3, i + 1, r)
  | r, i, [l] => if l = [] ∧ 0 < i then (if r.begun = true ∧ r.fr = [] then (0, 0, r) else (3, i + 1, r)) else (2, i + 1, r)
  | r, i, l :: m :: ls => if line (cutR 32 l) = false then (2, i + 1, r) else if (r.row (cutR 32 l) (i + 1)).1 ≠ 0 then ((r.row (cutR 32 l) (i + 1)).1, i + 1, r) else rows (r.row (cutR 32 l) (i + 1)).2 (i + 1) (m :: ls)
def readProg (s : List UInt8) : Nat × Nat × Prog :=
  if 1200 < s.length then (1, 0, RS.zero.prog) else let q := rows RS.zero 0 (cutR 10 s); (q.1, q.2.1, q.2.2.prog)
end Fl
end Go.Proofs.YthfacjlghcdndaaGreatDoor

namespace Go.Proofs.YthfacjlghcdndaaGreatDoor
namespace Fl

theorem fw_le (t : Tab) : ∀ (k i j : Nat), t i j = true → fw k t i j = true
  | 0, _, _, h => h
  | k + 1, i, j, h => by
    have := fw_le t k i j h
    simp only [fw, fwStep, this, Bool.true_or]
theorem fw_trans (t : Tab) : ∀ (n k i j : Nat), k < n → fw n t i k = true → fw n t k j = true → fw n t i j = true
  | 0, k, _, _, hk, _, _ => absurd hk (by omega)
  | m + 1, k, i, j, hk, h1, h2 => by
    have ih := fw_trans t m
    simp only [fw, fwStep, Bool.or_eq_true, Bool.and_eq_true] at h1 h2 ⊢
    by_cases hkm : k = m
    · subst hkm
      have a1 : fw k t i k = true := by rcases h1 with h | h; exact h; exact h.1
      have a2 : fw k t k j = true := by rcases h2 with h | h; exact h; exact h.2
      exact .inr ⟨a1, a2⟩
    · have hk' : k < m := by omega
      rcases h1 with h1 | ⟨h1, h1'⟩
      · rcases h2 with h2 | ⟨h2, h2'⟩
        · exact .inl (ih k i j hk' h1 h2)
        · exact .inr ⟨ih k i m hk' h1 h2, h2'⟩
      · rcases h2 with h2 | ⟨h2, h2'⟩
        · exact .inr ⟨h1, ih k m j hk' h1' h2⟩
        · exact .inr ⟨h1, h2'⟩
def Trans (n : Nat) (r : Tab) : Prop := ∀ a b c, a < n → b < n → c < n → r a b = true → r b c = true → r a c = true
theorem fw_least (n : Nat) (t r : Tab) (hr : Trans n r) (h : ∀ i j, i < n → j < n → t i j = true → r i j = true) : ∀ (k i j : Nat), k ≤ n → i < n → j < n → fw k t i j = true → r i j = true
  | 0, i, j, _, hi, hj, h0 => h i j hi hj h0
  | k + 1, i, j, hk, hi, hj, h0 => by
    have ih := fw_least n t r hr h k
    simp only [fw, fwStep, Bool.or_eq_true, Bool.and_eq_true] at h0
    rcases h0 with h0 | ⟨h1, h2⟩
    · exact ih i j (by omega) hi hj h0
    · exact hr i k j hi (by omega) hj (ih i k (by omega) hi (by omega) h1) (ih k j (by omega) (by omega) hj h2)
theorem fw_unique (n : Nat) (t r : Tab) (hr : Trans n r) (h : ∀ i j, i < n → j < n → t i j = true → r i j = true) (h2 : ∀ i j, i < n → j < n → r i j = true → fw n t i j = true) : ∀ i j, i < n → j < n → r i j = fw n t i j := by
  intro i j hi hj
  cases hx : fw n t i j with
  | true => exact fw_least n t r hr h n i j (Nat.le_refl _) hi hj hx
  | false =>
    cases hy : r i j with
    | true => rw [h2 i j hi hj hy] at hx; cases hx
    | false => rfl
theorem fw_refl (low high : List Nat) (n i : Nat) : fw n (tab0 low high) i i = true := fw_le _ _ _ _ (by simp [tab0])

def mid (k : Nat) (t : Tab) (i j : Nat) : Tab := fun x y => if x < i ∨ (x = i ∧ y < j) then fwStep k t x y else t x y
theorem mid_col (k : Nat) (t : Tab) (i j x : Nat) : mid k t i j x k = t x k := by
  unfold mid fwStep; split
  · cases t x k <;> simp
  · rfl
theorem mid_row (k : Nat) (t : Tab) (i j y : Nat) : mid k t i j k y = t k y := by
  unfold mid fwStep; split
  · cases t k y <;> simp
  · rfl
theorem mid_here (k : Nat) (t : Tab) (i j : Nat) : mid k t i j i j = t i j := by unfold mid; rw [if_neg (by omega)]
theorem mid_step (k : Nat) (t : Tab) (i j : Nat) : mid k t i (j + 1) = fun x y => if x = i ∧ y = j then fwStep k t i j else mid k t i j x y := by
  funext x y
  unfold mid
  by_cases h : x = i ∧ y = j
  · obtain ⟨rfl, rfl⟩ := h
    rw [if_pos (by omega), if_pos ⟨rfl, rfl⟩]
  · rw [if_neg h]
    by_cases h2 : x < i ∨ (x = i ∧ y < j)
    · rw [if_pos h2, if_pos (by omega)]
    · rw [if_neg h2, if_neg (by omega)]
theorem mid_next (k : Nat) (t : Tab) (i n x y : Nat) (hy : y < n) : mid k t i n x y = mid k t (i + 1) 0 x y := by
  unfold mid
  by_cases h : x < i ∨ (x = i ∧ y < n)
  · rw [if_pos h, if_pos (by omega)]
  · rw [if_neg h, if_neg (by omega)]
theorem mid_zero (k : Nat) (t : Tab) : mid k t 0 0 = t := by funext x y; unfold mid; rw [if_neg (by omega)]
theorem mid_all (k : Nat) (t : Tab) (n x y : Nat) (hx : x < n) : mid k t n 0 x y = fwStep k t x y := by unfold mid; rw [if_pos (.inl hx)]

theorem firstK_hit {p : Nat → Bool} {n k : Nat} (hk : k < n) (h : p k = true) (hb : ∀ j, j < k → p j = false) : firstK p n = (k : Int) := by
  unfold firstK
  have : (List.range n).find? p = some k := by
    rw [List.find?_range_eq_some]
    refine ⟨h, by simpa using hk, fun j hj => by simp [hb j hj]⟩
  rw [this]
theorem firstK_miss {p : Nat → Bool} {n : Nat} (h : ∀ j, j < n → p j = false) : firstK p n = -1 := by
  unfold firstK
  have : (List.range n).find? p = none := by
    rw [List.find?_eq_none]; intro x hx; rw [List.mem_range] at hx; simp [h x hx]
  rw [this]
theorem firstK_cases (p : Nat → Bool) (n : Nat) : (∃ k, k < n ∧ p k = true ∧ (∀ j, j < k → p j = false) ∧ firstK p n = (k : Int)) ∨ ((∀ j, j < n → p j = false) ∧ firstK p n = -1) := by
  unfold firstK
  cases h : (List.range n).find? p with
  | none =>
    right
    rw [List.find?_eq_none] at h
    exact ⟨fun j hj => by simpa using h j (by simpa using hj), rfl⟩
  | some k =>
    left
    rw [List.find?_range_eq_some] at h
    exact ⟨k, by simpa using h.2.1, h.1, fun j hj => by simpa using h.2.2 j hj, rfl⟩
theorem firstK_congr {p q : Nat → Bool} {n : Nat} (h : ∀ k, k < n → p k = q k) : firstK p n = firstK q n := by
  rcases firstK_cases q n with ⟨k, hk, h1, h2, e⟩ | ⟨h1, e⟩
  · rw [e]; exact firstK_hit hk (by rw [h k hk]; exact h1) (fun j hj => by rw [h j (by omega)]; exact h2 j hj)
  · rw [e]; exact firstK_miss (fun j hj => by rw [h j hj]; exact h1 j hj)
theorem firstK_lt (p : Nat → Bool) (n : Nat) : firstK p n < n := by
  rcases firstK_cases p n with ⟨k, hk, _, _, e⟩ | ⟨_, e⟩ <;> rw [e] <;> omega
theorem all_range {p : Nat → Bool} {n : Nat} : (List.range n).all p = true ↔ ∀ j, j < n → p j = true := by simp [List.all_eq_true]

theorem isJoin_iff (n : Nat) (t : Tab) (a b k : Nat) : isJoin n t a b k = true ↔ t a k = true ∧ t b k = true ∧ ∀ j, j < n → t a j = true → t b j = true → t k j = true := by
  simp only [isJoin, Bool.and_eq_true, all_range, Bool.or_eq_true, Bool.not_eq_true', and_assoc]
  refine ⟨fun ⟨h1, h2, h3⟩ => ⟨h1, h2, fun j hj ha hb => ?_⟩, fun ⟨h1, h2, h3⟩ => ⟨h1, h2, fun j hj => ?_⟩⟩
  · rcases h3 j hj with (h | h) | h
    · rw [ha] at h; cases h
    · rw [hb] at h; cases h
    · exact h
  · cases ha : t a j with
    | false => simp
    | true =>
      cases hb : t b j with
      | false => simp
      | true => right; exact h3 j hj ha hb
theorem isJoin_congr {n : Nat} {t r : Tab} (h : ∀ i j, i < n → j < n → t i j = r i j) {a b k : Nat} (ha : a < n) (hb : b < n) (hk : k < n) : isJoin n t a b k = isJoin n r a b k := by
  rw [Bool.eq_iff_iff, isJoin_iff, isJoin_iff, h a k ha hk, h b k hb hk]
  refine and_congr_right fun _ => and_congr_right fun _ => forall_congr' fun j => ?_
  refine ⟨fun g hj => ?_, fun g hj => ?_⟩
  · have := g hj; rw [h a j ha hj, h b j hb hj, h k j hk hj] at this; exact this
  · have := g hj; rw [h a j ha hj, h b j hb hj, h k j hk hj]; exact this
theorem join_congr {n : Nat} {t r : Tab} (h : ∀ i j, i < n → j < n → t i j = r i j) {a b : Nat} (ha : a < n) (hb : b < n) : join n t a b = join n r a b := firstK_congr fun _ hk => isJoin_congr h ha hb hk
theorem meet_congr {n : Nat} {t r : Tab} (h : ∀ i j, i < n → j < n → t i j = r i j) {a b : Nat} (ha : a < n) (hb : b < n) : meet n t a b = meet n r a b :=
  firstK_congr fun _ hk => isJoin_congr (t := fun i j => t j i) (r := fun i j => r j i) (fun i j hi hj => h j i hj hi) ha hb hk
theorem pairOk_congr {n : Nat} {t r : Tab} (h : ∀ i j, i < n → j < n → t i j = r i j) {a b : Nat} (ha : a < n) (hb : b < n) : pairOk n t a b = pairOk n r a b := by
  unfold pairOk; rw [join_congr h ha hb, meet_congr h ha hb, h a b ha hb, h b a hb ha]
theorem lattice_iff (n : Nat) (t : Tab) : lattice n t = true ↔ 0 < n ∧ ∀ i j, i < n → j < n → pairOk n t i j = true := by
  simp only [lattice, Bool.and_eq_true, decide_eq_true_eq, all_range]
  exact and_congr_right fun _ => ⟨fun h i j hi hj => h i hi j hj, fun h i hi j hj => h i j hi hj⟩
theorem lattice_congr {n : Nat} {t r : Tab} (h : ∀ i j, i < n → j < n → t i j = r i j) : lattice n t = lattice n r := by
  rw [Bool.eq_iff_iff, lattice_iff, lattice_iff]
  refine and_congr_right fun _ => ⟨fun g i j hi hj => ?_, fun g i j hi hj => ?_⟩
  · rw [← pairOk_congr h hi hj]; exact g i j hi hj
  · rw [pairOk_congr h hi hj]; exact g i j hi hj

structure Lat (n : Nat) (t : Tab) : Prop where
  pos : 0 < n
  refl : ∀ i, i < n → t i i = true
  trans : Trans n t
  anti : ∀ i j, i < n → j < n → t i j = true → t j i = true → i = j
  joins : ∀ i j, i < n → j < n → ∃ k, k < n ∧ join n t i j = (k : Int) ∧ t i k = true ∧ t j k = true ∧ ∀ m, m < n → t i m = true → t j m = true → t k m = true
  meets : ∀ i j, i < n → j < n → ∃ k, k < n ∧ t k i = true ∧ t k j = true ∧ ∀ m, m < n → t m i = true → t m j = true → t m k = true
theorem Lat.of {n : Nat} {t : Tab} (h : lattice n t = true) (hr : ∀ i, i < n → t i i = true) (ht : Trans n t) : Lat n t := by
  obtain ⟨h0, hp⟩ := (lattice_iff n t).1 h
  have hq : ∀ i j, i < n → j < n → ¬ (i ≠ j ∧ t i j = true ∧ t j i = true) ∧ 0 ≤ join n t i j ∧ 0 ≤ meet n t i j := fun i j hi hj => by
    have := hp i j hi hj
    simp only [pairOk, Bool.and_eq_true, decide_eq_true_eq, Bool.not_eq_true', Bool.and_eq_false_iff, bne_eq_false_iff_eq] at this
    refine ⟨fun ⟨a, b, c⟩ => ?_, this.2⟩
    rcases this.1 with (h | h) | h
    · exact a h
    · rw [b] at h; cases h
    · rw [c] at h; cases h
  refine ⟨h0, hr, ht, fun i j hi hj a b => ?_, fun i j hi hj => ?_, fun i j hi hj => ?_⟩
  · by_cases e : i = j
    · exact e
    · exact absurd ⟨e, a, b⟩ (hq i j hi hj).1
  · rcases firstK_cases (isJoin n t i j) n with ⟨k, hk, h1, _, e⟩ | ⟨_, e⟩
    · obtain ⟨a, b, c⟩ := (isJoin_iff n t i j k).1 h1
      exact ⟨k, hk, e, a, b, c⟩
    · have := (hq i j hi hj).2.1; unfold join at this; rw [e] at this; omega
  · rcases firstK_cases (isJoin n (fun i j => t j i) i j) n with ⟨k, hk, h1, _, e⟩ | ⟨_, e⟩
    · obtain ⟨a, b, c⟩ := (isJoin_iff n (fun i j => t j i) i j k).1 h1
      exact ⟨k, hk, a, b, c⟩
    · have := (hq i j hi hj).2.2; unfold meet at this; rw [e] at this; omega
theorem bottom_of {n : Nat} {t : Tab} (h : Lat n t) {k : Nat} (hk : k < n) (hb : ∀ j, j < n → t k j = true) : bottom n t = k := by
  have : firstK (fun k => (List.range n).all fun j => t k j) n = (k : Int) := by
    refine firstK_hit hk (all_range.2 hb) fun j hj => ?_
    cases hx : (List.range n).all fun y => t j y with
    | false => rfl
    | true => exact absurd (h.anti j k (by omega) hk (all_range.1 hx k hk) (hb j (by omega))) (by omega)
  unfold bottom; rw [this]; rfl
def lowTo (t : Tab) : Nat → Nat
  | 0 => 0
  | m + 1 => if t m (lowTo t m) then m else lowTo t m
theorem lowTo_lt {n : Nat} (t : Tab) (hn : 0 < n) : ∀ m, m ≤ n → lowTo t m < n
  | 0, _ => hn
  | m + 1, hm => by
    simp only [lowTo]; split
    · omega
    · exact lowTo_lt t hn m (by omega)
theorem lowTo_down {n : Nat} {t : Tab} (h : Lat n t) : ∀ m, m ≤ n → ∀ j, j < m → t j (lowTo t m) = true → t (lowTo t m) j = true
  | 0, _, j, hj, _ => absurd hj (by omega)
  | m + 1, hm, j, hj, hd => by
    have ih := lowTo_down h m (by omega)
    have hl := lowTo_lt t h.pos m (by omega)
    simp only [lowTo] at hd ⊢
    by_cases hm' : t m (lowTo t m) = true
    · rw [if_pos hm'] at hd ⊢
      by_cases hjm : j = m
      · subst hjm; exact h.refl j (by omega)
      · have h1 : t j (lowTo t m) = true := h.trans j m _ (by omega) (by omega) hl hd hm'
        exact h.trans m _ j (by omega) hl (by omega) hm' (ih j (by omega) h1)
    · rw [if_neg hm'] at hd ⊢
      by_cases hjm : j = m
      · subst hjm; exact absurd hd hm'
      · exact ih j (by omega) hd
theorem lowTo_bottom {n : Nat} {t : Tab} (h : Lat n t) : lowTo t n = bottom n t := by
  have hl := lowTo_lt t h.pos n (Nat.le_refl _)
  refine (bottom_of h hl fun j hj => ?_).symm
  obtain ⟨k, hk, h1, h2, _⟩ := h.meets (lowTo t n) j hl hj
  have h3 := lowTo_down h n (Nat.le_refl _) k hk h1
  exact h.trans _ k j hl hk hj h3 h2
theorem bottom_low {n : Nat} {t : Tab} (h : Lat n t) : bottom n t < n ∧ ∀ j, j < n → t (bottom n t) j = true := by
  have hl := lowTo_lt t h.pos n (Nat.le_refl _)
  rw [← lowTo_bottom h]
  refine ⟨hl, fun j hj => ?_⟩
  obtain ⟨k, hk, h1, h2, _⟩ := h.meets (lowTo t n) j hl hj
  have h3 := lowTo_down h n (Nat.le_refl _) k hk h1
  exact h.trans _ k j hl hk hj h3 h2
theorem RS.lat {r : RS} (h : lattice r.levels.length r.tab = true) : Lat r.levels.length r.tab :=
  Lat.of h (fun i _ => fw_refl _ _ _ _) (fun a b c _ hb _ h1 h2 => fw_trans _ _ b a c hb h1 h2)
end Fl
end Go.Proofs.YthfacjlghcdndaaGreatDoor
