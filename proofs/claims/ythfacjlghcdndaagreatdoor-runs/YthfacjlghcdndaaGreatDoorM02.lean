/- Texts Mem Spec2 Spec3 Spec4. -/
import Derived.Test.YthfacjlghcdndaaGreatDoorM01
import Derived.WalkKit
set_option linter.unusedSimpArgs false
set_option linter.unusedVariables false
namespace Go.Proofs.YthfacjlghcdndaaGreatDoor
open Go.RowKit

def IntsAt (B : Nat) (w : World) (v : Value) (xs : List Int) : Prop :=
  ∃ ao cap, v = .slice ao xs.length cap ∧ xs.length ≤ cap ∧ xs.length ≤ maxLen ∧
    (xs ≠ [] → ∃ b off, ao = some ⟨b, off, none⟩ ∧ b < B ∧ ∀ i, i < xs.length → w.cell? ⟨b, off + i, none⟩ = some (.int .i64 (xs.getD i 0)))

theorem IntsAt.below {B : Nat} {w w' : World} {v : Value} {xs : List Int} (h : IntsAt B w v xs) (hb : Below B w w') : IntsAt B w' v xs := by
  obtain ⟨ao, cap, hv, hc, hl, hx⟩ := h
  refine ⟨ao, cap, hv, hc, hl, fun hne => ?_⟩
  obtain ⟨b, off, ha, hbB, hcell⟩ := hx hne
  exact ⟨b, off, ha, hbB, fun i hi => (hb.cell (p := ⟨b, off + i, none⟩) hbB).trans (hcell i hi)⟩
theorem IntsAt.mono {B B' : Nat} {w : World} {v : Value} {xs : List Int} (h : IntsAt B w v xs) (hB : B ≤ B') : IntsAt B' w v xs := by
  obtain ⟨ao, cap, hv, hc, hl, hx⟩ := h
  refine ⟨ao, cap, hv, hc, hl, fun hne => ?_⟩
  obtain ⟨b, off, ha, hbB, hcell⟩ := hx hne
  exact ⟨b, off, ha, by omega, hcell⟩
theorem IntsAt.nil (B : Nat) (w : World) : IntsAt B w (.slice none 0 0) [] := ⟨none, 0, rfl, by simp, by simp [maxLen], fun h => absurd rfl h⟩
theorem IntsAt.size {B : Nat} {w : World} {v : Value} {xs : List Int} (h : IntsAt B w v xs) : IntsAt w.heap.size w v xs := by
  obtain ⟨ao, cap, hv, hc, hl, hx⟩ := h
  refine ⟨ao, cap, hv, hc, hl, fun hne => ?_⟩
  obtain ⟨b, off, ha, hbB, hcell⟩ := hx hne
  have : 0 < xs.length := List.length_pos_iff.2 hne
  exact ⟨b, off, ha, World.block_lt_of_cell? w _ (hcell 0 this), hcell⟩
theorem IntsAt.of_own {base : Nat} {w : World} {e : TypeId} {v : Value} {n : Nat} {xs : List Int} (h : w.ownsRow base e 1 v n (xs.map (Value.int .i64))) : IntsAt w.heap.size w v xs := by
  have hl : xs.length = n := by have := h.1; simpa using this
  rcases h.2 with ⟨rfl, h0⟩ | ⟨g, cap, cur, rfl, hb, hg, hnc, hcm, hcs, ht⟩
  · have : xs = [] := List.eq_nil_of_length_eq_zero (by omega)
    subst this; exact IntsAt.nil _ _
  · refine ⟨_, cap, by rw [hl], by omega, by omega, fun hne => ⟨g, 0, rfl, (Array.getElem?_eq_some_iff.1 hg).1, fun i hi => ?_⟩⟩
    have h1 := h.cells (g := g) rfl i (.int .i64 (xs.getD i 0)) (by simp [List.getD_eq_getElem?_getD, hi])
    have h2 : (⟨g, 0, none⟩ : Addr).add i = ⟨g, 0 + i, none⟩ := by unfold Addr.add; split <;> simp_all
    rw [h2] at h1; exact h1
theorem IntsAt.fresh {w : World} (xs : List Int) (e : TypeId) (hl : xs.length ≤ maxLen) (B : Nat) (hB : w.heap.size < B) : IntsAt B (w.alloc (.cells (xs.map (Value.int .i64)).toArray e)) (.slice (some ⟨w.heap.size, 0, none⟩) xs.length xs.length) xs := by
  refine ⟨_, _, rfl, Nat.le_refl _, hl, fun _ => ⟨_, _, rfl, hB, fun i hi => ?_⟩⟩
  rw [World.cell?_alloc_new]; simp [List.getD_eq_getElem?_getD, hi]

theorem IntsAt.fresh2 (w : World) (o : Obj) (xs : List Int) (arr : Array Value) (e : TypeId) (n : Nat) (harr : arr = (xs.map (Value.int .i64)).toArray) (hn : n = xs.length) (hl : xs.length ≤ maxLen) :
    IntsAt ((w.alloc o).alloc (.cells arr e)).heap.size ((w.alloc o).alloc (.cells arr e)) (.slice (some ⟨w.heap.size + 1, 0, none⟩) n n) xs := by
  subst harr hn
  have := IntsAt.fresh (w := w.alloc o) xs e hl ((w.alloc o).alloc (.cells (xs.map (Value.int .i64)).toArray e)).heap.size (by simp)
  rwa [World.size_alloc w o] at this

def prem (n : Fl.Node) : List Int :=
  if n.kind = 2 then [n.b, n.c] else if n.kind = 3 ∨ n.kind = 4 then [n.b] else if n.kind = 5 then [n.a, n.b, n.c] else if n.kind = 6 then [n.a, n.b] else if n.kind = 7 then n.list else []

def nodeV (n : Fl.Node) (lv : Value) : Value := .agg #[.int .i64 n.kind, .int .i64 n.level, .int .i64 n.a, .int .i64 n.b, .int .i64 n.c, lv]
end Go.Proofs.YthfacjlghcdndaaGreatDoor

namespace Go.Proofs.YthfacjlghcdndaaGreatDoor
namespace Fl

def codedF : Nat → Nat → List UInt8
  | 0, v => [UInt8.ofNat v]
  | f + 1, v => if v < 128 then [UInt8.ofNat v] else UInt8.ofNat (v % 128 + 128) :: codedF f (v / 128)
def coded (v : Nat) : List UInt8 := codedF 9 v

theorem codedF_len (f : Nat) : ∀ v, (codedF f v).length ≤ f + 1 := by
  induction f with
  | zero => intro v; simp [codedF]
  | succ f ih =>
    intro v; simp only [codedF]; split
    · simp
    · have := ih (v / 128); simp only [List.length_cons]; omega
theorem codedF_pos (f : Nat) : ∀ v, 0 < (codedF f v).length := by
  intro v; cases f with
  | zero => simp [codedF]
  | succ f => simp only [codedF]; split <;> simp

def numG (at_ len k v unit : Nat) : List UInt8 → Int × Int × Int
  | [] => (0, -1, (len : Int))
  | c :: r =>
    if (c.toNat = 0 ∧ 0 < k) ∨ 2147483648 ≤ v + c.toNat % 128 * unit ∨ (k = 4 ∧ 128 ≤ c.toNat) then (0, -1, (at_ : Int))
    else if c.toNat < 128 then (((v + c.toNat % 128 * unit : Nat) : Int), ((at_ + k + 1 : Nat) : Int), 0)
    else numG at_ len (k + 1) (v + c.toNat % 128 * unit) (unit * 128) r
def num (s : List UInt8) (at_ : Nat) : Int × Int × Int := numG at_ s.length 0 0 1 (s.drop at_)

theorem numG_ok (at_ len : Nat) (l : List UInt8) : ∀ k v unit, at_ + k + l.length = len →
    ((numG at_ len k v unit l).2.1 = -1 ∧ (numG at_ len k v unit l).1 = 0 ∧ 0 ≤ (numG at_ len k v unit l).2.2 ∧ (numG at_ len k v unit l).2.2 ≤ len) ∨
    ((at_ + k : Int) < (numG at_ len k v unit l).2.1 ∧ (numG at_ len k v unit l).2.1 ≤ len ∧ 0 ≤ (numG at_ len k v unit l).1 ∧ (numG at_ len k v unit l).1 < 2147483648 ∧ (numG at_ len k v unit l).2.2 = 0) := by
  induction l with
  | nil => intro k v unit h; left; simp [numG]
  | cons c r ih =>
    intro k v unit h
    simp only [List.length_cons] at h
    by_cases h1 : (c.toNat = 0 ∧ 0 < k) ∨ 2147483648 ≤ v + c.toNat % 128 * unit ∨ (k = 4 ∧ 128 ≤ c.toNat)
    · left; simp only [numG, if_pos h1]; refine ⟨by trivial, by trivial, by omega, by omega⟩
    · by_cases h2 : c.toNat < 128
      · right; simp only [numG, if_neg h1, if_pos h2]; refine ⟨by omega, by omega, by omega, by omega, by trivial⟩
      · simp only [numG, if_neg h1, if_neg h2]
        rcases ih (k + 1) (v + c.toNat % 128 * unit) (unit * 128) (by omega) with h3 | h3
        · left; exact h3
        · right; obtain ⟨a, b, c, d⟩ := h3; exact ⟨by omega, b, c, d⟩
theorem num_ok (s : List UInt8) (at_ : Nat) (h : at_ ≤ s.length) :
    ((num s at_).2.1 = -1 ∧ (num s at_).1 = 0 ∧ 0 ≤ (num s at_).2.2 ∧ (num s at_).2.2 ≤ s.length) ∨ ((at_ : Int) < (num s at_).2.1 ∧ (num s at_).2.1 ≤ s.length ∧ 0 ≤ (num s at_).1 ∧ (num s at_).1 < 2147483648 ∧ (num s at_).2.2 = 0) := by
  have := numG_ok at_ s.length (s.drop at_) 0 0 1 (by simp; omega)
  simpa [num] using this

def numsA (s : List UInt8) : Nat → Nat → List Int → List Int × Int × Int
  | 0, at_, acc => (acc, (at_ : Int), 0)
  | n + 1, at_, acc => if (num s at_).2.1 < 0 then ([], -1, (num s at_).2.2) else numsA s n (num s at_).2.1.toNat (acc ++ [(num s at_).1])
def nums (s : List UInt8) (at_ n : Nat) : List Int × Int × Int := numsA s n at_ []

theorem numsA_ok (s : List UInt8) (n : Nat) : ∀ at_ acc, at_ ≤ s.length → (∀ x ∈ acc, 0 ≤ x ∧ x < 2147483648) →
    ((numsA s n at_ acc).2.1 = -1 ∧ (numsA s n at_ acc).1 = [] ∧ 0 ≤ (numsA s n at_ acc).2.2 ∧ (numsA s n at_ acc).2.2 ≤ s.length) ∨
    ((at_ : Int) ≤ (numsA s n at_ acc).2.1 ∧ (numsA s n at_ acc).2.1 ≤ s.length ∧ (numsA s n at_ acc).1.length = acc.length + n ∧ (∀ x ∈ (numsA s n at_ acc).1, 0 ≤ x ∧ x < 2147483648)) := by
  induction n with
  | zero => intro at_ acc h ha; right; simp only [numsA]; exact ⟨by omega, by omega, by simp, ha⟩
  | succ n ih =>
    intro at_ acc h ha
    rcases num_ok s at_ h with h1 | h1
    · left; have h2 : (num s at_).2.1 < 0 := by omega
      simp only [numsA, if_pos h2]; exact ⟨by trivial, by trivial, h1.2.2.1, h1.2.2.2⟩
    · obtain ⟨a1, a2, a3, a4, a5⟩ := h1
      have h2 : ¬ (num s at_).2.1 < 0 := by omega
      simp only [numsA, if_neg h2]
      rcases ih (num s at_).2.1.toNat (acc ++ [(num s at_).1]) (by omega) (by intro x hx; simp only [List.mem_append, List.mem_singleton] at hx; rcases hx with hx | hx; exact ha x hx; subst hx; exact ⟨a3, a4⟩) with h3 | h3
      · left; exact h3
      · right; obtain ⟨b1, b2, b3, b4⟩ := h3
        exact ⟨by omega, b2, by rw [b3]; simp; omega, b4⟩
theorem nums_ok (s : List UInt8) (at_ n : Nat) (h : at_ ≤ s.length) :
    ((nums s at_ n).2.1 = -1 ∧ (nums s at_ n).1 = [] ∧ 0 ≤ (nums s at_ n).2.2 ∧ (nums s at_ n).2.2 ≤ s.length) ∨
    ((at_ : Int) ≤ (nums s at_ n).2.1 ∧ (nums s at_ n).2.1 ≤ s.length ∧ (nums s at_ n).1.length = n ∧ (∀ x ∈ (nums s at_ n).1, 0 ≤ x ∧ x < 2147483648)) := by
  have := numsA_ok s n at_ [] h (by simp)
  simpa [nums] using this

def eqNode (x y : Node) : Bool := x.kind == y.kind && (x.level == y.level && (x.a == y.a && (x.b == y.b && (x.c == y.c && x.list == y.list))))
theorem eqNode_iff (x y : Node) : eqNode x y = true ↔ x = y := by
  obtain ⟨a, b, c, d, e, f⟩ := x; obtain ⟨a', b', c', d', e', f'⟩ := y
  simp [eqNode]

def inR (x : Int) : Bool := decide (0 ≤ x) && decide (x < 2147483648)
def okV (f i x : Int) : Bool := inR x && (decide (i < f) || decide (x = 0))
def sound (n : Node) : Bool :=
  decide (fields n.kind ≠ -2) && (inR n.level && (decide (n.list.length ≤ 16) && (okV (fields n.kind) 0 n.a && (okV (fields n.kind) 1 n.b && (okV (fields n.kind) 2 n.c && (n.list.all inR && (decide (fields n.kind = -1) || decide (n.list = []))))))))
theorem fields_lt (k : Int) : -2 ≤ fields k ∧ fields k ≤ 3 := by unfold fields; repeat' split <;> omega

def codedAll (l : List Int) : List UInt8 := l.flatMap fun x => coded x.toNat
def nodeNums (n : Node) : List Int := if fields n.kind < 0 then n.list else [n.a, n.b, n.c].take (fields n.kind).toNat
def nodeBytes (n : Node) : List UInt8 :=
  UInt8.ofNat n.kind.toNat :: (coded n.level.toNat ++ ((if fields n.kind < 0 then coded n.list.length else []) ++ codedAll (nodeNums n)))

theorem coded_len (v : Nat) : (coded v).length ≤ 10 := codedF_len 9 v
theorem coded_pos (v : Nat) : 0 < (coded v).length := codedF_pos 9 v
theorem codedAll_len (l : List Int) : (codedAll l).length ≤ 10 * l.length := by
  induction l with
  | nil => simp [codedAll]
  | cons x l ih => have := coded_len x.toNat; simp only [codedAll, List.flatMap_cons, List.length_append, List.length_cons] at ih ⊢; omega
theorem codedAll_snoc (l : List Int) (x : Int) : codedAll (l ++ [x]) = codedAll l ++ coded x.toNat := by simp [codedAll]
theorem take_snocI (l : List Int) (j : Nat) (h : j < l.length) : l.take (j + 1) = l.take j ++ [l.getD j 0] := by
  rw [List.take_succ_eq_append_getElem h, List.getD_eq_getElem?_getD, List.getElem?_eq_getElem h]; rfl

end Fl
end Go.Proofs.YthfacjlghcdndaaGreatDoor

namespace Go.Proofs.YthfacjlghcdndaaGreatDoor
open Go.RowKit
namespace Fl

def nd0 : Node := ⟨0, 0, 0, 0, 0, []⟩
def nth (l : List Node) (k : Nat) : Node := l.getD k nd0
def bad (l : List Node) (k : Nat) : Bool := !sound (nth l k) || ((prem (nth l k)).any (fun p => decide ((k : Int) ≤ p)) || (List.range k).any (fun i => eqNode (nth l i) (nth l k)))
def used (l : List Node) (k : Nat) : Bool := (List.range l.length).any (fun j => decide (k < j) && (prem (nth l j)).any (· == (k : Int)))
def shaped (l : List Node) : Int :=
  match (List.range l.length).find? (bad l) with
  | some k => (k : Int)
  | none => match (List.range (l.length - 1)).find? (fun k => !used l k) with
    | some k => (k : Int)
    | none => -1

theorem find_first (p : Nat → Bool) (n k : Nat) (h : ∀ j, j < k → p j = false) (hk : k < n) (hp : p k = true) : (List.range n).find? p = some k := by
  rw [List.find?_range_eq_some]
  exact ⟨hp, by simpa using hk, fun j hj => by simp [h j hj]⟩
theorem find_none (p : Nat → Bool) (n : Nat) (h : ∀ j, j < n → p j = false) : (List.range n).find? p = none := by
  rw [List.find?_eq_none]; intro x hx; rw [h x (by simpa using hx)]; simp

end Fl

def NodesAt (B : Nat) (w : World) (v : Value) (ns : List Fl.Node) : Prop :=
  ∃ ao cap, v = .slice ao ns.length cap ∧ ns.length ≤ cap ∧ ns.length ≤ maxLen ∧
    (ns ≠ [] → ∃ b off, ao = some ⟨b, off, none⟩ ∧ b < B ∧ ∀ i, i < ns.length → ∃ lv, IntsAt B w lv (Fl.nth ns i).list ∧
      w.cell? ⟨b, off + i * 6, none⟩ = some (.int .i64 (Fl.nth ns i).kind) ∧ w.cell? ⟨b, off + i * 6 + 1, none⟩ = some (.int .i64 (Fl.nth ns i).level) ∧ w.cell? ⟨b, off + i * 6 + 2, none⟩ = some (.int .i64 (Fl.nth ns i).a) ∧
      w.cell? ⟨b, off + i * 6 + 3, none⟩ = some (.int .i64 (Fl.nth ns i).b) ∧ w.cell? ⟨b, off + i * 6 + 4, none⟩ = some (.int .i64 (Fl.nth ns i).c) ∧ w.cell? ⟨b, off + i * 6 + 5, none⟩ = some lv)
theorem NodesAt.below {B : Nat} {w w' : World} {v : Value} {ns : List Fl.Node} (h : NodesAt B w v ns) (hb : Below B w w') : NodesAt B w' v ns := by
  obtain ⟨ao, cap, hv, hc, hl, hx⟩ := h
  refine ⟨ao, cap, hv, hc, hl, fun hne => ?_⟩
  obtain ⟨b, off, ha, hbB, hcell⟩ := hx hne
  refine ⟨b, off, ha, hbB, fun i hi => ?_⟩
  obtain ⟨lv, h0, h1, h2, h3, h4, h5, h6⟩ := hcell i hi
  have q : ∀ o, w'.cell? ⟨b, o, none⟩ = w.cell? ⟨b, o, none⟩ := fun o => hb.cell (p := ⟨b, o, none⟩) hbB
  exact ⟨lv, h0.below hb, (q _).trans h1, (q _).trans h2, (q _).trans h3, (q _).trans h4, (q _).trans h5, (q _).trans h6⟩
theorem NodesAt.mono {B B' : Nat} {w : World} {v : Value} {ns : List Fl.Node} (h : NodesAt B w v ns) (hB : B ≤ B') : NodesAt B' w v ns := by
  obtain ⟨ao, cap, hv, hc, hl, hx⟩ := h
  refine ⟨ao, cap, hv, hc, hl, fun hne => ?_⟩
  obtain ⟨b, off, ha, hbB, hcell⟩ := hx hne
  refine ⟨b, off, ha, by omega, fun i hi => ?_⟩
  obtain ⟨lv, h0, h1⟩ := hcell i hi
  exact ⟨lv, h0.mono hB, h1⟩
theorem NodesAt.at {B : Nat} {w : World} {b off n cap : Nat} {ns : List Fl.Node} (h : NodesAt B w (.slice (some ⟨b, off, none⟩) n cap) ns) {i : Nat} (hi : i < ns.length) : b < B ∧ ∃ lv, IntsAt B w lv (Fl.nth ns i).list ∧
      w.cell? ⟨b, off + i * 6, none⟩ = some (.int .i64 (Fl.nth ns i).kind) ∧ w.cell? ⟨b, off + i * 6 + 1, none⟩ = some (.int .i64 (Fl.nth ns i).level) ∧ w.cell? ⟨b, off + i * 6 + 2, none⟩ = some (.int .i64 (Fl.nth ns i).a) ∧
      w.cell? ⟨b, off + i * 6 + 3, none⟩ = some (.int .i64 (Fl.nth ns i).b) ∧ w.cell? ⟨b, off + i * 6 + 4, none⟩ = some (.int .i64 (Fl.nth ns i).c) ∧ w.cell? ⟨b, off + i * 6 + 5, none⟩ = some lv := by
  obtain ⟨ao, cap', hv, _, _, hx⟩ := h
  obtain ⟨b', off', ha, hbB, hcell⟩ := hx (by intro hh; rw [hh] at hi; simp at hi)
  simp only [Value.slice.injEq] at hv
  have := hv.1.trans ha
  simp only [Option.some.injEq, Addr.mk.injEq] at this
  obtain ⟨rfl, rfl, _⟩ := this
  exact ⟨hbB, hcell i hi⟩
theorem NodesAt.nil (B : Nat) (w : World) : NodesAt B w (.slice none 0 0) [] := ⟨none, 0, rfl, by simp, by simp [maxLen], fun h => absurd rfl h⟩
end Go.Proofs.YthfacjlghcdndaaGreatDoor

namespace Go.Proofs.YthfacjlghcdndaaGreatDoor
open Go.RowKit
namespace Fl

def oneFin (p k : Nat) (n : Node) (e : Int) : Node × Int × Int := if (prem n).any (fun x => decide ((k : Int) ≤ x)) then (nd0, -1, (p : Int)) else (n, e, 0)
def one (s : List UInt8) (p k : Nat) : Node × Int × Int :=
  if p = s.length then (nd0, -1, (p : Int)) else
  let kind : Int := (s.getD p 0).toNat
  if fields kind = -2 then (nd0, -1, (p : Int)) else
  let v := num s (p + 1)
  if v.2.1 < 0 then (nd0, -1, v.2.2) else
  if fields kind = -1 then
    let m := num s v.2.1.toNat
    if m.2.1 < 0 then (nd0, -1, m.2.2) else
    if 16 < m.1 then (nd0, -1, v.2.1) else
    let l := nums s m.2.1.toNat m.1.toNat
    if l.2.1 < 0 then (nd0, -1, l.2.2) else oneFin p k ⟨kind, v.1, 0, 0, 0, l.1⟩ l.2.1
  else
    let l := nums s v.2.1.toNat (fields kind).toNat
    if l.2.1 < 0 then (nd0, -1, l.2.2) else oneFin p k ⟨kind, v.1, l.1.getD 0 0, l.1.getD 1 0, l.1.getD 2 0, []⟩ l.2.1

end Fl
end Go.Proofs.YthfacjlghcdndaaGreatDoor
