/- Texts Spec3 Spec4 Spec5 Spec6. -/
import Derived.Test.YticlmjkfadklgaaDoorM02
/- Nodes one behind the other: which list of them is a proof's. -/
set_option linter.unusedSimpArgs false
set_option linter.unusedVariables false
namespace Go.Proofs.YticlmjkfadklgaaDoor
open Go.RowKit
namespace Fl

def nd0 : Node := ⟨0, 0, 0, 0, 0, []⟩
def nth (l : List Node) (k : Nat) : Node := l.getD k nd0
/-- A node that may not stand at k. -/
def bad (l : List Node) (k : Nat) : Bool := !sound (nth l k) || ((prem (nth l k)).any (fun p => decide ((k : Int) ≤ p)) || (List.range k).any (fun i => eqNode (nth l i) (nth l k)))
/-- Is a later node by node k? -/
def used (l : List Node) (k : Nat) : Bool := (List.range l.length).any (fun j => decide (k < j) && (prem (nth l j)).any (· == (k : Int)))
/-- The first node that is not such as may be; -1: all are. -/
def shaped (l : List Node) : Int :=
  match (List.range l.length).find? (bad l) with
  | some k => (k : Int)
  | none => match (List.range (l.length - 1)).find? (fun k => !used l k) with
    | some k => (k : Int)
    | none => -1

theorem find_first (p : Nat → Bool) (n k : Nat) (h : ∀ j, j < k → p j = false) (hk : k < n) (hp : p k = true) : (List.range n).find? p = some k := by
  rw [List.find?_range_eq_some]
  exact ⟨hp, by simpa using hk, fun j hj => by simp [h j hj]⟩
theorem find_none (p : Nat → Bool) (n : Nat) (h : ∀ j, j < n → p j = false) : (List.range n).find? p = none := by
  rw [List.find?_eq_none]; intro x hx; rw [h x (by simpa using hx)]; simp

end Fl

/-- A slice of nodes, below block B. -/
def NodesAt (B : Nat) (w : World) (v : Value) (ns : List Fl.Node) : Prop :=
  ∃ ao cap, v = .slice ao ns.length cap ∧ ns.length ≤ cap ∧ ns.length ≤ maxLen ∧
    (ns ≠ [] → ∃ b off, ao = some ⟨b, off, none⟩ ∧ b < B ∧ ∀ i, i < ns.length → ∃ lv, IntsAt B w lv (Fl.nth ns i).list ∧
      w.cell? ⟨b, off + i * 6, none⟩ = some (.int .i64 (Fl.nth ns i).kind) ∧ w.cell? ⟨b, off + i * 6 + 1, none⟩ = some (.int .i64 (Fl.nth ns i).level) ∧ w.cell? ⟨b, off + i * 6 + 2, none⟩ = some (.int .i64 (Fl.nth ns i).a) ∧
      w.cell? ⟨b, off + i * 6 + 3, none⟩ = some (.int .i64 (Fl.nth ns i).b) ∧ w.cell? ⟨b, off + i * 6 + 4, none⟩ = some (.int .i64 (Fl.nth ns i).c) ∧ w.cell? ⟨b, off + i * 6 + 5, none⟩ = some lv)
theorem NodesAt.below {B : Nat} {w w' : World} {v : Value} {ns : List Fl.Node} (h : NodesAt B w v ns) (hb : Below B w w') : NodesAt B w' v ns := by
  obtain ⟨ao, cap, hv, hc, hl, hx⟩ := h
  refine ⟨ao, cap, hv, hc, hl, fun hne => ?_⟩
  obtain ⟨b, off, ha, hbB, hcell⟩ := hx hne
  refine ⟨b, off, ha, hbB, fun i hi => ?_⟩
  obtain ⟨lv, h0, h1, h2, h3, h4, h5, h6⟩ := hcell i hi
  have q : ∀ o, w'.cell? ⟨b, o, none⟩ = w.cell? ⟨b, o, none⟩ := fun o => hb.cell (p := ⟨b, o, none⟩) hbB
  exact ⟨lv, h0.below hb, (q _).trans h1, (q _).trans h2, (q _).trans h3, (q _).trans h4, (q _).trans h5, (q _).trans h6⟩
theorem NodesAt.mono {B B' : Nat} {w : World} {v : Value} {ns : List Fl.Node} (h : NodesAt B w v ns) (hB : B ≤ B') : NodesAt B' w v ns := by
  obtain ⟨ao, cap, hv, hc, hl, hx⟩ := h
  refine ⟨ao, cap, hv, hc, hl, fun hne => ?_⟩
  obtain ⟨b, off, ha, hbB, hcell⟩ := hx hne
  refine ⟨b, off, ha, by omega, fun i hi => ?_⟩
  obtain ⟨lv, h0, h1⟩ := hcell i hi
  exact ⟨lv, h0.mono hB, h1⟩
theorem NodesAt.at {B : Nat} {w : World} {b off n cap : Nat} {ns : List Fl.Node} (h : NodesAt B w (.slice (some ⟨b, off, none⟩) n cap) ns) {i : Nat} (hi : i < ns.length) : b < B ∧ ∃ lv, IntsAt B w lv (Fl.nth ns i).list ∧
      w.cell? ⟨b, off + i * 6, none⟩ = some (.int .i64 (Fl.nth ns i).kind) ∧ w.cell? ⟨b, off + i * 6 + 1, none⟩ = some (.int .i64 (Fl.nth ns i).level) ∧ w.cell? ⟨b, off + i * 6 + 2, none⟩ = some (.int .i64 (Fl.nth ns i).a) ∧
      w.cell? ⟨b, off + i * 6 + 3, none⟩ = some (.int .i64 (Fl.nth ns i).b) ∧ w.cell? ⟨b, off + i * 6 + 4, none⟩ = some (.int .i64 (Fl.nth ns i).c) ∧ w.cell? ⟨b, off + i * 6 + 5, none⟩ = some lv := by
  obtain ⟨ao, cap', hv, _, _, hx⟩ := h
  obtain ⟨b', off', ha, hbB, hcell⟩ := hx (by intro hh; rw [hh] at hi; simp at hi)
  simp only [Value.slice.injEq] at hv
  have := hv.1.trans ha
  simp only [Option.some.injEq, Addr.mk.injEq] at this
  obtain ⟨rfl, rfl, _⟩ := this
  exact ⟨hbB, hcell i hi⟩
theorem NodesAt.nil (B : Nat) (w : World) : NodesAt B w (.slice none 0 0) [] := ⟨none, 0, rfl, by simp, by simp [maxLen], fun h => absurd rfl h⟩
end Go.Proofs.YticlmjkfadklgaaDoor

/- One node's bytes, read; a proof's bytes, read. -/
set_option linter.unusedSimpArgs false
set_option linter.unusedVariables false
namespace Go.Proofs.YticlmjkfadklgaaDoor
open Go.RowKit
namespace Fl

/-- A node that has been read, if it is by nodes ahead of it alone. -/
def oneFin (p k : Nat) (n : Node) (e : Int) : Node × Int × Int := if (prem n).any (fun x => decide ((k : Int) ≤ x)) then (nd0, -1, (p : Int)) else (n, e, 0)
/-- Node k at a byte; where the next one is, 0; or -1 and where it fails. -/
def one (s : List UInt8) (p k : Nat) : Node × Int × Int :=
  if p = s.length then (nd0, -1, (p : Int)) else
  let kind : Int := (s.getD p 0).toNat
  if fields kind = -2 then (nd0, -1, (p : Int)) else
  let v := num s (p + 1)
  if v.2.1 < 0 then (nd0, -1, v.2.2) else
  if fields kind = -1 then
    let m := num s v.2.1.toNat
    if m.2.1 < 0 then (nd0, -1, m.2.2) else
    if 16 < m.1 then (nd0, -1, v.2.1) else
    let l := nums s m.2.1.toNat m.1.toNat
    if l.2.1 < 0 then (nd0, -1, l.2.2) else oneFin p k ⟨kind, v.1, 0, 0, 0, l.1⟩ l.2.1
  else
    let l := nums s v.2.1.toNat (fields kind).toNat
    if l.2.1 < 0 then (nd0, -1, l.2.2) else oneFin p k ⟨kind, v.1, l.1.getD 0 0, l.1.getD 1 0, l.1.getD 2 0, []⟩ l.2.1

end Fl
end Go.Proofs.YticlmjkfadklgaaDoor

/- A proof's bytes. -/
set_option linter.unusedSimpArgs false
set_option linter.unusedVariables false
namespace Go.Proofs.YticlmjkfadklgaaDoor
open Go.RowKit
namespace Fl

def allBytes (ns : List Node) : List UInt8 := ns.flatMap nodeBytes
/-- What a proof's bytes open with. -/
def headBytes (ls : List Int) (ns : List Node) : List UInt8 := [70, 80, 49] ++ (coded ls.length ++ (codedAll ls ++ coded ns.length))
/-- A proof's bytes; or the node at which it is none (-1: it is none as a whole). -/
def encode (ls : List Int) (ns : List Node) : List UInt8 × Bool × Int :=
  if 4 < ls.length ∨ ns.length = 0 ∨ 200 < ns.length then ([], false, -1)
  else if ls.all inR = false then ([], false, -1)
  else if 0 ≤ shaped ns then ([], false, shaped ns)
  else (headBytes ls ns ++ allBytes ns, true, -1)

theorem allBytes_snoc (l : List Node) (x : Node) : allBytes (l ++ [x]) = allBytes l ++ nodeBytes x := by simp [allBytes]
theorem take_snocN (l : List Node) (j : Nat) (h : j < l.length) : l.take (j + 1) = l.take j ++ [nth l j] := by
  rw [List.take_succ_eq_append_getElem h, nth, List.getD_eq_getElem?_getD, List.getElem?_eq_getElem h]; rfl
theorem sound_of_shaped {ns : List Node} (h : shaped ns < 0) (k : Nat) (hk : k < ns.length) : sound (nth ns k) = true := by
  unfold shaped at h
  cases hf : (List.range ns.length).find? (bad ns) with
  | some j => rw [hf] at h; simp only at h; omega
  | none =>
    rw [List.find?_eq_none] at hf
    have := hf k (by simpa using hk)
    simp [bad] at this; exact this.1
theorem nodeBytes_len {n : Node} (h : sound n = true) : (nodeBytes n).length ≤ 200 := by
  simp only [sound, Bool.and_eq_true, decide_eq_true_eq] at h
  have h1 := coded_len n.level.toNat
  have h2 := coded_len n.list.length
  have h3 := codedAll_len (nodeNums n)
  have h4 : (nodeNums n).length ≤ 16 := by
    unfold nodeNums; split
    · exact h.2.2.1
    · simp; omega
  unfold nodeBytes; simp only [List.length_cons, List.length_append]; split <;> simp <;> omega
theorem allBytes_len (l : List Node) (h : ∀ x ∈ l, sound x = true) : (allBytes l).length ≤ 200 * l.length := by
  induction l with
  | nil => simp [allBytes]
  | cons x r ih =>
    have h1 := nodeBytes_len (h x (by simp))
    have h2 := ih (fun y hy => h y (by simp [hy]))
    simp only [allBytes, List.flatMap_cons, List.length_append, List.length_cons] at h2 ⊢; omega
theorem nth_mem {l : List Node} {j : Nat} (h : j < l.length) : nth l j ∈ l := by
  rw [nth, List.getD_eq_getElem?_getD, List.getElem?_eq_getElem h]; exact List.getElem_mem h
theorem mem_nth {l : List Node} {x : Node} (h : x ∈ l) : ∃ j, j < l.length ∧ x = nth l j := by
  obtain ⟨i, hi, rfl⟩ := List.getElem_of_mem h
  exact ⟨i, hi, by rw [nth, List.getD_eq_getElem?_getD, List.getElem?_eq_getElem hi]; rfl⟩
end Fl
end Go.Proofs.YticlmjkfadklgaaDoor

/- A proof's bytes, read. -/
set_option linter.unusedSimpArgs false
set_option linter.unusedVariables false
namespace Go.Proofs.YticlmjkfadklgaaDoor
open Go.RowKit
namespace Fl

/-- Nodes, one behind the other: how many are to come, which is next, where; the starts and the nodes so far. -1 as the last: all were read; else where it fails. -/
def nodesA (s : List UInt8) : Nat → Nat → Nat → List Int → List Node → List Node × List Int × Int × Int
  | 0, _, p, st, acc => (acc, st, (p : Int), -1)
  | m + 1, k, p, st, acc =>
    if (one s p k).2.1 < 0 then (acc, st, (p : Int), (one s p k).2.2)
    else nodesA s m (k + 1) (one s p k).2.1.toNat (st ++ [(p : Int)]) (acc ++ [(one s p k).1])
def headOk (s : List UInt8) (i : Nat) : Bool := decide (i < s.length) && (s.getD i 0 == ([70, 80, 49] : List UInt8).getD i 0)
/-- Where the head of bytes is wrong; 3: nowhere. -/
def headAt (s : List UInt8) : Nat := if headOk s 0 = false then 0 else if headOk s 1 = false then 1 else if headOk s 2 = false then 2 else 3
/-- The proof that bytes are; or (false) the byte at which they are none. -/
def decode (s : List UInt8) : (List Int × List Node) × Bool × Int :=
  if headAt s < 3 then (([], []), false, (headAt s : Int)) else
  let n := num s 3
  if n.2.1 < 0 then (([], []), false, n.2.2) else
  if 4 < n.1 then (([], []), false, 3) else
  let l := nums s n.2.1.toNat n.1.toNat
  if l.2.1 < 0 then (([], []), false, l.2.2) else
  let m := num s l.2.1.toNat
  if m.2.1 < 0 then (([], []), false, m.2.2) else
  if m.1 < 1 ∨ 200 < m.1 then (([], []), false, l.2.1) else
  let r := nodesA s m.1.toNat 0 m.2.1.toNat [] []
  if 0 ≤ r.2.2.2 then (([], []), false, r.2.2.2) else
  if r.2.2.1 < s.length then (([], []), false, r.2.2.1) else
  if 0 ≤ shaped r.1 then (([], []), false, r.2.1.getD (shaped r.1).toNat 0) else ((l.1, r.1), true, 0)

theorem oneFin_ok (s : List UInt8) (p k : Nat) (n : Node) (e : Int) (hp : (p : Int) < e) (he : e ≤ s.length) :
    ((oneFin p k n e).2.1 = -1 ∧ 0 ≤ (oneFin p k n e).2.2 ∧ (oneFin p k n e).2.2 ≤ s.length) ∨ ((p : Int) < (oneFin p k n e).2.1 ∧ (oneFin p k n e).2.1 ≤ s.length) := by
  unfold oneFin; split
  · left; exact ⟨rfl, by simp only; omega, by simp only; omega⟩
  · right; exact ⟨by simp only; omega, by simp only; omega⟩
theorem one_ok (s : List UInt8) (p k : Nat) (h : p ≤ s.length) :
    ((one s p k).2.1 = -1 ∧ 0 ≤ (one s p k).2.2 ∧ (one s p k).2.2 ≤ s.length) ∨ ((p : Int) < (one s p k).2.1 ∧ (one s p k).2.1 ≤ s.length) := by
  unfold one
  by_cases h0 : p = s.length
  · rw [if_pos h0]; left; exact ⟨rfl, by simp only; omega, by simp only; omega⟩
  rw [if_neg h0]
  simp only
  by_cases h1 : fields ((s.getD p 0).toNat : Int) = -2
  · rw [if_pos h1]; left; exact ⟨rfl, by simp only; omega, by simp only; omega⟩
  rw [if_neg h1]
  have hn := num_ok s (p + 1) (by omega)
  by_cases h2 : (num s (p + 1)).2.1 < 0
  · rw [if_pos h2]; left; exact ⟨rfl, by simp only; omega, by simp only; omega⟩
  rw [if_neg h2]
  by_cases h3 : fields ((s.getD p 0).toNat : Int) = -1
  · rw [if_pos h3]
    have hm := num_ok s (num s (p + 1)).2.1.toNat (by omega)
    by_cases h4 : (num s (num s (p + 1)).2.1.toNat).2.1 < 0
    · rw [if_pos h4]; left; exact ⟨rfl, by simp only; omega, by simp only; omega⟩
    rw [if_neg h4]
    by_cases h5 : 16 < (num s (num s (p + 1)).2.1.toNat).1
    · rw [if_pos h5]; left; exact ⟨rfl, by simp only; omega, by simp only; omega⟩
    rw [if_neg h5]
    have hl := nums_ok s (num s (num s (p + 1)).2.1.toNat).2.1.toNat (num s (num s (p + 1)).2.1.toNat).1.toNat (by omega)
    split
    · left; exact ⟨rfl, by simp only; omega, by simp only; omega⟩
    · exact oneFin_ok s p k _ _ (by omega) (by omega)
  · rw [if_neg h3]
    have hl := nums_ok s (num s (p + 1)).2.1.toNat (fields ((s.getD p 0).toNat : Int)).toNat (by omega)
    split
    · left; exact ⟨rfl, by simp only; omega, by simp only; omega⟩
    · exact oneFin_ok s p k _ _ (by omega) (by omega)
theorem shaped_lt (l : List Node) : shaped l < (l.length : Int) := by
  unfold shaped
  cases hf : (List.range l.length).find? (bad l) with
  | some k => have := List.mem_of_find?_eq_some hf; simp at this; simp only; omega
  | none =>
    simp only
    cases hg : (List.range (l.length - 1)).find? (fun k => !used l k) with
    | some k => have := List.mem_of_find?_eq_some hg; simp at this; simp only; omega
    | none => simp only; omega
end Fl
end Go.Proofs.YticlmjkfadklgaaDoor
