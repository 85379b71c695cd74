/- Texts DecMem CdMem Cda CdNum. -/
import Derived.Test.YtbihjgfbocpobaaGreatDoorM06
import Derived.Deep.QuietTactic
import Derived.Test.YtbihjgfbocpobaaGreatDoorProg
import Derived.WalkKit
import Derived.WalkSpells
import Derived.WalkLawsBesides
import Derived.Deep.RegionWith
import Derived.BigQuiet
import Derived.StillTailTactics
import Derived.Laws.BitsAllLaws
/- What the loop of Decode holds in memory. -/
set_option linter.unusedSimpArgs false
set_option linter.unusedVariables false
namespace Go.Proofs.YtbihjgfbocpobaaGreatDoor
open Go.RowKit

theorem ints_grown {w w' : World} {lv : Value} {xs : List Int} {row : Option Nat} (h : IntsAt w.heap.size w lv xs) (hne : xs ≠ [] → lv.ownBlock ≠ row) (hg : w.grownBy w' row) : IntsAt w'.heap.size w' lv xs := by
  obtain ⟨ao, cap, rfl, hc, hl, hx⟩ := h
  refine ⟨ao, cap, rfl, hc, hl, fun hxs => ?_⟩
  obtain ⟨b, off, rfl, hb, hcell⟩ := hx hxs
  refine ⟨b, off, rfl, Nat.lt_of_lt_of_le hb hg.size, fun i hi => ?_⟩
  exact hg.cell (hcell i hi) (by simpa [Value.ownBlock] using hne hxs)
theorem ints_below {w w' : World} {lv : Value} {xs : List Int} (h : IntsAt w.heap.size w lv xs) (hb : Below w.heap.size w w') : IntsAt w'.heap.size w' lv xs := (h.below hb).mono hb.size
theorem ints_alloc {w : World} {lv : Value} {xs : List Int} (h : IntsAt w.heap.size w lv xs) (o : Obj) : IntsAt (w.alloc o).heap.size (w.alloc o) lv xs := ints_below h ((Below.refl _ _).alloc (Nat.le_refl _) _)
theorem ints_lt {w : World} {lv : Value} {xs : List Int} (h : IntsAt w.heap.size w lv xs) (hne : xs ≠ []) : ∃ b, lv.ownBlock = some b ∧ b < w.heap.size := by
  obtain ⟨ao, cap, rfl, hc, hl, hx⟩ := h
  obtain ⟨b, off, rfl, hb, _⟩ := hx hne
  exact ⟨b, rfl, hb⟩
theorem ints_set {w : World} {lv : Value} {xs : List Int} {a : Addr} {u : Value} (h : IntsAt w.heap.size w lv xs) (hne : xs ≠ [] → lv.ownBlock ≠ some a.block) : IntsAt (w.setCell a u).heap.size (w.setCell a u) lv xs := by
  have hs : (w.setCell a u).heap.size = w.heap.size := by simp [World.setCell]
  obtain ⟨ao, cap, rfl, hc, hl, hx⟩ := h
  refine ⟨ao, cap, rfl, hc, hl, fun hxs => ?_⟩
  obtain ⟨b, off, rfl, hb, hcell⟩ := hx hxs
  refine ⟨b, off, rfl, by omega, fun i hi => ?_⟩
  rw [World.cell?_of_block (w := w) (Below.heap_setCell w a u b (by have := hne hxs; simpa [Value.ownBlock] using this))]
  exact hcell i hi
theorem own_types {w : World} {base base' : Nat} {e e' : TypeId} {size size' : Nat} {v v' : Value} {n n' : Nat} {xs xs' : List Value} (h : w.ownsRow base e size v n xs) (h' : w.ownsRow base' e' size' v' n' xs') (hne : e ≠ e') : v.ownBlock = none ∨ v.ownBlock ≠ v'.ownBlock := by
  rcases h.2 with ⟨rfl, _⟩ | ⟨g, cap, cur, rfl, hb, hg, _⟩
  · left; rfl
  · right
    rcases h'.2 with ⟨rfl, _⟩ | ⟨g', cap', cur', rfl, hb', hg', _⟩
    · simp [Value.ownBlock]
    · intro hh
      simp only [Value.ownBlock, Option.some.injEq] at hh
      rw [hh] at hg; rw [hg] at hg'
      simp only [Option.some.injEq, Obj.cells.injEq] at hg'
      exact hne hg'.2.1

/-- A list that stays while two others are appended to. -/
def Kept (w : World) (lv : Value) (xs : List Int) (sv nv : Value) : Prop := IntsAt w.heap.size w lv xs ∧ (xs ≠ [] → lv.ownBlock ≠ sv.ownBlock ∧ lv.ownBlock ≠ nv.ownBlock)

/-- Behind an append to the first of them. -/
theorem Kept.first {w w' : World} {lv sv nv sv' : Value} {xs : List Int} (h : Kept w lv xs sv nv) (hg : w.grownBy w' sv.ownBlock) (hw : sv'.ownBlock = sv.ownBlock ∨ sv'.ownBlock = some w.heap.size) : Kept w' lv xs sv' nv := by
  refine ⟨ints_grown h.1 (fun hx => (h.2 hx).1) hg, fun hx => ⟨?_, (h.2 hx).2⟩⟩
  rcases hw with hw | hw
  · rw [hw]; exact (h.2 hx).1
  · obtain ⟨b, hb, hlt⟩ := ints_lt h.1 hx
    rw [hw, hb]; intro hh; simp at hh; omega
theorem Kept.second {w w' : World} {lv sv nv nv' : Value} {xs : List Int} (h : Kept w lv xs sv nv) (hg : w.grownBy w' nv.ownBlock) (hw : nv'.ownBlock = nv.ownBlock ∨ nv'.ownBlock = some w.heap.size) : Kept w' lv xs sv nv' := by
  refine ⟨ints_grown h.1 (fun hx => (h.2 hx).2) hg, fun hx => ⟨(h.2 hx).1, ?_⟩⟩
  rcases hw with hw | hw
  · rw [hw]; exact (h.2 hx).2
  · obtain ⟨b, hb, hlt⟩ := ints_lt h.1 hx
    rw [hw, hb]; intro hh; simp at hh; omega
theorem Kept.alloc {w : World} {lv sv nv : Value} {xs : List Int} (h : Kept w lv xs sv nv) (o : Obj) : Kept (w.alloc o) lv xs sv nv := ⟨ints_alloc h.1 o, h.2⟩
theorem Kept.below {w w' : World} {lv sv nv : Value} {xs : List Int} (h : Kept w lv xs sv nv) (hb : Below w.heap.size w w') : Kept w' lv xs sv nv := ⟨ints_below h.1 hb, h.2⟩
/-- A list that was made behind them. -/
theorem Kept.new {w w' : World} {lv sv nv : Value} {xs : List Int} (h : IntsAt w'.heap.size w' lv xs) (hf : ∀ b, lv.ownBlock = some b → w.heap.size ≤ b) (hs : ∀ b, sv.ownBlock = some b → b < w.heap.size) (hn : ∀ b, nv.ownBlock = some b → b < w.heap.size) : Kept w' lv xs sv nv := by
  refine ⟨h, fun hx => ?_⟩
  obtain ⟨b, hb, hlt⟩ := ints_lt h hx
  have := hf b hb
  refine ⟨fun hh => ?_, fun hh => ?_⟩
  · have := hs b (hh.symm.trans hb); omega
  · have := hn b (hh.symm.trans hb); omega
theorem Kept.set {w : World} {lv sv nv : Value} {xs : List Int} {a : Addr} {u : Value} (h : Kept w lv xs sv nv) (hne : xs ≠ [] → lv.ownBlock ≠ some a.block) : Kept (w.setCell a u) lv xs sv nv := ⟨ints_set h.1 hne, h.2⟩

/-- What the loop of Decode holds in memory: two lists that are appended to (sv: ints, nv: nodes), lists that stay (fam), the proof's own cells (lv, cv), the result's. -/
structure Fam (w wr : World) (lv cv : Value) (fam : List (Value × List Int)) (sv nv : Value) (n1 n2 : Nat) (xs ys : List Value) : Prop where
  hs : wr.ownsRow (w.heap.size + 2) 3 1 sv n1 xs
  hn : wr.ownsRow (w.heap.size + 2) 53 6 nv n2 ys
  hall : ∀ p, p ∈ fam → Kept wr p.1 p.2 sv nv ∧ (p.2 ≠ [] → ∀ b, p.1.ownBlock = some b → w.heap.size + 2 ≤ b)
  c0 : wr.cell? ⟨w.heap.size + 1, 0, none⟩ = some lv
  c1 : wr.cell? ⟨w.heap.size + 1, 1, none⟩ = some cv
  d0 : wr.cell? ⟨w.heap.size, 0, none⟩ = some (.slice none 0 0)
  d1 : wr.cell? ⟨w.heap.size, 1, none⟩ = some (.slice none 0 0)
  f0 : ∀ j, wr.frozen? ⟨w.heap.size, j, none⟩ = false
  f1 : ∀ j, wr.frozen? ⟨w.heap.size + 1, j, none⟩ = false
  hb : Below w.heap.size w wr
  hz : w.heap.size + 2 ≤ wr.heap.size

section
variable {w wr w' : World} {lv cv : Value} {fam : List (Value × List Int)} {sv nv : Value} {n1 n2 : Nat} {xs ys : List Value}
theorem Fam.below (h : Fam w wr lv cv fam sv nv n1 n2 xs ys) (hb : Below wr.heap.size wr w') : Fam w w' lv cv fam sv nv n1 n2 xs ys := by
  have q : ∀ b o, b < wr.heap.size → w'.cell? ⟨b, o, none⟩ = wr.cell? ⟨b, o, none⟩ := fun b o hlt => hb.cell (p := ⟨b, o, none⟩) hlt
  have f : ∀ b o, b < wr.heap.size → w'.frozen? ⟨b, o, none⟩ = wr.frozen? ⟨b, o, none⟩ := fun b o hlt => hb.frozen (p := ⟨b, o, none⟩) hlt
  have hz := h.hz
  have hsz := hb.size
  have og : wr.grownBy w' none := ⟨hb.os, hb.tape, hb.output, hb.size, fun k hk _ => hb.block k hk⟩
  exact ⟨h.hs.kept og (by cases sv.ownBlock <;> simp), h.hn.kept og (by cases nv.ownBlock <;> simp), fun p hp => ⟨(h.hall p hp).1.below hb, (h.hall p hp).2⟩,
    (q _ _ (by omega)).trans h.c0, (q _ _ (by omega)).trans h.c1, (q _ _ (by omega)).trans h.d0, (q _ _ (by omega)).trans h.d1, fun j => (f _ _ (by omega)).trans (h.f0 j), fun j => (f _ _ (by omega)).trans (h.f1 j), h.hb.trans (hb.mono (by omega)), by omega⟩
theorem Fam.alloc (h : Fam w wr lv cv fam sv nv n1 n2 xs ys) (o : Obj) : Fam w (wr.alloc o) lv cv fam sv nv n1 n2 xs ys := h.below ((Below.refl _ _).alloc (Nat.le_refl _) _)
theorem Fam.drew (h : Fam w wr lv cv fam sv nv n1 n2 xs ys) : Fam w wr.drew lv cv fam sv nv n1 n2 xs ys := h.below ((Below.refl _ _).drew)
theorem Fam.add (h : Fam w wr lv cv fam sv nv n1 n2 xs ys) {lvn : Value} {l : List Int} {N : Nat} (hi : IntsAt wr.heap.size wr lvn l) (hf : ∀ b, lvn.ownBlock = some b → N ≤ b) (hsN : ∀ b, sv.ownBlock = some b → b < N) (hnN : ∀ b, nv.ownBlock = some b → b < N) (hN : w.heap.size + 2 ≤ N) : Fam w wr lv cv (fam ++ [(lvn, l)]) sv nv n1 n2 xs ys := by
  refine ⟨h.hs, h.hn, fun p hp => ?_, h.c0, h.c1, h.d0, h.d1, h.f0, h.f1, h.hb, h.hz⟩
  simp only [List.mem_append, List.mem_singleton] at hp
  rcases hp with hp | rfl
  · exact h.hall p hp
  · refine ⟨⟨hi, fun hx => ?_⟩, fun _ b hb => by have := hf b hb; omega⟩
    obtain ⟨b, hb, hlt⟩ := ints_lt hi hx
    have := hf b hb
    exact ⟨fun hh => by have := hsN b (hh.symm.trans hb); omega, fun hh => by have := hnN b (hh.symm.trans hb); omega⟩
theorem Fam.oldne (h : Fam w wr lv cv fam sv nv n1 n2 xs ys) : (∀ b, b < w.heap.size + 2 → some b ≠ sv.ownBlock) ∧ (∀ b, b < w.heap.size + 2 → some b ≠ nv.ownBlock) :=
  ⟨fun b hb hh => by have := (h.hs.lt b hh.symm).1; omega, fun b hb hh => by have := (h.hn.lt b hh.symm).1; omega⟩
theorem Fam.first (h : Fam w wr lv cv fam sv nv n1 n2 xs ys) {sv' : Value} {n1' : Nat} {xs' : List Value} (ho : w'.ownsRow (w.heap.size + 2) 3 1 sv' n1' xs') (hg : wr.grownBy w' sv.ownBlock) (hw : sv'.ownBlock = sv.ownBlock ∨ sv'.ownBlock = some wr.heap.size) : Fam w w' lv cv fam sv' nv n1' n2 xs' ys := by
  have hz := h.hz
  have hne := h.oldne.1
  have f : ∀ b j, b < w.heap.size + 2 → w'.frozen? ⟨b, j, none⟩ = wr.frozen? ⟨b, j, none⟩ := fun b j hlt => World.frozen?_of_block (w := wr) (hg.block b (by omega) (hne b hlt))
  refine ⟨ho, h.hn.kept hg ?_, fun p hp => ⟨(h.hall p hp).1.first hg hw, (h.hall p hp).2⟩, hg.cell h.c0 (hne _ (by simp)), hg.cell h.c1 (hne _ (by simp)), hg.cell h.d0 (hne _ (by simp)), hg.cell h.d1 (hne _ (by simp)), fun j => (f _ _ (by omega)).trans (h.f0 j), fun j => (f _ _ (by omega)).trans (h.f1 j), h.hb.grown hg (by omega) (fun g hgg => by have := (h.hs.lt g hgg).1; omega), by have := hg.size; omega⟩
  exact own_types h.hn h.hs (by decide)
theorem Fam.second (h : Fam w wr lv cv fam sv nv n1 n2 xs ys) {nv' : Value} {n2' : Nat} {ys' : List Value} (ho : w'.ownsRow (w.heap.size + 2) 53 6 nv' n2' ys') (hg : wr.grownBy w' nv.ownBlock) (hw : nv'.ownBlock = nv.ownBlock ∨ nv'.ownBlock = some wr.heap.size) : Fam w w' lv cv fam sv nv' n1 n2' xs ys' := by
  have hz := h.hz
  have hne := h.oldne.2
  have f : ∀ b j, b < w.heap.size + 2 → w'.frozen? ⟨b, j, none⟩ = wr.frozen? ⟨b, j, none⟩ := fun b j hlt => World.frozen?_of_block (w := wr) (hg.block b (by omega) (hne b hlt))
  refine ⟨h.hs.kept hg ?_, ho, fun p hp => ⟨(h.hall p hp).1.second hg hw, (h.hall p hp).2⟩, hg.cell h.c0 (hne _ (by simp)), hg.cell h.c1 (hne _ (by simp)), hg.cell h.d0 (hne _ (by simp)), hg.cell h.d1 (hne _ (by simp)), fun j => (f _ _ (by omega)).trans (h.f0 j), fun j => (f _ _ (by omega)).trans (h.f1 j), h.hb.grown hg (by omega) (fun g hgg => by have := (h.hn.lt g hgg).1; omega), by have := hg.size; omega⟩
  exact own_types h.hs h.hn (by decide)
theorem Fam.store (h : Fam w wr lv cv fam sv nv n1 n2 xs ys) (u : Value) : Fam w (wr.setCell ⟨w.heap.size + 1, 1, none⟩ u) lv u fam sv nv n1 n2 xs ys := by
  have hz := h.hz
  have hs : (wr.setCell ⟨w.heap.size + 1, 1, none⟩ u).heap.size = wr.heap.size := by simp [World.setCell]
  have q : ∀ j, (wr.setCell ⟨w.heap.size + 1, 1, none⟩ u).cell? ⟨w.heap.size, j, none⟩ = wr.cell? ⟨w.heap.size, j, none⟩ := fun j => by apply World.cell?_setCell_other; intro hh; injection hh with h2; omega
  refine ⟨ownsRow_setCell_below h.hs (by simp) u, ownsRow_setCell_below h.hn (by simp) u, fun p hp => ⟨(h.hall p hp).1.set (fun hx => ?_), (h.hall p hp).2⟩, ?_, World.cell?_setCell_same' _ _ _ (by simp [h.c1]), (q 0).trans h.d0, (q 1).trans h.d1, fun j => by rw [World.frozen?_setCell]; exact h.f0 j, fun j => by rw [World.frozen?_setCell]; exact h.f1 j, h.hb.setCell (by simp) u, by omega⟩
  · intro hh
    have h3 : w.heap.size + 2 ≤ w.heap.size + 1 := (h.hall p hp).2 hx _ hh
    omega
  · have h4 : (wr.setCell ⟨w.heap.size + 1, 1, none⟩ u).cell? ⟨w.heap.size + 1, 0, none⟩ = wr.cell? ⟨w.heap.size + 1, 0, none⟩ := by
      apply World.cell?_setCell_other; intro hh; injection hh with _ h2; exact absurd h2 (by decide)
    rw [h4]; exact h.c0
end

/-- The lists of nodes. -/
def famOf : List Fl.Node → List Value → List (Value × List Int)
  | n :: ns, lv :: lvs => (lv, n.list) :: famOf ns lvs
  | _, _ => []
theorem famOf_snoc : ∀ (ns : List Fl.Node) (lvs : List Value) (n : Fl.Node) (lv : Value), lvs.length = ns.length → famOf (ns ++ [n]) (lvs ++ [lv]) = famOf ns lvs ++ [(lv, n.list)]
  | [], [], n, lv, _ => rfl
  | m :: ns, l :: lvs, n, lv, h => by simp only [List.cons_append, famOf, famOf_snoc ns lvs n lv (by simpa using h)]
theorem famOf_mem : ∀ (ns : List Fl.Node) (lvs : List Value) (i : Nat), lvs.length = ns.length → i < ns.length → (lvs.getD i (.slice none 0 0), (Fl.nth ns i).list) ∈ famOf ns lvs
  | n :: ns, lv :: lvs, 0, _, _ => by simp [famOf, Fl.nth]
  | n :: ns, lv :: lvs, i + 1, h, hi => by
    have := famOf_mem ns lvs i (by simpa using h) (by simpa using hi)
    simp only [famOf, List.mem_cons]; right; exact this

/-- What the loop of Decode holds at its head: k nodes are read, the next one is at byte q. -/
structure DecRel (s : List UInt8) (M q0 : Nat) (w : World) (lv : Value) (ls : List Int) (wr : World) (k q : Nat) (sv nv : Value) (st : List Int) (acc : List Fl.Node) (lvs : List Value) : Prop where
  hk : k ≤ M
  hq : q ≤ s.length
  hst : st.length = k
  hacc : acc.length = k
  hlvs : lvs.length = k
  hrun : Fl.nodesA s M 0 q0 [] [] = Fl.nodesA s (M - k) k q st acc
  hf : Fam w wr lv nv ((lv, ls) :: famOf acc lvs) sv nv k k (st.map (Value.int .i64)) (flat acc lvs)
theorem DecRel.nodes {s : List UInt8} {M q0 : Nat} {w wr : World} {lv : Value} {ls : List Int} {k q : Nat} {sv nv : Value} {st : List Int} {acc : List Fl.Node} {lvs : List Value} (h : DecRel s M q0 w lv ls wr k q sv nv st acc lvs) : NodesAt wr.heap.size wr nv acc :=
  nodes_of_own (by rw [h.hacc]; exact h.hf.hn) (by rw [h.hacc, h.hlvs]) (fun i hi => (h.hf.hall _ (by simp only [List.mem_cons]; right; exact famOf_mem acc lvs i (by rw [h.hacc, h.hlvs]) hi)).1.1)
theorem DecRel.locals {s : List UInt8} {M q0 : Nat} {w wr : World} {lv : Value} {ls : List Int} {k q : Nat} {sv nv : Value} {st : List Int} {acc : List Fl.Node} {lvs : List Value} (h : DecRel s M q0 w lv ls wr k q sv nv st acc lvs) : IntsAt wr.heap.size wr lv ls := (h.hf.hall (lv, ls) (by simp)).1.1

theorem Fam.res {w wr : World} {lv cv : Value} {fam : List (Value × List Int)} {sv nv : Value} {n1 n2 : Nat} {xs ys : List Value} (h : Fam w wr lv cv fam sv nv n1 n2 xs ys) (u u' : Value) :
    ((wr.setCell ⟨w.heap.size, 0, none⟩ u).setCell ⟨w.heap.size, 1, none⟩ u').ownsRow (w.heap.size + 2) 53 6 nv n2 ys ∧
    ∀ p, p ∈ fam → IntsAt ((wr.setCell ⟨w.heap.size, 0, none⟩ u).setCell ⟨w.heap.size, 1, none⟩ u').heap.size ((wr.setCell ⟨w.heap.size, 0, none⟩ u).setCell ⟨w.heap.size, 1, none⟩ u') p.1 p.2 := by
  refine ⟨ownsRow_setCell_below (ownsRow_setCell_below h.hn (by simp) u) (by simp) u', fun p hp => ?_⟩
  have hne : p.2 ≠ [] → p.1.ownBlock ≠ some w.heap.size := fun hx hh => by
    have h3 : w.heap.size + 2 ≤ w.heap.size := (h.hall p hp).2 hx _ hh
    omega
  exact ints_set (ints_set (h.hall p hp).1.1 hne) hne
/-- A proof that was read lies in memory, behind the result's cells too. -/
theorem DecRel.ends {s : List UInt8} {M q0 : Nat} {w wr w' : World} {lv : Value} {ls : List Int} {k q : Nat} {sv nv : Value} {st : List Int} {acc : List Fl.Node} {lvs : List Value} (h : DecRel s M q0 w lv ls wr k q sv nv st acc lvs) (hb : Below wr.heap.size wr w') (u u' : Value) :
    IntsAt ((w'.setCell ⟨w.heap.size, 0, none⟩ u).setCell ⟨w.heap.size, 1, none⟩ u').heap.size ((w'.setCell ⟨w.heap.size, 0, none⟩ u).setCell ⟨w.heap.size, 1, none⟩ u') lv ls ∧
    NodesAt ((w'.setCell ⟨w.heap.size, 0, none⟩ u).setCell ⟨w.heap.size, 1, none⟩ u').heap.size ((w'.setCell ⟨w.heap.size, 0, none⟩ u).setCell ⟨w.heap.size, 1, none⟩ u') nv acc := by
  have hr := (h.hf.below hb).res u u'
  exact ⟨hr.2 (lv, ls) (by simp), nodes_of_own (by rw [h.hacc]; exact hr.1) (by rw [h.hacc, h.hlvs]) (fun i hi => hr.2 _ (by simp only [List.mem_cons]; right; exact famOf_mem acc lvs i (by rw [h.hacc, h.hlvs]) hi))⟩
theorem own_shape6 {w : World} {base : Nat} {e : TypeId} {size : Nat} {v : Value} {n : Nat} {xs : List Value} (h : w.ownsRow base e size v n xs) : ∃ ao cap, v = .slice ao n cap := by
  rcases h.2 with ⟨rfl, rfl⟩ | ⟨g, cap, cur, rfl, _⟩
  · exact ⟨_, _, rfl⟩
  · exact ⟨_, _, rfl⟩
theorem row_new {w : World} {e : TypeId} (vs : List Value) : ∀ j u, vs[j]? = some u → (w.alloc (.cells vs.toArray e)).cell? ((⟨w.heap.size, 0, none⟩ : Addr).add j) = some u := by
  intro j u hj
  have h2 : (⟨w.heap.size, 0, none⟩ : Addr).add j = ⟨w.heap.size, j, none⟩ := by unfold Addr.add; split <;> simp_all
  rw [h2, World.cell?_alloc_new]; simpa using hj
/-- One node more. -/
theorem DecRel.step {s : List UInt8} {M q0 : Nat} {w wr w' : World} {lv : Value} {ls : List Int} {k q : Nat} {sv nv sv' nv' : Value} {st : List Int} {acc : List Fl.Node} {lvs : List Value} {nd : Fl.Node} {af fb : Int} {lvn : Value} (h : DecRel s M q0 w lv ls wr k q sv nv st acc lvs) (hkM : k < M) (ho : Fl.one s q k = (nd, af, fb)) (haf : 0 ≤ af) (haf2 : af ≤ s.length)
    (hf : Fam w w' lv nv' (((lv, ls) :: famOf acc lvs) ++ [(lvn, nd.list)]) sv' nv' (k + 1) (k + 1) (st.map (Value.int .i64) ++ [.int .i64 (q : Int)]) (flat acc lvs ++ nodeCells nd lvn)) :
    DecRel s M q0 w lv ls w' (k + 1) af.toNat sv' nv' (st ++ [(q : Int)]) (acc ++ [nd]) (lvs ++ [lvn]) := by
  refine ⟨by omega, by omega, by simp [h.hst], by simp [h.hacc], by simp [h.hlvs], ?_, ?_⟩
  · rw [h.hrun, show M - k = (M - (k + 1)) + 1 from by omega]; simp only [Fl.nodesA, ho]; rw [if_neg (by omega)]
  · have hlen : lvs.length = acc.length := by rw [h.hacc, h.hlvs]
    rw [famOf_snoc _ _ _ _ hlen, flat_snoc _ _ _ _ hlen, List.map_append]
    exact hf
end Go.Proofs.YtbihjgfbocpobaaGreatDoor

/- The program's reading of bytes: what it holds in memory. -/
set_option linter.unusedSimpArgs false
set_option linter.unusedVariables false
namespace Go.Proofs.YtbihjgfbocpobaaGreatDoor
open Go.RowKit

/-- The panic by which reading stops. -/
def stopAt (e p : Int) : List PanicEntry := [{ v := .iface 126 (.agg #[.int .i64 e, .int .i64 p]), recovered := false }]

/-- Of what was there nothing has turned but cell 1 of block b. -/
structure Mv (w w' : World) (b : Nat) : Prop where
  g : w.grownBy w' (some b)
  o : ∀ j, j ≠ 1 → w'.cell? ⟨b, j, none⟩ = w.cell? ⟨b, j, none⟩
  f : ∀ j, w'.frozen? ⟨b, j, none⟩ = w.frozen? ⟨b, j, none⟩
theorem Mv.refl (w : World) (b : Nat) : Mv w w b := ⟨World.grownBy.refl _ _, fun _ _ => rfl, fun _ => rfl⟩
theorem Mv.trans {w w1 w2 : World} {b : Nat} (h : Mv w w1 b) (k : Mv w1 w2 b) : Mv w w2 b :=
  ⟨⟨k.g.os.trans h.g.os, k.g.tape.trans h.g.tape, k.g.output.trans h.g.output, Nat.le_trans h.g.size k.g.size, fun i hi hne => (k.g.block i (Nat.lt_of_lt_of_le hi h.g.size) hne).trans (h.g.block i hi hne)⟩,
   fun j hj => (k.o j hj).trans (h.o j hj), fun j => (k.f j).trans (h.f j)⟩
theorem Mv.lt {w w' : World} {b : Nat} (h : Mv w w' b) (hb : b < w.heap.size) : b < w'.heap.size := Nat.lt_of_lt_of_le hb h.g.size
theorem Mv.set (w : World) (b : Nat) (u : Value) : Mv w (w.setCell ⟨b, 1, none⟩ u) b := by
  refine ⟨⟨rfl, rfl, rfl, by simp [World.setCell], fun k hk hne => Below.heap_setCell _ _ _ _ (by intro h; exact hne (by rw [h]))⟩, fun j hj => ?_, fun j => World.frozen?_setCell _ _ _ _⟩
  apply World.cell?_setCell_other; intro hh; injection hh with _ h2; exact hj h2.symm
theorem Mv.of_below {w w' : World} {b : Nat} (h : Below w.heap.size w w') (hb : b < w.heap.size) : Mv w w' b :=
  ⟨⟨h.os, h.tape, h.output, h.size, fun k hk _ => h.block k hk⟩, fun j _ => h.cell (p := ⟨b, j, none⟩) hb, fun j => h.frozen (p := ⟨b, j, none⟩) hb⟩
/-- Behind an append to a list of the call's own. -/
theorem Mv.grown {w w' : World} {b : Nat} {row : Option Nat} (h : w.grownBy w' row) (hr : some b ≠ row) (hb : b < w.heap.size) (hall : ∀ k, row = some k → w.heap.size ≤ k) : Mv w w' b :=
  ⟨⟨h.os, h.tape, h.output, h.size, fun k hk _ => h.block k hk (fun e => by have := hall k e.symm; omega)⟩, fun j _ => World.cell?_of_block (w := w) (h.block b hb hr), fun j => World.frozen?_of_block (w := w) (h.block b hb hr)⟩
theorem Mv.below {w w' : World} {b B : Nat} (h : Mv w w' b) (hB : B ≤ b) (hb : b < w.heap.size) : Below B w w' :=
  ⟨h.g.os, h.g.tape, h.g.output, h.g.size, fun k hk => h.g.block k (by omega) (by simp; omega)⟩

theorem Mv.andGrown {w w1 w2 : World} {b : Nat} {row : Option Nat} (h : Mv w w1 b) (g : w1.grownBy w2 row) (hb : b < w.heap.size) (hall : ∀ k, row = some k → w.heap.size ≤ k) : Mv w w2 b := by
  have hne : ∀ k, k < w.heap.size → some k ≠ row := fun k hk e => by have := hall k e.symm; omega
  have hz := h.g.size
  refine ⟨⟨g.os.trans h.g.os, g.tape.trans h.g.tape, g.output.trans h.g.output, Nat.le_trans h.g.size g.size, fun k hk hkb => (g.block k (by omega) (hne k hk)).trans (h.g.block k hk hkb)⟩, fun j hj => ?_, fun j => ?_⟩
  · exact (World.cell?_of_block (w := w1) (a := ⟨b, j, none⟩) (g.block b (by omega) (hne b hb))).trans (h.o j hj)
  · exact (World.frozen?_of_block (w := w1) (a := ⟨b, j, none⟩) (g.block b (by omega) (hne b hb))).trans (h.f j)
theorem Mv.alloc {w w1 : World} {b : Nat} (h : Mv w w1 b) (hb : b < w.heap.size) (o : Obj) : Mv w (w1.alloc o) b := h.andGrown (World.grownBy_alloc w1 o none) hb (fun k e => by cases e)
theorem Mv.andBelow {w w1 w2 : World} {b : Nat} (h : Mv w w1 b) (k : Below w1.heap.size w1 w2) (hb : b < w.heap.size) : Mv w w2 b := h.trans (Mv.of_below k (h.lt hb))
/-- The reader's place stays where other blocks turn. -/
theorem cell1_grown {w1 w2 : World} {b : Nat} {row : Option Nat} {v : Value} (c : w1.cell? ⟨b, 1, none⟩ = some v) (g : w1.grownBy w2 row) (hne : some b ≠ row) : w2.cell? ⟨b, 1, none⟩ = some v := g.cell c hne
theorem Mv.drew {w w' : World} {b : Nat} (h : Mv w w' b) : Mv w w'.drew b := h.trans ⟨⟨rfl, rfl, rfl, Nat.le_refl _, fun _ _ _ => rfl⟩, fun _ _ => rfl, fun _ => rfl⟩
theorem Mv.drewN {w w' : World} {b : Nat} (h : Mv w w' b) (n : Nat) : Mv w (w'.drewN n) b := h.trans ⟨⟨rfl, rfl, rfl, Nat.le_refl _, fun _ _ _ => rfl⟩, fun _ _ => rfl, fun _ => rfl⟩

/-- The reader of bytes in block b: it is at byte p. -/
structure Dr (w : World) (b : Nat) (ao : Option Addr) (cap : Nat) (s : List UInt8) (p : Nat) : Prop where
  c0 : w.cell? ⟨b, 0, none⟩ = some (.slice ao s.length cap)
  c1 : w.cell? ⟨b, 1, none⟩ = some (.int .i64 p)
  f1 : w.frozen? ⟨b, 1, none⟩ = false
  hb : s ≠ [] → ∃ bb bo, ao = some ⟨bb, bo, none⟩ ∧ bb ≠ b ∧ ∀ i, i < s.length → w.cell? ⟨bb, bo + i, none⟩ = some (.int .u8 (s.getD i 0).toNat)
  hp : p ≤ s.length
  hs : s.length ≤ 1099511627776
theorem Dr.lt {w : World} {b : Nat} {ao : Option Addr} {cap : Nat} {s : List UInt8} {p : Nat} (h : Dr w b ao cap s p) : b < w.heap.size := World.block_lt_of_cell? w _ h.c0
theorem Dr.move {w w' : World} {b : Nat} {ao : Option Addr} {cap : Nat} {s : List UInt8} {p q : Nat} (h : Dr w b ao cap s p) (m : Mv w w' b) (c : w'.cell? ⟨b, 1, none⟩ = some (.int .i64 q)) (hq : q ≤ s.length) : Dr w' b ao cap s q := by
  refine ⟨(m.o 0 (by decide)).trans h.c0, c, (m.f 1).trans h.f1, fun hne => ?_, hq, h.hs⟩
  obtain ⟨bb, bo, ha, hbb, hc⟩ := h.hb hne
  exact ⟨bb, bo, ha, hbb, fun i hi => m.g.cell (hc i hi) (by simpa using hbb)⟩
theorem Dr.set {w : World} {b : Nat} {ao : Option Addr} {cap : Nat} {s : List UInt8} {p q : Nat} (h : Dr w b ao cap s p) (hq : q ≤ s.length) : Dr (w.setCell ⟨b, 1, none⟩ (.int .i64 q)) b ao cap s q :=
  h.move (Mv.set _ _ _) (World.cell?_setCell_same' _ _ _ (by simp [h.c1])) hq
theorem Dr.at {w : World} {b : Nat} {ao : Option Addr} {cap : Nat} {s : List UInt8} {p : Nat} (h : Dr w b ao cap s p) (hlt : p < s.length) : ∃ bb bo, ao = some ⟨bb, bo, none⟩ ∧ bb ≠ b ∧ w.cell? ⟨bb, bo + p, none⟩ = some (.int .u8 (s.getD p 0).toNat) := by
  obtain ⟨bb, bo, ha, hbb, hc⟩ := h.hb (by intro hh; rw [hh] at hlt; simp at hlt)
  exact ⟨bb, bo, ha, hbb, hc p hlt⟩

namespace Fl
/-- A number from lo to hi. -/
def numB (s : List UInt8) (p : Nat) (lo hi : Int) : Int × Int × Int :=
  if (num s p).2.1 < 0 then (0, -1, (num s p).2.2) else if (num s p).1 < lo ∨ hi < (num s p).1 then (0, -1, (p : Int)) else ((num s p).1, (num s p).2.1, 0)
theorem numB_ok (s : List UInt8) (p : Nat) (lo hi : Int) (h : p ≤ s.length) :
    ((numB s p lo hi).2.1 = -1) ∨ ((p : Int) < (numB s p lo hi).2.1 ∧ (numB s p lo hi).2.1 ≤ s.length ∧ 0 ≤ (numB s p lo hi).1 ∧ (numB s p lo hi).1 < 2147483648 ∧ lo ≤ (numB s p lo hi).1 ∧ (numB s p lo hi).1 ≤ hi) := by
  unfold numB
  rcases num_ok s p h with h1 | h1
  · rw [if_pos (by omega)]; left; rfl
  · rw [if_neg (by omega)]
    split
    · left; rfl
    · right; simp only; omega
end Fl
end Go.Proofs.YtbihjgfbocpobaaGreatDoor

/- The program: a fault is raised; a byte is read. -/
set_option linter.unusedSimpArgs false
set_option linter.unusedVariables false
namespace Go.Proofs.YtbihjgfbocpobaaGreatDoor
open Go.RowKit

theorem raise_any (n p : Int) (w : World) : Calls Tryz.prog 55 #[.int .i64 n, .int .i64 p] w fun e w' => e = .panicked (stopAt n p) ∧ Below w.heap.size w w' := by
  go_enter Tryz.func55, Tryz.ntmps55
  go_wp2
  exact ⟨rfl, rfl, Below.refl _ _⟩

theorem need_ok (b : Nat) (p : Int) (w : World) : Calls Tryz.prog 67 #[.pointer (some ⟨b, 0, none⟩), .bool true, .int .i64 p] w fun e w' => e = .returned (.tuple #[]) ∧ w' = w := by
  go_enter Tryz.func67, Tryz.ntmps67
  go_wp2
  go_end0
  exact ⟨rfl, rfl⟩
theorem need_bad (b : Nat) (p : Int) (w : World) : Calls Tryz.prog 67 #[.pointer (some ⟨b, 0, none⟩), .bool false, .int .i64 p] w fun e w' => e = .panicked (stopAt 8 p) ∧ Below w.heap.size w w' := by
  go_enter Tryz.func67, Tryz.ntmps67
  go_wp2_with (go_at_call 55; refine (raise_any _ _ _).mono ?_; rintro e w' ⟨rfl, hb⟩)
  exact ⟨rfl, rfl, hb⟩

set_option maxRecDepth 100000 in
set_option maxHeartbeats 2000000 in
theorem next_ok {b : Nat} {ao : Option Addr} {cap : Nat} {s : List UInt8} {p : Nat} {w : World} (h : Dr w b ao cap s p) (hlt : p < s.length) :
    Calls Tryz.prog 68 #[.pointer (some ⟨b, 0, none⟩)] w fun e w' => e = .returned (.int .u8 (s.getD p 0).toNat) ∧ Mv w w' b ∧ w'.cell? ⟨b, 1, none⟩ = some (.int .i64 ((p + 1 : Nat) : Int)) := by
  obtain ⟨bb, bo, rfl, hbb, hc⟩ := h.at hlt
  have c0 := h.c0
  have c1 := h.c1
  have f1 := h.f1
  have hs := h.hs
  generalize (s.getD p 0).toNat = x at *
  clear h
  go_enter Tryz.func68, Tryz.ntmps68
  go_wp2_with fail
  go_still_tail 16, (by kernel_rfl)
  go_wp2_with (go_at_call 67; refine (need_ok _ _ _).mono ?_; rintro e w' ⟨rfl, rfl⟩)
  go_quiet (fail)
  go_wp2
  go_ret
  exact ⟨rfl, (Mv.set _ _ _).drew.drewN _, by simp; exact World.cell?_setCell_same' _ _ _ (by simp [c1])⟩
set_option maxRecDepth 100000 in
set_option maxHeartbeats 2000000 in
theorem next_end {b : Nat} {ao : Option Addr} {cap : Nat} {s : List UInt8} {p : Nat} {w : World} (h : Dr w b ao cap s p) (hlt : ¬ p < s.length) :
    Calls Tryz.prog 68 #[.pointer (some ⟨b, 0, none⟩)] w fun e w' => e = .panicked (stopAt 8 s.length) ∧ Mv w w' b := by
  have hlb := h.lt
  have c0 := h.c0
  have c1 := h.c1
  have f1 := h.f1
  have hs := h.hs
  clear h
  go_enter Tryz.func68, Tryz.ntmps68
  go_wp2_with fail
  go_still_tail 16, (by kernel_rfl)
  go_wp2_with (go_at_call 67; refine (need_bad _ _ _).mono ?_; rintro e w' ⟨rfl, hb⟩; exact ⟨rfl, rfl, Mv.of_below ((Below.refl _ _).drew.trans hb) hlb⟩)
end Go.Proofs.YtbihjgfbocpobaaGreatDoor

/- A number, read byte by byte. -/
set_option linter.unusedSimpArgs false
set_option linter.unusedVariables false
namespace Go.Proofs.YtbihjgfbocpobaaGreatDoor
open Go.RowKit

theorem drop_atL (s : List UInt8) (k : Nat) (h : k < s.length) : s.drop k = s.getD k 0 :: s.drop (k + 1) := by
  rw [List.drop_eq_getElem_cons h, List.getD_eq_getElem?_getD, List.getElem?_eq_getElem h]; rfl
/-- What the loop of number holds at its head: i bytes are read, they come to a. -/
def NumL (s : List UInt8) (p i a : Nat) : Prop := i ≤ 4 ∧ p + i ≤ s.length ∧ a < 128 ^ i ∧ Fl.num s p = Fl.numG p s.length i a (128 ^ i) (s.drop (p + i))
theorem NumL.start (s : List UInt8) (p : Nat) (h : p ≤ s.length) : NumL s p 0 0 := ⟨by omega, by omega, by simp, by simp [Fl.num]⟩
theorem NumL.small {s : List UInt8} {p i a : Nat} (h : NumL s p i a) : a < 268435456 ∧ 128 ^ i ≤ 268435456 := by
  have h1 : 128 ^ i ≤ 128 ^ 4 := Nat.pow_le_pow_right (by omega) h.1
  have h2 : (128 : Nat) ^ 4 = 268435456 := by decide
  have := h.2.2.1
  omega
theorem NumL.stop {s : List UInt8} {p i a : Nat} (h : NumL s p i a) (hlt : ¬ p + i < s.length) (lo hi : Int) : Fl.numB s p lo hi = (0, -1, (s.length : Int)) := by
  obtain ⟨h1, h2, h3, h4⟩ := h
  unfold Fl.numB
  rw [h4, List.drop_of_length_le (by omega)]; simp [Fl.numG]
theorem NumL.next {s : List UInt8} {p i a : Nat} (h : NumL s p i a) (hlt : p + i < s.length) (hi : i < 4) (hc : ¬ (s.getD (p + i) 0).toNat < 128) : NumL s p (i + 1) (a + (s.getD (p + i) 0).toNat % 128 * 128 ^ i) := by
  obtain ⟨h1, h2, h3, h4⟩ := h
  have hm : (s.getD (p + i) 0).toNat % 128 ≤ 127 := by omega
  have hp : (s.getD (p + i) 0).toNat % 128 * 128 ^ i ≤ 127 * 128 ^ i := Nat.mul_le_mul_right _ hm
  have h5 : 128 ^ (i + 1) = 128 ^ i * 128 := Nat.pow_succ ..
  have h6 : 128 ^ (i + 1) ≤ 128 ^ 4 := Nat.pow_le_pow_right (by omega) hi
  have h7 : (128 : Nat) ^ 4 = 268435456 := by decide
  refine ⟨by omega, by omega, by omega, ?_⟩
  rw [h4, drop_atL s (p + i) hlt]; simp only [Fl.numG]
  rw [if_neg (by omega), if_neg hc, show p + (i + 1) = p + i + 1 from by omega, h5]
theorem NumL.full {s : List UInt8} {p a : Nat} (h : NumL s p 4 a) (hlt : p + 4 < s.length) (hc : ¬ (s.getD (p + 4) 0).toNat < 128) (lo hi : Int) : Fl.numB s p lo hi = (0, -1, (p : Int)) := by
  obtain ⟨h1, h2, h3, h4⟩ := h
  have hg : Fl.num s p = (0, -1, (p : Int)) := by
    rw [h4, drop_atL s (p + 4) hlt]; unfold Fl.numG
    exact if_pos (by omega)
  unfold Fl.numB
  rw [hg]; rfl
theorem NumL.last {s : List UInt8} {p i a : Nat} (h : NumL s p i a) (hlt : p + i < s.length) (hc : (s.getD (p + i) 0).toNat < 128) (lo hi : Int) (hlo : 0 ≤ lo) (hhi : hi < 2147483648) :
    Fl.numB s p lo hi = if (0 < (s.getD (p + i) 0).toNat ∨ i = 0) ∧ lo ≤ ((a + (s.getD (p + i) 0).toNat * 128 ^ i : Nat) : Int) ∧ ((a + (s.getD (p + i) 0).toNat * 128 ^ i : Nat) : Int) ≤ hi then (((a + (s.getD (p + i) 0).toNat * 128 ^ i : Nat) : Int), ((p + i + 1 : Nat) : Int), 0) else (0, -1, (p : Int)) := by
  obtain ⟨h1, h2, h3, h4⟩ := h
  generalize hx : (s.getD (p + i) 0).toNat = x at *
  have hm : x % 128 = x := Nat.mod_eq_of_lt hc
  generalize hv : a + x * 128 ^ i = v at *
  have hg : Fl.num s p = if (x = 0 ∧ 0 < i) ∨ 2147483648 ≤ v then (0, -1, (p : Int)) else ((v : Int), ((p + i + 1 : Nat) : Int), 0) := by
    rw [h4, drop_atL s (p + i) hlt]; simp only [Fl.numG, hx, hm, hv]
    by_cases hq : (x = 0 ∧ 0 < i) ∨ 2147483648 ≤ v
    · rw [if_pos (by omega), if_pos hq]
    · rw [if_neg (by omega), if_neg hq, if_pos hc]
  unfold Fl.numB
  rw [hg]
  by_cases hq : (x = 0 ∧ 0 < i) ∨ 2147483648 ≤ v
  · rw [if_pos hq, if_pos (by simp), if_neg (by omega)]
  · rw [if_neg hq]
    rw [if_neg (show ¬ (((p + i + 1 : Nat) : Int) < 0) by omega)]
    by_cases hr : (v : Int) < lo ∨ hi < (v : Int)
    · rw [if_pos hr, if_neg (by omega)]
    · rw [if_neg hr, if_pos (by omega)]
theorem or_add (a c i : Nat) (h : a < 128 ^ i) : a ||| (c <<< (7 * i)) = a + c * 128 ^ i := by
  have h2 : (128 : Nat) ^ i = 2 ^ (7 * i) := by rw [Nat.pow_mul]
  rw [h2] at h ⊢
  rw [Nat.or_comm, ← Nat.shiftLeft_add_eq_or_of_lt h, Nat.shiftLeft_eq]; omega
theorem shift_or (a c i : Nat) (hc : c < 256) (hi : i ≤ 4) (ha : a < 128 ^ i) : bits .or .u64 (a : Int) (IntKind.u64.wrap (IntKind.u64.wrap (bits .and .u8 (c : Int) 127) * 2 ^ (7 * i))) = ((a + c % 128 * 128 ^ i : Nat) : Int) := by
  have h1 : 128 ^ i ≤ 128 ^ 4 := Nat.pow_le_pow_right (by omega) hi
  have h2 : (128 : Nat) ^ 4 = 268435456 := by decide
  have h3 : c % 128 * 128 ^ i ≤ 127 * 268435456 := Nat.mul_le_mul (by omega) (by omega)
  have e1 : bits .and .u8 (c : Int) 127 = ((c % 128 : Nat) : Int) := by
    have := u8_and_nat c 127 hc (by omega)
    rw [nat_mask7] at this; exact this
  have e2 : IntKind.u64.wrap ((c % 128 : Nat) : Int) = ((c % 128 : Nat) : Int) := by rw [IntKind.wrap_u64]; omega
  have e3 : ((c % 128 : Nat) : Int) * 2 ^ (7 * i) = ((c % 128 * 128 ^ i : Nat) : Int) := by
    rw [Int.natCast_mul, Int.natCast_pow, Int.pow_mul]; rfl
  have e4 : IntKind.u64.wrap ((c % 128 * 128 ^ i : Nat) : Int) = ((c % 128 * 128 ^ i : Nat) : Int) := by rw [IntKind.wrap_u64]; omega
  rw [e1, e2, e3, e4, u64_or_nat a (c % 128 * 128 ^ i) (by omega) (by omega)]
  have h4 : c % 128 * 128 ^ i = (c % 128) <<< (7 * i) := by rw [Nat.shiftLeft_eq, Nat.pow_mul]
  rw [← or_add a (c % 128) i ha, h4]
end Go.Proofs.YtbihjgfbocpobaaGreatDoor
